import PyProof.Rows.All
import Wide.All
import OpenK.AllK
import Wide.FinOn
import HandS.ForMost
import HandS.Walk
import HandS.IsInst
import HandS.TupAny
import HandS.Deep
import HandS.Lambda
import KE.KExcIs
import HandS.EndTab
import KE.KDictKeyed
import KE.KDictDisplayH
import HandS.Conv
import KE.GoesEnum
import HandS.RevRange
import HandS.Style
import HandS.TupMul
import HandS.Exc
import HandS.ExcOwn
import HandS.WordsExc
import HandS.TryOnly
import HandS.ExcInit
import KE.RegKTryMore
import HandS.SortKw
import KE.SortKeyHeap
import KE.KNestM
import HandS.SortInts
import HandS.TupSets
import KE.DataCmp
import HandS.SetFor
import HandS.Strs
import HandS.WideBits
import HandS.NoneIn
import HandS.SortRule
import HandS.Flt
import HandS.GenList
import HandS.GenYield
import HandS.Zip
import KE.GoesMore
import HandS.Rev
import HandS.More
import HandS.Iter
import KE.KMinBuiltin
import HandS.TupLen
import KE.KDictCopyH
import KE.KRevSl
import PyProof.AutoSeq1
import PyProof.ReprRoads
import KE.KTryMore
import HandS.Text
import HandS.ExcField
import HandS.ExcValue
import HandS.Small
import PySem.Challenge.RW_sortcuts_k82_limits_and_errors
set_option linter.all false
set_option Elab.async false
set_option maxRecDepth 100000
set_option maxHeartbeats 4000000
set_option autoImplicit false
namespace L2
namespace DL
open PySem PySem.Spec PyProof.Rows

/-! ### data and heaps -/
/-- the tables of code objects, with the names of what they hold -/
class LabW where
  w : Option World
  /-- the classes of exceptions, by their names -/
  C : Str → Addr := fun _ => 0
class Lab extends LabW where
  T : List (Addr × Str)
  gd : Prop
/-- where a repr may be written, none is under way -/
abbrev GdOk [Lab] (A : Around) : Prop := Lab.gd → A.guards = some []
def TB [Lab] (H : Hp) : Prop := LamX.Tabs Lab.T H
abbrev NT (o : HO) : Prop := ∀ ps, o ≠ .tbl ps
/-- all but the tables stay -/
structure Same (H H' : Hp) : Prop where
  h : ∀ b o, H b = some o → NT o → H' b = some o
  k : ∀ b, H b ≠ none → H' b ≠ none
theorem Same.refl (H : Hp) : Same H H := ⟨fun _ _ e _ => e, fun _ h => h⟩
theorem Same.trans {H H1 H2 : Hp} (a : Same H H1) (b : Same H1 H2) : Same H H2 := ⟨fun q o e n => b.h q o (a.h q o e n) n, fun q h => b.k q (a.k q h)⟩
theorem Same.free {H H' : Hp} {q : Addr} (s : Same H H') (h : H' q = none) : H q = none := Classical.byContradiction fun z => s.k q z h
theorem Same.of {H H' : Hp} (s : L2.Same H H') : Same H H' := ⟨fun b o e _ => s b o e, fun b h z => h (s.free z)⟩
theorem nt_lst {xs : List V} : NT (.lst xs) := fun _ h => nomatch h
theorem nt_tup {xs : List V} : NT (.tup xs) := fun _ h => nomatch h
theorem nt_frz {o : Obj} {u : HO} : NT (.frz o u) := fun _ h => nomatch h
theorem nt_dK {x} : NT (.dK x) := fun _ h => nomatch h
theorem nt_xd {x} : NT (.xd x) := fun _ h => nomatch h
theorem same_new {H : Hp} {p : Addr} (h : H p = none) (o : HO) : L2.Same H (upd H p o) := fun b x e => by rw [upd_ne (ne_of_none e h)]; exact e
theorem TB.ext [Lab] {H H' : Hp} (t : TB H) (s : L2.Same H H') : TB H' := LamX.Tabs.ext t s
theorem TB.ne [Lab] {H : Hp} (t : TB H) {p : Addr} {xs : List V} (h : H p = some (.lst xs)) (o : HO) : TB (upd H p o) := fun q hq => by
  obtain ⟨ps, a, b, c⟩ := t q hq
  refine ⟨ps, ?_, b, fun pos cv e => ?_⟩
  · rw [upd_ne (fun z => by rw [z, h] at a; cases a)]; exact a
  · obtain ⟨c0, e1, e2⟩ := c pos cv e
    exact ⟨c0, e1, by rw [upd_ne (fun z => by rw [z, h] at e2; unfold LamX.CodeO at e2; cases e2)]; exact e2⟩
theorem same_sqT {K : PySem.W.Frag} {H H' : Hp} {a : Addr} {xs : List V} (e : Same H H') (h : SqT K H a xs) : SqT K H' a xs := by
  rcases h with (h | ⟨o, h⟩) | h
  · exact .inl (.inl (e.h _ _ h nt_tup))
  · exact .inl (.inr ⟨o, e.h _ _ h nt_frz⟩)
  · exact .inr h
/-- a list that is read: tracked, frozen, or a plain one of the module's -/
def LsR (K : PySem.W.Frag) (H : Hp) (a : Addr) (xs : List V) : Prop := Rd H a (.lst xs) ∨ ∃ (its : List Value) (n : Nat), K.lookup a = some { cls := .type "list", data := .seq its.toArray n } ∧ xs.length ≤ sizeLine ∧ Vals xs its
theorem LsR.sq {K : PySem.W.Frag} {H : Hp} {a : Addr} {xs : List V} (h : LsR K H a xs) : SqL K H a xs := by
  rcases h with h | ⟨its, n, h, z, r⟩
  · exact .inl h
  · exact .inr ⟨_, its.toArray, n, h, rfl, rfl, rfl, by rw [List.size_toArray, ← r.length]; exact z, by simpa using r⟩
theorem LsR.isL {X : Cx} {pins : List (Addr × Obj)} {σ : St} {H : Hp} {s : Shared} {a : Addr} {xs : List V} (h : LsR X.K H a xs) (I : Inv X pins σ H s) : xs.length ≤ sizeLine ∧ ∃ (its : List Value) (n : Nat), Vals xs its ∧ s.heap.get? a = some { cls := .type "list", data := .seq its.toArray n } := by
  rcases h with h | ⟨its, n, h, z, r⟩
  · exact h.ok I.hok
  · exact ⟨z, its, n, r, I.kIn a _ h⟩
section
variable [LabW]
/-- the dict at a is this object -/
def DnO (a : Addr) (o : Obj) : HO := .ext fun h => h.get? a = some o
/-- its entries: the keys nested tuples, each by its place -/
structure DnF (w : Option World) (a : Addr) (o : Obj) (xs : List (NestedKey × Addr × V)) : Prop where
  hd : (a == sysModules) = false
  nd : (xs.map (·.1)).Nodup
  ex : o.ExactDict
  es : ∃ (w' : World) (es : Array DictEntry) (ep : Nat), w = some w' ∧ o.data = .dict es ep ∧ Paired (fun (x : NestedKey × Addr × V) (e : DictEntry) => e.hash = x.1.hash w' ∧ e.key = .ref x.2.1 ∧ RelV x.2.2 e.val) xs es.toList
  dp : ∀ x ∈ xs, x.1.depth ≤ 8
/-- an exception's object: its class, its dict -/
def ExO (a : Addr) (cls : Value) (d : Option Addr) : HO := .ext fun h => ∃ (oe : Obj) (vs : Array Value), h.get? a = some oe ∧ oe.cls = cls ∧ oe.dict = d ∧ oe.data = .fields vs
/-- what its class must have, so that it can be looked at -/
structure KEx (K : PySem.W.Frag) (C : Addr) : Prop where
  hcl : (PySem.W.clsIn K C).isSome = true
  hga : PySem.W.findIn K (.ref C) "__getattribute__" = some (some (.builtin "BaseException.__getattribute__"))
  hgt : PySem.W.findIn K (.ref C) "__getattr__" = some none
  hsub : PySem.W.subIn K (.ref C) (.type "BaseException") = some true
  hdct : PySem.W.hasDictIn K C = true
  ha : PySem.W.findIn K (.ref C) "__class__" = some (some (.builtin "object.__class__"))
  hn : PySem.W.specialIn K (.builtin "object.__class__") "__get__" = some (some (.builtin "getset_descriptor.__get__"))
  htk : PySem.W.takesIn K (.builtin "object.__class__") = some true
  hm : PySem.W.mroIn K C (.type "object") = some true
  isT : ∀ T ∈ ["bool", "int", "str", "list", "tuple"], PySem.W.kitOne K (.ref C) (.type T) = some false
/-- an exception as data: its class, its attribute -/
abbrev excD (c an : Str) (d : PyData) : PyData := .dict [(.dict [], .tuple [.str c, .str an, d])]
/-- one without an attribute -/
abbrev exnD (c : Str) : PyData := .dict [(.dict [], .tuple [.str c])]
/-- a key of a dict, as data -/
def kyDt : Key → PyData
  | .inl i => .int i
  | .inr x => .str x
mutual
inductive DD (K : PySem.W.Frag) (H : Hp) : V → PyData → Prop
  | non : DD K H .non .none
  | bl (b : Bool) : DD K H (.bl b) (.bool b)
  | int (i : Int) : DD K H (.int i) (.int i)
  | str (x : Str) : DD K H (.str x) (.str x)
  | lst {a : Addr} {xs : List V} {ds : List PyData} : LsR K H a xs → DDs K H xs ds → DD K H (.ref a) (.list ds)
  | tup {a : Addr} {xs : List V} {ds : List PyData} : SqT K H a xs → DDs K H xs ds → DD K H (.ref a) (.tuple ds)
  | dct {a : Addr} {xs : List (Key × V)} {kvs : List (PyData × PyData)} : H a = some (.dK xs) → DDi K H xs kvs → DD K H (.ref a) (.dict kvs)
  | dcn {a : Addr} {o : Obj} {xs : List (NestedKey × Addr × V)} {kvs : List (PyData × PyData)} : H a = some (DnO a o) → DnF LabW.w a o xs → DDk K H xs kvs → DD K H (.ref a) (.dict kvs)
  | exc {a dx : Addr} {c an : Str} {v : V} {d : PyData} : H a = some (ExO a (.ref (LabW.C c)) (some dx)) → H dx = some (.xd [(an, v)]) → KEx K (LabW.C c) → PySem.W.findIn K (.ref (LabW.C c)) an = some none → DD K H v d → DD K H (.ref a) (.dict [(.dict [], .tuple [.str c, .str an, d])])
  | exn {a : Addr} {c : Str} : H a = some (ExO a (.ref (LabW.C c)) none) → KEx K (LabW.C c) → DD K H (.ref a) (.dict [(.dict [], .tuple [.str c])])
inductive DDs (K : PySem.W.Frag) (H : Hp) : List V → List PyData → Prop
  | nil : DDs K H [] []
  | cons {v : V} {vs : List V} {d : PyData} {ds : List PyData} : DD K H v d → DDs K H vs ds → DDs K H (v :: vs) (d :: ds)
inductive DDk (K : PySem.W.Frag) (H : Hp) : List (NestedKey × Addr × V) → List (PyData × PyData) → Prop
  | nil : DDk K H [] []
  | cons {k : NestedKey} {a : Addr} {v : V} {xs : List (NestedKey × Addr × V)} {kd vd : PyData} {kvs : List (PyData × PyData)} : k.data = kd → DD K H (.ref a) kd → DD K H v vd → DDk K H xs kvs → DDk K H ((k, a, v) :: xs) ((kd, vd) :: kvs)
inductive DDi (K : PySem.W.Frag) (H : Hp) : List (Key × V) → List (PyData × PyData) → Prop
  | nil : DDi K H [] []
  | cons {k : Key} {v : V} {xs : List (Key × V)} {vd : PyData} {kvs : List (PyData × PyData)} : DD K H v vd → DDi K H xs kvs → DDi K H ((k, v) :: xs) ((kyDt k, vd) :: kvs)
end
theorem nt_exo {φ : Heap → Prop} : NT (.ext φ) := fun _ h => nomatch h
theorem same_rd {H H' : Hp} {a : Addr} {u : HO} (e : Same H H') (h : Rd H a u) (n : NT u) : Rd H' a u := by
  rcases h with h | ⟨o, h⟩
  · exact .inl (e.h _ _ h n)
  · exact .inr ⟨o, e.h _ _ h nt_frz⟩
theorem same_ls {K : PySem.W.Frag} {H H' : Hp} {a : Addr} {xs : List V} (e : Same H H') (h : LsR K H a xs) : LsR K H' a xs := h.imp (fun z => same_rd e z nt_lst) id
mutual
theorem DD.dp {K : PySem.W.Frag} {Z : Hp} : ∀ (d : PyData) (v : V), d.hasDict = false → DD K Z v d → Dp K Z v d
  | .none, _, _, h => by cases h; exact .non
  | .bool b, _, _, h => by cases h; exact .bl b
  | .int i, _, _, h => by cases h; exact .int i
  | .str x, _, _, h => by cases h; exact .str x
  | .list ds, _, n, h => by
    cases h with
    | lst hs ha => exact .lst hs.sq (DDs.dp ds _ n ha)
  | .tuple ds, _, n, h => by
    cases h with
    | tup hs ha => exact .tup hs (DDs.dp ds _ n ha)
  | .dict _, _, n, h => by cases n
theorem DDs.dp {K : PySem.W.Frag} {Z : Hp} : ∀ (ds : List PyData) (vs : List V), PyData.hasDictAll ds = false → DDs K Z vs ds → DpAll K Z vs ds
  | [], _, _, h => by cases h; exact .nil
  | d :: ds, _, n, h => by
    rw [PyData.hasDictAll, Bool.or_eq_false_iff] at n
    cases h with
    | cons h1 h2 => exact .cons (DD.dp d _ n.1 h1) (DDs.dp ds _ n.2 h2)
end
mutual
theorem dd_mono {K : PySem.W.Frag} {Z Z' : Hp} (s : Same Z Z') : ∀ (d : PyData) (v : V), DD K Z v d → DD K Z' v d
  | .none, _, h => by cases h; exact .non
  | .bool b, _, h => by cases h; exact .bl b
  | .int i, _, h => by cases h; exact .int i
  | .str x, _, h => by cases h; exact .str x
  | .list ds, _, h => by
    cases h with
    | lst hs ha => exact .lst (same_ls s hs) (dds_mono s ds _ ha)
  | .tuple ds, _, h => by
    cases h with
    | tup hs ha => exact .tup (same_sqT s hs) (dds_mono s ds _ ha)
  | .dict kvs, _, h => by
    cases h with
    | dct e hi => exact .dct (s.h _ _ e nt_dK) (ddi_mono s kvs _ hi)
    | dcn e hf hk => exact .dcn (s.h _ _ e nt_exo) hf (ddk_mono s kvs _ hk)
    | @exc a dx c an v d e1 e2 hk hn hd => exact .exc (s.h _ _ e1 nt_exo) (s.h _ _ e2 nt_xd) hk hn (dd_mono s d v hd)
    | exn e1 hk => exact .exn (s.h _ _ e1 nt_exo) hk
theorem dds_mono {K : PySem.W.Frag} {Z Z' : Hp} (s : Same Z Z') : ∀ (ds : List PyData) (vs : List V), DDs K Z vs ds → DDs K Z' vs ds
  | [], _, h => by cases h; exact .nil
  | d :: ds, _, h => by
    cases h with
    | cons h1 h2 => exact .cons (dd_mono s d _ h1) (dds_mono s ds _ h2)
theorem ddk_mono {K : PySem.W.Frag} {Z Z' : Hp} (s : Same Z Z') : ∀ (kvs : List (PyData × PyData)) (xs : List (NestedKey × Addr × V)), DDk K Z xs kvs → DDk K Z' xs kvs
  | [], _, h => by cases h; exact .nil
  | (kd, vd) :: kvs, _, h => by
    cases h with
    | cons h0 h1 h2 h3 => exact .cons h0 (dd_mono s kd _ h1) (dd_mono s vd _ h2) (ddk_mono s kvs _ h3)
theorem ddi_mono {K : PySem.W.Frag} {Z Z' : Hp} (s : Same Z Z') : ∀ (kvs : List (PyData × PyData)) (xs : List (Key × V)), DDi K Z xs kvs → DDi K Z' xs kvs
  | [], _, h => by cases h; exact .nil
  | (kd, vd) :: kvs, _, h => by
    cases h with
    | cons h1 h2 => exact .cons (dd_mono s vd _ h1) (ddi_mono s kvs _ h2)
end
theorem DDm {K : PySem.W.Frag} {Z Z' : Hp} {v : V} {d : PyData} (h : DD K Z v d) (s : Same Z Z') : DD K Z' v d := dd_mono s d v h
theorem DDsm {K : PySem.W.Frag} {Z Z' : Hp} {vs : List V} {ds : List PyData} (h : DDs K Z vs ds) (s : Same Z Z') : DDs K Z' vs ds := dds_mono s ds vs h
theorem dds_len {K : PySem.W.Frag} {Z : Hp} : ∀ {vs : List V} {ds : List PyData}, DDs K Z vs ds → vs.length = ds.length
  | _, [], h => by cases h; rfl
  | _, d :: ds, h => by
    cases h with
    | cons h1 h2 => rw [List.length_cons, List.length_cons, dds_len h2]
theorem dds_get {K : PySem.W.Frag} {Z : Hp} : ∀ {vs : List V} {ds : List PyData} {i : Nat} {d : PyData}, DDs K Z vs ds → ds[i]? = some d → ∃ v, vs[i]? = some v ∧ DD K Z v d
  | _, [], _, _, h, e => by simp at e
  | _, d :: ds, 0, _, h, e => by
    cases h with
    | cons h1 h2 => simp at e; subst e; exact ⟨_, rfl, h1⟩
  | _, d :: ds, i + 1, _, h, e => by
    cases h with
    | cons h1 h2 =>
      obtain ⟨v, e1, e2⟩ := dds_get (i := i) h2 (by simpa using e)
      exact ⟨v, by simpa using e1, e2⟩
theorem dds_get' {K : PySem.W.Frag} {Z : Hp} {vs : List V} {ds : List PyData} {i : Nat} {v : V} (h : DDs K Z vs ds) (e : vs[i]? = some v) : ∃ d, ds[i]? = some d ∧ DD K Z v d := by
  have hl := dds_len h
  obtain ⟨hi, _⟩ := List.getElem?_eq_some_iff.mp e
  obtain ⟨w, e1, e2⟩ := dds_get h (List.getElem?_eq_getElem (show i < ds.length by omega))
  rw [e] at e1
  cases e1
  exact ⟨_, List.getElem?_eq_getElem (show i < ds.length by omega), e2⟩
theorem dds_app {K : PySem.W.Frag} {Z : Hp} : ∀ {vs : List V} {ds : List PyData} {ws : List V} {es : List PyData}, DDs K Z vs ds → DDs K Z ws es → DDs K Z (vs ++ ws) (ds ++ es)
  | _, [], _, _, h, g => by cases h; exact g
  | _, d :: ds, _, _, h, g => by
    cases h with
    | cons h1 h2 => exact .cons h1 (dds_app h2 g)
theorem dds_take {K : PySem.W.Frag} {Z : Hp} : ∀ (n : Nat) {vs : List V} {ds : List PyData}, DDs K Z vs ds → DDs K Z (vs.take n) (ds.take n)
  | 0, _, _, _ => .nil
  | n + 1, _, [], h => by cases h; exact .nil
  | n + 1, _, d :: ds, h => by
    cases h with
    | cons h1 h2 => exact .cons h1 (dds_take n h2)
theorem dds_drop {K : PySem.W.Frag} {Z : Hp} : ∀ (n : Nat) {vs : List V} {ds : List PyData}, DDs K Z vs ds → DDs K Z (vs.drop n) (ds.drop n)
  | 0, _, _, h => h
  | n + 1, _, [], h => by cases h; exact .nil
  | n + 1, _, d :: ds, h => by
    cases h with
    | cons h1 h2 => exact dds_drop n h2
theorem dds_set {K : PySem.W.Frag} {Z : Hp} {v : V} {d : PyData} (hv : DD K Z v d) : ∀ (n : Nat) {vs : List V} {ds : List PyData}, DDs K Z vs ds → DDs K Z (vs.set n v) (ds.set n d)
  | _, _, [], h => by cases h; exact .nil
  | 0, _, _ :: ds, h => by
    cases h with
    | cons h1 h2 => exact .cons hv h2
  | n + 1, _, _ :: ds, h => by
    cases h with
    | cons h1 h2 => exact .cons h1 (dds_set hv n h2)

end
variable [Lab]
/-! ### slots as data -/
inductive DV where
  | fr (d : PyData) | ow (ds : List PyData) | rf (ds : List PyData) | dk (kvs : List (PyData × PyData))
abbrev DEnv := List (Option DV)
def ownish : DV → Bool
  | .fr _ => false
  | _ => true
structure Fm where
  Z0 : Hp
  G : Hp
  P : Addr → Prop
  W : Str → Option Addr → St → Hp → Prop
abbrev W0 : Str → Option Addr → St → Hp → Prop := fun _ _ _ _ => False
def SlotOk (K : PySem.W.Frag) (F : Fm) (Z H : Hp) (σ : St) (i : Nat) : DV → Prop
  | .fr d => ∃ v, σ[i]? = some (some v) ∧ DD K Z v d
  | .ow ds => ∃ p xs, σ[i]? = some (some (.ref p)) ∧ ¬ F.P p ∧ F.G p = none ∧ Z p = none ∧ H p = some (.lst xs) ∧ DDs K Z xs ds
  | .rf ds => ∃ p xs, σ[i]? = some (some (.ref p)) ∧ F.P p ∧ H p = some (.lst xs) ∧ DDs K Z xs ds
  | .dk kvs => ∃ p o xs, σ[i]? = some (some (.ref p)) ∧ ¬ F.P p ∧ F.G p = none ∧ Z p = none ∧ H p = some (DnO p o) ∧ DnF LabW.w p o xs ∧ DDk K Z xs kvs
structure Rel (K : PySem.W.Frag) (F : Fm) (Z H : Hp) (σ : St) (env : DEnv) : Prop where
  z0 : Same F.Z0 Z
  zh : Same Z H
  gh : Same F.G H
  nw : ∀ q, Z q ≠ none → F.Z0 q ≠ none ∨ (F.G q = none ∧ ¬ F.P q)
  pp : ∀ q, F.P q → H q ≠ none ∧ Z q = none ∧ F.G q = none
  len : env.length = σ.length
  sl : ∀ (i : Nat) (dv : DV), env[i]? = some (some dv) → SlotOk K F Z H σ i dv
  inj : ∀ (i j : Nat) (di dj : DV) (p : Addr), env[i]? = some (some di) → env[j]? = some (some dj) → ownish di = true → ownish dj = true → σ[i]? = some (some (.ref p)) → σ[j]? = some (some (.ref p)) → i = j
  tb : TB H
/-- q is no owned slot's list -/
def Fre (σ : St) (env : DEnv) (q : Addr) : Prop := ∀ (i : Nat) (dv : DV), env[i]? = some (some dv) → ownish dv = true → σ[i]? ≠ some (some (V.ref q))
/-- one step of an expression: only owned slots' lists may change -/
structure Stp (σ : St) (env : DEnv) (Z H : Hp) (env' : DEnv) (Z' H' : Hp) : Prop where
  z : Same Z Z'
  h : ∀ q o, H q = some o → NT o → Fre σ env q → H' q = some o
  n : ∀ q, Z' q ≠ none → Z q = none → H q ≠ none → ¬ Fre σ env q
  o : ∀ (i : Nat) (dv : DV), env'[i]? = some (some dv) → ownish dv = true → ∃ dv0, env[i]? = some (some dv0) ∧ ownish dv0 = true
  k : ∀ q, H q ≠ none → H' q ≠ none
theorem Stp.new {σ : St} {env env' : DEnv} {Z H Z' H' : Hp} (s : Stp σ env Z H env' Z' H') {q : Addr} (h : H' q = none) : H q = none :=
  Classical.byContradiction fun z => s.k q z h
theorem Stp.refl {σ : St} {env : DEnv} {Z H : Hp} : Stp σ env Z H env Z H :=
  ⟨Same.refl Z, fun _ _ e _ _ => e, fun _ a b => absurd b a, fun _ dv e o => ⟨dv, e, o⟩, fun _ h => h⟩
theorem Stp.fre {σ : St} {env env' : DEnv} {Z H Z' H' : Hp} (s : Stp σ env Z H env' Z' H') {q : Addr} (f : Fre σ env q) : Fre σ env' q := fun i dv e o => by
  obtain ⟨dv0, e0, o0⟩ := s.o i dv e o
  exact f i dv0 e0 o0
theorem Stp.trans {σ : St} {e0 e1 e2 : DEnv} {Z0 H0 Z1 H1 Z2 H2 : Hp} (a : Stp σ e0 Z0 H0 e1 Z1 H1) (b : Stp σ e1 Z1 H1 e2 Z2 H2) : Stp σ e0 Z0 H0 e2 Z2 H2 := by
  refine ⟨a.z.trans b.z, fun q o e n f => b.h q o (a.h q o e n f) n (a.fre f), fun q h2 h0 hh f => ?_, fun i dv e o => ?_, fun q h => b.k q (a.k q h)⟩
  · by_cases hz : Z1 q = none
    · have h1 : H1 q ≠ none := a.k q hh
      exact b.n q h2 hz h1 (a.fre f)
    · exact a.n q hz h0 hh f
  · obtain ⟨d1, x, y⟩ := b.o i dv e o
    exact a.o i d1 x y
/-- what only lays new things -/
structure Grow (Z H Z' H' : Hp) : Prop where
  z : Same Z Z'
  zh : Same Z' H'
  h : Same H H'
  t : TB H → TB H'
  n : ∀ q, Z' q ≠ none → Z q ≠ none ∨ H q = none
theorem Grow.refl {Z H : Hp} (s : Same Z H) : Grow Z H Z H := ⟨Same.refl Z, s, Same.refl H, id, fun _ h => .inl h⟩
theorem Grow.trans {Z H Z1 H1 Z2 H2 : Hp} (a : Grow Z H Z1 H1) (b : Grow Z1 H1 Z2 H2) : Grow Z H Z2 H2 := by
  refine ⟨a.z.trans b.z, b.zh, a.h.trans b.h, fun t => b.t (a.t t), fun q h => ?_⟩
  rcases b.n q h with h | h
  · exact a.n q h
  · exact .inr (a.h.free h)
theorem Grow.stp {σ : St} {env : DEnv} {Z H Z' H' : Hp} (g : Grow Z H Z' H') : Stp σ env Z H env Z' H' := by
  refine ⟨g.z, fun q o e n _ => g.h.h q o e n, fun q h1 h2 h3 _ => ?_, fun _ dv e o => ⟨dv, e, o⟩, fun q hq hz => hq (g.h.free hz)⟩
  rcases g.n q h1 with h | h
  · exact h h2
  · exact h3 h
theorem Rel.grow {K : PySem.W.Frag} {F : Fm} {Z H Z' H' : Hp} {σ : St} {env : DEnv} (r : Rel K F Z H σ env) (g : Grow Z H Z' H') : Rel K F Z' H' σ env := by
  have keepn : ∀ p, Z p = none → H p ≠ none → Z' p = none := fun p hz hp => by
    cases hq : Z' p with
    | none => rfl
    | some o =>
      rcases g.n p (by rw [hq]; simp) with h | h
      · exact absurd hz h
      · exact absurd h hp
  refine ⟨r.z0.trans g.z, g.zh, r.gh.trans g.h, fun q h => ?_, fun q hq => ?_, r.len, fun i dv e => ?_, r.inj, g.t r.tb⟩
  · rcases g.n q h with h | h
    · exact r.nw q h
    · refine .inr ⟨r.gh.free h, fun hp => (r.pp q hp).1 h⟩
  · obtain ⟨a, b, c⟩ := r.pp q hq
    exact ⟨g.h.k q a, keepn q b a, c⟩
  · have s := r.sl i dv e
    cases dv with
    | fr d =>
      obtain ⟨v, e1, e2⟩ := s
      exact ⟨v, e1, DDm e2 g.z⟩
    | ow ds =>
      obtain ⟨p, xs, e1, e2, e3, e4, e5, e6⟩ := s
      exact ⟨p, xs, e1, e2, e3, keepn p e4 (by rw [e5]; simp), g.h.h _ _ e5 nt_lst, DDsm e6 g.z⟩
    | rf ds =>
      obtain ⟨p, xs, e1, e2, e5, e6⟩ := s
      exact ⟨p, xs, e1, e2, g.h.h _ _ e5 nt_lst, DDsm e6 g.z⟩
    | dk kvs =>
      obtain ⟨p, o, xs, e1, e2, e3, e4, e5, e6, e7⟩ := s
      exact ⟨p, o, xs, e1, e2, e3, keepn p e4 (by rw [e5]; simp), g.h.h _ _ e5 nt_exo, e6, ddk_mono g.z _ _ e7⟩
theorem same_upd2 {Z H : Hp} (s : Same Z H) (p : Addr) (o : HO) : Same (upd Z p o) (upd H p o) := by
  refine ⟨fun b x e n => ?_, fun b e => ?_⟩
  · by_cases hb : b = p
    · subst hb; rw [upd_same] at e ⊢; exact e
    · rw [upd_ne hb] at e ⊢; exact s.h b x e n
  · by_cases hb : b = p
    · subst hb; rw [upd_same]; simp
    · rw [upd_ne hb] at e ⊢; exact s.k b e
/-- a new frozen object -/
theorem grow_new {Z H : Hp} (s : Same Z H) {p : Addr} (h : H p = none) (o : HO) : Grow Z H (upd Z p o) (upd H p o) := by
  have hz : Z p = none := s.free h
  refine ⟨.of (same_new hz o), same_upd2 s p o, .of (same_new h o), fun t => t.ext (same_new h o), fun q hq => ?_⟩
  by_cases hb : q = p
  · subst hb; exact .inr h
  · rw [upd_ne hb] at hq; exact .inl hq
/-- what a callee may do to the list at p -/
structure Pok (Z H : Hp) (p : Addr) (Z' H' : Hp) : Prop where
  z : Same Z Z'
  zh : Same Z' H'
  h : ∀ q o, q ≠ p → H q = some o → NT o → H' q = some o
  k : ∀ q, q ≠ p → H q ≠ none → H' q ≠ none
  t : TB H → TB H'
  n : ∀ q, Z' q ≠ none → Z q ≠ none ∨ H q = none
theorem new_tup {K : PySem.W.Frag} {Z H : Hp} (s : Same Z H) {p : Addr} (h : H p = none) {xs : List V} {ds : List PyData} (a : DDs K Z xs ds) : DD K (upd Z p (.tup xs)) (.ref p) (.tuple ds) :=
  .tup (SqT.of upd_same) (DDsm a (grow_new s h (.tup xs)).z)
theorem new_lst {K : PySem.W.Frag} {Z H : Hp} (s : Same Z H) {p : Addr} (h : H p = none) {xs : List V} {ds : List PyData} (a : DDs K Z xs ds) : DD K (upd Z p (.lst xs)) (.ref p) (.list ds) :=
  .lst (.inl (Rd.of upd_same)) (DDsm a (grow_new s h (.lst xs)).z)

/-! ### reading a slot -/
def rdF (i : Nat) (env : DEnv) : Option (PyData × DEnv) := match env[i]? with
  | some (some (.fr d)) => some (d, env)
  | some (some (.ow ds)) => some (.list ds, env.set i (some (.fr (.list ds))))
  | some (some (.dk kvs)) => some (.dict kvs, env.set i (some (.fr (.dict kvs))))
  | _ => none
/-- the data that stands in a slot, whatever its kind -/
def rdB (i : Nat) (env : DEnv) : Option PyData := match env[i]? with
  | some (some (.fr d)) => some d
  | some (some (.ow ds)) => some (.list ds)
  | some (some (.rf ds)) => some (.list ds)
  | some (some (.dk kvs)) => some (.dict kvs)
  | _ => none
theorem get_set_some {env : DEnv} {i j : Nat} {x : Option DV} {dv : DV} (h : (env.set i x)[j]? = some (some dv)) : (j = i ∧ x = some dv) ∨ (j ≠ i ∧ env[j]? = some (some dv)) := by
  by_cases e : i = j
  · subst e
    by_cases hl : i < env.length
    · rw [List.getElem?_set_self hl] at h
      exact .inl ⟨rfl, Option.some.inj h⟩
    · rw [List.getElem?_eq_none (by rw [List.length_set]; omega)] at h
      cases h
  · rw [List.getElem?_set_ne e] at h
    exact .inr ⟨fun z => e z.symm, h⟩
theorem Rel.freezeG {K : PySem.W.Frag} {F : Fm} {Z H : Hp} {σ : St} {env : DEnv} {i : Nat} {dv0 : DV} {p : Addr} {u : HO} {d : PyData} (r : Rel K F Z H σ env) (e : env[i]? = some (some dv0)) (hown : ownish dv0 = true) (e1 : σ[i]? = some (some (.ref p))) (e2 : ¬ F.P p) (e3 : F.G p = none) (e4 : Z p = none) (e5 : H p = some u) (hd : DD K (upd Z p u) (.ref p) d) :
    ∃ Z' v, Rel K F Z' H σ (env.set i (some (.fr d))) ∧ Stp σ env Z H (env.set i (some (.fr d))) Z' H ∧ σ[i]? = some (some v) ∧ DD K Z' v d := by
  have hZ : Same Z (upd Z p u) := .of (same_new e4 _)
  refine ⟨upd Z p u, .ref p, ⟨r.z0.trans hZ, ⟨fun b x q n => ?_, fun b q => ?_⟩, r.gh, fun q hq => ?_, fun q hq => ?_, by rw [List.length_set]; exact r.len, fun j dv ej => ?_, fun j k dj dk q ej ek oj ok sj sk => ?_, r.tb⟩, ⟨hZ, fun _ _ q _ _ => q, fun q h1 h2 _ f => ?_, fun j dv ej oj => ?_, fun _ h => h⟩, e1, hd⟩
  · by_cases hb : b = p
    · subst hb; rw [upd_same] at q; cases q; exact e5
    · rw [upd_ne hb] at q; exact r.zh.h b x q n
  · by_cases hb : b = p
    · subst hb; rw [e5]; simp
    · rw [upd_ne hb] at q; exact r.zh.k b q
  · by_cases hb : q = p
    · subst hb; exact .inr ⟨e3, e2⟩
    · rw [upd_ne hb] at hq; exact r.nw q hq
  · obtain ⟨a, b, c⟩ := r.pp q hq
    refine ⟨a, ?_, c⟩
    rw [upd_ne (show q ≠ p from fun z => e2 (by rw [← z]; exact hq))]; exact b
  · rcases get_set_some ej with ⟨rfl, ex⟩ | ⟨hne, ex⟩
    · cases ex
      exact ⟨.ref p, e1, hd⟩
    · have s := r.sl j dv ex
      cases dv with
      | fr d => obtain ⟨v, a, b⟩ := s; exact ⟨v, a, DDm b hZ⟩
      | ow es =>
        obtain ⟨p', xs', a1, a2, a3, a4, a5, a6⟩ := s
        have hp : p' ≠ p := fun z => hne (r.inj j i _ _ p ex e rfl hown (z ▸ a1) e1)
        exact ⟨p', xs', a1, a2, a3, by rw [upd_ne hp]; exact a4, a5, DDsm a6 hZ⟩
      | rf es =>
        obtain ⟨p', xs', a1, a2, a5, a6⟩ := s
        exact ⟨p', xs', a1, a2, a5, DDsm a6 hZ⟩
      | dk es =>
        obtain ⟨p', o', xs', a1, a2, a3, a4, a5, a6, a7⟩ := s
        have hp : p' ≠ p := fun z => hne (r.inj j i _ _ p ex e rfl hown (z ▸ a1) e1)
        exact ⟨p', o', xs', a1, a2, a3, by rw [upd_ne hp]; exact a4, a5, a6, ddk_mono hZ _ _ a7⟩
  · rcases get_set_some ej with ⟨rfl, ex⟩ | ⟨_, ex⟩
    · cases ex; cases oj
    · rcases get_set_some ek with ⟨rfl, ey⟩ | ⟨_, ey⟩
      · cases ey; cases ok
      · exact r.inj j k dj dk q ex ey oj ok sj sk
  · by_cases hb : q = p
    · subst hb; exact f i _ e hown e1
    · rw [upd_ne hb] at h1; exact h1 h2
  · rcases get_set_some ej with ⟨rfl, ex⟩ | ⟨_, ex⟩
    · cases ex; cases oj
    · exact ⟨dv, ex, oj⟩
theorem Rel.freeze {K : PySem.W.Frag} {F : Fm} {Z H : Hp} {σ : St} {env : DEnv} {i : Nat} {ds : List PyData} (r : Rel K F Z H σ env) (e : env[i]? = some (some (.ow ds))) :
    ∃ Z' v, Rel K F Z' H σ (env.set i (some (.fr (.list ds)))) ∧ Stp σ env Z H (env.set i (some (.fr (.list ds)))) Z' H ∧ σ[i]? = some (some v) ∧ DD K Z' v (.list ds) := by
  obtain ⟨p, xs, e1, e2, e3, e4, e5, e6⟩ := r.sl i _ e
  exact r.freezeG e rfl e1 e2 e3 e4 e5 (.lst (.inl (Rd.of upd_same)) (DDsm e6 (.of (same_new e4 _))))
theorem Rel.freezeK {K : PySem.W.Frag} {F : Fm} {Z H : Hp} {σ : St} {env : DEnv} {i : Nat} {kvs : List (PyData × PyData)} (r : Rel K F Z H σ env) (e : env[i]? = some (some (.dk kvs))) :
    ∃ Z' v, Rel K F Z' H σ (env.set i (some (.fr (.dict kvs)))) ∧ Stp σ env Z H (env.set i (some (.fr (.dict kvs)))) Z' H ∧ σ[i]? = some (some v) ∧ DD K Z' v (.dict kvs) := by
  obtain ⟨p, o, xs, e1, e2, e3, e4, e5, e6, e7⟩ := r.sl i _ e
  exact r.freezeG e rfl e1 e2 e3 e4 e5 (.dcn upd_same e6 (ddk_mono (.of (same_new e4 _)) _ _ e7))
theorem Rel.rdF {K : PySem.W.Frag} {F : Fm} {Z H : Hp} {σ : St} {env env' : DEnv} {i : Nat} {d : PyData} (r : Rel K F Z H σ env) (h : DL.rdF i env = some (d, env')) :
    ∃ Z' v, Rel K F Z' H σ env' ∧ Stp σ env Z H env' Z' H ∧ σ[i]? = some (some v) ∧ DD K Z' v d := by
  unfold DL.rdF at h
  split at h
  · rename_i d' e
    cases h
    obtain ⟨v, e1, e2⟩ := r.sl i _ e
    exact ⟨Z, v, r, Stp.refl, e1, e2⟩
  · rename_i ds e
    cases h
    exact r.freeze e
  · rename_i kvs e
    cases h
    exact r.freezeK e
  · cases h
/-- what a slot's list is at this moment -/
theorem Rel.rdB {K : PySem.W.Frag} {F : Fm} {Z H : Hp} {σ : St} {env : DEnv} {i : Nat} {d : PyData} (r : Rel K F Z H σ env) (h : DL.rdB i env = some d) : ∃ v, σ[i]? = some (some v) ∧ DD K H v d := by
  unfold DL.rdB at h
  split at h
  · rename_i d' e
    cases h
    obtain ⟨v, e1, e2⟩ := r.sl i _ e
    exact ⟨v, e1, DDm e2 r.zh⟩
  · rename_i ds e
    cases h
    obtain ⟨p, xs, e1, e2, e3, e4, e5, e6⟩ := r.sl i _ e
    exact ⟨.ref p, e1, .lst (.inl (Rd.of e5)) (DDsm e6 r.zh)⟩
  · rename_i ds e
    cases h
    obtain ⟨p, xs, e1, e2, e5, e6⟩ := r.sl i _ e
    exact ⟨.ref p, e1, .lst (.inl (Rd.of e5)) (DDsm e6 r.zh)⟩
  · rename_i kvs e
    cases h
    obtain ⟨p, o, xs, e1, e2, e3, e4, e5, e6, e7⟩ := r.sl i _ e
    exact ⟨.ref p, e1, .dcn e5 e6 (ddk_mono r.zh _ _ e7)⟩
  · cases h
end DL
end L2


set_option Elab.async false
set_option maxRecDepth 100000
set_option maxHeartbeats 4000000
set_option autoImplicit false
namespace L2
namespace DL
open PySem PySem.Spec PyProof.Rows
variable [Lab]
abbrev lim : Nat := 100000
theorem lim_le : lim ≤ sizeLine := by decide
/-! ### readings -/
def tD (K : PySem.W.Frag) (F : Fm) (f : DEnv → Option (PyData × DEnv)) : TE := fun σ H Q => ∃ Z env d env', Rel K F Z H σ env ∧ f env = some (d, env') ∧ ∀ v Z' H', Rel K F Z' H' σ env' → Stp σ env Z H env' Z' H' → DD K Z' v d → Q v H'
def tDT (K : PySem.W.Frag) (F : Fm) (f : DEnv → Option (Bool × DEnv)) : TT := fun σ H Q => ∃ Z env d env', Rel K F Z H σ env ∧ f env = some (d, env') ∧ ∀ Z' H', Rel K F Z' H' σ env' → Stp σ env Z H env' Z' H' → Q d H'
def tDA (K : PySem.W.Frag) (F : Fm) (f : DEnv → Option (List PyData × DEnv)) : TA := fun σ H Q => ∃ Z env ds env', Rel K F Z H σ env ∧ f env = some (ds, env') ∧ ∀ vs Z' H', Rel K F Z' H' σ env' → Stp σ env Z H env' Z' H' → DDs K Z' vs ds → Q vs H'
def tDN (K : PySem.W.Frag) (F : Fm) (f : DEnv → Option (List PyData × DEnv)) : TE := fun σ H Q => ∃ Z env ds env', Rel K F Z H σ env ∧ f env = some (ds, env') ∧ ∀ p xs Z' H', Rel K F Z' H' σ env' → Stp σ env Z H env' Z' H' → H p = none → Z' p = none → H' p = some (.lst xs) → DDs K Z' xs ds → Q (.ref p) H'
def PD (X : Cx) (F : Fm) (e : Expr) (f : DEnv → Option (PyData × DEnv)) : Prop := PE X e (tD X.K F f)
def PN (X : Cx) (F : Fm) (e : Expr) (f : DEnv → Option (List PyData × DEnv)) : Prop := PE X e (tDN X.K F f)
def PDT (X : Cx) (F : Fm) (e : Expr) (f : DEnv → Option (Bool × DEnv)) : Prop := PT X e (tDT X.K F f)
def PDW (X : Cx) (F : Fm) (e : Expr) (f : DEnv → Option (Bool × DEnv)) : Prop := PW X e (tDT X.K F f)
def PDA (X : Cx) (F : Fm) (es : List Expr) (f : DEnv → Option (List PyData × DEnv)) : Prop := PA X es (tDA X.K F f)
theorem pe_imp {X : Cx} {e : Expr} {t t' : TE} (h : PE X e t) (w : ∀ σ H Q, t' σ H Q → t σ H Q) : PE X e t' := ⟨fun pins s σ H Q I q => h.run pins s σ H Q I (w σ H Q q)⟩
theorem pt_imp {X : Cx} {e : Expr} {t t' : TT} (h : PT X e t) (w : ∀ σ H Q, t' σ H Q → t σ H Q) : PT X e t' := ⟨fun pins s σ H Q I q => h.run pins s σ H Q I (w σ H Q q)⟩
theorem pw_imp {X : Cx} {e : Expr} {t t' : TT} (h : PW X e t) (w : ∀ σ H Q, t' σ H Q → t σ H Q) : PW X e t' := ⟨fun wh pins s σ H Q I q => h.run wh pins s σ H Q I (w σ H Q q)⟩
theorem pa_imp {X : Cx} {es : List Expr} {t t' : TA} (h : PA X es t) (w : ∀ σ H Q, t' σ H Q → t σ H Q) : PA X es t' := ⟨fun pos pins s σ H Q I q => h.run pos pins s σ H Q I (w σ H Q q)⟩
theorem ps_imp {X : Cx} {e : Stmt} {t t' : TS} (h : PS X e t) (w : ∀ D σ H, t' D σ H → t D σ H) : PS X e t' := ⟨fun pins s σ H D I q => h.run pins s σ H D I (w D σ H q)⟩
theorem pss_imp {X : Cx} {e : List Stmt} {t t' : TS} (h : PSs X e t) (w : ∀ D σ H, t' D σ H → t D σ H) : PSs X e t' := ⟨fun pins s σ H D I q => h.run pins s σ H D I (w D σ H q)⟩
theorem bnd {α β : Type} {o : Option α} {f : α → Option β} {b : β} (h : o.bind f = some b) : ∃ a, o = some a ∧ f a = some b := Option.bind_eq_some_iff.mp h
theorem mpd {α β : Type} {o : Option α} {f : α → β} {b : β} (h : o.map f = some b) : ∃ a, o = some a ∧ f a = b := Option.map_eq_some_iff.mp h

/-- a temporary list is frozen -/
theorem Rel.frzT {K : PySem.W.Frag} {F : Fm} {Z H H0 Z0 : Hp} {σ : St} {env env0 : DEnv} {p : Addr} {xs : List V} {ds : List PyData} (r0 : Rel K F Z0 H0 σ env0) (r : Rel K F Z H σ env) (s : Stp σ env0 Z0 H0 env Z H) (h0 : H0 p = none) (hz : Z p = none) (hp : H p = some (.lst xs)) (hd : DDs K Z xs ds) :
    Rel K F (upd Z p (.lst xs)) H σ env ∧ Stp σ env0 Z0 H0 env (upd Z p (.lst xs)) H ∧ DD K (upd Z p (.lst xs)) (.ref p) (.list ds) := by
  have hZ : Same Z (upd Z p (.lst xs)) := .of (same_new hz _)
  have fr0 : Fre σ env0 p := fun i dv e o hh => by
    have sl := r0.sl i dv e
    cases dv with
    | fr d => cases o
    | ow es => obtain ⟨p', xs', a1, _, _, _, a5, _⟩ := sl; rw [hh] at a1; cases a1; rw [h0] at a5; cases a5
    | rf es => obtain ⟨p', xs', a1, _, a5, _⟩ := sl; rw [hh] at a1; cases a1; rw [h0] at a5; cases a5
    | dk es => obtain ⟨p', o', xs', a1, _, _, _, a5, _⟩ := sl; rw [hh] at a1; cases a1; rw [h0] at a5; cases a5
  have fr := s.fre fr0
  have np : ¬ F.P p := fun z => (r0.pp p z).1 h0
  have ng : F.G p = none := r0.gh.free h0
  refine ⟨⟨r.z0.trans hZ, ⟨fun b x q n => ?_, fun b q => ?_⟩, r.gh, fun q hq => ?_, fun q hq => ?_, r.len, fun i dv e => ?_, r.inj, r.tb⟩, ⟨s.z.trans hZ, s.h, fun q h1 h2 h3 f => ?_, s.o, s.k⟩, .lst (.inl (Rd.of upd_same)) (DDsm hd hZ)⟩
  · by_cases hb : b = p
    · subst hb; rw [upd_same] at q; cases q; exact hp
    · rw [upd_ne hb] at q; exact r.zh.h b x q n
  · by_cases hb : b = p
    · subst hb; rw [hp]; simp
    · rw [upd_ne hb] at q; exact r.zh.k b q
  · by_cases hb : q = p
    · subst hb; exact .inr ⟨ng, np⟩
    · rw [upd_ne hb] at hq; exact r.nw q hq
  · obtain ⟨a, b, c⟩ := r.pp q hq
    refine ⟨a, ?_, c⟩
    rw [upd_ne (show q ≠ p from fun z => np (by rw [← z]; exact hq))]; exact b
  · have sl := r.sl i dv e
    cases dv with
    | fr d => obtain ⟨v, a, b⟩ := sl; exact ⟨v, a, DDm b hZ⟩
    | ow es =>
      obtain ⟨p', xs', a1, a2, a3, a4, a5, a6⟩ := sl
      have hpp : p' ≠ p := fun z => fr i _ e rfl (z ▸ a1)
      exact ⟨p', xs', a1, a2, a3, by rw [upd_ne hpp]; exact a4, a5, DDsm a6 hZ⟩
    | rf es =>
      obtain ⟨p', xs', a1, a2, a5, a6⟩ := sl
      exact ⟨p', xs', a1, a2, a5, DDsm a6 hZ⟩
    | dk es =>
      obtain ⟨p', o', xs', a1, a2, a3, a4, a5, a6, a7⟩ := sl
      have hpp : p' ≠ p := fun z => fr i _ e rfl (z ▸ a1)
      exact ⟨p', o', xs', a1, a2, a3, by rw [upd_ne hpp]; exact a4, a5, a6, ddk_mono hZ _ _ a7⟩
  · by_cases hb : q = p
    · subst hb; exact h3 h0
    · rw [upd_ne hb] at h1; exact s.n q h1 h2 h3 f

section
variable {X : Cx} {F : Fm} {a b c e : Expr} {es : List Expr} {pos p : Pos} {f g k : DEnv → Option (PyData × DEnv)} {fa : DEnv → Option (List PyData × DEnv)} {ft gt : DEnv → Option (Bool × DEnv)}

/-! ### names and constants -/
theorem pd_name (i : Nat) {x : Str} (hN : X.N[i]? = some x := by rfl) (hv : Vis X.env.scope x := by first | exact Or.inl rfl | exact Or.inr (Or.inl rfl) | exact Or.inr (Or.inr rfl)) (hd : (x == ("__debug__" : Str)) = false := by decide)
    (hcd : (x == ("__classdict__" : Str)) = false := by decide) : PD X F (.Name x pos) (rdF i) :=
  pe_imp (pe_var hN hv hd hcd) fun σ H Q ⟨Z, env, d, env', r, e, q⟩ => by
    obtain ⟨Z', v, r', s', e1, e2⟩ := r.rdF e
    exact ⟨v, e1, q v Z' H r' s' e2⟩
def fC (d : PyData) (env : DEnv) : Option (PyData × DEnv) := some (d, env)
theorem pd_const {v : V} {d : PyData} (h : PE X e (tC v)) (hd : ∀ Z, DD X.K Z v d) : PD X F e (fC d) :=
  pe_imp h fun σ H Q ⟨Z, env, d', env', r, e, q⟩ => by
    cases e
    exact q v Z H r Stp.refl (hd Z)
theorem pd_int {i j} : PD X F (.Constant (.int i) j pos) (fC (.int i)) := pd_const pe_int fun _ => .int i
theorem pd_bl {i j} : PD X F (.Constant (.bool i) j pos) (fC (.bool i)) := pd_const pe_bl fun _ => .bl i
theorem pd_non {j} : PD X F (.Constant .none j pos) (fC .none) := pd_const pe_non fun _ => .non
theorem pd_str {i j} : PD X F (.Constant (.str i) j pos) (fC (.str i)) := pd_const pe_str fun _ => .str i
/-- a global constant -/
theorem pd_glob {x : Str} {v : V} {u : Value} {d : PyData} (hm : X.mg x = some u) (r : RelV v u) (hd : ∀ Z, DD X.K Z v d) (hg : Gl X x := by rfl) (hdb : (x == ("__debug__" : Str)) = false := by decide) : PD X F (.Name x pos) (fC d) :=
  pd_const (pe_glob hg hm r hdb) hd

/-! ### binary operators, comparisons -/
def r2D (K : PySem.W.Frag) (o : PyData → PyData → Option PyData) : R2 := fun x y H Q => ∃ Z a b d, Same Z H ∧ DD K Z x a ∧ DD K Z y b ∧ o a b = some d ∧ ∀ v Z' H', Grow Z H Z' H' → DD K Z' v d → Q v H'
def OpD (X : Cx) (op : Value → Value → Sem Value) (o : PyData → PyData → Option PyData) : Prop := OpR X op (r2D X.K o)
def fBin (o : PyData → PyData → Option PyData) (f g : DEnv → Option (PyData × DEnv)) (env : DEnv) : Option (PyData × DEnv) := (f env).bind fun x => (g x.2).bind fun y => (o x.1 y.1).map fun d => (d, y.2)
theorem bin_read {K : PySem.W.Frag} {o : PyData → PyData → Option PyData} {σ : St} {H : Hp} {Q : VK} (h : tD K F (fBin o f g) σ H Q) : tOp (r2D K o) (tD K F f) (tD K F g) σ H Q := by
  obtain ⟨Z, env, d, env', r, e, q⟩ := h
  obtain ⟨⟨x, e1⟩, h1, h⟩ := bnd e
  obtain ⟨⟨y, e2⟩, h2, h⟩ := bnd h
  obtain ⟨d', h3, h⟩ := mpd h
  cases h
  refine ⟨Z, env, x, e1, r, h1, fun v1 Z1 H1 r1 s1 d1 => ⟨Z1, e1, y, e2, r1, h2, fun v2 Z2 H2 r2 s2 d2 => ?_⟩⟩
  refine ⟨Z2, x, y, d, r2.zh, DDm d1 s2.z, d2, h3, fun v Z' H' gr dd => ?_⟩
  exact q v Z' H' (r2.grow gr) ((s1.trans s2).trans gr.stp) dd
theorem pd_bin {op : Operator} {o : PyData → PyData → Option PyData} (ho : OpD X (binaryOp op) o) (ha : PD X F a f) (hb : PD X F b g) : PD X F (.BinOp a op b pos) (fBin o f g) :=
  pe_imp (pe_op ho ha hb) fun _ _ _ h => bin_read h
theorem pd_cmp {op : CmpOp} {o : PyData → PyData → Option PyData} (ho : OpD X (compareOp op) o) (ha : PD X F a f) (hb : PD X F b g) (hm : behindInMarks op b = false := by first | exact nomark _ | rfl) : PD X F (.Compare a [op] [b] pos) (fBin o f g) :=
  pe_imp (pe_cmpR ho ha hb hm) fun _ _ _ h => bin_read h
/-- the right one a name: its list as it stands -/
def fCmpN (o : PyData → PyData → Option PyData) (f : DEnv → Option (PyData × DEnv)) (i : Nat) (env : DEnv) : Option (PyData × DEnv) := (f env).bind fun x => (rdB i x.2).bind fun y => (o x.1 y).map fun d => (d, x.2)
def scalD : PyData → Bool
  | .none => true
  | .bool _ => true
  | .int _ => true
  | .str _ => true
  | _ => false
theorem DD.scal {K : PySem.W.Frag} {Z Z' : Hp} {v : V} {d : PyData} (h : DD K Z v d) (s : scalD d = true) : DD K Z' v d := by
  cases h with
  | non => exact .non
  | bl b => exact .bl b
  | int i => exact .int i
  | str x => exact .str x
  | lst _ _ => cases s
  | tup _ _ => cases s
  | dct _ _ => cases s
  | dcn _ _ _ => cases s
  | exc _ _ _ _ _ => cases s
  | exn _ _ => cases s
/-! ### tests -/
def truthD : PyData → Option Bool
  | .none => some false
  | .bool b => some b
  | .int i => some (i != 0)
  | .str x => if x.length ≤ lim then some (x.length != 0) else none
  | .list xs => some (!xs.isEmpty)
  | .tuple xs => some (!xs.isEmpty)
  | _ => none
theorem truth_ok {K : PySem.W.Frag} {H : Hp} {v : V} {d : PyData} {k : Bool} (h : DD K H v d) (e : truthD d = some k) : TruV K v H k := by
  cases h with
  | non => cases e; exact rfl
  | bl b => cases e; exact rfl
  | int i => cases e; exact rfl
  | str x =>
    change (if x.length ≤ lim then some (x.length != 0) else none) = some k at e
    by_cases hx : x.length ≤ lim
    · rw [if_pos hx] at e
      cases e
      refine ⟨Nat.le_trans hx lim_le, ?_⟩
      by_cases h0 : x.length = 0
      · rw [h0]; rfl
      · have h1 : (x.length != 0) = true := by simpa using h0
        have h2 : (((x.length : Nat) : Int) != 0) = true := by simpa using h0
        rw [h1, h2]
    · rw [if_neg hx] at e
      cases e
  | @lst a xs ds hr ha =>
    cases e
    refine .inl ⟨xs, hr.sq, ?_⟩
    have := dds_len ha
    cases xs <;> cases ds <;> simp_all
  | @tup a xs ds hr ha =>
    cases e
    refine .inr (.inl ⟨xs, hr, ?_⟩)
    have := dds_len ha
    cases xs <;> cases ds <;> simp_all
  | dct _ _ => cases e
  | dcn _ _ _ => cases e
  | exc _ _ _ _ _ => cases e
  | exn _ _ => cases e
def fTst (f : DEnv → Option (PyData × DEnv)) (env : DEnv) : Option (Bool × DEnv) := (f env).bind fun x => (truthD x.1).map fun k => (k, x.2)
theorem pdt_val (ha : PD X F a f) (he : ∀ whole, isTrue a X.env whole = (do let v ← whole; standAt a.pos; holding [v] (truthy v)) := by intro _; rfl) : PDT X F a (fTst f) :=
  pt_imp (pt_truth ha he) fun σ H Q h => by
    obtain ⟨Z, env, d, env', r, e, q⟩ := h
    obtain ⟨⟨x, e1⟩, h1, h⟩ := bnd e
    obtain ⟨k, h2, h⟩ := mpd h
    cases h
    exact ⟨Z, env, x, e1, r, h1, fun v Z1 H1 r1 s1 d1 => ⟨d, truth_ok (DDm d1 r1.zh) h2, q Z1 H1 r1 s1⟩⟩
def fOr (f g : DEnv → Option (Bool × DEnv)) (env : DEnv) : Option (Bool × DEnv) := (f env).bind fun x => if x.1 then some (true, x.2) else g x.2
def fNot (f : DEnv → Option (Bool × DEnv)) (env : DEnv) : Option (Bool × DEnv) := (f env).map fun x => (!x.1, x.2)
variable {rest : List Expr}
theorem pdw_or1 (ha : PDT X F a ft) : PDW X F (.BoolOp .Or [a] pos) ft := pw_or1 ha
theorem or_read {K : PySem.W.Frag} {σ : St} {H : Hp} {Q : Bool → Hp → Prop} (h : tDT K F (fOr ft gt) σ H Q) : tOr (tDT K F ft) (tDT K F gt) σ H Q := by
  obtain ⟨Z, env, d, env', r, e, q⟩ := h
  obtain ⟨⟨x, e1⟩, h1, h⟩ := bnd e
  refine ⟨Z, env, x, e1, r, h1, fun Z1 H1 r1 s1 => ?_⟩
  cases x with
  | false => exact iteF ⟨Z1, e1, d, env', r1, h, fun Z2 H2 r2 s2 => q Z2 H2 r2 (s1.trans s2)⟩
  | true =>
    cases h
    exact iteT (q Z1 H1 r1 s1)
theorem pdw_or (ha : PDT X F a ft) (hb : PDW X F (.BoolOp .Or (b :: rest) pos) gt) : PDW X F (.BoolOp .Or (a :: b :: rest) pos) (fOr ft gt) := pw_imp (pw_or ha hb) fun _ _ _ h => or_read h
theorem pdt_w (h : PDW X F a ft) : PDT X F a ft := h.pt
theorem pdt_not (ha : PDT X F a ft) : PDT X F (.UnaryOp .Not a pos) (fNot ft) := pt_imp (pt_not ha) fun σ H Q h => by
  obtain ⟨Z, env, d, env', r, e, q⟩ := h
  obtain ⟨⟨x, e1⟩, h1, h⟩ := mpd e
  cases h
  exact ⟨Z, env, x, e1, r, h1, fun Z1 H1 r1 s1 => q Z1 H1 r1 s1⟩
def fOrV (f g : DEnv → Option (PyData × DEnv)) (env : DEnv) : Option (PyData × DEnv) := (f env).bind fun x => match x.1 with
  | .bool false => g x.2
  | .bool true => some (.bool true, x.2)
  | _ => none
theorem pd_one {op} (h : PD X F a f) : PD X F (.BoolOp op [a] pos) f := pe_one h
theorem DD.bool_inv {K : PySem.W.Frag} {Z : Hp} {v : V} {k : Bool} (h : DD K Z v (.bool k)) : v = .bl k := by cases h; rfl
theorem DD.int_inv {K : PySem.W.Frag} {Z : Hp} {v : V} {k : Int} (h : DD K Z v (.int k)) : v = .int k := by cases h; rfl
theorem DD.str_inv {K : PySem.W.Frag} {Z : Hp} {v : V} {k : Str} (h : DD K Z v (.str k)) : v = .str k := by cases h; rfl
theorem pd_or (ha : PD X F a f) (hb : PD X F (.BoolOp .Or (b :: rest) pos) g) : PD X F (.BoolOp .Or (a :: b :: rest) pos) (fOrV f g) := pe_imp (pe_or ha hb) fun σ H Q h => by
  obtain ⟨Z, env, d, env', r, e, q⟩ := h
  obtain ⟨⟨x, e1⟩, h1, h⟩ := bnd e
  refine ⟨Z, env, x, e1, r, h1, fun v Z1 H1 r1 s1 d1 => ?_⟩
  dsimp only at h
  split at h
  · cases d1.bool_inv
    exact ⟨false, rfl, iteF ⟨Z1, e1, d, env', r1, h, fun v2 Z2 H2 r2 s2 d2 => q v2 Z2 H2 r2 (s1.trans s2) d2⟩⟩
  · cases d1.bool_inv
    cases h
    exact ⟨true, rfl, iteT (q _ Z1 H1 r1 s1 (.bl true))⟩
  · cases h
def fIf (ft : DEnv → Option (Bool × DEnv)) (f g : DEnv → Option (PyData × DEnv)) (env : DEnv) : Option (PyData × DEnv) := (ft env).bind fun x => if x.1 then f x.2 else g x.2
theorem pd_if (hc : PDT X F c ft) (ha : PD X F a f) (hb : PD X F b g) : PD X F (.IfExp c a b pos) (fIf ft f g) := pe_imp (pe_ifExp hc ha hb) fun σ H Q h => by
  obtain ⟨Z, env, d, env', r, e, q⟩ := h
  obtain ⟨⟨x, e1⟩, h1, h⟩ := bnd e
  refine ⟨Z, env, x, e1, r, h1, fun Z1 H1 r1 s1 => ?_⟩
  cases x with
  | true => exact iteT ⟨Z1, e1, d, env', r1, h, fun v Z2 H2 r2 s2 d2 => q v Z2 H2 r2 (s1.trans s2) d2⟩
  | false => exact iteF ⟨Z1, e1, d, env', r1, h, fun v Z2 H2 r2 s2 d2 => q v Z2 H2 r2 (s1.trans s2) d2⟩

/-! ### argument lists, displays -/
def fNil (env : DEnv) : Option (List PyData × DEnv) := some ([], env)
def fCons (f : DEnv → Option (PyData × DEnv)) (fa : DEnv → Option (List PyData × DEnv)) (env : DEnv) : Option (List PyData × DEnv) := (f env).bind fun x => (fa x.2).map fun y => (x.1 :: y.1, y.2)
theorem pda_nil : PDA X F [] fNil := pa_imp pa_nil fun σ H Q h => by
  obtain ⟨Z, env, d, env', r, e, q⟩ := h
  cases e
  exact q [] Z H r Stp.refl .nil
theorem pda_cons (ha : PD X F e f) (hr : PDA X F es fa) (hs : starEach (e :: es) X.env = (false, eval e X.env) :: starEach es X.env := by rfl) : PDA X F (e :: es) (fCons f fa) := pa_imp (pa_cons ha hr hs) fun σ H Q h => by
  obtain ⟨Z, env, d, env', r, e, q⟩ := h
  obtain ⟨⟨x, e1⟩, h1, h⟩ := bnd e
  obtain ⟨⟨y, e2⟩, h2, h⟩ := mpd h
  cases h
  exact ⟨Z, env, x, e1, r, h1, fun v Z1 H1 r1 s1 d1 => ⟨Z1, e1, y, e2, r1, h2, fun vs Z2 H2 r2 s2 d2 => q (v :: vs) Z2 H2 r2 (s1.trans s2) (.cons (DDm d1 s2.z) d2)⟩⟩
def fTup (fa : DEnv → Option (List PyData × DEnv)) (env : DEnv) : Option (PyData × DEnv) := (fa env).bind fun x => if x.1.length ≤ lim then some (.tuple x.1, x.2) else none
theorem pd_tup {x1} (h : PDA X F es fa) : PD X F (.Tuple es x1 pos) (fTup fa) := pe_imp (pe_tup h) fun σ H Q h => by
  obtain ⟨Z, env, d, env', r, e, q⟩ := h
  obtain ⟨⟨x, e1⟩, h1, h⟩ := bnd e
  dsimp only at h
  split at h
  · rename_i hx
    cases h
    refine ⟨Z, env, x, env', r, h1, fun vs Z1 H1 r1 s1 d1 => ⟨?_, fun p hp => ?_⟩⟩
    · rw [dds_len d1]; exact Nat.le_trans hx lim_le
    · have gr := grow_new r1.zh hp (.tup vs)
      exact q (.ref p) _ _ (r1.grow gr) (s1.trans gr.stp) (new_tup r1.zh hp d1)
  · cases h
def fLst (fa : DEnv → Option (List PyData × DEnv)) (env : DEnv) : Option (List PyData × DEnv) := (fa env).bind fun x => if x.1.length ≤ lim then some x else none
/-- a list laid anew, not frozen -/
theorem grow_own {Z H : Hp} (s : Same Z H) {p : Addr} (h : H p = none) (o : HO) : Grow Z H Z (upd H p o) :=
  ⟨Same.refl Z, s.trans (.of (same_new h o)), .of (same_new h o), fun t => t.ext (same_new h o), fun _ z => .inl z⟩
theorem pn_lst (h : PDA X F es fa) : PN X F (.List es pos) (fLst fa) := pe_imp (pe_lst h) fun σ H Q h => by
  obtain ⟨Z, env, d, env', r, e, q⟩ := h
  obtain ⟨⟨x, e1⟩, h1, h⟩ := bnd e
  dsimp only at h
  split at h
  · rename_i hx
    cases h
    refine ⟨Z, env, d, env', r, h1, fun vs Z1 H1 r1 s1 d1 => ⟨?_, fun p hp => ?_⟩⟩
    · rw [dds_len d1]; exact Nat.le_trans hx lim_le
    · have gr := grow_own r1.zh hp (.lst vs)
      exact q p vs _ _ (r1.grow gr) (s1.trans gr.stp) (s1.new hp) (r1.zh.free hp) upd_same d1
  · cases h
def fFrz (fa : DEnv → Option (List PyData × DEnv)) (env : DEnv) : Option (PyData × DEnv) := (fa env).map fun x => (.list x.1, x.2)
theorem pn_pd (h : PN X F e fa) : PD X F e (fFrz fa) := pe_imp h fun σ H Q h => by
  obtain ⟨Z, env, d, env', r, e, q⟩ := h
  obtain ⟨⟨x, e1⟩, h1, h⟩ := mpd e
  simp only [Prod.mk.injEq] at h
  obtain ⟨rfl, rfl⟩ := h
  refine ⟨Z, env, x, e1, r, h1, fun p xs Z1 H1 r1 s1 hp hz hh dd => ?_⟩
  obtain ⟨a, b, c⟩ := Rel.frzT r r1 s1 hp hz hh dd
  exact q _ _ _ a b c

/-! ### built-in functions -/
def rCD (K : PySem.W.Frag) (o : List PyData → Option PyData) : List V → Hp → VK → Prop := fun vs H Q => ∃ Z ds d, Same Z H ∧ DDs K Z vs ds ∧ o ds = some d ∧ ∀ v Z' H', Grow Z H Z' H' → DD K Z' v d → Q v H'
def CallD (X : Cx) (fn : Value) (o : List PyData → Option PyData) : Prop := CallR X fn (rCD X.K o)
def fCB (o : List PyData → Option PyData) (fa : DEnv → Option (List PyData × DEnv)) (env : DEnv) : Option (PyData × DEnv) := (fa env).bind fun x => (o x.1).map fun d => (d, x.2)
theorem cb_read {K : PySem.W.Frag} {o : List PyData → Option PyData} {σ : St} {H : Hp} {Q : VK} (h : tD K F (fCB o fa) σ H Q) : tCB (rCD K o) (tDA K F fa) σ H Q := by
  obtain ⟨Z, env, d, env', r, e, q⟩ := h
  obtain ⟨⟨x, e1⟩, h1, h⟩ := bnd e
  obtain ⟨d', h2, h⟩ := mpd h
  cases h
  exact ⟨Z, env, x, e1, r, h1, fun vs Z1 H1 r1 s1 d1 => ⟨Z1, x, d, r1.zh, d1, h2, fun v Z' H' gr dd => q v Z' H' (r1.grow gr) (s1.trans gr.stp) dd⟩⟩
variable {x : Str} {id T : String}
theorem pd_callB {o : List PyData → Option PyData} (hc : CallD X (.builtin id) o) (hm : X.mg x = none) (hv : bootBuiltins x = some (.builtin id)) (ha : PDA X F (e :: es) fa) (hg : Gl X x := by rfl) (hn : x ≠ "__name__" := by decide) (hdb : (x == ("__debug__" : Str)) = false := by decide)
    (he : starEach (e :: es) X.env = (false, eval e X.env) :: starEach es X.env := by rfl) (hpl : (backTo pos (starEach es X.env)).any (·.1) = false := by rfl) : PD X F (.Call (.Name x p) (e :: es) [] pos) (fCB o fa) :=
  pe_imp (pe_callB hc hg hm hv ha hn hdb he hpl) fun _ _ _ h => cb_read h
end
end DL
end L2


set_option Elab.async false
set_option maxRecDepth 100000
set_option maxHeartbeats 4000000
set_option autoImplicit false
namespace L2
namespace DL
open PySem PySem.Spec PyProof.Rows
variable [Lab]
/-! ### defs, called where no repr is under way -/
structure FnG (P : Program) (w : World) (K : PySem.W.Frag) (mg : Str → Option Value) (base : Heap) (k : Nat) (f : Addr) (fd : FuncData) (ps : List Str) (sp : Sp) : Prop where
  len : ∀ vs H Q E, sp vs H Q E → vs.length = ps.length
  run : ∀ (A : Around) (outer : List Env) (s : Shared) (H : Hp) (args : Args) (us : List Value) (vs : List V) (Q : VK) (E : XK),
    GdOk A → Room k A → Env0 P w K mg base A outer s H → BindsTo s fd args (ps.zip us) → Vals vs us → sp vs H Q E →
    codeAny (model P w) A (.call (.ref f) args) (CR CX0 outer P w H s Q E) s
theorem FnG.mono {P : Program} {w : World} {K : PySem.W.Frag} {mg : Str → Option Value} {base : Heap} {j k : Nat} {f : Addr} {fd : FuncData} {ps : List Str} {sp : Sp}
    (G : FnG P w K mg base j f fd ps sp) (h : j ≤ k) : FnG P w K mg base k f fd ps sp :=
  ⟨G.len, fun A outer s H args us vs Q E hg hr => G.run A outer s H args us vs Q E hg (hr.mono h)⟩
section
variable {P : Program} {w : World} {K : PySem.W.Frag} {mg : Str → Option Value} {base : Heap}
theorem fng_of {x qual : Str} {st : Stmt} {f : Addr} {fd : FuncData} {N ps : List Str} {k : Nat} {sp : Sp} (D : Fun K x qual st f fd) (S : FnScope N ps (defScope st)) (len : ∀ vs H Q E, sp vs H Q E → vs.length = ps.length)
    (hbody : ∀ (cdv : Value) (A : Around) (outer : List Env) (s : Shared) (H : Hp) (vs : List V) (Q : VK) (E : XK), cdv = fd.code → GdOk A →
      Room k (A.deeper (envOfC qual (defScope st) s.heap.objs.size f cdv)) → sp vs H Q E →
      ∃ t, PSs (cxOf CX0 P w K mg base N qual (defScope st) f cdv A outer s H E).nox (defBody st) t ∧ t { nx := fun _ H' => Q .non H', rt := Q } (start N vs) H) :
    FnG P w K mg base (k + 1) f fd ps sp := by
  obtain ⟨oc, od, kV, doc, pm, an, cdv, ct, osl, rfl, lk, hcd⟩ := D.ex
  refine ⟨len, fun A outer s H args us vs Q E hgd hr e0 hb rv hsp => ?_⟩
  have sl := len vs H Q E hsp
  have kin : K.In s.heap := e0.mod.kin.keeps fun b o q => (e0.bs b o q).1
  have nol : s.heap.NoLimit := e0.mod.nolimit.keeps fun b o q => (e0.bs b o q).1
  have kinds : ∀ y ∈ ps.zip us, (defScope st).names.lookup y.1 = some .local ∨
      ((defScope st).names.lookup y.1 = some .cell ∧ ((cellsFrom (s.heap.objs.size + 1) (defScope st).names []).lookup y.1).isSome = true) := by
    rintro ⟨n, z⟩ hy
    rcases S.par n (List.of_mem_zip hy).1 with e | e
    · exact .inl e
    · exact .inr ⟨e, PySem.W.cellsFrom_some _ _ _ (.inl e)⟩
  refine codeAny_call_function hr.depth (kin _ _ lk) rfl S.co S.gen rfl (PySem.W.codeRec_of kin hcd) (hb _ _ _ _ (wpAny_newFunctionEnv_cells S.kind kinds fun env he s1 x1 => ?_))
  subst he
  obtain ⟨t, ht, hq⟩ := hbody cdv A outer s H vs Q E rfl hgd (hr.deeper _) hsp
  have J0 : Inv (cxOf CX0 P w K mg base N qual (defScope st) f cdv A outer s H E) [] (start N vs) H s1 := inv_start S hr.hd e0 sl rv x1
  refine ⟨nol.keeps x1.toInCall.keep, codeAny_func (wpAny_mono (ht.nox.run [] s1 (start N vs) H _ J0 hq) (fun fl s' hs => ?_) fun e s' hs => hs)⟩
  cases fl with
  | ret u => obtain ⟨v, s2, H', J, r1, q⟩ := hs; exact ⟨v, H', J.os, J.bare, J.base, J.hok, r1, q⟩
  | next => obtain ⟨s2, H', J, q⟩ := hs; exact ⟨V.non, H', J.os, J.bare, J.base, J.hok, rfl, q⟩
  | brk => obtain ⟨_, _, _, q⟩ := hs; cases q
  | cont => obtain ⟨_, _, _, q⟩ := hs; cases q
end
section
variable {X : Cx} {F : Fm} {k : Nat} {f : Addr} {fd : FuncData} {ps ks : List Str} {sp : Sp} {x : Str} {p pos : Pos} {e : Expr} {es : List Expr} {t tk : TA} {kws : List Keyword}
theorem run_g {pins : List (Addr × Obj)} {σ : St} {H : Hp} {s : Shared} {Q : VK} {args : Args} {us : List Value} {vs : List V} (G : FnG X.prog X.w X.K X.mg X.base k f fd ps sp) (hg : GdOk X.A) (hr : Room k X.A)
    (hb : BindsTo s fd args (ps.zip us)) (I : Inv X pins σ H s) (rv : Vals vs us) (h : sp vs H Q E0) : wpAny (model X.prog X.w) X.A (call (.ref f) args.pos args.kw) (EP X pins σ Q) X.xe s := by
  refine wpAny_call (codeAny_mono (G.run X.A X.stack s H args us vs Q E0 hg hr I.env0 hb rv h) fun r s' hq => ?_)
  cases r with
  | error z => exact False.elim hq
  | ok fl =>
    cases fl with
    | ret u => exact I.after hq
    | next => cases hq
    | brk => cases hq
    | cont => cases hq
theorem pe_gcall (G : FnG X.prog X.w X.K X.mg X.base k f fd ps sp) (hgd : GdOk X.A) (hr : Room k X.A) (hm : X.mg x = some (.ref f)) (hk : PySem.W.keepIn X.K (.ref f) = true) (hb : Binds X.K fd ps [])
    (ha : PA X (e :: es) t) (hg : Gl X x := by rfl) (hdb : (x == ("__debug__" : Str)) = false := by decide)
    (he : starEach (e :: es) X.env = (false, eval e X.env) :: starEach es X.env := by rfl) (hpl : (backTo pos (starEach es X.env)).any (·.1) = false := by rfl) :
    PE X (.Call (.Name x p) (e :: es) [] pos) (fun σ H Q => t σ H fun vs H1 => sp vs H1 Q E0) := by
  refine ⟨fun pins s σ H Q I h => wpAny_Call_Name_kw (ld_glob I hg hm (PySem.W.callWith_K (h₀ := X.base) I.ok.mod.kin hk (thn (ha.run pos pins s σ H _ I h) ?_) he hpl) hdb)⟩
  rintro us s1 ⟨vs, H1, I1, rv, q⟩
  have hl : us.length = ps.length := by rw [← rv.length]; exact G.len _ _ _ _ q
  refine ⟨I1.kIn, run_g (args := ⟨us, []⟩) (us := us) G hgd hr ?_ I1 rv q⟩
  have := hb s1 us I1.kIn (by rw [List.append_nil]; exact hl)
  rw [List.append_nil] at this
  exact this
variable {g : List Value → List Value → List Value} {gV : List V → List V → List V}
variable {gU : List Value → List Value} {gW : List V → List V}
end

/-! ### the promises -/
def spF (K : PySem.W.Frag) (n : Nat) (m : List PyData → Option PyData) : Sp := fun vs H Q _ => vs.length = n ∧ ∃ Z ds r, Same Z H ∧ TB H ∧ DDs K Z vs ds ∧ m ds = some r ∧ ∀ v Z' H', Grow Z H Z' H' → DD K Z' v r → Q v H'
def spN (K : PySem.W.Frag) (n : Nat) (m : List PyData → Option (List PyData)) : Sp := fun vs H Q _ => vs.length = n ∧ ∃ Z ds r, Same Z H ∧ TB H ∧ DDs K Z vs ds ∧ m ds = some r ∧ ∀ p xs Z' H', Grow Z H Z' H' → H p = none → Z' p = none → H' p = some (.lst xs) → DDs K Z' xs r → Q (.ref p) H'
def spR (K : PySem.W.Frag) (n : Nat) (m : List PyData → List PyData → Option (PyData × List PyData)) : Sp := fun vs H Q _ => vs.length = n ∧ ∃ Z p ws xs es ds r es', vs = .ref p :: ws ∧ Same Z H ∧ TB H ∧ Z p = none ∧ H p = some (.lst xs) ∧ DDs K Z xs es ∧ DDs K Z ws ds ∧ m es ds = some (r, es') ∧
  ∀ v xs' Z' H', Pok Z H p Z' H' → H' p = some (.lst xs') → DDs K Z' xs' es' → DD K Z' v r → Q v H'
section
variable {X : Cx} {F : Fm} {k n : Nat} {f : Addr} {fd : FuncData} {ps ks : List Str} {x : Str} {p pos : Pos} {e : Expr} {es : List Expr} {kws : List Keyword} {fa fk : DEnv → Option (List PyData × DEnv)}
theorem f_read {m : List PyData → Option PyData} {K : PySem.W.Frag} {σ : St} {H : Hp} {Q : VK} (hn : ∀ ds r, m ds = some r → ds.length = n) (h : tD K F (fCB m fa) σ H Q) : tDA K F fa σ H fun vs H1 => spF K n m vs H1 Q E0 := by
  obtain ⟨Z, env, d, env', r, e, q⟩ := h
  obtain ⟨⟨x, e1⟩, h1, h⟩ := bnd e
  obtain ⟨d', h2, h⟩ := mpd h
  cases h
  exact ⟨Z, env, x, e1, r, h1, fun vs Z1 H1 r1 s1 d1 => ⟨(dds_len d1).trans (hn _ _ h2), Z1, x, d, r1.zh, r1.tb, d1, h2, fun v Z' H' gr dd => q v Z' H' (r1.grow gr) (s1.trans gr.stp) dd⟩⟩
theorem pd_call {m : List PyData → Option PyData} (G : FnG X.prog X.w X.K X.mg X.base k f fd ps (spF X.K n m)) (hn : ∀ ds r, m ds = some r → ds.length = n) (hgd : GdOk X.A) (hr : Room k X.A) (hm : X.mg x = some (.ref f)) (hk : PySem.W.keepIn X.K (.ref f) = true) (hb : Binds X.K fd ps [])
    (ha : PDA X F (e :: es) fa) (hg : Gl X x := by rfl) (hdb : (x == ("__debug__" : Str)) = false := by decide)
    (he : starEach (e :: es) X.env = (false, eval e X.env) :: starEach es X.env := by rfl) (hpl : (backTo pos (starEach es X.env)).any (·.1) = false := by rfl) :
    PD X F (.Call (.Name x p) (e :: es) [] pos) (fCB m fa) :=
  pe_imp (pe_gcall G hgd hr hm hk hb ha hg hdb he hpl) fun _ _ _ h => f_read hn h
def PDK (X : Cx) (F : Fm) (kws : List Keyword) (f : DEnv → Option (List PyData × DEnv)) : Prop := PK X kws (tDA X.K F f)
theorem pk_imp {X : Cx} {es : List Keyword} {t t' : TA} (h : PK X es t) (w : ∀ σ H Q, t' σ H Q → t σ H Q) : PK X es t' := ⟨fun pos pins s σ H Q I q => h.run pos pins s σ H Q I (w σ H Q q)⟩
theorem pdk_nil : PDK X F [] fNil := pk_imp pk_nil fun σ H Q h => by
  obtain ⟨Z, env, d, env', r, e, q⟩ := h
  cases e
  exact q [] Z H r Stp.refl .nil
theorem pdk_cons {g : DEnv → Option (PyData × DEnv)} {nm : Option Str} {kpos : Pos} (ha : PD X F e g) (hr : PDK X F kws fk) : PDK X F (⟨nm, e, kpos⟩ :: kws) (fCons g fk) := pk_imp (pk_cons ha hr) fun σ H Q h => by
  obtain ⟨Z, env, d, env', r, e, q⟩ := h
  obtain ⟨⟨x, e1⟩, h1, h⟩ := bnd e
  obtain ⟨⟨y, e2⟩, h2, h⟩ := mpd h
  cases h
  exact ⟨Z, env, x, e1, r, h1, fun v Z1 H1 r1 s1 d1 => ⟨Z1, e1, y, e2, r1, h2, fun vs Z2 H2 r2 s2 d2 => q (v :: vs) Z2 H2 r2 (s1.trans s2) (.cons (DDm d1 s2.z) d2)⟩⟩
/-- a def that hands back a new list -/
def fCN (m : List PyData → Option (List PyData)) (fa : DEnv → Option (List PyData × DEnv)) (env : DEnv) : Option (List PyData × DEnv) := (fa env).bind fun x => (m x.1).map fun d => (d, x.2)
theorem pn_call {m : List PyData → Option (List PyData)} (G : FnG X.prog X.w X.K X.mg X.base k f fd ps (spN X.K n m)) (hn : ∀ ds r, m ds = some r → ds.length = n) (hgd : GdOk X.A) (hr : Room k X.A) (hm : X.mg x = some (.ref f)) (hk : PySem.W.keepIn X.K (.ref f) = true) (hb : Binds X.K fd ps [])
    (ha : PDA X F (e :: es) fa) (hg : Gl X x := by rfl) (hdb : (x == ("__debug__" : Str)) = false := by decide)
    (he : starEach (e :: es) X.env = (false, eval e X.env) :: starEach es X.env := by rfl) (hpl : (backTo pos (starEach es X.env)).any (·.1) = false := by rfl) :
    PN X F (.Call (.Name x p) (e :: es) [] pos) (fCN m fa) := pe_imp (pe_gcall G hgd hr hm hk hb ha hg hdb he hpl) fun σ H Q h => by
  obtain ⟨Z, env, d, env', r, e, q⟩ := h
  obtain ⟨⟨x, e1⟩, h1, h⟩ := bnd e
  obtain ⟨d', h2, h⟩ := mpd h
  cases h
  refine ⟨Z, env, x, e1, r, h1, fun vs Z1 H1 r1 s1 d1 => ⟨(dds_len d1).trans (hn _ _ h2), Z1, x, d, r1.zh, r1.tb, d1, h2, fun p xs Z' H' gr hp hz hh dd => ?_⟩⟩
  exact q p xs Z' H' (r1.grow gr) (s1.trans gr.stp) (s1.new hp) hz hh dd
end
end DL
end L2


set_option Elab.async false
set_option maxRecDepth 100000
set_option maxHeartbeats 4000000
set_option autoImplicit false
namespace L2
namespace DL
open PySem PySem.Spec PyProof.Rows
variable [Lab]
/-! ### an owned list changes -/
def rdO (j : Nat) (env : DEnv) : Option (List PyData) := match env[j]? with
  | some (some (.ow ds)) => some ds
  | some (some (.rf ds)) => some ds
  | _ => none
def wrO (j : Nat) (ds : List PyData) (env : DEnv) : DEnv := match env[j]? with
  | some (some (.ow _)) => env.set j (some (.ow ds))
  | some (some (.rf _)) => env.set j (some (.rf ds))
  | _ => env
theorem Pok.keepn {Z H Z' H' : Hp} {p : Addr} (g : Pok Z H p Z' H') {q : Addr} (hz : Z q = none) (hq : H q ≠ none) : Z' q = none := by
  cases hh : Z' q with
  | none => rfl
  | some o =>
    rcases g.n q (by rw [hh]; simp) with h | h
    · exact absurd hz h
    · exact absurd h hq
theorem Pok.keep {Z H Z' H' : Hp} {p : Addr} (g : Pok Z H p Z' H') (hp : H' p ≠ none) {q : Addr} (hq : H q ≠ none) : H' q ≠ none := by
  by_cases e : q = p
  · subst e; exact hp
  · exact g.k q e hq
theorem Pok.grow {Z H Z' H' Z2 H2 : Hp} {p : Addr} (g : Pok Z H p Z' H') (hp : H' p ≠ none) (r : Grow Z' H' Z2 H2) : Pok Z H p Z2 H2 := by
  refine ⟨g.z.trans r.z, r.zh, fun q o e h n => r.h.h q o (g.h q o e h n) n, fun q e h => r.h.k q (g.k q e h), fun t => r.t (g.t t), fun q h => ?_⟩
  rcases r.n q h with h | h
  · exact g.n q h
  · exact .inr (Classical.byContradiction fun z => g.keep hp z h)
theorem Rel.poke0 {K : PySem.W.Frag} {F : Fm} {Z H Z' H' : Hp} {σ : St} {env : DEnv} {p : Addr} (r : Rel K F Z H σ env) (f : Fre σ env p) (ng : F.G p = none) (np : ¬ F.P p) (g : Pok Z H p Z' H') (hp : H' p ≠ none) : Rel K F Z' H' σ env := by
  refine ⟨r.z0.trans g.z, g.zh, ⟨fun q o e n => g.h q o (fun z => by subst z; rw [ng] at e; cases e) (r.gh.h q o e n) n, fun q e => g.keep hp (r.gh.k q e)⟩, fun q h => ?_, fun q hq => ?_, r.len, fun i dv e => ?_, r.inj, g.t r.tb⟩
  · rcases g.n q h with h | h
    · exact r.nw q h
    · exact .inr ⟨r.gh.free h, fun z => (r.pp q z).1 h⟩
  · obtain ⟨a, b, c⟩ := r.pp q hq
    exact ⟨g.keep hp a, g.keepn b a, c⟩
  · have s := r.sl i dv e
    cases dv with
    | fr d => obtain ⟨v, a, b⟩ := s; exact ⟨v, a, DDm b g.z⟩
    | ow ds =>
      obtain ⟨p', xs, e1, e2, e3, e4, e5, e6⟩ := s
      have hne : p' ≠ p := fun z => f i _ e rfl (z ▸ e1)
      exact ⟨p', xs, e1, e2, e3, g.keepn e4 (by rw [e5]; simp), g.h _ _ hne e5 nt_lst, DDsm e6 g.z⟩
    | rf ds =>
      obtain ⟨p', xs, e1, e2, e5, e6⟩ := s
      have hne : p' ≠ p := fun z => f i _ e rfl (z ▸ e1)
      exact ⟨p', xs, e1, e2, g.h _ _ hne e5 nt_lst, DDsm e6 g.z⟩
    | dk ds =>
      obtain ⟨p', o', xs, e1, e2, e3, e4, e5, e6, e7⟩ := s
      have hne : p' ≠ p := fun z => f i _ e rfl (z ▸ e1)
      exact ⟨p', o', xs, e1, e2, e3, g.keepn e4 (by rw [e5]; simp), g.h _ _ hne e5 nt_exo, e6, ddk_mono g.z _ _ e7⟩
theorem Rel.poke {K : PySem.W.Frag} {F : Fm} {Z H : Hp} {σ : St} {env : DEnv} {j : Nat} {es : List PyData} (r : Rel K F Z H σ env) (e : rdO j env = some es) :
    ∃ p xs, σ[j]? = some (some (V.ref p)) ∧ Z p = none ∧ H p = some (.lst xs) ∧ DDs K Z xs es ∧
      ∀ Z' H' xs' es', Pok Z H p Z' H' → H' p = some (.lst xs') → DDs K Z' xs' es' → Rel K F Z' H' σ (wrO j es' env) ∧ Stp σ env Z H (wrO j es' env) Z' H' := by
  have key : ∀ (c : List PyData → DV), (∀ ds, ownish (c ds) = true) → env[j]? = some (some (c es)) → (∀ ds, wrO j ds env = env.set j (some (c ds))) →
      ∀ p xs, σ[j]? = some (some (V.ref p)) → Z p = none → F.G p = none → H p = some (.lst xs) →
      (∀ Z' H' xs' es', Pok Z H p Z' H' → H' p = some (.lst xs') → DDs K Z' xs' es' → SlotOk K F Z' H' σ j (c es')) →
      ∀ Z' H' xs' es', Pok Z H p Z' H' → H' p = some (.lst xs') → DDs K Z' xs' es' → Rel K F Z' H' σ (wrO j es' env) ∧ Stp σ env Z H (wrO j es' env) Z' H' := by
    intro c hc ej hw p xs sj zp gp hp slot Z' H' xs' es' g hp' hd
    have hpn : H' p ≠ none := by rw [hp']; simp
    rw [hw]
    refine ⟨⟨r.z0.trans g.z, g.zh, ⟨fun q o e n => g.h q o (fun z => by subst z; rw [gp] at e; cases e) (r.gh.h q o e n) n, fun q e => g.keep hpn (r.gh.k q e)⟩, fun q h => ?_, fun q hq => ?_, by rw [List.length_set]; exact r.len, fun i dv ei => ?_, fun i k di dk q ei ek oi ok si sk => ?_, g.t r.tb⟩, ⟨g.z, fun q o hq n f => ?_, fun q h1 h2 h3 f => ?_, fun i dv ei oi => ?_, fun q hq => g.keep hpn hq⟩⟩
    · rcases g.n q h with h | h
      · exact r.nw q h
      · exact .inr ⟨r.gh.free h, fun z => (r.pp q z).1 h⟩
    · obtain ⟨a, b, d⟩ := r.pp q hq
      exact ⟨g.keep hpn a, g.keepn b a, d⟩
    · rcases get_set_some ei with ⟨rfl, ex⟩ | ⟨hne, ex⟩
      · cases ex
        exact slot Z' H' xs' es' g hp' hd
      · have s := r.sl i dv ex
        cases dv with
        | fr d => obtain ⟨v, a, b⟩ := s; exact ⟨v, a, DDm b g.z⟩
        | ow ds =>
          obtain ⟨p', ys, e1, e2, e3, e4, e5, e6⟩ := s
          have hn2 : p' ≠ p := fun z => hne (r.inj i j _ _ p ex ej rfl (hc _) (z ▸ e1) sj)
          exact ⟨p', ys, e1, e2, e3, g.keepn e4 (by rw [e5]; simp), g.h _ _ hn2 e5 nt_lst, DDsm e6 g.z⟩
        | rf ds =>
          obtain ⟨p', ys, e1, e2, e5, e6⟩ := s
          have hn2 : p' ≠ p := fun z => hne (r.inj i j _ _ p ex ej rfl (hc _) (z ▸ e1) sj)
          exact ⟨p', ys, e1, e2, g.h _ _ hn2 e5 nt_lst, DDsm e6 g.z⟩
        | dk ds =>
          obtain ⟨p', o', ys, e1, e2, e3, e4, e5, e6, e7⟩ := s
          have hn2 : p' ≠ p := fun z => hne (r.inj i j _ _ p ex ej rfl (hc _) (z ▸ e1) sj)
          exact ⟨p', o', ys, e1, e2, e3, g.keepn e4 (by rw [e5]; simp), g.h _ _ hn2 e5 nt_exo, e6, ddk_mono g.z _ _ e7⟩
    · have old : ∀ (i : Nat) (dv : DV), (env.set j (some (c es')))[i]? = some (some dv) → ownish dv = true → ∃ d0, env[i]? = some (some d0) ∧ ownish d0 = true := fun i dv ei oi => by
        rcases get_set_some ei with ⟨rfl, ex⟩ | ⟨hne, ex⟩
        · exact ⟨_, ej, hc _⟩
        · exact ⟨dv, ex, oi⟩
      obtain ⟨d1, a1, b1⟩ := old i di ei oi
      obtain ⟨d2, a2, b2⟩ := old k dk ek ok
      exact r.inj i k d1 d2 q a1 a2 b1 b2 si sk
    · exact g.h q o (fun z => f j _ ej (hc _) (by rw [z]; exact sj)) hq n
    · rcases g.n q h1 with h | h
      · exact h h2
      · exact h3 h
    · rcases get_set_some ei with ⟨rfl, ex⟩ | ⟨hne, ex⟩
      · exact ⟨_, ej, hc _⟩
      · exact ⟨dv, ex, oi⟩
  unfold rdO at e
  split at e
  · rename_i ds ej
    cases e
    obtain ⟨p, xs, e1, e2, e3, e4, e5, e6⟩ := r.sl j _ ej
    exact ⟨p, xs, e1, e4, e5, e6, key .ow (fun _ => rfl) ej (fun ds => by unfold wrO; rw [ej]) p xs e1 e4 e3 e5 fun Z' H' xs' es' g hp' hd => ⟨p, xs', e1, e2, e3, g.keepn e4 (by rw [e5]; simp), hp', hd⟩⟩
  · rename_i ds ej
    cases e
    obtain ⟨p, xs, e1, e2, e5, e6⟩ := r.sl j _ ej
    obtain ⟨a, b, d⟩ := r.pp p e2
    exact ⟨p, xs, e1, b, e5, e6, key .rf (fun _ => rfl) ej (fun ds => by unfold wrO; rw [ej]) p xs e1 b d e5 fun Z' H' xs' es' g hp' hd => ⟨p, xs', e1, e2, hp', hd⟩⟩
  · cases e
/-- a plain write -/
theorem pok_upd {Z H : Hp} (s : Same Z H) {p : Addr} (hz : Z p = none) {xs : List V} (hp : H p = some (.lst xs)) (o : HO) : Pok Z H p Z (upd H p o) :=
  ⟨Same.refl Z, ⟨fun b x e n => by rw [upd_ne (ne_of_none e hz)]; exact s.h b x e n, fun b e => by
    by_cases hb : b = p
    · subst hb; rw [upd_same]; simp
    · rw [upd_ne hb]; exact s.k b e⟩, fun q o' hq e _ => by rw [upd_ne hq]; exact e, fun q hq e => by rw [upd_ne hq]; exact e, fun t => t.ne hp o, fun _ h => .inl h⟩
section
variable {X : Cx} {F : Fm} {k n j : Nat} {f : Addr} {fd : FuncData} {ps ks : List Str} {x y : Str} {p pos pn : Pos} {e : Expr} {es : List Expr} {fa : DEnv → Option (List PyData × DEnv)}
def fCR (j : Nat) (m : List PyData → List PyData → Option (PyData × List PyData)) (fa : DEnv → Option (List PyData × DEnv)) (env : DEnv) : Option (PyData × DEnv) :=
  (rdO j env).bind fun _ => (fa env).bind fun x => (rdO j x.2).bind fun es => (m es x.1).map fun r => (r.1, wrO j r.2 x.2)
theorem pd_callR (j : Nat) {m : List PyData → List PyData → Option (PyData × List PyData)} (G : FnG X.prog X.w X.K X.mg X.base k f fd ps (spR X.K n m)) (hn : ∀ es ds r, m es ds = some r → ds.length + 1 = n) (hgd : GdOk X.A) (hr : Room k X.A) (hm : X.mg x = some (.ref f)) (hk : PySem.W.keepIn X.K (.ref f) = true) (hb : Binds X.K fd ps [])
    (ha : PDA X F es fa) (hN : X.N[j]? = some y := by rfl) (hv : Vis X.env.scope y := by first | exact Or.inl rfl | exact Or.inr (Or.inl rfl) | exact Or.inr (Or.inr rfl)) (hd : (y == ("__debug__" : Str)) = false := by decide)
    (hcd : (y == ("__classdict__" : Str)) = false := by decide) (hg : Gl X x := by rfl) (hdb : (x == ("__debug__" : Str)) = false := by decide)
    (he : starEach (.Name y pn :: es) X.env = (false, eval (.Name y pn) X.env) :: starEach es X.env := by rfl) (hpl : (backTo pos (starEach es X.env)).any (·.1) = false := by rfl) :
    PD X F (.Call (.Name x p) (.Name y pn :: es) [] pos) (fCR j m fa) :=
  pe_imp (pe_gcall G hgd hr hm hk hb (pa_cons (pe_var hN hv hd hcd) ha he) hg hdb he hpl) fun σ H Q h => by
    obtain ⟨Z, env, d, env', r, e, q⟩ := h
    obtain ⟨z0, h0, e⟩ := bnd e
    obtain ⟨⟨x, e1⟩, h1, h⟩ := bnd e
    obtain ⟨zs, h2, h⟩ := bnd h
    obtain ⟨⟨r0, r1⟩, h3, h⟩ := mpd h
    cases h
    obtain ⟨p, xs, sj, _, _, _, _⟩ := r.poke h0
    refine ⟨.ref p, sj, Z, env, x, e1, r, h1, fun vs Z1 H1 r1 s1 d1 => ?_⟩
    obtain ⟨p', xs', sj', zp, hp, dp, fin⟩ := r1.poke h2
    rw [sj] at sj'
    cases sj'
    refine ⟨?_, Z1, p, vs, xs', zs, x, _, _, rfl, r1.zh, r1.tb, zp, hp, dp, d1, h3, fun v ys Z' H' pk a5 a6 a7 => ?_⟩
    · rw [List.length_cons, dds_len d1]; exact hn _ _ _ h3
    · obtain ⟨b1, b2⟩ := fin Z' H' ys _ pk a5 a6
      exact q v Z' H' b1 (s1.trans b2) a7
/-- the argument a list made for the call -/
def fCRT (m : List PyData → List PyData → Option (PyData × List PyData)) (fa : DEnv → Option (List PyData × DEnv)) (env : DEnv) : Option (PyData × DEnv) :=
  (fa env).bind fun x => (m x.1 []).map fun r => (r.1, x.2)
theorem pd_callRT {m : List PyData → List PyData → Option (PyData × List PyData)} (G : FnG X.prog X.w X.K X.mg X.base k f fd ps (spR X.K n m)) (hn : ∀ es ds r, m es ds = some r → ds.length + 1 = n) (hgd : GdOk X.A) (hr : Room k X.A) (hm : X.mg x = some (.ref f)) (hk : PySem.W.keepIn X.K (.ref f) = true) (hb : Binds X.K fd ps [])
    (ha : PN X F e fa) (hg : Gl X x := by rfl) (hdb : (x == ("__debug__" : Str)) = false := by decide)
    (he : starEach [e] X.env = (false, eval e X.env) :: starEach [] X.env := by rfl) (hpl : (backTo pos (starEach [] X.env)).any (·.1) = false := by rfl) :
    PD X F (.Call (.Name x p) [e] [] pos) (fCRT m fa) :=
  pe_imp (pe_gcall G hgd hr hm hk hb (pa_cons ha pa_nil he) hg hdb he hpl) fun σ H Q h => by
    obtain ⟨Z, env, d, env', r, e, q⟩ := h
    obtain ⟨⟨x, e1⟩, h1, h⟩ := bnd e
    obtain ⟨⟨r0, r1⟩, h3, h⟩ := mpd h
    cases h
    refine ⟨Z, env, x, e1, r, h1, fun p xs Z1 H1 r1 s1 h0 hz hp dp => ⟨?_, Z1, p, [], xs, x, [], _, _, rfl, r1.zh, r1.tb, hz, hp, dp, .nil, h3, fun v ys Z' H' g a5 a6 a7 => ?_⟩⟩
    · exact hn _ _ _ h3
    · have hpn : H' p ≠ none := by rw [a5]; simp
      have fr0 : Fre σ env p := fun i dv e o hh => by
        have sl := r.sl i dv e
        cases dv with
        | fr d => cases o
        | ow es => obtain ⟨p', xs', a1, _, _, _, a5, _⟩ := sl; rw [hh] at a1; cases a1; rw [h0] at a5; cases a5
        | rf es => obtain ⟨p', xs', a1, _, a5, _⟩ := sl; rw [hh] at a1; cases a1; rw [h0] at a5; cases a5
        | dk es => obtain ⟨p', o', xs', a1, _, _, _, a5, _⟩ := sl; rw [hh] at a1; cases a1; rw [h0] at a5; cases a5
      have rr := r1.poke0 (s1.fre fr0) (r.gh.free h0) (fun z => (r.pp p z).1 h0) g hpn
      refine q v Z' H' rr ⟨s1.z.trans g.z, fun q o hq n f => g.h q o (fun z => by subst z; rw [h0] at hq; cases hq) (s1.h q o hq n f) n, fun q b1 b2 b3 f => ?_, s1.o, fun q hq => g.keep hpn (s1.k q hq)⟩ a7
      rcases g.n q b1 with z | z
      · exact s1.n q z b2 b3 f
      · exact s1.k q b3 z

variable {g : DEnv → Option (PyData × DEnv)}
theorem own_ty {K : PySem.W.Frag} {H : Hp} {p : Addr} {xs : List V} (h : H p = some (.lst xs)) : tyV K "list" (.ref p) H := .inl ⟨rfl, _, SqL.of h⟩
end
end DL
end L2


set_option Elab.async false
set_option maxRecDepth 100000
set_option maxHeartbeats 4000000
set_option autoImplicit false
namespace L2
namespace DL
open PySem PySem.Spec PyProof.Rows
variable [Lab]
/-! ### stores -/
theorem set_get_some {σ : St} {i j : Nat} {x : Option V} {v : V} (h : (σ.set i x)[j]? = some (some v)) : (j = i ∧ x = some v) ∨ (j ≠ i ∧ σ[j]? = some (some v)) := by
  by_cases e : i = j
  · subst e
    by_cases hl : i < σ.length
    · rw [List.getElem?_set_self hl] at h
      exact .inl ⟨rfl, Option.some.inj h⟩
    · rw [List.getElem?_eq_none (by rw [List.length_set]; omega)] at h
      cases h
  · rw [List.getElem?_set_ne e] at h
    exact .inr ⟨fun z => e z.symm, h⟩
/-- the slot i is told anew: x and o fit -/
theorem Rel.put {K : PySem.W.Frag} {F : Fm} {Z H : Hp} {σ : St} {env : DEnv} (r : Rel K F Z H σ env) (i : Nat) (x : Option V) (o : Option DV)
    (ok : ∀ dv, o = some dv → i < σ.length → SlotOk K F Z H (σ.set i x) i dv) (fr : ∀ dv p, o = some dv → ownish dv = true → x = some (V.ref p) → Fre σ env p) : Rel K F Z H (σ.set i x) (env.set i o) := by
  have other : ∀ (j : Nat) (dv : DV), j ≠ i → env[j]? = some (some dv) → SlotOk K F Z H (σ.set i x) j dv := fun j dv hne e => by
    have s := r.sl j dv e
    have eq : (σ.set i x)[j]? = σ[j]? := List.getElem?_set_ne (fun z => hne z.symm)
    cases dv with
    | fr d => obtain ⟨v, a, b⟩ := s; exact ⟨v, eq.trans a, b⟩
    | ow ds => obtain ⟨p, xs, a, b⟩ := s; exact ⟨p, xs, eq.trans a, b⟩
    | rf ds => obtain ⟨p, xs, a, b⟩ := s; exact ⟨p, xs, eq.trans a, b⟩
    | dk ds => obtain ⟨p, o, xs, a, b⟩ := s; exact ⟨p, o, xs, eq.trans a, b⟩
  refine ⟨r.z0, r.zh, r.gh, r.nw, r.pp, by rw [List.length_set, List.length_set]; exact r.len, fun j dv e => ?_, fun j k dj dk p ej ek oj ok' sj sk => ?_, r.tb⟩
  · by_cases hl : i < σ.length
    · rcases get_set_some e with ⟨rfl, ex⟩ | ⟨hne, ex⟩
      · exact ok dv ex hl
      · exact other j dv hne ex
    · rcases get_set_some e with ⟨rfl, ex⟩ | ⟨hne, ex⟩
      · exfalso
        rw [List.getElem?_eq_none (by rw [List.length_set, r.len]; omega)] at e
        cases e
      · exact other j dv hne ex
  · rcases get_set_some ej with ⟨rfl, ex⟩ | ⟨hne, ex⟩
    · rcases get_set_some ek with ⟨rfl, ey⟩ | ⟨hne2, ey⟩
      · rfl
      · exfalso
        rcases set_get_some sj with ⟨_, sx⟩ | ⟨hh, _⟩
        · rcases set_get_some sk with ⟨hh, _⟩ | ⟨_, sy⟩
          · exact hne2 hh
          · exact fr dj p ex oj sx k dk ey ok' sy
        · exact hh rfl
    · rcases get_set_some ek with ⟨rfl, ey⟩ | ⟨hne2, ey⟩
      · exfalso
        rcases set_get_some sk with ⟨_, sx⟩ | ⟨hh, _⟩
        · rcases set_get_some sj with ⟨hh, _⟩ | ⟨_, sy⟩
          · exact hne hh
          · exact fr dk p ey ok' sx j dj ex oj sy
        · exact hh rfl
      · rw [List.getElem?_set_ne (fun z => hne z.symm)] at sj
        rw [List.getElem?_set_ne (fun z => hne2 z.symm)] at sk
        exact r.inj j k dj dk p ex ey oj ok' sj sk
theorem Rel.store {K : PySem.W.Frag} {F : Fm} {Z H : Hp} {σ : St} {env : DEnv} {v : V} {d : PyData} (r : Rel K F Z H σ env) (i : Nat) (hd : DD K Z v d) : Rel K F Z H (σ.set i (some v)) (env.set i (some (.fr d))) :=
  r.put i _ _ (fun dv e hl => by cases e; exact ⟨v, List.getElem?_set_self hl, hd⟩) (fun dv p e o _ => by cases e; cases o)
theorem Rel.drop {K : PySem.W.Frag} {F : Fm} {Z H : Hp} {σ : St} {env : DEnv} (r : Rel K F Z H σ env) (i : Nat) : Rel K F Z H (σ.set i none) (env.set i none) :=
  r.put i _ _ (fun dv e => by cases e) (fun dv p e => by cases e)
theorem Rel.storeN {K : PySem.W.Frag} {F : Fm} {Z H : Hp} {σ : St} {env : DEnv} {p : Addr} {xs : List V} {ds : List PyData} (r : Rel K F Z H σ env) (i : Nat) (f : Fre σ env p) (np : ¬ F.P p) (ng : F.G p = none) (hz : Z p = none) (hp : H p = some (.lst xs)) (hd : DDs K Z xs ds) :
    Rel K F Z H (σ.set i (some (.ref p))) (env.set i (some (.ow ds))) :=
  r.put i _ _ (fun dv e hl => by cases e; exact ⟨p, xs, List.getElem?_set_self hl, np, ng, hz, hp, hd⟩) (fun dv q e o ex => by cases ex; exact f)
/-- a list new since the start of an expression is no slot's -/
theorem fre_new {K : PySem.W.Frag} {F : Fm} {Z H : Hp} {σ : St} {env : DEnv} (r : Rel K F Z H σ env) {p : Addr} (h0 : H p = none) : Fre σ env p := fun i dv e o hh => by
  have sl := r.sl i dv e
  cases dv with
  | fr d => cases o
  | ow es => obtain ⟨p', xs', a1, _, _, _, a5, _⟩ := sl; rw [hh] at a1; cases a1; rw [h0] at a5; cases a5
  | rf es => obtain ⟨p', xs', a1, _, a5, _⟩ := sl; rw [hh] at a1; cases a1; rw [h0] at a5; cases a5
  | dk es => obtain ⟨p', o', xs', a1, _, _, _, a5, _⟩ := sl; rw [hh] at a1; cases a1; rw [h0] at a5; cases a5

/-! ### statements -/
inductive DFlow where
  | nx (env : DEnv) | rt (d : PyData) (env : DEnv) | rn (ds : List PyData) (env : DEnv) | bk (env : DEnv) | ct (env : DEnv) | ex (c a : Str) (d : PyData) (env : DEnv)
def Fini (K : PySem.W.Frag) (F : Fm) (Z : Hp) (D : Ends) : DFlow → Prop
  | .nx e => ∀ σ' Z' H', Rel K F Z' H' σ' e → Same Z Z' → D.nx σ' H'
  | .rt d e => ∀ v σ' Z' H', Rel K F Z' H' σ' e → Same Z Z' → DD K Z' v d → D.rt v H'
  | .rn ds e => ∀ p xs σ' Z' H', Rel K F Z' H' σ' e → Same Z Z' → Z' p = none → F.G p = none → ¬ F.P p → H' p = some (.lst xs) → DDs K Z' xs ds → D.rt (.ref p) H'
  | .bk e => ∀ σ' Z' H', Rel K F Z' H' σ' e → Same Z Z' → D.bk σ' H'
  | .ct e => ∀ σ' Z' H', Rel K F Z' H' σ' e → Same Z Z' → D.ct σ' H'
  | .ex c a d e => ∀ v p σ' Z' H', Rel K F Z' H' σ' e → Same Z Z' → Z' p = none → F.G p = none → ¬ F.P p → H' p = some (.xd [(a, v)]) → DD K Z' v d → F.W c (some p) σ' H'
theorem Fini.mono {K : PySem.W.Frag} {F : Fm} {Z Z1 : Hp} {D : Ends} {fl : DFlow} (h : Fini K F Z D fl) (s : Same Z Z1) : Fini K F Z1 D fl := by
  cases fl with
  | nx e => exact fun σ' Z' H' r z => h σ' Z' H' r (s.trans z)
  | rt d e => exact fun v σ' Z' H' r z => h v σ' Z' H' r (s.trans z)
  | rn d e => exact fun p xs σ' Z' H' r z => h p xs σ' Z' H' r (s.trans z)
  | bk e => exact fun σ' Z' H' r z => h σ' Z' H' r (s.trans z)
  | ct e => exact fun σ' Z' H' r z => h σ' Z' H' r (s.trans z)
  | ex c a d e => exact fun v p σ' Z' H' r z => h v p σ' Z' H' r (s.trans z)
def tDS (K : PySem.W.Frag) (F : Fm) (f : DEnv → Option DFlow) : TS := fun D σ H => ∃ Z env fl, Rel K F Z H σ env ∧ f env = some fl ∧ Fini K F Z D fl
def PDS (X : Cx) (F : Fm) (s : Stmt) (f : DEnv → Option DFlow) : Prop := PS X s (tDS X.K F f)
def PDSs (X : Cx) (F : Fm) (s : List Stmt) (f : DEnv → Option DFlow) : Prop := PSs X s (tDS X.K F f)
section
variable {X : Cx} {F : Fm} {a b c e tg iter : Expr} {es : List Expr} {s : Stmt} {ss s2 : List Stmt} {pos p pn : Pos} {x y : Str} {f g : DEnv → Option (PyData × DEnv)} {fa fn : DEnv → Option (List PyData × DEnv)} {ft : DEnv → Option (Bool × DEnv)} {h1 h2 : DEnv → Option DFlow}
def sNil (env : DEnv) : Option DFlow := some (.nx env)
def sSeq (f g : DEnv → Option DFlow) (env : DEnv) : Option DFlow := (f env).bind fun fl => match fl with
  | .nx e => g e
  | fl => some fl
theorem dss_nil : PDSs X F [] sNil := pss_imp pss_nil fun D σ H h => by
  obtain ⟨Z, env, fl, r, e, q⟩ := h
  cases e
  exact q σ Z H r (Same.refl Z)
theorem dss_cons (ha : PDS X F s h1) (hb : PDSs X F ss h2) : PDSs X F (s :: ss) (sSeq h1 h2) := pss_imp (pss_cons ha hb) fun D σ H h => by
  obtain ⟨Z, env, fl, r, e, q⟩ := h
  obtain ⟨f1, e1, e⟩ := bnd e
  refine ⟨Z, env, f1, r, e1, ?_⟩
  cases f1 with
  | nx e0 => exact fun σ' Z' H' r' s' => ⟨Z', e0, fl, r', e, q.mono s'⟩
  | rt d e0 => cases e; exact q
  | rn d e0 => cases e; exact q
  | bk e0 => cases e; exact q
  | ct e0 => cases e; exact q
  | ex c a d e0 => cases e; exact q
theorem dss_one (ha : PDS X F s h1) : PDSs X F [s] h1 := pss_one ha
def sRet (f : DEnv → Option (PyData × DEnv)) (env : DEnv) : Option DFlow := (f env).map fun x => .rt x.1 x.2
theorem ds_ret (ha : PD X F e f) : PDS X F (.Return (some e) pos) (sRet f) := ps_imp (ps_ret ha) fun D σ H h => by
  obtain ⟨Z, env, fl, r, e, q⟩ := h
  obtain ⟨⟨d, e1⟩, h1, h⟩ := mpd e
  subst h
  exact ⟨Z, env, d, e1, r, h1, fun v Z' H' r' s' dd => q v σ Z' H' r' s'.z dd⟩
def sRetN (f : DEnv → Option (List PyData × DEnv)) (env : DEnv) : Option DFlow := (f env).map fun x => .rn x.1 x.2
theorem ds_retN (ha : PN X F e fn) : PDS X F (.Return (some e) pos) (sRetN fn) := ps_imp (ps_ret ha) fun D σ H h => by
  obtain ⟨Z, env, fl, r, e, q⟩ := h
  obtain ⟨⟨d, e1⟩, h1, h⟩ := mpd e
  subst h
  exact ⟨Z, env, d, e1, r, h1, fun p xs Z' H' r' s' h0 hz hp dd => q p xs σ Z' H' r' s'.z hz (r.gh.free h0) (fun z => (r.pp p z).1 h0) hp dd⟩
def sIf (ft : DEnv → Option (Bool × DEnv)) (h1 h2 : DEnv → Option DFlow) (env : DEnv) : Option DFlow := (ft env).bind fun x => if x.1 then h1 x.2 else h2 x.2
theorem ds_if (hc : PDT X F c ft) (ha : PDSs X F ss h1) (hb : PDSs X F s2 h2) : PDS X F (.If c ss s2 pos) (sIf ft h1 h2) := ps_imp (ps_if hc ha hb) fun D σ H h => by
  obtain ⟨Z, env, fl, r, e, q⟩ := h
  obtain ⟨⟨k, e1⟩, h1, h⟩ := bnd e
  refine ⟨Z, env, k, e1, r, h1, fun Z1 H1 r1 s1 => ?_⟩
  cases k with
  | true => exact iteT ⟨Z1, e1, fl, r1, h, q.mono s1.z⟩
  | false => exact iteF ⟨Z1, e1, fl, r1, h, q.mono s1.z⟩
def sSet (i : Nat) (f : DEnv → Option (PyData × DEnv)) (env : DEnv) : Option DFlow := (f env).map fun x => .nx (x.2.set i (some (.fr x.1)))
theorem ds_set (i : Nat) {pos' : Pos} (ha : PD X F e f) (hN : X.N.Nodup) (hi : X.N[i]? = some x := by rfl) (hx : Loc X.env.scope x := by first | exact Or.inl rfl | exact Or.inr rfl) (hs : swapsWith e (some (.Name x pos')) pos.line X.env = pure false := by rfl)
    (hf : X.fn x = true ∨ X.env.scope.names.lookup x = some .local := by first | exact .inl rfl | exact .inr rfl | assumption) : PDS X F (.Assign [.Name x pos'] e pos) (sSet i f) := ps_imp (ps_set hN hi hx ha hs hf) fun D σ H h => by
  obtain ⟨Z, env, fl, r, e, q⟩ := h
  obtain ⟨⟨d, e1⟩, h1, h⟩ := mpd e
  subst h
  exact ⟨Z, env, d, e1, r, h1, fun v Z' H' r' s' dd => q _ Z' H' (r'.store i dd) s'.z⟩
def sSetN (i : Nat) (f : DEnv → Option (List PyData × DEnv)) (env : DEnv) : Option DFlow := (f env).map fun x => .nx (x.2.set i (some (.ow x.1)))
theorem ds_setN (i : Nat) {pos' : Pos} (ha : PN X F e fn) (hN : X.N.Nodup) (hi : X.N[i]? = some x := by rfl) (hx : Loc X.env.scope x := by first | exact Or.inl rfl | exact Or.inr rfl) (hs : swapsWith e (some (.Name x pos')) pos.line X.env = pure false := by rfl)
    (hf : X.fn x = true ∨ X.env.scope.names.lookup x = some .local := by first | exact .inl rfl | exact .inr rfl | assumption) : PDS X F (.Assign [.Name x pos'] e pos) (sSetN i fn) := ps_imp (ps_set hN hi hx ha hs hf) fun D σ H h => by
  obtain ⟨Z, env, fl, r, e, q⟩ := h
  obtain ⟨⟨d, e1⟩, h1, h⟩ := mpd e
  subst h
  exact ⟨Z, env, d, e1, r, h1, fun p xs Z' H' r' s' h0 hz hp dd => q _ Z' H' (r'.storeN i (s'.fre (fre_new r h0)) (fun z => (r.pp p z).1 h0) (r.gh.free h0) hz hp dd) s'.z⟩
/-- a, b = two new lists; a new list and data .. -/
def sPar (i j : Nat) (fa : DEnv → Option (List PyData × DEnv)) (env : DEnv) : Option DFlow := (fa env).bind fun x => match x.1 with
  | [u, v] => some (.nx ((x.2.set i (some (.fr u))).set j (some (.fr v))))
  | _ => none
theorem ds_par (i j : Nat) (ha : PS X s (tPar i j (tDA X.K F fa))) : PDS X F s (sPar i j fa) := ps_imp ha fun D σ H h => by
  obtain ⟨Z, env, fl, r, e, q⟩ := h
  obtain ⟨⟨d, e1⟩, h1, h⟩ := bnd e
  match d, h, h1 with
  | [u, v], h, h1 =>
    cases h
    refine ⟨Z, env, [u, v], e1, r, h1, fun vs Z' H' r' s' dd => ?_⟩
    cases dd with
    | cons d1 dr =>
      cases dr with
      | cons d2 dn =>
        cases dn
        exact ⟨_, _, rfl, q _ Z' H' ((r'.store i d1).store j d2) s'.z⟩
/-! ### targets -/
def tDG (K : PySem.W.Frag) (F : Fm) (g : PyData → DEnv → Option DEnv) : TG := fun v σ H Q => ∃ Z env d env', Rel K F Z H σ env ∧ DD K Z v d ∧ g d env = some env' ∧ ∀ σ' Z' H', Rel K F Z' H' σ' env' → Same Z Z' → Q σ' H'
def tDGs (K : PySem.W.Frag) (F : Fm) (g : List PyData → DEnv → Option DEnv) : TGs := fun vs σ H Q => ∃ Z env ds env', Rel K F Z H σ env ∧ DDs K Z vs ds ∧ g ds env = some env' ∧ ∀ σ' Z' H', Rel K F Z' H' σ' env' → Same Z Z' → Q σ' H'
def PDG (X : Cx) (F : Fm) (e : Expr) (g : PyData → DEnv → Option DEnv) : Prop := PG X e (tDG X.K F g)
def PDGs (X : Cx) (F : Fm) (es : List Expr) (g : List PyData → DEnv → Option DEnv) : Prop := PGs X es (tDGs X.K F g)
theorem pg_imp {X : Cx} {e : Expr} {t t' : TG} (h : PG X e t) (w : ∀ v σ H Q, t' v σ H Q → t v σ H Q) : PG X e t' := ⟨fun pins s σ H v u Q I r q => h.run pins s σ H v u Q I r (w v σ H Q q)⟩
theorem pgs_imp {X : Cx} {e : List Expr} {t t' : TGs} (h : PGs X e t) (w : ∀ v σ H Q, t' v σ H Q → t v σ H Q) : PGs X e t' := ⟨fun pins s σ H v u Q I r q => h.run pins s σ H v u Q I r (w v σ H Q q)⟩
def gSet (i : Nat) (d : PyData) (env : DEnv) : Option DEnv := some (env.set i (some (.fr d)))
theorem dg_name (i : Nat) (hN : X.N.Nodup) (hi : X.N[i]? = some x := by rfl) (hx : Loc X.env.scope x := by first | exact Or.inl rfl | exact Or.inr rfl) (hf : X.fn x = true ∨ X.env.scope.names.lookup x = some .local := by first | exact .inl rfl | exact .inr rfl | assumption) : PDG X F (.Name x pos) (gSet i) :=
  pg_imp (pg_name hN hi hx hf) fun v σ H Q h => by
    obtain ⟨Z, env, d, env', r, hd, e, q⟩ := h
    cases e
    exact q _ Z H (r.store i hd) (Same.refl Z)
def gSubD (j : Nat) (f : DEnv → Option (PyData × DEnv)) (d : PyData) (env : DEnv) : Option DEnv :=
  (rdO j env).bind fun _ => (f env).bind fun x => (rdO j x.2).bind fun es => match x.1 with
    | .int i => (ixN es.length i).map fun k => wrO j (es.set k d) x.2
    | _ => none
theorem dg_sub (j : Nat) {i : Expr} (ha : PD X F i f) (hN : X.N[j]? = some y := by rfl) (hv : Vis X.env.scope y := by first | exact Or.inl rfl | exact Or.inr (Or.inl rfl) | exact Or.inr (Or.inr rfl)) (hd : (y == ("__debug__" : Str)) = false := by decide)
    (hcd : (y == ("__classdict__" : Str)) = false := by decide)
    (hsub : ∀ v, assign (.Subscript (.Name y pn) i pos) X.env v = (do
      let ov ← holding [v] (eval (.Name y pn) X.env)
      let iv ← holding [v, ov] (eval i X.env)
      standAt pos
      holding [v, ov, iv] (setItem ov iv v)
      release [v, ov, iv] []) := by intro _; rfl) : PDG X F (.Subscript (.Name y pn) i pos) (gSubD j f) :=
  pg_imp (pg_sub (pe_var hN hv hd hcd) ha set_list hsub) fun v σ H Q h => by
    obtain ⟨Z, env, d, env', r, hd, e, q⟩ := h
    obtain ⟨z0, h0, e⟩ := bnd e
    obtain ⟨⟨u, e1⟩, h1, h⟩ := bnd e
    obtain ⟨zs, h2, h⟩ := bnd h
    cases u with
    | int i =>
      obtain ⟨k, h3, h⟩ := mpd h
      subst h
      obtain ⟨p, xs, sj, _, hp0, _, _⟩ := r.poke h0
      refine ⟨.ref p, sj, Z, env, .int i, e1, r, h1, fun w Z1 H1 r1 s1 d1 => ?_⟩
      obtain ⟨p', xs', sj', zp, hp, dp, fin⟩ := r1.poke h2
      rw [sj] at sj'
      cases sj'
      cases d1.int_inv
      refine ⟨p, xs', i, k, rfl, rfl, hp, by rw [dds_len dp]; exact h3, ?_⟩
      obtain ⟨b1, b2⟩ := fin Z1 (upd H1 p (.lst (xs'.set k v))) _ (zs.set k d) (pok_upd r1.zh zp hp _) upd_same (dds_set (DDm hd s1.z) k dp)
      exact q σ Z1 _ b1 (s1.trans b2).z
    | _ => cases h
def gsNil (ds : List PyData) (env : DEnv) : Option DEnv := if ds.isEmpty then some env else none
def gsCons (g : PyData → DEnv → Option DEnv) (gs : List PyData → DEnv → Option DEnv) (ds : List PyData) (env : DEnv) : Option DEnv := match ds with
  | d :: r => (g d env).bind fun e => gs r e
  | _ => none
theorem dgs_nil : PDGs X F [] gsNil := pgs_imp pgs_nil fun v σ H Q h => by
  obtain ⟨Z, env, d, env', r, hd, e, q⟩ := h
  cases hd with
  | nil => cases e; exact ⟨rfl, q σ Z H r (Same.refl Z)⟩
  | cons _ _ => cases e
theorem dgs_cons {g : PyData → DEnv → Option DEnv} {gs : List PyData → DEnv → Option DEnv} (ha : PDG X F e g) (hb : PDGs X F es gs) (hs : (assignEach (e :: es) X.env).map (·.2) = assign e X.env :: (assignEach es X.env).map (·.2) := by rfl) : PDGs X F (e :: es) (gsCons g gs) :=
  pgs_imp (pgs_cons ha hb hs) fun v σ H Q h => by
    obtain ⟨Z, env, d, env', r, hd, e, q⟩ := h
    cases hd with
    | nil => cases e
    | cons d1 dr =>
      obtain ⟨e1, h1, h⟩ := bnd e
      exact ⟨_, _, rfl, Z, env, _, e1, r, d1, h1, fun σ' Z' H' r' s' => ⟨Z', e1, _, env', r', DDsm dr s', h, fun σ2 Z2 H2 r2 s2 => q σ2 Z2 H2 r2 (s'.trans s2)⟩⟩
def gTupD (n : Nat) (gs : List PyData → DEnv → Option DEnv) (d : PyData) (env : DEnv) : Option DEnv := match d with
  | .tuple ds => if ds.length = n then gs ds env else none
  | _ => none
theorem dg_tup {n kk : Nat} {gs : List PyData → DEnv → Option DEnv} (h : PDGs X F es gs) (hc : X.calm = true := by rfl) (hn : (assignEach es X.env).length = n := by rfl) (hst : (assignEach es X.env).findIdx? (·.1) = none := by rfl) : PDG X F (.Tuple es kk pos) (gTupD n gs) :=
  pg_imp (pg_tup hc h hn hst) fun v σ H Q h => by
    obtain ⟨Z, env, d, env', r, hd, e, q⟩ := h
    cases hd with
    | @tup a xs ds hs ha =>
      change (if ds.length = n then gs ds env else none) = some env' at e
      by_cases hl : ds.length = n
      · rw [if_pos hl] at e
        exact ⟨a, xs, rfl, same_sqT r.zh hs, (dds_len ha).trans hl, Z, env, ds, env', r, ha, e, q⟩
      · rw [if_neg hl] at e; cases e
    | _ => cases e
def sAsg (f : DEnv → Option (PyData × DEnv)) (g : PyData → DEnv → Option DEnv) (env : DEnv) : Option DFlow := (f env).bind fun x => (g x.1 x.2).map .nx
theorem ds_asg {g : PyData → DEnv → Option DEnv} (ha : PD X F e f) (hg : PDG X F tg g) (hs : swapsWithSole [tg] e pos.line X.env = pure false := by rfl) (hw : swappedStores [tg] e X.env = pure none := by rfl)
    (h1 : (assignEach [tg] X.env).map (·.2) = [assign tg X.env] := by rfl) : PDS X F (.Assign [tg] e pos) (sAsg f g) := ps_imp (ps_asg ha hg hs hw h1) fun D σ H h => by
  obtain ⟨Z, env, fl, r, e, q⟩ := h
  obtain ⟨⟨d, e1⟩, h1, h⟩ := bnd e
  obtain ⟨e2, h2, h⟩ := mpd h
  subst h
  exact ⟨Z, env, d, e1, r, h1, fun v Z1 H1 r1 s1 d1 => ⟨Z1, e1, d, e2, r1, d1, h2, fun σ' Z' H' r' s' => q σ' Z' H' r' (s1.z.trans s')⟩⟩
end
end DL
end L2


set_option Elab.async false
set_option maxRecDepth 100000
set_option maxHeartbeats 4000000
set_option autoImplicit false
namespace L2
namespace DL
open PySem PySem.Spec PyProof.Rows
variable [Lab]
/-! ### what is walked, as data -/
def WalkD (K : PySem.W.Frag) (J : It) (Z : Hp) (ds : List PyData) : Prop := ∃ (G : Hp → Prop) (Y : Nat → Hp → V → Hp → Prop), Walk J ds.length G Y ∧ (∀ H, Same Z H → G H) ∧
  ∀ (i : Nat) (H : Hp) (x : V) (H' Zc : Hp), i < ds.length → Y i H x H' → Same Z Zc → Same Zc H → ∃ Zn d, Grow Zc H Zn H' ∧ ds[i]? = some d ∧ DD K Zn x d
theorem WalkD.mono {K : PySem.W.Frag} {J : It} {Z Z' : Hp} {ds : List PyData} (w : WalkD K J Z ds) (s : Same Z Z') : WalkD K J Z' ds := by
  obtain ⟨G, Y, a, b, c⟩ := w
  exact ⟨G, Y, a, fun H h => b H (s.trans h), fun i H x H' Zc hi y s1 s2 => c i H x H' Zc hi y (s.trans s1) s2⟩
theorem wd_list {K : PySem.W.Frag} {Z : Hp} {a : Addr} {xs : List V} {ds : List PyData} (h : LsR K Z a xs) (hd : DDs K Z xs ds) : WalkD K (Itl K a) Z ds := by
  refine ⟨_, _, (dds_len hd) ▸ walk_list (K := K) (a := a) (xs := xs), fun H s => (same_ls s h).sq, fun i H x H' Zc hi y s1 s2 => ?_⟩
  obtain ⟨rfl, y⟩ := y
  obtain ⟨d, e1, e2⟩ := dds_get' hd y
  exact ⟨Zc, d, Grow.refl s2, e1, DDm e2 s1⟩
theorem wd_tup {K : PySem.W.Frag} {Z : Hp} {a : Addr} {xs : List V} {ds : List PyData} (h : SqT K Z a xs) (hd : DDs K Z xs ds) : WalkD K (Itt K a) Z ds := by
  refine ⟨_, _, (dds_len hd) ▸ walk_tup (K := K) (a := a) (xs := xs), fun H s => same_sqT s h, fun i H x H' Zc hi y s1 s2 => ?_⟩
  obtain ⟨rfl, y⟩ := y
  obtain ⟨d, e1, e2⟩ := dds_get' hd y
  exact ⟨Zc, d, Grow.refl s2, e1, DDm e2 s1⟩
def rangeD (lo : Int) (n : Nat) : List PyData := (List.range n).map fun i => .int (lo + (i : Nat))
theorem rangeD_len (lo : Int) (n : Nat) : (rangeD lo n).length = n := by unfold rangeD; rw [List.length_map, List.length_range]
theorem rangeD_get (lo : Int) {n i : Nat} (h : i < n) : (rangeD lo n)[i]? = some (.int (lo + (i : Nat))) := by
  unfold rangeD
  rw [List.getElem?_map, List.getElem?_range h]
  rfl
theorem wd_range {K : PySem.W.Frag} {Z : Hp} (lo : Int) (n : Nat) : WalkD K (Itr lo n) Z (rangeD lo n) := by
  refine ⟨fun _ => True, YFn fun i => .int (lo + (i : Nat)), by rw [rangeD_len]; exact walk_range, fun _ _ => trivial, fun i H x H' Zc hi y s1 s2 => ?_⟩
  rw [rangeD_len] at hi
  obtain ⟨rfl, rfl⟩ := y
  exact ⟨Zc, _, Grow.refl s2, rangeD_get lo hi, .int _⟩
def tDI (K : PySem.W.Frag) (F : Fm) (f : DEnv → Option (List PyData × DEnv)) : TI := fun σ H R => ∃ Z env ds env', Rel K F Z H σ env ∧ f env = some (ds, env') ∧ ∀ J Z' H', Rel K F Z' H' σ env' → Stp σ env Z H env' Z' H' → WalkD K J Z' ds → R J H'
def PDI (X : Cx) (F : Fm) (tg iter : Expr) (f : DEnv → Option (List PyData × DEnv)) : Prop := PI X tg iter (tDI X.K F f)
theorem pi_imp {X : Cx} {tg iter : Expr} {t t' : TI} (h : PI X tg iter t) (w : ∀ σ H Q, t' σ H Q → t σ H Q) : PI X tg iter t' := ⟨fun pins s σ H R I q => h.run pins s σ H R I (w σ H R q)⟩
theorem pi_orr {X : Cx} {tg iter : Expr} {t t' : TI} (h : PI X tg iter t) (h' : PI X tg iter t') : PI X tg iter (fun σ H R => t σ H R ∨ t' σ H R) := ⟨fun pins s σ H R I q => q.elim (h.run pins s σ H R I) (h'.run pins s σ H R I)⟩
section
variable {X : Cx} {F : Fm} {a b c e tg iter : Expr} {es : List Expr} {ss : List Stmt} {pos p pn : Pos} {x y : Str} {f : DEnv → Option (PyData × DEnv)} {fa fi : DEnv → Option (List PyData × DEnv)} {ft : DEnv → Option (Bool × DEnv)}
def seqD : PyData → Option (List PyData)
  | .list ds => some ds
  | .tuple ds => some ds
  | _ => none
def iSeq (f : DEnv → Option (PyData × DEnv)) (env : DEnv) : Option (List PyData × DEnv) := (f env).bind fun x => (seqD x.1).map fun ds => (ds, x.2)
theorem tD_choose {K : PySem.W.Frag} {σ : St} {H : Hp} {Z : Hp} {env : DEnv} {d : PyData} {env' : DEnv} {R : V → Hp → Prop} (r : Rel K F Z H σ env) (h : f env = some (d, env')) (q : ∀ v Z' H', Rel K F Z' H' σ env' → Stp σ env Z H env' Z' H' → DD K Z' v d → R v H') : tD K F f σ H R := ⟨Z, env, d, env', r, h, q⟩
theorem di_seq (ha : PD X F e f) : PDI X F tg e (iSeq f) := pi_imp (pi_orr (pi_list ha) (pi_tup ha)) fun σ H Q h => by
  obtain ⟨Z, env, ds, env', r, e, q⟩ := h
  obtain ⟨⟨d, e1⟩, h1, h⟩ := bnd e
  obtain ⟨ds', h2, h⟩ := mpd h
  cases h
  cases d with
  | list ds =>
    cases h2
    refine .inl (tD_choose r h1 fun v Z1 H1 r1 s1 d1 => ?_)
    cases d1 with
    | @lst a xs _ hr hd => exact ⟨a, rfl, ⟨xs, (same_ls r1.zh hr).sq⟩, q _ Z1 H1 r1 s1 (wd_list hr hd)⟩
  | tuple ds =>
    cases h2
    refine .inr (tD_choose r h1 fun v Z1 H1 r1 s1 d1 => ?_)
    cases d1 with
    | @tup a xs _ hr hd => exact ⟨a, rfl, ⟨xs, same_sqT r1.zh hr⟩, q _ Z1 H1 r1 s1 (wd_tup hr hd)⟩
  | _ => cases h2
def rng1 : List PyData → Option (List PyData)
  | [.int j] => if j ≤ 1000000 ∧ -1000000 ≤ j then some (rangeD 0 j.toNat) else none
  | _ => none
def iArg (o : List PyData → Option (List PyData)) (fa : DEnv → Option (List PyData × DEnv)) (env : DEnv) : Option (List PyData × DEnv) := (fa env).bind fun x => (o x.1).map fun ds => (ds, x.2)
theorem di_range1 (hm : X.mg "range" = none) (ha : PDA X F [a] fa) (hg : Gl X "range" := by rfl) (hs : starEach [a] X.env = [(false, eval a X.env)] := by rfl) : PDI X F tg (.Call (.Name "range" p) [a] [] pos) (iArg rng1 fa) := pi_imp (pi_range1 hg hm ha hs) fun σ H Q h => by
  obtain ⟨Z, env, ds, env', r, e, q⟩ := h
  obtain ⟨⟨d, e1⟩, h1, h⟩ := bnd e
  obtain ⟨ds', h2, h⟩ := mpd h
  cases h
  match d, h1, h2 with
  | [.int j], h1, h2 =>
    change (if j ≤ 1000000 ∧ -1000000 ≤ j then some (rangeD 0 j.toNat) else none) = some ds at h2
    split at h2
    case isFalse => cases h2
    rename_i hj
    cases h2
    refine ⟨Z, env, _, e1, r, h1, fun vs Z1 H1 r1 s1 d1 => ?_⟩
    cases d1 with
    | cons d1 dn =>
      cases dn
      cases d1.int_inv
      exact ⟨j, rfl, by omega, by omega, q _ Z1 H1 r1 s1 (wd_range 0 _)⟩
/-! ### for -/
def forD (g : PyData → DEnv → Option DEnv) (b : DEnv → Option DFlow) : List PyData → DEnv → Option DFlow
  | [], env => some (.nx env)
  | d :: ds, env => (g d env).bind fun e1 => (b e1).bind fun fl => match fl with
    | .nx e2 => forD g b ds e2
    | .ct e2 => forD g b ds e2
    | .bk e2 => some (.nx e2)
    | fl => some fl
def sFor (fi : DEnv → Option (List PyData × DEnv)) (g : PyData → DEnv → Option DEnv) (b : DEnv → Option DFlow) (env : DEnv) : Option DFlow := (fi env).bind fun x => forD g b x.1 x.2
theorem ds_for {g : PyData → DEnv → Option DEnv} {h1 : DEnv → Option DFlow} (hi : PDI X F tg iter fi) (hg : PDG X F tg g) (hb : PDSs X F ss h1) (hp : PassesOwn (model X.prog X.w) X.A X.env X.xe := by exact PassesOwn.never) (hc : X.calm = true := by rfl) (hs : ∀ x, foldedSetIterable iter X.env x = pure x := by intro _; rfl) :
    PDS X F (.For tg iter ss [] pos) (sFor fi g h1) := ps_imp (ps_for hp hc hi hg hb hs) fun D σ H h => by
  obtain ⟨Z, env, fl, r, e, q⟩ := h
  obtain ⟨⟨ds, e1⟩, e0, e⟩ := bnd e
  refine ⟨Z, env, ds, e1, r, e0, fun J Z1 H1 r1 s1 w => ?_⟩
  obtain ⟨G, Y, wk, hG, hY⟩ := w
  refine for_it wk (fun i σ' H' => ∃ Z' env', Same Z1 Z' ∧ Rel X.K F Z' H' σ' env' ∧ forD g h1 (ds.drop i) env' = some fl) ⟨Z1, e1, Same.refl _, r1, e⟩ ?_ ?_ ?_
  · rintro i σ' H' hi ⟨Z', env', s', r', _⟩
    exact hG H' (s'.trans r'.zh)
  · rintro i x σ' H' H2 hi ⟨Z', env', s', r', e'⟩ y
    obtain ⟨Zn, d, gr, hd, dd⟩ := hY i H' x H2 Z' hi y s' r'.zh
    have ed : ds.drop i = d :: ds.drop (i + 1) := by
      obtain ⟨hl, hx⟩ := List.getElem?_eq_some_iff.mp hd
      rw [← hx]
      exact List.drop_eq_getElem_cons hl
    rw [ed] at e'
    obtain ⟨e2, g2, e'⟩ := bnd e'
    obtain ⟨f2, b2, e'⟩ := bnd e'
    refine ⟨Zn, env', d, e2, r'.grow gr, dd, g2, fun σ2 Z2 H2 r2 s2 => ⟨Z2, e2, f2, r2, b2, ?_⟩⟩
    have sa : Same Z1 Z2 := (s'.trans gr.z).trans s2
    cases f2 with
    | nx e3 => exact fun σ3 Z3 H3 r3 s3 => ⟨Z3, e3, sa.trans s3, r3, e'⟩
    | ct e3 => exact fun σ3 Z3 H3 r3 s3 => ⟨Z3, e3, sa.trans s3, r3, e'⟩
    | bk e3 =>
      cases e'
      exact fun σ3 Z3 H3 r3 s3 => q σ3 Z3 H3 r3 ((s1.z.trans sa).trans s3)
    | rt d3 e3 =>
      cases e'
      exact fun v σ3 Z3 H3 r3 s3 => q v σ3 Z3 H3 r3 ((s1.z.trans sa).trans s3)
    | rn d3 e3 =>
      cases e'
      exact fun p xs σ3 Z3 H3 r3 s3 => q p xs σ3 Z3 H3 r3 ((s1.z.trans sa).trans s3)
    | ex c3 a3 d3 e3 =>
      cases e'
      exact fun v p σ3 Z3 H3 r3 s3 => q v p σ3 Z3 H3 r3 ((s1.z.trans sa).trans s3)
  · rintro σ' H' ⟨Z', env', s', r', e'⟩
    rw [List.drop_length] at e'
    cases e'
    exact q σ' Z' H' r' (s1.z.trans s')

/-! ### list comprehensions -/
def wipeE (env : DEnv) : List Nat → DEnv
  | [] => env
  | v :: vs => (wipeE env vs).set v none
theorem Rel.wipe {K : PySem.W.Frag} {Z H : Hp} {σ : St} {env : DEnv} (r : Rel K F Z H σ env) : ∀ vs : List Nat, Rel K F Z H (wipe σ vs) (wipeE env vs)
  | [] => r
  | v :: vs => (Rel.wipe r vs).drop v
theorem wipe_get (σ : St) : ∀ (vs : List Nat) (i : Nat), i ∉ vs → (wipe σ vs)[i]? = σ[i]?
  | [], _, _ => rfl
  | v :: vs, i, h => by
    rw [List.mem_cons, not_or] at h
    show ((L2.wipe σ vs).set v none)[i]? = σ[i]?
    rw [List.getElem?_set_ne (fun z => h.1 z.symm), wipe_get σ vs i h.2]
theorem wipe_in (σ : St) : ∀ (vs : List Nat) (i : Nat), i ∈ vs → i < σ.length → (wipe σ vs)[i]? = some none
  | v :: vs, i, h, hl => by
    show ((L2.wipe σ vs).set v none)[i]? = some none
    by_cases e : v = i
    · subst e
      exact List.getElem?_set_self (by rw [wipe_length]; exact hl)
    · rw [List.getElem?_set_ne e]
      rcases List.mem_cons.mp h with z | z
      · exact absurd z.symm e
      · exact wipe_in σ vs i z hl
theorem wipeE_in (env : DEnv) : ∀ (vs : List Nat) (i : Nat) (dv : DV), (wipeE env vs)[i]? = some (some dv) → i ∉ vs ∧ env[i]? = some (some dv)
  | [], i, dv, h => ⟨by simp, h⟩
  | v :: vs, i, dv, h => by
    rcases get_set_some h with ⟨_, z⟩ | ⟨hne, z⟩
    · cases z
    · obtain ⟨a, b⟩ := wipeE_in env vs i dv z
      exact ⟨by rw [List.mem_cons, not_or]; exact ⟨hne, a⟩, b⟩
theorem wipe_eq {σ τ : St} {vs : List Nat} (hl : τ.length = σ.length) (h : ∀ i, i ∉ vs → τ[i]? = σ[i]?) : wipe τ vs = wipe σ vs := by
  refine List.ext_getElem? fun i => ?_
  by_cases hi : i ∈ vs
  · by_cases hlt : i < σ.length
    · rw [wipe_in _ _ _ hi hlt, wipe_in _ _ _ hi (by omega)]
    · rw [List.getElem?_eq_none (by rw [wipe_length]; omega), List.getElem?_eq_none (by rw [wipe_length]; omega)]
  · rw [wipe_get _ _ _ hi, wipe_get _ _ _ hi, h i hi]
/-- back to the slots ahead of the wipe -/
theorem Rel.unwipe {K : PySem.W.Frag} {Z H : Hp} {σ : St} {env : DEnv} {vs : List Nat} (r : Rel K F Z H (L2.wipe σ vs) env) (h : ∀ (i : Nat) (dv : DV), env[i]? = some (some dv) → i ∉ vs) : Rel K F Z H σ env := by
  have eq : ∀ (i : Nat) (dv : DV), env[i]? = some (some dv) → (L2.wipe σ vs)[i]? = σ[i]? := fun i dv e => wipe_get σ vs i (h i dv e)
  refine ⟨r.z0, r.zh, r.gh, r.nw, r.pp, by rw [r.len, wipe_length], fun i dv e => ?_, fun i j di dj p ei ej oi oj si sj => r.inj i j di dj p ei ej oi oj ((eq i di ei).trans si) ((eq j dj ej).trans sj), r.tb⟩
  have s := r.sl i dv e
  have q := eq i dv e
  cases dv with
  | fr d => obtain ⟨v, a, b⟩ := s; exact ⟨v, q.symm.trans a, b⟩
  | ow ds => obtain ⟨p, xs, a, b⟩ := s; exact ⟨p, xs, q.symm.trans a, b⟩
  | rf ds => obtain ⟨p, xs, a, b⟩ := s; exact ⟨p, xs, q.symm.trans a, b⟩
  | dk ds => obtain ⟨p, o, xs, a, b⟩ := s; exact ⟨p, o, xs, q.symm.trans a, b⟩
/-- targets that are names: the slots ts alone change -/
structure TgOk (ts : List Nat) (σ : St) (env : DEnv) (σ' : St) (env' : DEnv) : Prop where
  s : ∀ i : Nat, i ∉ ts → σ'[i]? = σ[i]?
  l : σ'.length = σ.length
  o : ∀ (i : Nat) (dv : DV), env'[i]? = some (some dv) → ownish dv = true → i ∉ ts ∧ env[i]? = some (some dv)
def tGN (K : PySem.W.Frag) (F : Fm) (ts : List Nat) (g : PyData → DEnv → Option DEnv) : TG := fun v σ H Q => ∃ Z env d env', Rel K F Z H σ env ∧ DD K Z v d ∧ g d env = some env' ∧ ∀ σ', Rel K F Z H σ' env' → TgOk ts σ env σ' env' → Q σ' H
def PGN (X : Cx) (F : Fm) (e : Expr) (ts : List Nat) (g : PyData → DEnv → Option DEnv) : Prop := PG X e (tGN X.K F ts g)
theorem gn_name (i : Nat) (hN : X.N.Nodup) (hi : X.N[i]? = some x := by rfl) (hx : Loc X.env.scope x := by first | exact Or.inl rfl | exact Or.inr rfl) (hf : X.fn x = true ∨ X.env.scope.names.lookup x = some .local := by first | exact .inl rfl | exact .inr rfl | assumption) : PGN X F (.Name x pos) [i] (gSet i) :=
  pg_imp (pg_name hN hi hx hf) fun v σ H Q h => by
    obtain ⟨Z, env, d, env', r, hd, e, q⟩ := h
    cases e
    refine q _ (r.store i hd) ⟨fun j hj => List.getElem?_set_ne (fun z => hj (by rw [z]; simp)), List.length_set .., fun j dv e o => ?_⟩
    rcases get_set_some e with ⟨_, z⟩ | ⟨hne, z⟩
    · cases z; cases o
    · exact ⟨by simpa using hne, z⟩
def lcD (g : PyData → DEnv → Option DEnv) (ft : DEnv → Option (Bool × DEnv)) (fe : DEnv → Option (PyData × DEnv)) (vs : List Nat) : List PyData → DEnv → Option (List PyData × DEnv)
  | [], env => some ([], env)
  | d :: ds, env => (g d env).bind fun e1 => (ft e1).bind fun t => if t.1 then (fe t.2).bind fun y => (lcD g ft fe vs ds (wipeE y.2 vs)).map fun r => (y.1 :: r.1, r.2) else lcD g ft fe vs ds (wipeE t.2 vs)
def nLc (fi : DEnv → Option (List PyData × DEnv)) (g : PyData → DEnv → Option DEnv) (ft : DEnv → Option (Bool × DEnv)) (fe : DEnv → Option (PyData × DEnv)) (vs : List Nat) (env : DEnv) : Option (List PyData × DEnv) :=
  (fi env).bind fun x => if x.1.length ≤ lim then lcD g ft fe vs x.1 (wipeE x.2 vs) else none
def fYes (env : DEnv) : Option (Bool × DEnv) := some (true, env)
def PDTs (X : Cx) (F : Fm) (ifs : List Expr) (ft : DEnv → Option (Bool × DEnv)) : Prop := PTs X ifs (tDT X.K F ft)
theorem dts_nil : PDTs X F [] fYes := ⟨fun pins s σ H Q I h => pts_nil.run pins s σ H Q I (by
  obtain ⟨Z, env, d, env', r, e, q⟩ := h
  cases e
  exact q Z H r Stp.refl)⟩
theorem lc_read {K : PySem.W.Frag} {ts vs : List Nat} {g : PyData → DEnv → Option DEnv} {fe : DEnv → Option (PyData × DEnv)} (hts : ∀ i ∈ ts, i ∈ vs) {σ : St} {H : Hp} {Q : VK} (h : tDN K F (nLc fi g ft fe vs) σ H Q) :
    tLc (tDI K F fi) (tGN K F ts g) (tDT K F ft) (tD K F fe) vs σ H Q := by
  obtain ⟨Z, env, rs, env', r, e, q⟩ := h
  obtain ⟨⟨ds, e1⟩, e0, e⟩ := bnd e
  dsimp only at e
  split at e
  case isFalse => cases e
  rename_i hlim
  refine ⟨Z, env, ds, e1, r, e0, fun J Z1 H1 r1 s1 w D hD => ?_⟩
  obtain ⟨G, Y, wk, hG, hY⟩ := w
  have hD0 : H D = none := s1.new hD
  have zD1 : Z1 D = none := r1.zh.free hD
  have g1 : Grow Z1 H1 Z1 (upd H1 D (.lst [])) := grow_own r1.zh hD _
  have frD : Fre σ env D := fre_new r hD0
  -- the turn
  refine lc_it wk (fun i Hc => ∃ Zc ec acc ad rest, Same Z1 Zc ∧ Rel K F Zc Hc (wipe σ vs) ec ∧ (∀ (j : Nat) (dv : DV), ec[j]? = some (some dv) → j ∉ vs) ∧ Stp σ env Z H ec Zc Hc ∧ Hc D = some (.lst acc) ∧ Zc D = none ∧ acc.length ≤ i ∧ DDs K Zc acc ad ∧
      lcD g ft fe vs (ds.drop i) ec = some (rest, env') ∧ rs = ad ++ rest) ?_ ?_ ?_ ?_
  · refine ⟨Z1, wipeE e1 vs, [], [], rs, Same.refl _, (r1.grow g1).wipe vs, fun j dv e => (wipeE_in _ _ _ _ e).1, ?_, upd_same, zD1, Nat.le_refl _, .nil, e, rfl⟩
    have s2 := s1.trans g1.stp
    exact ⟨s2.z, s2.h, s2.n, fun i dv e o => s2.o i dv (wipeE_in _ _ _ _ e).2 o, s2.k⟩
  · rintro i Hc hi ⟨Zc, ec, acc, ad, rest, sz, rc, _⟩
    exact hG Hc (sz.trans rc.zh)
  · rintro i x Hc H2 hi ⟨Zc, ec, acc, ad, rest, sz, rc, nv, st, hDc, zDc, hla, dacc, el, eq⟩ y
    obtain ⟨Zn, d, gr, hd, dd⟩ := hY i Hc x H2 Zc hi y sz rc.zh
    have ed : ds.drop i = d :: ds.drop (i + 1) := by
      obtain ⟨hl, hx⟩ := List.getElem?_eq_some_iff.mp hd
      rw [← hx]
      exact List.drop_eq_getElem_cons hl
    rw [ed] at el
    obtain ⟨e2, g2, el⟩ := bnd el
    obtain ⟨⟨tb, e3⟩, t2, el⟩ := bnd el
    have stn : Stp σ env Z H ec Zn H2 := by
      have b := gr.stp (σ := σ) (env := ec)
      exact st.trans b
    have zDn : Zn D = none := by
      cases hh : Zn D with
      | none => rfl
      | some o =>
        rcases gr.n D (by rw [hh]; simp) with z | z
        · exact absurd zDc z
        · rw [hDc] at z; cases z
    have hDn : H2 D = some (.lst acc) := gr.h.h D _ hDc nt_lst
    refine ⟨Zn, ec, d, e2, rc.grow gr, dd, g2, fun σ2 r2 k2 => ⟨?_, ?_⟩⟩
    · rw [wipe_eq (σ := wipe σ vs) (τ := σ2) k2.l (fun j hj => k2.s j fun z => hj (hts j z))]
      exact wipe_eq (wipe_length σ vs) fun j hj => wipe_get σ vs j hj
    have wst : wipe σ2 vs = wipe σ vs := by
      rw [wipe_eq (σ := wipe σ vs) (τ := σ2) k2.l (fun j hj => k2.s j fun z => hj (hts j z))]
      exact wipe_eq (wipe_length σ vs) fun j hj => wipe_get σ vs j hj
    -- an address that is free of owned slots at the start is so in the turn
    have free2 : ∀ q, Fre σ env q → Fre σ2 e2 q := fun q f j dv ej oj sj => by
      obtain ⟨a1, b1⟩ := k2.o j dv ej oj
      obtain ⟨dv0, b2, o2⟩ := st.o j dv b1 oj
      refine f j dv0 b2 o2 ?_
      rw [← wipe_get σ vs j (nv j dv b1), ← k2.s j a1]
      exact sj
    have own2 : ∀ (j : Nat) (dv : DV), e2[j]? = some (some dv) → ownish dv = true → ∃ dv0, env[j]? = some (some dv0) ∧ ownish dv0 = true := fun j dv ej oj => by
      obtain ⟨a1, b1⟩ := k2.o j dv ej oj
      exact st.o j dv b1 oj
    -- a step in the turn, seen from the start
    have lift : ∀ {e4 : DEnv} {Z4 H4 : Hp}, Stp σ2 e2 Zn H2 e4 Z4 H4 → Stp σ env Z H (wipeE e4 vs) Z4 H4 := fun {e4 Z4 H4} b => by
      refine ⟨stn.z.trans b.z, fun q o hq n f => b.h q o (stn.h q o hq n f) n (free2 q f), fun q h4 h0 hh f => ?_, fun j dv ej oj => ?_, fun q hq => b.k q (stn.k q hq)⟩
      · by_cases hz : Zn q = none
        · have h1 : H2 q ≠ none := stn.k q hh
          exact b.n q h4 hz h1 (free2 q f)
        · exact stn.n q hz h0 hh f
      · obtain ⟨a1, b1⟩ := b.o j dv (wipeE_in _ _ _ _ ej).2 oj
        exact own2 j a1 b1.1 b1.2
    refine ⟨Zn, e2, tb, e3, r2, t2, fun Z3 H3 r3 s3 => ?_⟩
    have hD3 : H3 D = some (.lst acc) := s3.h D _ hDn nt_lst (free2 D frD)
    have zD3 : Z3 D = none := by
      cases hh : Z3 D with
      | none => rfl
      | some o => exact absurd (free2 D frD) (s3.n D (by rw [hh]; simp) zDn (by rw [hDn]; simp))
    cases tb with
    | false =>
      refine iteF ⟨Z3, wipeE e3 vs, acc, ad, rest, (sz.trans gr.z).trans s3.z, ?_, fun j dv e => (wipeE_in _ _ _ _ e).1, lift s3, hD3, zD3, Nat.le_succ_of_le hla, DDsm dacc (gr.z.trans s3.z), el, eq⟩
      have := r3.wipe vs
      rw [wst] at this
      exact this
    | true =>
      obtain ⟨⟨yv, e4⟩, y2, el⟩ := bnd el
      obtain ⟨⟨rr, e5⟩, l2, el⟩ := mpd el
      cases el
      refine iteT ⟨Z3, e3, yv, e4, r3, y2, fun v Z4 H4 r4 s4 d4 => ?_⟩
      have s34 := s3.trans s4
      have hD4 : H4 D = some (.lst acc) := s34.h D _ hDn nt_lst (free2 D frD)
      have zD4 : Z4 D = none := by
        cases hh : Z4 D with
        | none => rfl
        | some o => exact absurd (free2 D frD) (s34.n D (by rw [hh]; simp) zDn (by rw [hDn]; simp))
      have hlt : acc.length < sizeLine := Nat.lt_of_lt_of_le (Nat.lt_of_le_of_lt hla hi) (Nat.le_trans hlim lim_le)
      refine ⟨acc, hD4, hlt, Z4, wipeE e4 vs, acc ++ [v], ad ++ [yv], rr, (sz.trans gr.z).trans s34.z, ?_, fun j dv e => (wipeE_in _ _ _ _ e).1, ?_, upd_same, zD4, ?_, dds_app (DDsm dacc (gr.z.trans s34.z)) (.cons d4 .nil), l2, ?_⟩
      · have pk := pok_upd r4.zh zD4 hD4 (.lst (acc ++ [v]))
        have rp := r4.poke0 (s34.fre (free2 D frD)) (r.gh.free hD0) (fun z => (r.pp D z).1 hD0) pk (by rw [upd_same]; simp)
        have := rp.wipe vs
        rw [wst] at this
        exact this
      · have b := lift s34
        refine ⟨b.z, fun q o hq n f => ?_, b.n, b.o, fun q hq => ?_⟩
        · rw [upd_ne (fun z => by rw [z, hD0] at hq; cases hq)]
          exact b.h q o hq n f
        · by_cases hqD : q = D
          · subst hqD; rw [upd_same]; simp
          · rw [upd_ne hqD]; exact b.k q hq
      · rw [List.length_append]; exact Nat.succ_le_succ hla
      · rw [eq, List.append_assoc]; rfl
  · rintro Hc ⟨Zc, ec, acc, ad, rest, sz, rc, nv, st, hDc, zDc, hla, dacc, el, eq⟩
    rw [List.drop_length] at el
    cases el
    rw [List.append_nil] at eq
    subst eq
    exact q D acc Zc Hc (rc.unwipe nv) st hD0 zDc hDc dacc
end
end DL
end L2


set_option Elab.async false
set_option maxRecDepth 100000
set_option maxHeartbeats 4000000
set_option autoImplicit false
namespace L2
namespace DL
open PySem PySem.Spec PyProof.Rows
variable [Lab]
section
variable {X : Cx} {F : Fm} {a b c e tg iter elt : Expr} {es ifs : List Expr} {pos p pn : Pos} {x y : Str} {f fe : DEnv → Option (PyData × DEnv)} {fa fi : DEnv → Option (List PyData × DEnv)} {ft : DEnv → Option (Bool × DEnv)} {scope : Scope} {ts : List Nat} {g : PyData → DEnv → Option DEnv}
theorem pn_lc (own : List (Str × Nat)) (hN : X.N.Nodup) (hi : PDI X F tg iter fi) (ok : BlkOk X.N X.env.scope scope own)
    (hg : ∀ (s : Shared) (H : Hp) (C : Addr) (cl : List (Str × Addr)) (fp : List Addr), PGN (X.blk s H scope (compEnvC scope cl C X.env) fp) F tg ts g) (ht : ∀ (s : Shared) (H : Hp) (C : Addr) (cl : List (Str × Addr)) (fp : List Addr), PDTs (X.blk s H scope (compEnvC scope cl C X.env) fp) F ifs ft)
    (he : ∀ (s : Shared) (H : Hp) (C : Addr) (cl : List (Str × Addr)) (fp : List Addr), PD (X.blk s H scope (compEnvC scope cl C X.env) fp) F elt fe) (hts : ∀ i ∈ ts, i ∈ own.map (·.2) := by decide) (hc : X.calm = true := by rfl) (hs : ∀ x, foldedSetIterable iter X.env x = pure x := by intro _; rfl) :
    PN X F (.ListComp elt [⟨tg, iter, ifs, 0⟩] scope pos) (nLc fi g ft fe (own.map (·.2))) :=
  pe_imp (pe_lc (g := tGN X.K F ts g) (tt := tDT X.K F ft) (te := tD X.K F fe) hc hN hi ok hg ht he hs) fun _ _ _ h => lc_read hts h
end

/-! ### defs by their bodies -/
def startE (n : Nat) (ds : List PyData) : DEnv := ds.map (fun d => some (.fr d)) ++ List.replicate (n - ds.length) none
def runF (n N : Nat) (g : DEnv → Option DFlow) (ds : List PyData) : Option PyData := if ds.length = n then (match g (startE N ds) with
  | some (.rt d _) => some d
  | some (.nx _) => some .none
  | _ => none) else none
theorem runF_len {n N : Nat} {g : DEnv → Option DFlow} (ds : List PyData) (r : PyData) (h : runF n N g ds = some r) : ds.length = n := by
  unfold runF at h
  split at h
  · assumption
  · cases h
def runN (n N : Nat) (g : DEnv → Option DFlow) (ds : List PyData) : Option (List PyData) := if ds.length = n then (match g (startE N ds) with
  | some (.rn d _) => some d
  | _ => none) else none
theorem runN_len {n N : Nat} {g : DEnv → Option DFlow} (ds : List PyData) (r : List PyData) (h : runN n N g ds = some r) : ds.length = n := by
  unfold runN at h
  split at h
  · assumption
  · cases h
def rf0 (env : DEnv) : Option (List PyData) := match env with
  | some (.rf es) :: _ => some es
  | _ => none
def runR (n N : Nat) (g : DEnv → Option DFlow) (es ds : List PyData) : Option (PyData × List PyData) := if ds.length + 1 = n then (match g (some (.rf es) :: startE (N - 1) ds) with
  | some (.rt d env) => (rf0 env).map fun x => (d, x)
  | some (.nx env) => (rf0 env).map fun x => (.none, x)
  | _ => none) else none
theorem runR_len {n N : Nat} {g : DEnv → Option DFlow} (es ds : List PyData) (r : PyData × List PyData) (h : runR n N g es ds = some r) : ds.length + 1 = n := by
  unfold runR at h
  split at h
  · assumption
  · cases h
theorem startE_len {N : Nat} {ds : List PyData} (h : ds.length ≤ N) : (startE N ds).length = N := by
  unfold startE
  rw [List.length_append, List.length_map, List.length_replicate]
  omega
theorem start_len {N : List Str} {vs : List V} (h : vs.length ≤ N.length) : (start N vs).length = N.length := by
  unfold start
  rw [List.length_append, List.length_map, List.length_replicate]
  omega
theorem startE_get {n i : Nat} {ds : List PyData} {dv : DV} (h : (startE n ds)[i]? = some (some dv)) : ∃ d, ds[i]? = some d ∧ dv = .fr d := by
  unfold startE at h
  by_cases hi : i < ds.length
  · rw [List.getElem?_append_left (by rw [List.length_map]; exact hi), List.getElem?_map, List.getElem?_eq_getElem hi] at h
    cases h
    exact ⟨_, List.getElem?_eq_getElem hi, rfl⟩
  · rw [List.getElem?_append_right (by rw [List.length_map]; omega), List.getElem?_replicate] at h
    split at h <;> cases h
theorem start_get {N : List Str} {vs : List V} {i : Nat} {v : V} (h : vs[i]? = some v) : (start N vs)[i]? = some (some v) := by
  obtain ⟨hl, hx⟩ := List.getElem?_eq_some_iff.mp h
  unfold start
  rw [List.getElem?_append_left (by rw [List.length_map]; exact hl), List.getElem?_map, h]
  rfl
section
variable {P : Program} {w : World} {K : PySem.W.Frag} {mg : Str → Option Value} {base : Heap} {x qual : Str} {st : Stmt} {f : Addr} {fd : FuncData} {N ps : List Str} {k : Nat} {g : DEnv → Option DFlow}
/-- what a body's derivation is asked for -/
abbrev BodyOk (P : Program) (w : World) (K : PySem.W.Frag) (mg : Str → Option Value) (base : Heap) (N : List Str) (qual : Str) (st : Stmt) (f : Addr) (cv : Value) (k : Nat) (g : DEnv → Option DFlow) : Prop :=
  ∀ (cdv : Value) (A : Around) (outer : List Env) (s : Shared) (H : Hp) (E : XK) (F : Fm), cdv = cv → F.W = W0 → GdOk (A.deeper (envOfC qual (defScope st) s.heap.objs.size f cdv)) → Room k (A.deeper (envOfC qual (defScope st) s.heap.objs.size f cdv)) →
    PDSs (cxOf CX0 P w K mg base N qual (defScope st) f cdv A outer s H E).nox F (defBody st) g
theorem pure_start {Z H : Hp} {vs : List V} {ds : List PyData} (sz : Same Z H) (tb : TB H) (hd : DDs K Z vs ds) (hl : vs.length ≤ N.length) : Rel K ⟨Z, H, fun _ => False, W0⟩ Z H (start N vs) (startE N.length ds) := by
  have hvd := dds_len hd
  refine ⟨Same.refl Z, sz, Same.refl H, fun q h => .inl h, fun q h => h.elim, by rw [start_len hl, startE_len (by omega)], fun i dv e => ?_, fun i j di dj q ei ej oi => ?_, tb⟩
  · obtain ⟨d, e1, rfl⟩ := startE_get e
    obtain ⟨v, e2, e3⟩ := dds_get hd e1
    exact ⟨v, start_get e2, e3⟩
  · obtain ⟨d, e1, rfl⟩ := startE_get ei
    cases oi
theorem fn_pure (D : Fun K x qual st f fd) (S : FnScope N ps (defScope st)) (hb : BodyOk P w K mg base N qual st f fd.code k g) : FnG P w K mg base (k + 1) f fd ps (spF K ps.length (runF ps.length N.length g)) := by
  refine fng_of D S (fun vs H Q E h => h.1) fun cdv A outer s H vs Q E hcv hg hr h => ?_
  obtain ⟨hl, Z, ds, r, sz, tb, hd, e, q⟩ := h
  have hN : ps.length ≤ N.length := by
    have := congrArg List.length S.pre
    rw [List.length_take] at this
    omega
  refine ⟨_, hb cdv A outer s H E ⟨Z, H, fun _ => False, W0⟩ hcv rfl hg hr, Z, startE N.length ds, ?_⟩
  have r0 := pure_start (K := K) (N := N) sz tb hd (by omega)
  have fin : ∀ {Z' H' : Hp} {σ' : St} {e' : DEnv}, Rel K ⟨Z, H, fun _ => False, W0⟩ Z' H' σ' e' → Grow Z H Z' H' := fun {Z' H' σ' e'} r' => ⟨r'.z0, r'.zh, r'.gh, fun _ => r'.tb, fun q hq => (r'.nw q hq).imp id (·.1)⟩
  unfold runF at e
  split at e
  case isFalse => cases e
  generalize hh : g (startE N.length ds) = o at e
  match o, e with
  | some (.rt d e'), e =>
    cases e
    exact ⟨_, r0, rfl, fun v σ' Z' H' r' s' dd => q v Z' H' (fin r') dd⟩
  | some (.nx e'), e =>
    cases e
    exact ⟨_, r0, rfl, fun σ' Z' H' r' s' => q .non Z' H' (fin r') .non⟩
theorem fn_new (D : Fun K x qual st f fd) (S : FnScope N ps (defScope st)) (hb : BodyOk P w K mg base N qual st f fd.code k g) : FnG P w K mg base (k + 1) f fd ps (spN K ps.length (runN ps.length N.length g)) := by
  refine fng_of D S (fun vs H Q E h => h.1) fun cdv A outer s H vs Q E hcv hg hr h => ?_
  obtain ⟨hl, Z, ds, r, sz, tb, hd, e, q⟩ := h
  have hN : ps.length ≤ N.length := by
    have := congrArg List.length S.pre
    rw [List.length_take] at this
    omega
  refine ⟨_, hb cdv A outer s H E ⟨Z, H, fun _ => False, W0⟩ hcv rfl hg hr, Z, startE N.length ds, ?_⟩
  have r0 := pure_start (K := K) (N := N) sz tb hd (by omega)
  unfold runN at e
  split at e
  case isFalse => cases e
  generalize hh : g (startE N.length ds) = o at e
  match o, e with
  | some (.rn d e'), e =>
    cases e
    exact ⟨_, r0, rfl, fun p xs σ' Z' H' r' s' hz hg' hp hh' dd => q p xs Z' H' ⟨r'.z0, r'.zh, r'.gh, fun _ => r'.tb, fun q hq => (r'.nw q hq).imp id (·.1)⟩ hg' hz hh' dd⟩
theorem fn_ref (D : Fun K x qual st f fd) (S : FnScope N ps (defScope st)) (hb : BodyOk P w K mg base N qual st f fd.code k g) : FnG P w K mg base (k + 1) f fd ps (spR K ps.length (runR ps.length N.length g)) := by
  refine fng_of D S (fun vs H Q E h => h.1) fun cdv A outer s H vs Q E hcv hg hr h => ?_
  obtain ⟨hl, Z, p, ws, xs, es, ds, r, es', rfl, sz, tb, zp, hp, hx, hd, e, q⟩ := h
  have hN : ps.length ≤ N.length := by
    have := congrArg List.length S.pre
    rw [List.length_take] at this
    omega
  have hwd := dds_len hd
  rw [List.length_cons] at hl
  refine ⟨_, hb cdv A outer s H E ⟨Z, fun q => if q = p then none else H q, fun q => q = p, W0⟩ hcv rfl hg hr, Z, some (.rf es) :: startE (N.length - 1) ds, ?_⟩
  have r0 : Rel K ⟨Z, fun q => if q = p then none else H q, fun q => q = p, W0⟩ Z H (start N (.ref p :: ws)) (some (.rf es) :: startE (N.length - 1) ds) := by
    refine ⟨Same.refl Z, sz, ⟨fun q o h _ => ?_, fun q h => ?_⟩, fun q h => .inl h, fun q h => ?_, ?_, fun i dv e => ?_, fun i j di dj q ei ej oi oj si sj => ?_, tb⟩
    · dsimp only at h
      split at h
      · cases h
      · exact h
    · dsimp only at h
      split at h
      · exact absurd rfl h
      · exact h
    · dsimp only at h
      subst h
      exact ⟨by rw [hp]; simp, zp, if_pos rfl⟩
    · rw [List.length_cons, startE_len (by omega), start_len (by rw [List.length_cons]; omega)]
      omega
    · cases i with
      | zero =>
        cases e
        exact ⟨p, xs, start_get rfl, rfl, hp, hx⟩
      | succ i =>
        rw [List.getElem?_cons_succ] at e
        obtain ⟨d, e1, rfl⟩ := startE_get e
        obtain ⟨v, e2, e3⟩ := dds_get hd e1
        exact ⟨v, start_get (by rw [List.getElem?_cons_succ]; exact e2), e3⟩
    · have z : ∀ (i : Nat) (dv : DV), (some (.rf es) :: startE (N.length - 1) ds)[i]? = some (some dv) → ownish dv = true → i = 0 := fun i dv e o => by
        cases i with
        | zero => rfl
        | succ i =>
          rw [List.getElem?_cons_succ] at e
          obtain ⟨d, e1, rfl⟩ := startE_get e
          cases o
      rw [z i di ei oi, z j dj ej oj]
  have fin : ∀ {Z' H' : Hp} {σ' : St} {e' : DEnv} {v : V}, Rel K ⟨Z, fun q => if q = p then none else H q, fun q => q = p, W0⟩ Z' H' σ' e' → rf0 e' = some es' → DD K Z' v r → Q v H' := fun {Z' H' σ' e' v} r' h0 dd => by
    match e', h0, r' with
    | some (.rf es2) :: rest, h0, r' =>
      cases h0
      obtain ⟨p', xs', a1, a2, a3, a4⟩ := r'.sl 0 _ rfl
      have a2 : p' = p := a2
      subst a2
      refine q v xs' Z' H' ⟨r'.z0, r'.zh, fun b o hb h n => r'.gh.h b o ?_ n, fun b hb h => r'.gh.k b ?_, fun _ => r'.tb, fun b hb => ?_⟩ a3 a4 dd
      · show (if b = p' then none else H b) = some o
        rw [if_neg hb]; exact h
      · show (if b = p' then none else H b) ≠ none
        rw [if_neg hb]; exact h
      · rcases r'.nw b hb with h | ⟨h, h2⟩
        · exact .inl h
        · have h : (if b = p' then none else H b) = none := h
          rw [if_neg h2] at h
          exact .inr h
  unfold runR at e
  split at e
  case isFalse => cases e
  generalize hh : g (some (.rf es) :: startE (N.length - 1) ds) = o at e
  match o, e with
  | some (.rt d e'), e =>
    obtain ⟨x0, h0, h⟩ := mpd e
    cases h
    exact ⟨_, r0, rfl, fun v σ' Z' H' r' s' dd => fin r' h0 dd⟩
  | some (.nx e'), e =>
    obtain ⟨x0, h0, h⟩ := mpd e
    cases h
    exact ⟨_, r0, rfl, fun σ' Z' H' r' s' => fin (v := .non) r' h0 .non⟩
theorem fn_F {n n' : Nat} (D : Fun K x qual st f fd) (S : FnScope N ps (defScope st)) (h1 : ps.length = n) (h2 : N.length = n') (hb : BodyOk P w K mg base N qual st f fd.code k g) : FnG P w K mg base (k + 1) f fd ps (spF K n (runF n n' g)) := by
  subst h1 h2
  exact fn_pure D S hb
theorem fn_N {n n' : Nat} (D : Fun K x qual st f fd) (S : FnScope N ps (defScope st)) (h1 : ps.length = n) (h2 : N.length = n') (hb : BodyOk P w K mg base N qual st f fd.code k g) : FnG P w K mg base (k + 1) f fd ps (spN K n (runN n n' g)) := by
  subst h1 h2
  exact fn_new D S hb
theorem fn_R {n n' : Nat} (D : Fun K x qual st f fd) (S : FnScope N ps (defScope st)) (h1 : ps.length = n) (h2 : N.length = n') (hb : BodyOk P w K mg base N qual st f fd.code k g) : FnG P w K mg base (k + 1) f fd ps (spR K n (runR n n' g)) := by
  subst h1 h2
  exact fn_ref D S hb
end
end DL
end L2


set_option Elab.async false
set_option maxRecDepth 100000
set_option maxHeartbeats 4000000
set_option autoImplicit false
namespace L2
namespace DL
open PySem PySem.Spec PyProof.Rows
variable [Lab]
section
variable {X : Cx}
/-! ### operators on data -/
def addD : PyData → PyData → Option PyData
  | .int i, .int j => some (.int (i + j))
  | .str a, .str b => if a.length + b.length ≤ lim then some (.str (a ++ b)) else none
  | .tuple a, .tuple b => if a.length + b.length ≤ lim then some (.tuple (a ++ b)) else none
  | .list a, .list b => if a.length + b.length ≤ lim then some (.list (a ++ b)) else none
  | _, _ => none
theorem od_add : OpD X (binaryOp .Add) addD := by
  intro pins s σ H x y v u Q I rx ry h
  obtain ⟨Z, a, b, d, sz, ha, hb, e, q⟩ := h
  have hlim : lim = 100000 := rfl
  have hsl := sizeLine_eq
  match a, b, ha, hb, e with
  | .int i, .int j, ha, hb, e =>
    cases e; cases ha.int_inv; cases hb.int_inv
    exact op_add pins s σ H _ _ v u Q I rx ry ⟨i, j, rfl, rfl, q _ Z H (Grow.refl sz) (.int _)⟩
  | .str i, .str j, ha, hb, e =>
    change (if i.length + j.length ≤ lim then some (PyData.str (i ++ j)) else none) = some d at e
    split at e
    case isFalse => cases e
    cases e; cases ha.str_inv; cases hb.str_inv
    exact op_add_str pins s σ H _ _ v u Q I rx ry ⟨i, j, rfl, rfl, by omega, q _ Z H (Grow.refl sz) (.str _)⟩
  | .tuple i, .tuple j, ha, hb, e =>
    change (if i.length + j.length ≤ lim then some (PyData.tuple (i ++ j)) else none) = some d at e
    split at e
    case isFalse => cases e
    cases e
    cases ha with
    | @tup p xs _ hx dx =>
      cases hb with
      | @tup p' ys _ hy dy =>
        have l1 := dds_len dx
        have l2 := dds_len dy
        refine op_catA pins s σ H _ _ v u Q I rx ry ⟨p, p', xs, ys, rfl, rfl, same_sqT sz hx, same_sqT sz hy, by omega, fun e0 => ?_, fun n0 e0 => ?_, fun n0 n1 p hp => ?_⟩
        · have : i = [] := by cases i with | nil => rfl | cons _ _ => rw [e0] at l1; cases l1
          rw [this] at q
          exact q _ Z H (Grow.refl sz) (.tup hy dy)
        · have : j = [] := by cases j with | nil => rfl | cons _ _ => rw [e0] at l2; cases l2
          rw [this, List.append_nil] at q
          exact q _ Z H (Grow.refl sz) (.tup hx dx)
        · exact q _ _ _ (grow_new sz hp _) (new_tup sz hp (dds_app dx dy))
  | .list i, .list j, ha, hb, e =>
    change (if i.length + j.length ≤ lim then some (PyData.list (i ++ j)) else none) = some d at e
    split at e
    case isFalse => cases e
    cases e
    cases ha with
    | @lst p xs _ hx dx =>
      cases hb with
      | @lst p' ys _ hy dy =>
        have l1 := dds_len dx
        have l2 := dds_len dy
        cases rx
        cases ry
        obtain ⟨z, its, n, r, e1⟩ := (same_ls sz hx).isL I
        obtain ⟨z2, its2, n2, r2, e2⟩ := (same_ls sz hy).isL I
        have k1 := r.length
        have k2 := r2.length
        refine PySem.P.add_list e1 e2 ?_ (by rw [List.size_toArray, List.size_toArray]; omega)
        have ea : its.toArray ++ its2.toArray = (its ++ its2).toArray := by simp
        rw [ea]
        exact ⟨.ref _, _, I.lnew (t' := s.toks) (r.append r2) (by rw [List.length_append]; omega), rfl, q _ _ _ (grow_new sz I.fresh _) (new_lst sz I.fresh (dds_app dx dy))⟩
def intD (c : Int → Int → Bool) (o : Int → Int → PyData) : PyData → PyData → Option PyData
  | .int i, .int j => if c i j then some (o i j) else none
  | _, _ => none
theorem od_int {f : Value → Value → Sem Value} {C : Int → Int → Prop} {g : Int → Int → V} {c : Int → Int → Bool} {o : Int → Int → PyData} (h : OpR X f (rI C g)) (hc : ∀ i j, c i j = true → C i j) (hd : ∀ K Z i j, DD K Z (g i j) (o i j)) : OpD X f (intD c o) := by
  intro pins s σ H x y v u Q I rx ry h0
  obtain ⟨Z, a, b, d, sz, ha, hb, e, q⟩ := h0
  match a, b, ha, hb, e with
  | .int i, .int j, ha, hb, e =>
    change (if c i j then some (o i j) else none) = some d at e
    split at e
    case isFalse => cases e
    rename_i hcc
    cases e; cases ha.int_inv; cases hb.int_inv
    exact h pins s σ H _ _ v u Q I rx ry ⟨i, j, rfl, rfl, hc i j hcc, q _ Z H (Grow.refl sz) (hd _ _ _ _)⟩
theorem op_rI0 {f : Value → Value → Sem Value} {g : Int → Int → V} (h : OpR X f (rI0 g)) : OpR X f (rI (fun _ _ => True) g) := fun pins s σ H x y v u Q I rx ry ⟨i, j, a, b, _, q⟩ => h pins s σ H x y v u Q I rx ry ⟨i, j, a, b, q⟩
abbrev cTrue (_ _ : Int) : Bool := true
abbrev cMul (i j : Int) : Bool := decide (i.natAbs < 18446744073709551616) || decide (j.natAbs < 18446744073709551616)
abbrev cDiv (_ j : Int) : Bool := decide (0 < j) && decide (j < 1073741824)
abbrev cMod (_ j : Int) : Bool := decide (0 < j)
abbrev cPow (i j : Int) : Bool := decide (0 ≤ j) && decide (j ≤ 1000) && decide (i.natAbs < 1000)
abbrev subD := intD cTrue fun i j => .int (i - j)
abbrev mulD := intD cMul fun i j => .int (i * j)
abbrev fdivD := intD cDiv fun i j => .int (i / j)
abbrev modD := intD cMod fun i j => .int (i % j)
abbrev powD := intD cPow fun i j => .int (i ^ j.toNat)
abbrev ltD := intD cTrue fun i j => .bool (decide (i < j))
abbrev gtD := intD cTrue fun i j => .bool (decide (j < i))
abbrev geD := intD cTrue fun i j => .bool (decide (j ≤ i))
theorem od_sub : OpD X (binaryOp .Sub) subD := od_int (op_rI0 op_sub) (fun _ _ _ => trivial) fun _ _ _ _ => .int _
theorem od_mul : OpD X (binaryOp .Mult) mulD := od_int op_mul (fun i j h => by
  rw [cMul, Bool.or_eq_true, decide_eq_true_eq, decide_eq_true_eq] at h
  unfold CMul
  rcases h with h | h
  · left; omega
  · right; omega) fun _ _ _ _ => .int _
theorem od_fdiv : OpD X (binaryOp .FloorDiv) fdivD := od_int op_fdiv (fun i j h => by
  rw [cDiv, Bool.and_eq_true, decide_eq_true_eq, decide_eq_true_eq] at h
  exact h) fun _ _ _ _ => .int _
theorem od_mod : OpD X (binaryOp .Mod) modD := od_int op_mod (fun i j h => of_decide_eq_true h) fun _ _ _ _ => .int _
theorem od_pow : OpD X (binaryOp .Pow) powD := od_int op_pow (fun i j h => by
  rw [cPow, Bool.and_eq_true, Bool.and_eq_true, decide_eq_true_eq, decide_eq_true_eq, decide_eq_true_eq] at h
  unfold CPow
  omega) fun _ _ _ _ => .int _
theorem od_lt : OpD X (compareOp .Lt) ltD := od_int (op_rI0 op_lt) (fun _ _ _ => trivial) fun _ _ _ _ => .bl _
theorem od_gt : OpD X (compareOp .Gt) gtD := od_int (op_rI0 op_gt) (fun _ _ _ => trivial) fun _ _ _ _ => .bl _
theorem od_ge : OpD X (compareOp .GtE) geD := od_int (op_rI0 op_ge) (fun _ _ _ => trivial) fun _ _ _ _ => .bl _
/-- what may be compared -/
def shD (d : PyData) : Bool := SeqAt.shaped d && !d.hasDict
theorem shD_sh {d : PyData} (h : shD d = true) : SeqAt.shaped d = true := (Bool.and_eq_true_iff.mp h).1
theorem shD_nd {d : PyData} (h : shD d = true) : d.hasDict = false := by
  have := (Bool.and_eq_true_iff.mp h).2
  rwa [Bool.not_eq_true'] at this
/-- are they equal? -/
def eqB : PyData → PyData → Option Bool
  | .int i, .int j => some (decide (i = j))
  | .str i, .str j => some (decide (i = j))
  | a, b => if shD a && shD b then some (PyData.eqv a b) else none
def eqD (a b : PyData) : Option PyData := (eqB a b).map .bool
def neD (a b : PyData) : Option PyData := (eqB a b).map fun k => .bool (!k)
theorem eq_run {op : CmpOp} {neg : Bool → Bool} (h1 : OpR X (compareOp op) (fun x y H Q => scal x y = true ∧ Q (.bl (neg (decide (x = y)))) H)) (h2 : OpR X (compareOp op) (fun x y H Q => ∃ d e, Dp X.K H x d ∧ Dp X.K H y e ∧ SeqAt.shaped d = true ∧ SeqAt.shaped e = true ∧ Q (.bl (neg (PyData.eqv d e))) H)) :
    OpD X (compareOp op) (fun a b => (eqB a b).map fun k => .bool (neg k)) := by
  intro pins s σ H x y v u Q I rx ry h
  obtain ⟨Z, a, b, d, sz, ha, hb, e, q⟩ := h
  obtain ⟨k, ek, rfl⟩ := mpd e
  have deep : (if shD a && shD b then some (PyData.eqv a b) else none) = some k → wpAny (model X.prog X.w) X.A (compareOp op v u) (EP X pins σ Q) X.xe s := fun e => by
    split at e
    case isFalse => cases e
    rename_i hs
    rw [Bool.and_eq_true] at hs
    cases e
    exact h2 pins s σ H x y v u Q I rx ry ⟨a, b, DD.dp _ _ (shD_nd hs.1) (DDm ha sz), DD.dp _ _ (shD_nd hs.2) (DDm hb sz), shD_sh hs.1, shD_sh hs.2, q _ Z H (Grow.refl sz) (.bl _)⟩
  unfold eqB at ek
  split at ek
  · cases ek; cases ha.int_inv; cases hb.int_inv
    refine h1 pins s σ H _ _ v u Q I rx ry ⟨rfl, ?_⟩
    rename_i i j
    have : decide (V.int i = V.int j) = decide (i = j) := by
      by_cases z : i = j
      · subst z; simp
      · rw [decide_eq_false z, decide_eq_false (fun w => z (V.int.inj w))]
    rw [this]
    exact q _ Z H (Grow.refl sz) (.bl _)
  · cases ek; cases ha.str_inv; cases hb.str_inv
    refine h1 pins s σ H _ _ v u Q I rx ry ⟨rfl, ?_⟩
    rename_i i j
    have : decide (V.str i = V.str j) = decide (i = j) := by
      by_cases z : i = j
      · subst z; simp
      · rw [decide_eq_false z, decide_eq_false (fun w => z (V.str.inj w))]
    rw [this]
    exact q _ Z H (Grow.refl sz) (.bl _)
  · exact deep ek
theorem od_eq {k : Nat} (hr : Room k X.A) : OpD X (compareOp .Eq) eqD := eq_run (neg := id) op_eq (op_eqD hr.units)
theorem od_ne {k : Nat} (hr : Room k X.A) : OpD X (compareOp .NotEq) neD := eq_run (neg := fun k => !k) op_ne (op_neD hr.units)
theorem eqD_scal (a b d : PyData) (h : eqD a b = some d) : scalD d = true := by obtain ⟨k, _, rfl⟩ := mpd h; rfl
theorem neD_scal (a b d : PyData) (h : neD a b = some d) : scalD d = true := by obtain ⟨k, _, rfl⟩ := mpd h; rfl

/-! ### chains a < b < c -/
variable {F : Fm} {a b c e : Expr} {es : List Expr} {pos p pn p2 : Pos} {f g k : DEnv → Option (PyData × DEnv)} {fa : DEnv → Option (List PyData × DEnv)} {x y : Str}
def fChain (o o' : PyData → PyData → Option PyData) (f g k : DEnv → Option (PyData × DEnv)) (env : DEnv) : Option (PyData × DEnv) :=
  (f env).bind fun x => (g x.2).bind fun y => (o x.1 y.1).bind fun z => match z with
    | .bool true => (k y.2).bind fun w => (o' y.1 w.1).map fun d => (d, w.2)
    | .bool false => some (.bool false, y.2)
    | _ => none
theorem pd_chain {op op' : CmpOp} {o o' : PyData → PyData → Option PyData} (ho : OpD X (compareOp op) o) (ho' : OpD X (compareOp op') o') (ha : PD X F a f) (hb : PD X F b g) (hc : PD X F c k) (hm : lastMarks [op, op'] [b, c] = false := by with_unfolding_all rfl) :
    PD X F (.Compare a [op, op'] [b, c] pos) (fChain o o' f g k) := pe_imp (pe_chain ho ho' ha hb hc hm) fun σ H Q h => by
  obtain ⟨Z, env, d, env', r, e, q⟩ := h
  obtain ⟨⟨x, e1⟩, h1, h⟩ := bnd e
  obtain ⟨⟨y, e2⟩, h2, h⟩ := bnd h
  obtain ⟨z, h3, h⟩ := bnd h
  refine ⟨Z, env, x, e1, r, h1, fun v1 Z1 H1 r1 s1 d1 => ⟨Z1, e1, y, e2, r1, h2, fun v2 Z2 H2 r2 s2 d2 => ⟨Z2, x, y, z, r2.zh, DDm d1 s2.z, d2, h3, fun vz Z3 H3 gr dz => ?_⟩⟩⟩
  have s12 := s1.trans s2
  match z, h, dz with
  | .bool true, h, dz =>
    obtain ⟨⟨w, e3⟩, h4, h⟩ := bnd h
    obtain ⟨d', h5, h⟩ := mpd h
    cases h
    cases dz.bool_inv
    refine ⟨true, rfl, iteT ⟨Z3, e2, w, e3, r2.grow gr, h4, fun v3 Z4 H4 r4 s4 d4 => ⟨Z4, y, w, d, r4.zh, DDm (DDm d2 gr.z) s4.z, d4, h5, fun v5 Z5 H5 g5 d5 => ?_⟩⟩⟩
    exact q v5 Z5 H5 (r4.grow g5) (((s12.trans gr.stp).trans s4).trans g5.stp) d5
  | .bool false, h, dz =>
    cases h
    cases dz.bool_inv
    exact ⟨false, rfl, iteF (q _ Z3 H3 (r2.grow gr) (s12.trans gr.stp) (.bl false))⟩
/-! ### built-in functions on data -/
theorem dds1 {K : PySem.W.Frag} {Z : Hp} {vs : List V} {d : PyData} (h : DDs K Z vs [d]) : ∃ v, vs = [v] ∧ DD K Z v d := by
  cases h with
  | cons h1 h2 => cases h2; exact ⟨_, rfl, h1⟩
theorem dds2 {K : PySem.W.Frag} {Z : Hp} {vs : List V} {d e : PyData} (h : DDs K Z vs [d, e]) : ∃ v w, vs = [v, w] ∧ DD K Z v d ∧ DD K Z w e := by
  cases h with
  | cons h1 h2 =>
    obtain ⟨w, rfl, h3⟩ := dds1 h2
    exact ⟨_, w, rfl, h1, h3⟩
def lenD : List PyData → Option PyData
  | [.list ds] => some (.int ds.length)
  | [.tuple ds] => some (.int ds.length)
  | [.str x] => if x.length ≤ lim then some (.int x.length) else none
  | _ => none
theorem cd_len : CallD X (.builtin "len") lenD := by
  intro pins s σ H xs us Q I r h
  obtain ⟨Z, ds, d, sz, hd, e, q⟩ := h
  match ds, hd, e with
  | [.list ds], hd, e =>
    cases e
    obtain ⟨v, rfl, h1⟩ := dds1 hd
    cases h1 with
    | @lst a ys _ hr ha => exact call_len_seq pins s σ H _ us Q I r ⟨a, ys, rfl, .inl (same_ls sz hr).sq, by rw [dds_len ha]; exact q _ Z H (Grow.refl sz) (.int _)⟩
  | [.tuple ds], hd, e =>
    cases e
    obtain ⟨v, rfl, h1⟩ := dds1 hd
    cases h1 with
    | @tup a ys _ hr ha => exact call_len_seq pins s σ H _ us Q I r ⟨a, ys, rfl, .inr (same_sqT sz hr), by rw [dds_len ha]; exact q _ Z H (Grow.refl sz) (.int _)⟩
  | [.str x], hd, e =>
    change (if x.length ≤ lim then some (PyData.int x.length) else none) = some d at e
    split at e
    case isFalse => cases e
    rename_i hx
    cases e
    obtain ⟨v, rfl, h1⟩ := dds1 hd
    cases h1.str_inv
    exact call_len_str pins s σ H _ us Q I r ⟨x, rfl, Nat.le_trans hx lim_le, q _ Z H (Grow.refl sz) (.int _)⟩
/-- len(name): the list as it stands -/
def fLenN (j : Nat) (env : DEnv) : Option (PyData × DEnv) := (rdB j env).bind fun d => (lenD [d]).map fun n => (n, env)
theorem pd_lenN (j : Nat) (hm : X.mg "len" = none) (hN : X.N[j]? = some y := by rfl) (hv : Vis X.env.scope y := by first | exact Or.inl rfl | exact Or.inr (Or.inl rfl) | exact Or.inr (Or.inr rfl)) (hd : (y == ("__debug__" : Str)) = false := by decide)
    (hcd : (y == ("__classdict__" : Str)) = false := by decide) (hg : Gl X "len" := by rfl) (he : starEach [.Name y pn] X.env = (false, eval (.Name y pn) X.env) :: starEach [] X.env := by rfl) (hpl : (backTo pos (starEach [] X.env)).any (·.1) = false := by rfl) :
    PD X F (.Call (.Name "len" p) [.Name y pn] [] pos) (fLenN j) :=
  pe_imp (pe_callB cd_len hg hm PySem.boot_len (pa_cons (pe_var hN hv hd hcd) pa_nil he) (by decide) (by decide) he hpl) fun σ H Q h => by
    obtain ⟨Z, env, d, env', r, e, q⟩ := h
    obtain ⟨d0, h1, e⟩ := bnd e
    obtain ⟨n, h2, e⟩ := mpd e
    cases e
    obtain ⟨v, sv, dv⟩ := r.rdB h1
    refine ⟨v, sv, H, [d0], d, Same.refl H, .cons dv .nil, h2, fun w Z' H' gr dd => ?_⟩
    have gr' : Grow Z H Z H' := ⟨Same.refl _, r.zh.trans gr.h, gr.h, gr.t, fun _ z => .inl z⟩
    refine q w Z H' (r.grow gr') gr'.stp (dd.scal ?_)
    match d0, h2 with
    | .list _, h2 => cases h2; rfl
    | .tuple _, h2 => cases h2; rfl
    | .str x, h2 =>
      change (if x.length ≤ lim then some (PyData.int x.length) else none) = some d at h2
      split at h2 <;> cases h2
      rfl
def absD : List PyData → Option PyData
  | [.int i] => some (.int (if i < 0 then -i else i))
  | _ => none
theorem cd_abs : CallD X (.builtin "abs") absD := by
  intro pins s σ H xs us Q I r h
  obtain ⟨Z, ds, d, sz, hd, e, q⟩ := h
  match ds, hd, e with
  | [.int i], hd, e =>
    cases e
    obtain ⟨v, rfl, h1⟩ := dds1 hd
    cases h1.int_inv
    exact call_abs pins s σ H _ us Q I r ⟨i, rfl, q _ Z H (Grow.refl sz) (.int _)⟩
def maxD : List PyData → Option PyData
  | [.int i, .int j] => some (.int (if j > i then j else i))
  | _ => none
def minD : List PyData → Option PyData
  | [.int i, .int j] => some (.int (if j < i then j else i))
  | _ => none
theorem cd_max (hc : X.calm = true) : CallD X (.builtin "max") maxD := by
  intro pins s σ H xs us Q I r h
  obtain ⟨Z, ds, d, sz, hd, e, q⟩ := h
  match ds, hd, e with
  | [.int i, .int j], hd, e =>
    cases e
    obtain ⟨v, w, rfl, h1, h2⟩ := dds2 hd
    cases h1.int_inv
    cases h2.int_inv
    exact call_max2 hc pins s σ H _ us Q I r ⟨i, j, rfl, q _ Z H (Grow.refl sz) (.int _)⟩
theorem cd_min (hc : X.calm = true) : CallD X (.builtin "min") minD := by
  intro pins s σ H xs us Q I r h
  obtain ⟨Z, ds, d, sz, hd, e, q⟩ := h
  match ds, hd, e with
  | [.int i, .int j], hd, e =>
    cases e
    obtain ⟨v, w, rfl, h1, h2⟩ := dds2 hd
    cases h1.int_inv
    cases h2.int_inv
    exact call_min2 hc pins s σ H _ us Q I r ⟨i, j, rfl, q _ Z H (Grow.refl sz) (.int _)⟩
def boolsD : List PyData → Option (List Bool)
  | [] => some []
  | .bool b :: r => (boolsD r).map (b :: ·)
  | _ => none
theorem bools_of {K : PySem.W.Frag} {Z : Hp} : ∀ {vs : List V} {ds : List PyData} {bs : List Bool}, DDs K Z vs ds → boolsD ds = some bs → vs = bs.map V.bl
  | _, [], bs, h, e => by cases e; cases h; rfl
  | _, .bool b :: r, bs, h, e => by
    obtain ⟨cs, e1, rfl⟩ := mpd e
    cases h with
    | cons h1 h2 =>
      cases h1.bool_inv
      rw [bools_of h2 e1]
      rfl
  | _, .none :: _, _, _, e => by cases e
  | _, .int _ :: _, _, _, e => by cases e
  | _, .str _ :: _, _, _, e => by cases e
  | _, .list _ :: _, _, _, e => by cases e
  | _, .tuple _ :: _, _, _, e => by cases e
  | _, .dict _ :: _, _, _, e => by cases e
def allD : List PyData → Option PyData
  | [.list ds] => (boolsD ds).map fun bs => .bool (bs.all id)
  | _ => none
def anyD : List PyData → Option PyData
  | [.list ds] => (boolsD ds).map fun bs => .bool (bs.any id)
  | _ => none
theorem cd_all (hc : X.calm = true) : CallD X (.builtin "all") allD := by
  intro pins s σ H xs us Q I r h
  obtain ⟨Z, ds, d, sz, hd, e, q⟩ := h
  match ds, hd, e with
  | [.list ds], hd, e =>
    obtain ⟨bs, e1, rfl⟩ := mpd e
    obtain ⟨v, rfl, h1⟩ := dds1 hd
    cases h1 with
    | @lst a ys _ hr ha =>
      have := bools_of ha e1
      subst this
      exact cr_all hc pins s σ H _ us Q I r ⟨a, bs, rfl, (same_ls sz hr).sq, q _ Z H (Grow.refl sz) (.bl _)⟩
theorem cd_any (hc : X.calm = true) : CallD X (.builtin "any") anyD := by
  intro pins s σ H xs us Q I r h
  obtain ⟨Z, ds, d, sz, hd, e, q⟩ := h
  match ds, hd, e with
  | [.list ds], hd, e =>
    obtain ⟨bs, e1, rfl⟩ := mpd e
    obtain ⟨v, rfl, h1⟩ := dds1 hd
    cases h1 with
    | @lst a ys _ hr ha =>
      have := bools_of ha e1
      subst this
      exact cr_any hc pins s σ H _ us Q I r ⟨a, bs, rfl, (same_ls sz hr).sq, q _ Z H (Grow.refl sz) (.bl _)⟩
/-! repr -/
abbrev reprOk (d : PyData) : Bool := d.showable && !d.hasDict && decide (d.shown.length ≤ sizeLine) && decide (d.depth ≤ 64)
/-! ### subscripts -/
def ixD : PyData → PyData → Option PyData
  | .list ds, .int i => atI ds i
  | .tuple ds, .int i => atI ds i
  | _, _ => none
theorem dds_at {K : PySem.W.Frag} {Z : Hp} {vs : List V} {ds : List PyData} {i : Int} {d : PyData} (h : DDs K Z vs ds) (e : atI ds i = some d) : ∃ v, atI vs i = some v ∧ DD K Z v d := by
  unfold atI at e ⊢
  rw [dds_len h]
  obtain ⟨j, e1, e2⟩ := bnd e
  obtain ⟨v, e3, e4⟩ := dds_get h e2
  exact ⟨v, by rw [e1]; exact e3, e4⟩
/-- name[i]: the list as it stands -/
def fIxN (j : Nat) (f : DEnv → Option (PyData × DEnv)) (env : DEnv) : Option (PyData × DEnv) := (rdB j env).bind fun _ => (f env).bind fun x => (rdB j x.2).bind fun d => (ixD d x.1).map fun z => (z, x.2)
theorem pd_ixN (j : Nat) (hb : PD X F b f) (hN : X.N[j]? = some y := by rfl) (hv : Vis X.env.scope y := by first | exact Or.inl rfl | exact Or.inr (Or.inl rfl) | exact Or.inr (Or.inr rfl)) (hd : (y == ("__debug__" : Str)) = false := by decide)
    (hcd : (y == ("__classdict__" : Str)) = false := by decide) (hs : PlainIx b := by exact fun _ _ => rfl) : PD X F (.Subscript (.Name y pn) b pos) (fIxN j f) :=
  pe_imp (pe_ix (ix_list.or ix_tup) (pe_var hN hv hd hcd) hb hs) fun σ H Q h => by
    obtain ⟨Z, env, d, env', r, e, q⟩ := h
    obtain ⟨d0, h0, e⟩ := bnd e
    obtain ⟨⟨i, e1⟩, h1, e⟩ := bnd e
    obtain ⟨d1, h2, e⟩ := bnd e
    obtain ⟨z, h3, e⟩ := mpd e
    cases e
    obtain ⟨v, sv, _⟩ := r.rdB h0
    refine ⟨v, sv, Z, env, i, e1, r, h1, fun w Z1 H1 r1 s1 dw => ?_⟩
    unfold rdB at h2
    split at h2
    · rename_i dd ee
      cases h2
      obtain ⟨v', sv', dv⟩ := r1.sl j _ ee
      rw [sv] at sv'
      cases sv'
      match d1, i, dv, dw, h3 with
      | .list ds, .int i, dv, dw, h3 =>
        cases dw.int_inv
        cases dv with
        | @lst p xs _ hr hd =>
          obtain ⟨w, e1, e2⟩ := dds_at hd h3
          exact .inl ⟨p, xs, i, w, rfl, rfl, (same_ls r1.zh hr).sq, e1, q w Z1 H1 r1 s1 e2⟩
      | .tuple ds, .int i, dv, dw, h3 =>
        cases dw.int_inv
        cases dv with
        | @tup p xs _ hr hd =>
          obtain ⟨w, e1, e2⟩ := dds_at hd h3
          exact .inr ⟨p, xs, i, w, rfl, rfl, same_sqT r1.zh hr, e1, q w Z1 H1 r1 s1 e2⟩
    · rename_i ds ee
      cases h2
      obtain ⟨p, xs, sv', _, _, _, hp, hd⟩ := r1.sl j _ ee
      rw [sv] at sv'
      cases sv'
      match i, dw, h3 with
      | .int i, dw, h3 =>
        cases dw.int_inv
        obtain ⟨w, e1, e2⟩ := dds_at hd h3
        exact .inl ⟨p, xs, i, w, rfl, rfl, SqL.of hp, e1, q w Z1 H1 r1 s1 e2⟩
    · rename_i ds ee
      cases h2
      obtain ⟨p, xs, sv', _, hp, hd⟩ := r1.sl j _ ee
      rw [sv] at sv'
      cases sv'
      match i, dw, h3 with
      | .int i, dw, h3 =>
        cases dw.int_inv
        obtain ⟨w, e1, e2⟩ := dds_at hd h3
        exact .inl ⟨p, xs, i, w, rfl, rfl, SqL.of hp, e1, q w Z1 H1 r1 s1 e2⟩
    · cases h2; cases h3
    · cases h2

/-! ### slices -/
def cutD (ds : List PyData) (lo hi : Option Int) : List PyData := (ds.drop (HT.sIx ds.length 0 lo)).take (HT.sIx ds.length ds.length hi - HT.sIx ds.length 0 lo)
theorem dds_cut {K : PySem.W.Frag} {Z : Hp} {vs : List V} {ds : List PyData} (h : DDs K Z vs ds) (lo hi : Option Int) : DDs K Z (cutV vs lo hi) (cutD ds lo hi) := by
  unfold cutV cutD
  rw [dds_len h]
  exact dds_take _ (dds_drop _ h)
def slD (d : PyData) (lo hi : Option Int) : Option PyData := match d with
  | .list ds => some (.list (cutD ds lo hi))
  | .tuple ds => some (.tuple (cutD ds lo hi))
  | _ => none
def rSlD (K : PySem.W.Frag) : V → Option Int → Option Int → Hp → VK → Prop := fun x lo hi H Q => ∃ Z a d, Same Z H ∧ DD K Z x a ∧ slD a lo hi = some d ∧ ∀ v Z' H', Grow Z H Z' H' → DD K Z' v d → Q v H'
theorem sl_data : SlR X (rSlD X.K) := by
  intro pins s σ H x v vl vu lo hi sl Q I rx hs pl pu h
  obtain ⟨Z, a, d, sz, ha, e, q⟩ := h
  match a, ha, e with
  | .list ds, ha, e =>
    cases e
    cases ha with
    | @lst p xs _ hr hd => exact sl_list pins s σ H _ v vl vu lo hi sl Q I rx hs pl pu ⟨p, xs, rfl, (same_ls sz hr).sq, fun p hp => q _ _ _ (grow_new sz hp _) (new_lst sz hp (dds_cut hd lo hi))⟩
  | .tuple ds, ha, e =>
    cases e
    cases ha with
    | @tup p xs _ hr hd =>
      refine sl_tupA pins s σ H _ v vl vu lo hi sl Q I rx hs pl pu ⟨p, xs, rfl, same_sqT sz hr, fun w => ?_, fun _ p hp => q _ _ _ (grow_new sz hp _) (new_tup sz hp (dds_cut hd lo hi))⟩
      have hl := dds_len hd
      have : cutD ds lo hi = ds := by
        unfold cutD
        rw [← hl, w.1, w.2, hl]
        simp
      rw [this] at q
      exact q _ Z H (Grow.refl sz) (.tup hr hd)
def tDO (K : PySem.W.Frag) (F : Fm) (f : DEnv → Option (Option Int × DEnv)) : TO := fun σ H Q => ∃ Z env d env', Rel K F Z H σ env ∧ f env = some (d, env') ∧ ∀ Z' H', Rel K F Z' H' σ env' → Stp σ env Z H env' Z' H' → Q d H'
def PDO (X : Cx) (F : Fm) (e : Option Expr) (f : DEnv → Option (Option Int × DEnv)) : Prop := PO X e (tDO X.K F f)
theorem po_imp {X : Cx} {e : Option Expr} {t t' : TO} (h : PO X e t) (w : ∀ σ H Q, t' σ H Q → t σ H Q) : PO X e t' := ⟨fun pins s σ H Q I q => h.run pins s σ H Q I (w σ H Q q)⟩
def oNone (env : DEnv) : Option (Option Int × DEnv) := some (none, env)
def oSome (f : DEnv → Option (PyData × DEnv)) (env : DEnv) : Option (Option Int × DEnv) := (f env).bind fun x => match x.1 with
  | .int i => some (some i, x.2)
  | _ => none
theorem do_none : PDO X F none oNone := po_imp po_none fun σ H Q h => by
  obtain ⟨Z, env, d, env', r, e, q⟩ := h
  cases e
  exact q Z H r Stp.refl
theorem do_some (ha : PD X F e f) : PDO X F (some e) (oSome f) := po_imp (po_some ha) fun σ H Q h => by
  obtain ⟨Z, env, d, env', r, e, q⟩ := h
  obtain ⟨⟨i, e1⟩, h1, e⟩ := bnd e
  match i, h1, e with
  | .int i, h1, e =>
    cases e
    refine ⟨Z, env, .int i, e1, r, h1, fun v Z1 H1 r1 s1 d1 => ?_⟩
    cases d1.int_inv
    exact ⟨i, rfl, q Z1 H1 r1 s1⟩
def fSl (f : DEnv → Option (PyData × DEnv)) (fl fh : DEnv → Option (Option Int × DEnv)) (env : DEnv) : Option (PyData × DEnv) := (f env).bind fun x => (fl x.2).bind fun l => (fh l.2).bind fun h => (slD x.1 l.1 h.1).map fun d => (d, h.2)
theorem pd_slice {lo hi : Option Expr} {fl fh : DEnv → Option (Option Int × DEnv)} (ha : PD X F e f) (hl : PDO X F lo fl) (hh : PDO X F hi fh) : PD X F (.Subscript e (.Slice lo hi none p2) pos) (fSl f fl fh) := pe_imp (pe_slice sl_data ha hl hh) fun σ H Q h => by
  obtain ⟨Z, env, d, env', r, e, q⟩ := h
  obtain ⟨⟨a, e1⟩, h1, e⟩ := bnd e
  obtain ⟨⟨l, e2⟩, h2, e⟩ := bnd e
  obtain ⟨⟨u, e3⟩, h3, e⟩ := bnd e
  obtain ⟨z, h4, e⟩ := mpd e
  cases e
  refine ⟨Z, env, a, e1, r, h1, fun v Z1 H1 r1 s1 d1 => ⟨Z1, e1, l, e2, r1, h2, fun Z2 H2 r2 s2 => ⟨Z2, e2, u, e3, r2, h3, fun Z3 H3 r3 s3 => ⟨Z3, a, d, r3.zh, DDm (DDm d1 s2.z) s3.z, h4, fun w Z' H' gr dd => ?_⟩⟩⟩⟩
  exact q w Z' H' (r3.grow gr) (((s1.trans s2).trans s3).trans gr.stp) dd

/-! ### list(range(..)), new -/
def nListRg (f : DEnv → Option (PyData × DEnv)) (env : DEnv) : Option (List PyData × DEnv) := (f env).bind fun x => match x.1 with
  | .int j => if j ≤ 100000 ∧ -100000 ≤ j then some (rangeD 0 j.toNat, x.2) else none
  | _ => none
theorem dds_ints {K : PySem.W.Frag} {Z : Hp} : ∀ ns : List Int, DDs K Z (ns.map V.int) (ns.map PyData.int)
  | [] => .nil
  | n :: ns => .cons (.int n) (dds_ints ns)
theorem dds_range {K : PySem.W.Frag} {Z : Hp} (n : Int) : DDs K Z (rgV 0 n) (rangeD 0 n.toNat) := by
  unfold rgV rangeD
  have := dds_ints (K := K) (Z := Z) ((List.range n.toNat).map fun i => (0 : Int) + (i : Nat))
  rw [List.map_map, List.map_map] at this
  rw [show n - 0 = n by omega]
  exact this
theorem pn_listRg (hml : X.mg "list" = none) (hmr : X.mg "range" = none) (ha : PD X F a f) (hc : X.calm = true := by rfl) (hgl : Gl X "list" := by rfl) (hgr : Gl X "range" := by rfl) {q0 q1 : Pos} (na : starEach [a] X.env = (false, eval a X.env) :: starEach [] X.env := by rfl)
    (na2 : starEach [.Call (.Name "range" q0) [a] [] q1] X.env = (false, eval (.Call (.Name "range" q0) [a] [] q1) X.env) :: starEach [] X.env := by rfl) :
    PN X F (.Call (.Name "list" p) [.Call (.Name "range" q0) [a] [] q1] [] pos) (nListRg f) := pe_imp (pe_listRg hc hgl hml (prg_1 hgr hmr ha na) na2) fun σ H Q h => by
  obtain ⟨Z, env, d, env', r, e, q⟩ := h
  obtain ⟨⟨i, e1⟩, h1, e⟩ := bnd e
  match i, h1, e with
  | .int j, h1, e =>
    change (if j ≤ 100000 ∧ -100000 ≤ j then some (rangeD 0 j.toNat, e1) else none) = some (d, env') at e
    split at e
    case isFalse => cases e
    rename_i hj
    cases e
    refine ⟨Z, env, .int j, env', r, h1, fun v Z1 H1 r1 s1 d1 => ?_⟩
    cases d1.int_inv
    refine ⟨j, rfl, ⟨by omega, by omega, by omega, by omega, by omega⟩, fun p hp => ?_⟩
    have gr := grow_own r1.zh hp (.lst (rgV 0 j))
    exact q p _ _ _ (r1.grow gr) (s1.trans gr.stp) (s1.new hp) (r1.zh.free hp) upd_same (dds_range j)

/-- the types of values, those of my own dicts too -/
def TyY (K : PySem.W.Frag) (H : Hp) (x : V) (t : Value) : Prop := TyX K H x t ∨ (∃ (a : Addr) (o : Obj), x = .ref a ∧ t = .type "dict" ∧ H a = some (DnO a o) ∧ o.cls = .type "dict") ∨ ∃ (a C : Addr), x = .ref a ∧ t = .ref C ∧ KEx K C ∧ (H a = some (ExO a (.ref C) none) ∨ ∃ dx fs, H a = some (ExO a (.ref C) (some dx)) ∧ H dx = some (.xd fs))
theorem exo_inst {X : Cx} {pins : List (Addr × Obj)} {σ : St} {H : Hp} {s : Shared} {a C : Addr} (I : Inv X pins σ H s) (h : H a = some (ExO a (.ref C) none) ∨ ∃ dx fs, H a = some (ExO a (.ref C) (some dx)) ∧ H dx = some (.xd fs)) : ∃ (oe : Obj) (od : Option Obj), PySem.W.InstAt s.heap a oe C od := by
  rcases h with h | ⟨dx, fs, h, h2⟩
  · obtain ⟨⟨oe, vs, e1, e2, e3, e4⟩, _, _⟩ := (show ObjOk X.prog X.w H s.heap a (ExO a (.ref C) none) from I.hok a _ h)
    exact ⟨oe, none, e1, e2, by unfold PySem.W.notCls; rw [e4] <;> rfl, by rw [e3]; trivial⟩
  · obtain ⟨⟨oe, vs, e1, e2, e3, e4⟩, _, _⟩ := (show ObjOk X.prog X.w H s.heap a (ExO a (.ref C) (some dx)) from I.hok a _ h)
    obtain ⟨mA, hns, _⟩ := (show ObjOk X.prog X.w H s.heap dx (.xd fs) from I.hok dx _ h2)
    obtain ⟨od, ho, _⟩ := lookIn_ns hns
    exact ⟨oe, some od, e1, e2, by unfold PySem.W.notCls; rw [e4] <;> rfl, by rw [e3]; exact ho⟩
theorem kit_ofY {X : Cx} {pins : List (Addr × Obj)} {σ : St} {H : Hp} {s : Shared} {x : V} {u t : Value} (I : Inv X pins σ H s) (rx : RelV x u) (ty : TyY X.K H x t) : ∃ P : Heap → Prop, PySem.W.KitX X.K u t P ∧ P s.heap ∧ u ≠ .builtin "__main__.__loader__#opaque" := by
  rcases ty with ty | ⟨a, o, rfl, rfl, ea, hc⟩ | ⟨a, C, rfl, rfl, k, ea⟩
  · exact kit_of I rx ty
  · cases (show u = Value.ref a from rx)
    obtain ⟨h1, _⟩ := (show ObjOk X.prog X.w H s.heap a (DnO a o) from I.hok a _ ea)
    exact ⟨_, PySem.W.kitx_dict, ⟨o, h1, hc⟩, fun z => nomatch z⟩
  · cases (show u = Value.ref a from rx)
    obtain ⟨oe, od, J⟩ := exo_inst I ea
    exact ⟨_, PySem.W.kitx_exc (ox := oe) (od := od) k.hcl k.hga k.hgt k.hsub k.ha k.hn k.htk k.hm, J, fun z => nomatch z⟩
def rIsiY (K : PySem.W.Frag) : List V → Hp → VK → Prop := fun xs H Q => ∃ (x c : V) (t u : Value) (b : Bool), xs = [x, c] ∧ ClsV c u ∧ TyY K H x t ∧ PySem.W.kitOne K t u = some b ∧ Q (.bl b) H
theorem call_isiY {X : Cx} : CallR X (.builtin "isinstance") (rIsiY X.K) := by
  intro pins s σ H xs us Q I r h
  obtain ⟨x, c, t, u, b, rfl, k, ty, e, q⟩ := h
  obtain ⟨u1, u2, rfl, r1, r2⟩ := vals2 r
  have e2 := k.eq r2
  subst e2
  obtain ⟨P, Z, p, hx⟩ := kit_ofY I r1 ty
  exact PySem.W.kia_one Z I.kIn p e hx fun tk => ⟨.bl b, H, I.tok tk, rfl, q⟩
abbrev fiveT : List String := ["bool", "int", "str", "list", "tuple"]
end

/-! ### the end: the law's call -/
/-- tracked at the start: the script, and the tables cs.2 -/
structure St0 (K : PySem.W.Frag) (h : Heap) (cs : List (Addr × Addr)) (a : Addr) (vs : List Value) (ns : List Int) (H : Hp) : Prop where
  at_a : H a = some (.frz { cls := .type "list", data := .seq vs.toArray } (.lst (ns.map V.int))) ∧ K.lookup a = none ∨ H a = none
  at_t : ∀ q, (∃ c, (c, q) ∈ cs) → H q = some (.tbl #[])
  els : ∀ b, b ≠ a → (¬ ∃ c, (c, b) ∈ cs) → H b = none
  ls : LsR K H a (ns.map V.int)
theorem law_callG {P : Program} {w : World} {K : PySem.W.Frag} {mg mb : Str → Option Value} {k : Nat} {fa a : Addr} {fd : FuncData} {x : Str} {m : List PyData → Option PyData} {s1 : Shared} {vs : List Value} {ns : List Int} {cs : List (Addr × Addr)}
    (KX : K.In s1.heap) (hns : s1.heap.Ns mainGlobals mg) (hb : s1.heap.Ns builtinsNs mb) (hbb : ∀ y : Str, y ≠ "__name__" → mb y = bootBuiltins y) (hlim : s1.heap.NoLimit) (hg : s1.gens = #[])
    (tbs : ∀ c q, (c, q) ∈ cs → s1.heap.get? q = some { cls := .none, data := .fields #[] } ∧ K.lookup q = none ∧ PySem.W.CodeHd s1.heap c q)
    (hbm : ∃ (bm : Addr) (ob : Obj), mg "__builtins__" = some (.ref bm) ∧ bm ≠ builtinsNs ∧ s1.heap.get? bm = some ob ∧ ob.cls = .type "module" ∧ ob.dict = some builtinsNs ∧ ob.data = .plain)
    (ha : s1.heap.get? a = some { cls := .type "list", data := .seq vs.toArray }) (hi : IntsAre vs ns) (hl : ns.length ≤ sizeLine) (hr : Room k callerA) (hlab : ∀ q ∈ Lab.T, ∃ c, (c, q.1) ∈ cs)
    (G : ∀ base : Heap, K.In base → base.Ns mainGlobals mg → (∀ c q, (c, q) ∈ cs → LamX.TabB base mg c q) → FnG P w K mg base k fa fd [x] (spF K 1 m)) (hbind : ∀ (s : Shared) (u : Value), BindsTo s fd ⟨[u], []⟩ [(x, u)])
    (hm : m [.list (ns.map PyData.int)] = some (.bool true)) :
    codeAny (model P w) callerA (.call (.ref fa) ⟨[.ref a], []⟩) (fun r s' => r = .ok (.ret (.bool true)) ∧ OldK s1.heap s'.heap ∧ s'.os = s1.os ∧ AllBare s'.gens) s1 := by
  classical
  have rv := vals_ints hi
  have aT : ¬ ∃ c, (c, a) ∈ cs := fun ⟨c, hc⟩ => by
    have q := (tbs c a hc).1
    rw [ha] at q
    have z' : Data.seq vs.toArray _ = Data.fields #[] := congrArg Obj.data (Option.some.inj q)
    cases z'
  have core : ∀ H : Hp, St0 K s1.heap cs a vs ns H → HOk P w H s1.heap →
      codeAny (model P w) callerA (.call (.ref fa) ⟨[.ref a], []⟩) (fun r s' => r = .ok (.ret (.bool true)) ∧ OldK s1.heap s'.heap ∧ s'.os = s1.os ∧ AllBare s'.gens) s1 := by
   intro H S0 hok
   -- an object that is neither the script nor a table
   have und : ∀ {b : Addr} {o : Obj}, s1.heap.get? b = some o → (∀ us n, o.data ≠ .seq us n) → o.data ≠ .fields #[] → (hidT s1.heap H).get? b = some o := fun {b o} e h1 h2 => by
     refine hidT_get e (S0.els b (fun z => ?_) fun ⟨c, hc⟩ => ?_)
     · rw [z, ha] at e
       cases e
       exact h1 _ _ rfl
     · rw [(tbs c b hc).1] at e
       cases e
       exact h2 rfl
   have nsK : ∀ {b : Addr} {m' : Str → Option Value}, s1.heap.Ns b m' → (hidT s1.heap H).Ns b m' := fun {b m'} ⟨o, es, ep, e, d, r⟩ => ⟨o, es, ep, und e (fun _ _ z => by rw [d] at z; cases z) (fun z => by rw [d] at z; cases z), d, r⟩
   have hKb : K.In (hidT s1.heap H) := fun b o e => hidT_get (KX b o e) (by
      by_cases z : b = a
      · subst z
        rcases S0.at_a with ⟨_, Ha⟩ | Ha
        · rw [Ha] at e; cases e
        · exact Ha
      · exact S0.els b z fun ⟨c, hc⟩ => by rw [(tbs c b hc).2.1] at e; cases e)
   have hM : Mod K mg (hidT s1.heap H) := by
     refine ⟨hKb, nsK hns, ⟨mb, nsK hb, hbb⟩, ?_⟩
     obtain ⟨mc, h1, h2⟩ := hlim
     exact ⟨mc, nsK h1, h2⟩
   have gT : ∀ c q, (c, q) ∈ cs → LamX.TabB (hidT s1.heap H) mg c q := fun c q hc => by
     obtain ⟨t1, _, o, us, fl, x1, x2, x3, x4, x5, x6, e1, r1, r2, r3⟩ := tbs c q hc
     refine ⟨⟨o, us, fl, x1, x2, x3, x4, x5, x6, und e1 (fun _ _ z => by rw [r2] at z; cases z) (fun z => ?_), r1, r2, r3⟩, ?_, fun z => ?_⟩
     · rw [r2] at z
       cases z
       have := r3.1
       simp at this
     · obtain ⟨bm, ob, b1, b2, b3, b4, b5, b6⟩ := hbm
       refine ⟨bm, ob, b1, b2, fun z => ?_, fun z => ?_, und b3 (fun _ _ z => by rw [b6] at z; cases z) (fun z => by rw [b6] at z; cases z), b4, b5, b6⟩
       · obtain ⟨og, es, ep, e, hd, _⟩ := hns
         rw [z, e] at b3
         cases b3
         rw [hd] at b6
         cases b6
       · rw [z, t1] at b3
         cases b3
         cases b6
     · obtain ⟨og, es, ep, e, hd, _⟩ := hns
       rw [z, t1] at e
       cases e
       cases hd
   have e0 : Env0 P w K mg (hidT s1.heap H) callerA [] s1 H := by
     refine ⟨rfl, hM, fun b o e => of_hidT e, Nat.le_of_eq (hidT_size _ _), trivial, fun b hb => ?_, hok, .of_eq hg⟩
     cases (show b ∈ ([] : List Addr) from hb)
   have tb : TB H := fun q hq => LamX.TabS.nil (S0.at_t q.1 (hlab q hq))
   refine codeAny_mono ((G _ hKb (nsK hns) gT).run callerA [] s1 H ⟨[.ref a], []⟩ [.ref a] [.ref a] (fun v _ => v = .bl true) E0 (fun _ => rfl) hr e0 (hbind s1 (.ref a)) (.cons rfl .nil) ⟨rfl, H, _, _, Same.refl H, tb, .cons (.lst S0.ls (dds_ints ns)) .nil, hm, fun v Z' H' gr dd => dd.bool_inv⟩) fun r s' h => ?_
   cases r with
   | error e => cases h
   | ok fl =>
     cases fl with
     | next => cases h
     | brk => cases h
     | cont => cases h
     | ret u =>
       obtain ⟨v, H', os, bare, un, hok', r', q⟩ := h
       cases (show v = .bl true from q)
       cases (show u = Value.bool true from r')
       have kept : ∀ b o, (¬ ∃ c, (c, b) ∈ cs) → s1.heap.get? b = some o → s'.heap.get? b = some o := fun b o nb e => by
         have plain : H b = none → s'.heap.get? b = some o := fun hn => by
           refine un.keep b o e hn (fun z => ?_) (fun z => by cases z)
           cases (show b ∈ ([] : List Addr) from z)
         by_cases hba : b = a
         · subst hba
           rcases S0.at_a with ⟨Ha, _⟩ | Ha
           · obtain ⟨e1, _⟩ := hok b _ Ha
             obtain ⟨e2, _⟩ := hok' b _ (un.frzs b _ _ Ha)
             rw [e] at e1; cases e1
             exact e2
           · exact plain Ha
         · exact plain (S0.els b hba nb)
       have tabs : ∀ b, (∃ c, (c, b) ∈ cs) → ∃ more : Array Value, s'.heap.get? b = some { cls := .none, data := .fields more } := fun b hb => by
         obtain ⟨more, z⟩ := un.tbls b #[] (S0.at_t b hb)
         exact ⟨_, hok' b _ z⟩
       refine ⟨rfl, ⟨fun b o e => ?_, fun b o e => ?_⟩, os, bare⟩
       · by_cases hb : ∃ c, (c, b) ∈ cs
         · obtain ⟨more, hmore⟩ := tabs b hb
           obtain ⟨c, hc⟩ := hb
           obtain ⟨t1, _, hd⟩ := tbs c b hc
           have e' := e.symm.trans t1
           cases e'
           refine .inr (.inl ⟨(hd.tab t1).isCodeTable, rfl, #[], more, rfl, ?_⟩)
           rw [Array.empty_append]
           exact hmore
         · exact .inl (kept b o hb e)
       · by_cases hb : ∃ c, (c, b) ∈ cs
         · obtain ⟨more, hmore⟩ := tabs b hb
           exact ⟨_, hmore⟩
         · exact ⟨o, kept b o hb e⟩
  cases hk : K.lookup a with
  | some o =>
    have e := KX a o hk
    rw [ha] at e
    cases e
    refine core (fun b => if ∃ c, (c, b) ∈ cs then some (.tbl #[]) else none) ⟨.inr (if_neg aT), fun q h => if_pos h, fun b _ h => if_neg h, .inr ⟨vs, _, hk, by rw [List.length_map]; exact hl, rv⟩⟩ fun b u z => ?_
    by_cases h : ∃ c, (c, b) ∈ cs
    · have z' := (if_pos h).symm.trans z
      cases z'
      obtain ⟨c, hc⟩ := h
      exact (tbs c b hc).1
    · have z' := (if_neg h).symm.trans z
      cases z'
  | none =>
    refine core (fun b => if b = a then some (.frz { cls := .type "list", data := .seq vs.toArray } (.lst (ns.map V.int))) else if ∃ c, (c, b) ∈ cs then some (.tbl #[]) else none) ⟨.inl ⟨if_pos rfl, hk⟩, fun q h => ?_, fun b hb h => (if_neg hb).trans (if_neg h), .inl (.inr ⟨_, if_pos rfl⟩)⟩ fun b u z => ?_
    · have : q ≠ a := fun z => aT (z ▸ h)
      exact (if_neg this).trans (if_pos h)
    · by_cases e : b = a
      · subst e
        have z' := (if_pos rfl).symm.trans z
        cases z'
        exact ⟨ha, by rw [List.length_map]; exact hl, vs, _, rv, ha⟩
      · have z1 := (if_neg e).symm.trans z
        by_cases h : ∃ c, (c, b) ∈ cs
        · have z' := (if_pos h).symm.trans z1
          cases z'
          obtain ⟨c, hc⟩ := h
          exact (tbs c b hc).1
        · have z' := (if_neg h).symm.trans z1
          cases z'
end DL
end L2


set_option Elab.async false
set_option maxRecDepth 100000
set_option maxHeartbeats 4000000
set_option autoImplicit false
namespace L2
namespace DL
open PySem PySem.Spec PyProof.Rows
variable [Lab]
/-! ### tests that compare -/
section
variable {X : Cx} {F : Fm} {a b c e : Expr} {pos p : Pos} {f g k : DEnv → Option (PyData × DEnv)}
def IsB (o : PyData → PyData → Option PyData) : Prop := ∀ a b d, o a b = some d → ∃ k, d = .bool k
theorem tst_read {K : PySem.W.Frag} {t : TE} {f : DEnv → Option (PyData × DEnv)} (hb : ∀ env d e, f env = some (d, e) → ∃ k, d = .bool k) (ht : ∀ σ H Q, tD K F f σ H Q → t σ H Q) {σ : St} {H : Hp} {Q : Bool → Hp → Prop} (h : tDT K F (fTst f) σ H Q) : tTest t σ H Q := by
  obtain ⟨Z, env, d, env', r, e, q⟩ := h
  obtain ⟨⟨x, e1⟩, h1, h⟩ := bnd e
  obtain ⟨k, h2, h⟩ := mpd h
  cases h
  obtain ⟨k', rfl⟩ := hb _ _ _ h1
  cases h2
  exact ht σ H _ ⟨Z, env, _, e1, r, h1, fun v Z1 H1 r1 s1 d1 => ⟨_, d1.bool_inv, q Z1 H1 r1 s1⟩⟩
theorem fBin_b {o : PyData → PyData → Option PyData} (hb : IsB o) (env : DEnv) (d : PyData) (e : DEnv) (h : fBin o f g env = some (d, e)) : ∃ k, d = .bool k := by
  obtain ⟨x, _, h⟩ := bnd h
  obtain ⟨y, _, h⟩ := bnd h
  obtain ⟨z, h1, h⟩ := mpd h
  cases h
  exact hb _ _ _ h1
theorem pdt_cmp {op : CmpOp} {o : PyData → PyData → Option PyData} (ho : OpD X (compareOp op) o) (hb : IsB o) (ha : PD X F a f) (hc : PD X F b g) (hm : behindInMarks op b = false := by first | exact nomark _ | rfl) : PDT X F (.Compare a [op] [b] pos) (fTst (fBin o f g)) :=
  pt_imp (pt_cmpR ho ha hc hm) fun _ _ _ h => tst_read (fBin_b hb) (fun _ _ _ h => bin_read h) h
theorem cmpN_read {K : PySem.W.Frag} {o : PyData → PyData → Option PyData} {i : Nat} (hs : ∀ a b d, o a b = some d → scalD d = true) {σ : St} {H : Hp} {Q : VK} (h : tD K F (fCmpN o f i) σ H Q) : tOp (r2D K o) (tD K F f) (tVar i) σ H Q := by
  obtain ⟨Z, env, d, env', r, e, q⟩ := h
  obtain ⟨⟨x, e1⟩, h1, h⟩ := bnd e
  obtain ⟨y, h2, h⟩ := bnd h
  obtain ⟨d', h3, h⟩ := mpd h
  cases h
  refine ⟨Z, env, x, e1, r, h1, fun v1 Z1 H1 r1 s1 d1 => ?_⟩
  obtain ⟨v, ev, dv⟩ := r1.rdB h2
  refine ⟨v, ev, H1, x, y, d, Same.refl H1, DDm d1 r1.zh, dv, h3, fun v' Z' H' gr dd => ?_⟩
  have gr' : Grow Z1 H1 Z1 H' := ⟨Same.refl _, r1.zh.trans gr.h, gr.h, gr.t, fun _ z => .inl z⟩
  exact q v' Z1 H' (r1.grow gr') (s1.trans gr'.stp) (dd.scal (hs _ _ _ h3))
theorem pdt_cmpN {op : CmpOp} {o : PyData → PyData → Option PyData} (ho : OpD X (compareOp op) o) (hs : ∀ a b d, o a b = some d → scalD d = true) (hb : IsB o) (ha : PD X F a f) (i : Nat) {x : Str} (hm : behindInMarks op (.Name x p) = false := by first | exact nomark _ | rfl)
    (hN : X.N[i]? = some x := by rfl) (hv : Vis X.env.scope x := by first | exact Or.inl rfl | exact Or.inr (Or.inl rfl) | exact Or.inr (Or.inr rfl)) (hd : (x == ("__debug__" : Str)) = false := by decide)
    (hcd : (x == ("__classdict__" : Str)) = false := by decide) : PDT X F (.Compare a [op] [.Name x p] pos) (fTst (fCmpN o f i)) :=
  pt_imp (pt_cmpR ho ha (pe_var hN hv hd hcd) hm) fun _ _ _ h => tst_read (fun env d e h => by
    obtain ⟨x, _, h⟩ := bnd h
    obtain ⟨y, _, h⟩ := bnd h
    obtain ⟨z, h1, h⟩ := mpd h
    cases h
    exact hb _ _ _ h1) (fun _ _ _ h => cmpN_read hs h) h
theorem eqD_b : IsB eqD := fun a b d h => by obtain ⟨k, _, rfl⟩ := mpd h; exact ⟨_, rfl⟩
theorem neD_b : IsB neD := fun a b d h => by obtain ⟨k, _, rfl⟩ := mpd h; exact ⟨_, rfl⟩
theorem intD_b {c : Int → Int → Bool} {o : Int → Int → Bool} : IsB (intD c fun i j => .bool (o i j)) := fun a b d h => by
  match a, b, h with
  | .int i, .int j, h =>
    change (if c i j then some (PyData.bool (o i j)) else none) = some d at h
    split at h <;> cases h
    exact ⟨_, rfl⟩
end
end DL
end L2


set_option Elab.async false
set_option maxRecDepth 100000
set_option maxHeartbeats 4000000
set_option autoImplicit false
namespace L2
namespace DL
open PySem PySem.Spec PyProof.Rows
variable [Lab]
section
variable {X : Cx} {F : Fm} {a b c e tg iter : Expr} {es : List Expr} {s : Stmt} {ss s2 : List Stmt} {pos p pn : Pos} {x y : Str} {f g : DEnv → Option (PyData × DEnv)} {fa fn : DEnv → Option (List PyData × DEnv)} {ft : DEnv → Option (Bool × DEnv)} {h1 h2 : DEnv → Option DFlow}
end
/-! ### small data -/
structure Sm (k w : Nat) (d : PyData) : Prop where
  lay : d.canLay0 = true
  sh : d.showable = true
  nd : d.hasDict = false
  sho : d.intsShort 13 = true
  dp : d.depth ≤ k
  wt : d.weight ≤ w
theorem Sm.mono {k w k' w' : Nat} {d : PyData} (h : Sm k w d) (hk : k ≤ k') (hw : w ≤ w') : Sm k' w' d := ⟨h.lay, h.sh, h.nd, h.sho, Nat.le_trans h.dp hk, Nat.le_trans h.wt hw⟩
theorem sm_all {k w : Nat} : ∀ (ds : List PyData), (∀ d ∈ ds, Sm k w d) → PyData.canLayAll0 ds = true ∧ PyData.showableAll ds = true ∧ PyData.hasDictAll ds = false ∧ PyData.intsShortAll 13 ds = true ∧ PyData.depthAll ds ≤ k ∧ PyData.weightAll ds ≤ ds.length * (w + 1)
  | [], _ => ⟨rfl, rfl, rfl, rfl, Nat.zero_le _, by simp [PyData.weightAll]⟩
  | d :: ds, h => by
    obtain ⟨a, b, c, e, f, g⟩ := sm_all ds fun x hx => h x (List.mem_cons_of_mem _ hx)
    have hd := h d List.mem_cons_self
    refine ⟨by simp [PyData.canLayAll0, hd.lay, a], by simp [PyData.showableAll, hd.sh, b], by simp [PyData.hasDictAll, hd.nd, c], by simp [PyData.intsShortAll, hd.sho, e], ?_, ?_⟩
    · simp only [PyData.depthAll]
      exact Nat.max_le.mpr ⟨hd.dp, f⟩
    · simp only [PyData.weightAll, List.length_cons, Nat.succ_mul]
      have := hd.wt
      omega
theorem Sm.tuple {k w n : Nat} {ds : List PyData} (h : ∀ d ∈ ds, Sm k w d) (hn : ds.length ≤ n) : Sm (k + 1) (n * (w + 1)) (.tuple ds) := by
  obtain ⟨a, b, c, e, f, g⟩ := sm_all ds h
  exact ⟨a, b, c, e, Nat.succ_le_succ f, Nat.le_trans g (Nat.mul_le_mul_right _ hn)⟩
theorem Sm.list {k w n : Nat} {ds : List PyData} (h : ∀ d ∈ ds, Sm k w d) (hn : ds.length ≤ n) : Sm (k + 1) (n * (w + 1)) (.list ds) := by
  obtain ⟨a, b, c, e, f, g⟩ := sm_all ds h
  exact ⟨a, b, c, e, Nat.succ_le_succ f, Nat.le_trans g (Nat.mul_le_mul_right _ hn)⟩
theorem Sm.shaped {k w : Nat} {d : PyData} (h : Sm k w d) (hk : k ≤ 64) : SeqAt.shaped d = true := by
  unfold SeqAt.shaped
  rw [h.lay, decide_eq_true (Nat.le_trans h.dp hk)]
  rfl
theorem Sm.repr {k w : Nat} {d : PyData} (h : Sm k w d) (hk : k ≤ 64) (hw : w ≤ 1048576) : reprOk d = true := by
  have hl : PyData.layable0 d = true := by
    unfold PyData.layable0
    rw [h.lay, decide_eq_true (Nat.le_trans h.dp hk), decide_eq_true (Nat.le_trans h.wt hw)]
    rfl
  have h1 := PyProof.Rows.shown_le13 hl h.sho
  have h2 : d.shown.length ≤ sizeLine := Nat.le_trans h1 (by decide)
  rw [reprOk, h.sh, h.nd, decide_eq_true h2, decide_eq_true (Nat.le_trans h.dp hk)]
  rfl
theorem Sm.shD {k w : Nat} {d : PyData} (h : Sm k w d) (hk : k ≤ 64) : DL.shD d = true := by
  unfold DL.shD
  rw [h.shaped hk, h.nd]
  rfl
/-! ### evaluating a mirror step by step -/
theorem ev_cb {o : List PyData → Option PyData} {fa : DEnv → Option (List PyData × DEnv)} {env e1 : DEnv} {ds : List PyData} {d : PyData} (h : fa env = some (ds, e1)) (h2 : o ds = some d) : fCB o fa env = some (d, e1) := by
  unfold fCB; rw [h]; show (o ds).map _ = _; rw [h2]; rfl
theorem ev_frz {fa : DEnv → Option (List PyData × DEnv)} {env e1 : DEnv} {ds : List PyData} (h : fa env = some (ds, e1)) : fFrz fa env = some (.list ds, e1) := by
  unfold fFrz; rw [h]; rfl
theorem ev_cons {f : DEnv → Option (PyData × DEnv)} {fa : DEnv → Option (List PyData × DEnv)} {env e1 e2 : DEnv} {d : PyData} {ds : List PyData} (h : f env = some (d, e1)) (h2 : fa e1 = some (ds, e2)) : fCons f fa env = some (d :: ds, e2) := by
  unfold fCons; rw [h]; show (fa e1).map _ = _; rw [h2]; rfl
theorem ev_nil {env : DEnv} : fNil env = some ([], env) := rfl
theorem ev_seq {f g : DEnv → Option DFlow} {env e1 : DEnv} {fl : DFlow} (h : f env = some (.nx e1)) (h2 : g e1 = some fl) : sSeq f g env = some fl := by
  unfold sSeq; rw [h]; exact h2
theorem ev_ret {f : DEnv → Option (PyData × DEnv)} {env e1 : DEnv} {d : PyData} (h : f env = some (d, e1)) : sRet f env = some (.rt d e1) := by
  unfold sRet; rw [h]; rfl
/-- what is known of the law's def at the head's heap -/
def LawG (l : PySem.W.OpenLaw) (w : World) (K : PySem.W.Frag) (k : Nat) (x : Str) (m : List PyData → Option PyData) (mg : Str → Option Value) (fa : Addr) (h : Heap) : Prop :=
  ∃ (fd : FuncData) (cs : List (Addr × Addr)) (L : Lab), (∀ c q, (c, q) ∈ cs → h.get? q = some { cls := .none, data := .fields #[] } ∧ K.lookup q = none ∧ PySem.W.CodeHd h c q) ∧ (∀ q ∈ L.T, ∃ c, (c, q.1) ∈ cs) ∧
    (∀ (s : Shared) (u : Value), BindsTo s fd ⟨[u], []⟩ [(x, u)]) ∧ ∀ base : Heap, K.In base → base.Ns mainGlobals mg → (∀ c q, (c, q) ∈ cs → LamX.TabB base mg c q) → FnG l.prog w K mg base k fa fd [x] (spF K 1 m)
omit [Lab] in
theorem walk_g {l : PySem.W.OpenLaw} {n k : Nat} {q : Program} {loose : List Str} {XP : (Str → Option Value) → Heap → Prop} {YP : World → Heap → Prop} {d : DefRec} {K : Params → PySem.W.Frag} {m : List PyData → Option PyData} {x : Str}
    (hn : l.most = some n) (hn2 : n ≤ sizeLine) (hdf : d.params.defaults = []) (hr : Room k callerA) (hY : ∀ (w : World) (h : Heap), YP w h → (K w.params).In h)
    (G : ∀ (w : World) (mg : Str → Option Value) (fa : Addr) (h : Heap), YP w h → (K w.params).In h → h.Ns mainGlobals mg → mg d.name = some (.ref fa) → LawG l w (K w.params) k x m mg fa h)
    (hm : ∀ ns : List Int, ns.length ≤ n → m [.list (ns.map PyData.int)] = some (.bool true)) :
    PySem.W.WalkO q loose XP YP l.row.toRowW d [] (fun f vs => PySem.call f vs) := by
  refine Att.attach_call hn hdf fun w s0 s1 mg mb fa o pm cd doc a vs ns Gr Y ho hd hcd hmg hobj hints hlen hg => ?_
  have KX := hY w _ Y
  obtain ⟨fd, cs, L, h1, h2, hb, hF⟩ := G w mg fa _ Y KX Gr.T.g hmg
  letI := L
  exact law_callG KX Gr.T.g Gr.T.b Gr.T.builtins Gr.T.nolimit hg h1 Gr.T.bmain hobj hints (Nat.le_trans hlen hn2) hr h2 hF hb (hm ns hlen)
omit [Lab] in
theorem cInt [LabW] {K : PySem.W.Frag} {h : Heap} {mg : Str → Option Value} (X : K.In h) (G : h.Ns mainGlobals mg) {x : Str} {i : Int} {t : Tok} (a : PySem.W.nsIn K mainGlobals x = some (some (.int i t))) : ∃ uv : Value × V, mg x = some uv.1 ∧ RelV uv.2 uv.1 ∧ ∀ Z, DD K Z uv.2 (.int i) :=
  ⟨(.int i t, .int i), PySem.W.mg_of X G a, ⟨t, rfl⟩, fun _ => .int i⟩
end DL
end L2


set_option Elab.async false
set_option maxRecDepth 100000
set_option maxHeartbeats 4000000
set_option autoImplicit false
namespace L2
namespace DL
open PySem PySem.Spec PyProof.Rows
variable [Lab]
/-! ### exceptions: what a def may let out -/
inductive XR where
  | ok (d : PyData) | ex (c a : Str) (d : PyData)
inductive DX where
  | ok (d : PyData) (env : DEnv) | ex (c a : Str) (d : PyData) (env : DEnv)
structure FnX (P : Program) (w : World) (K : PySem.W.Frag) (mg : Str → Option Value) (base : Heap) (k : Nat) (f : Addr) (fd : FuncData) (ps : List Str) (sp : Sp) : Prop where
  len : ∀ vs H Q E, sp vs H Q E → vs.length = ps.length
  run : ∀ (A : Around) (outer : List Env) (s : Shared) (H : Hp) (args : Args) (us : List Value) (vs : List V) (Q : VK) (E : XK),
    GdOk A → Room k A → Env0 P w K mg base A outer s H → BindsTo s fd args (ps.zip us) → Vals vs us → sp vs H Q E →
    codeAny (model P w) A (.call (.ref f) args) (CR (L2.CX P w) outer P w H s Q E) s
theorem FnX.mono {P : Program} {w : World} {K : PySem.W.Frag} {mg : Str → Option Value} {base : Heap} {j k : Nat} {f : Addr} {fd : FuncData} {ps : List Str} {sp : Sp}
    (G : FnX P w K mg base j f fd ps sp) (h : j ≤ k) : FnX P w K mg base k f fd ps sp :=
  ⟨G.len, fun A outer s H args us vs Q E hg hr => G.run A outer s H args us vs Q E hg (hr.mono h)⟩
section
variable {P : Program} {w : World} {K : PySem.W.Frag} {mg : Str → Option Value} {base : Heap}
end
section
variable {X : Cx} {F : Fm} {W : WX} {k : Nat} {f : Addr} {fd : FuncData} {ps ks : List Str} {sp : Sp} {x : Str} {p pos : Pos} {e : Expr} {es : List Expr} {t tk : TA} {kws : List Keyword}
end

/-! ### readings that may raise -/
def FinE (K : PySem.W.Frag) (F : Fm) (Z : Hp) (env : DEnv) (σ : St) (H : Hp) (Q : VK) : DX → Prop
  | .ok d e' => ∀ v Z' H', Rel K F Z' H' σ e' → Stp σ env Z H e' Z' H' → DD K Z' v d → Q v H'
  | .ex c a d e' => ∀ v p Z' H', Rel K F Z' H' σ e' → Stp σ env Z H e' Z' H' → H p = none → Z' p = none → F.G p = none → ¬ F.P p → H' p = some (.xd [(a, v)]) → DD K Z' v d → F.W c (some p) σ H'
section
variable {X : Cx} {F : Fm} {C : Str → Addr} {k n : Nat} {f : Addr} {fd : FuncData} {ps ks : List Str} {x : Str} {p pos : Pos} {e : Expr} {es : List Expr} {fa : DEnv → Option (List PyData × DEnv)} {fx : DEnv → Option DX}
end

section
variable {P : Program} {w : World} {K : PySem.W.Frag} {mg : Str → Option Value} {base : Heap} {x qual : Str} {st : Stmt} {f : Addr} {fd : FuncData} {N ps : List Str} {k : Nat} {g : DEnv → Option DFlow} {C : Str → Addr}
end

/-! ### raise X(e), X an own class over ValueError that keeps its one argument -/
/-- what such an __init__ does -/
def spI (C : Addr) (an : Str) : Sp := fun vs H Q _ => ∃ a y, vs = [.ref a, y] ∧ H a = some (exo a C none) ∧ ∀ dx, H dx = none → dx ≠ a → Q .non (upd (upd H dx (exd dx [(an, y)])) a (exo a C (some dx)))
theorem init_ok {P : Program} {w : World} {K : PySem.W.Frag} {mg : Str → Option Value} {base : Heap} {qual : Str} {st : Stmt} {fI C : Addr} {fd : FuncData} {an : Str} {p1 p2 p3 p4 : Pos} (D : Fun K "__init__" qual st fI fd) (S : FnScope ["self", an] ["self", an] (defScope st)) (T : OexC K C) (hno : PySem.W.findIn K (.ref C) an = some none)
    (hbd : defBody st = [.Assign [.Attribute (.Name "self" p1) an p2] (.Name an p3) p4]) (hv1 : Vis (defScope st) "self") (hv2 : Vis (defScope st) an) (hd : (an == ("__debug__" : Str)) = false) (hcd : (an == ("__classdict__" : Str)) = false) :
    FnOk P w K mg base CX0 1 fI fd ["self", an] (spI C an) := by
  refine D.ok S (fun vs H Q E h => by obtain ⟨a, y, rfl, _⟩ := h; rfl) fun cdv A outer s H vs Q E hr h => ?_
  obtain ⟨a, y, rfl, ha, q⟩ := h
  rw [hbd]
  refine ⟨_, pss_one (ps_ost (pe_var (i := 0) rfl hv1) (pe_var (i := 1) rfl hv2 hd hcd)), ?_⟩
  exact ⟨y, rfl, .ref a, rfl, a, C, rfl, T, hno, .inl ⟨ha, fun dx h1 h2 => q dx h1 h2⟩⟩
/-! ### {}, is, tuple * n, int(b) -/
section
variable {X : Cx} {F : Fm} {pos : Pos}
theorem pd_dict0 : PD X F (.Dict [] [] pos) (fC (.dict [])) := pe_imp pe_dnewK fun σ H Q h => by
  obtain ⟨Z, env, d, env', r, e, q⟩ := h
  cases e
  refine fun p hp => ?_
  have gr := grow_new r.zh hp (.dK [])
  exact q _ _ _ (r.grow gr) gr.stp (.dct upd_same .nil)
end
/-! ### classes by name -/
def clsOf {α : Type} (l : List (Str × α)) (d : α) (c : Str) : α := match l with
  | [] => d
  | (n, a) :: l => if c = n then a else clsOf l d c
omit [Lab] in
theorem oex_mk {K : PySem.W.Frag} {C : Addr} {nm q N bs bm sn sub ab col dd k0 k1 k2 k3 k5} (l : K.lookup C = some (excClassObj nm q C N bs bm true sn sub ab col dd k0 k1 k2 k3 k5 "ValueError.__new__")) (r : PySem.HandSPX.refsVE bm = true)
    (sa : PySem.W.findIn K (.ref C) "__setattr__" = some (some (.builtin "object.__setattr__"))) (ex : PySem.W.subIn K (.ref C) (.type "BaseException") = some true) (ty : PySem.W.typeIn K (.ref C) = some (.type "type")) (k : PySem.W.keepIn K (.ref C) = true) : OexC K C :=
  ⟨⟨nm, q, N, bs, bm, sn, sub, ab, col, dd, k0, k1, k2, k3, k5, l, r⟩, sa, ex, ty, k⟩
end DL
end L2


set_option Elab.async false
set_option maxRecDepth 100000
set_option maxHeartbeats 4000000
set_option autoImplicit false
namespace L2
namespace DL
open PySem PySem.Spec PyProof.Rows
variable [Lab]
/-! ### comparisons whose left side is a name: its list as it stands -/
section
variable {X : Cx} {F : Fm} {a b c e : Expr} {pos p : Pos} {f g k : DEnv → Option (PyData × DEnv)}
def fCmpL (o : PyData → PyData → Option PyData) (i : Nat) (g : DEnv → Option (PyData × DEnv)) (env : DEnv) : Option (PyData × DEnv) := (rdB i env).bind fun _ => (g env).bind fun y => (rdB i y.2).bind fun x => (o x y.1).map fun d => (d, y.2)
theorem cmpL_read {K : PySem.W.Frag} {o : PyData → PyData → Option PyData} {i : Nat} (hs : ∀ a b d, o a b = some d → scalD d = true) {σ : St} {H : Hp} {Q : VK} (h : tD K F (fCmpL o i g) σ H Q) : tOp (r2D K o) (tVar i) (tD K F g) σ H Q := by
  obtain ⟨Z, env, d, env', r, e, q⟩ := h
  obtain ⟨x0, h0, h⟩ := bnd e
  obtain ⟨⟨y, e1⟩, h1, h⟩ := bnd h
  obtain ⟨x, h2, h⟩ := bnd h
  obtain ⟨d', h3, h⟩ := mpd h
  cases h
  obtain ⟨v, ev, _⟩ := r.rdB h0
  refine ⟨v, ev, Z, env, y, e1, r, h1, fun v2 Z1 H1 r1 s1 d2 => ?_⟩
  obtain ⟨v', ev', dv⟩ := r1.rdB h2
  rw [ev] at ev'
  cases ev'
  refine ⟨H1, x, y, d, Same.refl H1, dv, DDm d2 r1.zh, h3, fun v' Z' H' gr dd => ?_⟩
  have gr' : Grow Z1 H1 Z1 H' := ⟨Same.refl _, r1.zh.trans gr.h, gr.h, gr.t, fun _ z => .inl z⟩
  exact q v' Z1 H' (r1.grow gr') (s1.trans gr'.stp) (dd.scal (hs _ _ _ h3))
theorem pdt_cmpL {op : CmpOp} {o : PyData → PyData → Option PyData} (ho : OpD X (compareOp op) o) (hs : ∀ a b d, o a b = some d → scalD d = true) (hb : IsB o) (i : Nat) (hc : PD X F b g) {x : Str} (hm : behindInMarks op b = false := by first | exact nomark _ | rfl)
    (hN : X.N[i]? = some x := by rfl) (hv : Vis X.env.scope x := by first | exact Or.inl rfl | exact Or.inr (Or.inl rfl) | exact Or.inr (Or.inr rfl)) (hd : (x == ("__debug__" : Str)) = false := by decide)
    (hcd : (x == ("__classdict__" : Str)) = false := by decide) : PDT X F (.Compare (.Name x p) [op] [b] pos) (fTst (fCmpL o i g)) :=
  pt_imp (pt_cmpR ho (pe_var hN hv hd hcd) hc hm) fun _ _ _ h => tst_read (fun env d e h => by
    obtain ⟨x, _, h⟩ := bnd h
    obtain ⟨y, _, h⟩ := bnd h
    obtain ⟨y, _, h⟩ := bnd h
    obtain ⟨z, h1, h⟩ := mpd h
    cases h
    exact hb _ _ _ h1) (fun _ _ _ h => cmpL_read hs h) h
/-! ### list + list, new -/
def nAdd (f g : DEnv → Option (PyData × DEnv)) (env : DEnv) : Option (List PyData × DEnv) := (f env).bind fun x => (g x.2).bind fun y => match x.1, y.1 with
  | .list a, .list b => if a.length + b.length ≤ lim then some (a ++ b, y.2) else none
  | _, _ => none
def rAddL (K : PySem.W.Frag) : R2 := fun x y H Q => ∃ Z a b, Same Z H ∧ DD K Z x (.list a) ∧ DD K Z y (.list b) ∧ a.length + b.length ≤ lim ∧ ∀ p xs, H p = none → DDs K Z xs (a ++ b) → Q (.ref p) (upd H p (.lst xs))
theorem op_addL : OpR X (binaryOp .Add) (rAddL X.K) := by
  intro pins s σ H x y v u Q I rx ry h
  obtain ⟨Z, i, j, sz, ha, hb, hle, q⟩ := h
  have hlim : lim = 100000 := rfl
  have hsl := sizeLine_eq
  cases ha with
  | @lst p xs _ hx dx =>
    cases hb with
    | @lst p' ys _ hy dy =>
      have l1 := dds_len dx
      have l2 := dds_len dy
      cases rx
      cases ry
      obtain ⟨z, its, n, r, e1⟩ := (same_ls sz hx).isL I
      obtain ⟨z2, its2, n2, r2, e2⟩ := (same_ls sz hy).isL I
      have k1 := r.length
      have k2 := r2.length
      refine PySem.P.add_list e1 e2 ?_ (by rw [List.size_toArray, List.size_toArray]; omega)
      have ea : its.toArray ++ its2.toArray = (its ++ its2).toArray := by simp
      rw [ea]
      exact ⟨.ref _, _, I.lnew (t' := s.toks) (r.append r2) (by rw [List.length_append]; omega), rfl, q _ _ I.fresh (dds_app dx dy)⟩
theorem pn_addL (ha : PD X F a f) (hb : PD X F b g) : PN X F (.BinOp a .Add b pos) (nAdd f g) := pe_imp (pe_op op_addL ha hb) fun σ H Q h => by
  obtain ⟨Z, env, d, env', r, e, q⟩ := h
  obtain ⟨⟨x, e1⟩, h1, h⟩ := bnd e
  obtain ⟨⟨y, e2⟩, h2, h⟩ := bnd h
  refine ⟨Z, env, x, e1, r, h1, fun v1 Z1 H1 r1 s1 d1 => ⟨Z1, e1, y, e2, r1, h2, fun v2 Z2 H2 r2 s2 d2 => ?_⟩⟩
  match x, y, d1, d2, h with
  | .list a, .list b, d1, d2, h =>
    change (if a.length + b.length ≤ lim then some (a ++ b, e2) else none) = some (d, env') at h
    split at h
    case isFalse => cases h
    rename_i hl
    cases h
    refine ⟨Z2, a, b, r2.zh, DDm d1 s2.z, d2, hl, fun p xs hp hd => ?_⟩
    have gr := grow_own r2.zh hp (.lst xs)
    exact q p xs _ _ (r2.grow gr) ((s1.trans s2).trans gr.stp) ((s1.trans s2).new hp) (r2.zh.free hp) upd_same hd
end
end DL
end L2


set_option Elab.async false
set_option maxRecDepth 100000
set_option maxHeartbeats 4000000
set_option autoImplicit false
namespace L2
namespace DL
open PySem PySem.Spec PyProof.Rows
variable [Lab]
theorem ev_cr {j : Nat} {m : List PyData → List PyData → Option (PyData × List PyData)} {fa : DEnv → Option (List PyData × DEnv)} {env e1 : DEnv} {es0 es es' ds : List PyData} {d : PyData} (h0 : rdO j env = some es0) (h : fa env = some (ds, e1)) (h1 : rdO j e1 = some es) (h2 : m es ds = some (d, es')) : fCR j m fa env = some (d, wrO j es' e1) := by
  unfold fCR; rw [h0]; show (fa env).bind _ = _; rw [h]; show (rdO j e1).bind _ = _; rw [h1]; show (m es ds).map _ = _; rw [h2]; rfl
theorem ev_runF {n N : Nat} {g : DEnv → Option DFlow} {ds : List PyData} {d : PyData} {env : DEnv} (hl : ds.length = n) (h : g (startE N ds) = some (.rt d env)) : runF n N g ds = some d := by
  unfold runF; rw [if_pos hl, h]
theorem ev_runR {n N : Nat} {g : DEnv → Option DFlow} {es es' ds : List PyData} {d : PyData} {env : DEnv} (hl : ds.length + 1 = n) (h : g (some (.rf es) :: startE (N - 1) ds) = some (.rt d (some (.rf es') :: env))) : runR n N g es ds = some (d, es') := by
  unfold runR; rw [if_pos hl, h]; rfl
theorem ev_setE {i : Nat} {f : DEnv → Option (PyData × DEnv)} {env e1 e2 : DEnv} {d : PyData} (h : f env = some (d, e1)) (he : e1.set i (some (.fr d)) = e2) : sSet i f env = some (.nx e2) := by
  unfold sSet; rw [h, ← he]; rfl
theorem ev_crE {j : Nat} {m : List PyData → List PyData → Option (PyData × List PyData)} {fa : DEnv → Option (List PyData × DEnv)} {env e1 e2 : DEnv} {es0 es es' ds : List PyData} {d : PyData} (h0 : rdO j env = some es0) (h : fa env = some (ds, e1)) (h1 : rdO j e1 = some es) (h2 : m es ds = some (d, es')) (he : wrO j es' e1 = e2) : fCR j m fa env = some (d, e2) := by
  rw [← he]; exact ev_cr h0 h h1 h2
theorem bools_map {α : Type} (p : α → Bool) : ∀ ds : List α, boolsD (ds.map fun d => PyData.bool (p d)) = some (ds.map p)
  | [] => rfl
  | d :: ds => by
    show (boolsD (ds.map fun d => PyData.bool (p d))).map (p d :: ·) = _
    rw [bools_map p ds]
    rfl
theorem all_map {α : Type} (p : α → Bool) (ds : List α) : allD [.list (ds.map fun d => PyData.bool (p d))] = some (.bool (ds.all p)) := by
  show (boolsD (ds.map fun d => PyData.bool (p d))).map _ = _
  rw [bools_map]
  show some (PyData.bool ((ds.map p).all id)) = _
  rw [List.all_map]
  rfl
/-! ### data that may be laid -/
structure Ly (k : Nat) (d : PyData) : Prop where
  lay : d.canLay0 = true
  nd : d.hasDict = false
  dp : d.depth ≤ k
theorem Ly.mono {k k' : Nat} {d : PyData} (h : Ly k d) (hk : k ≤ k') : Ly k' d := ⟨h.lay, h.nd, Nat.le_trans h.dp hk⟩
theorem ly_all {k : Nat} : ∀ (ds : List PyData), (∀ d ∈ ds, Ly k d) → PyData.canLayAll0 ds = true ∧ PyData.hasDictAll ds = false ∧ PyData.depthAll ds ≤ k
  | [], _ => ⟨rfl, rfl, Nat.zero_le _⟩
  | d :: ds, h => by
    obtain ⟨a, b, c⟩ := ly_all ds fun x hx => h x (List.mem_cons_of_mem _ hx)
    have hd := h d List.mem_cons_self
    refine ⟨by simp [PyData.canLayAll0, hd.lay, a], by simp [PyData.hasDictAll, hd.nd, b], ?_⟩
    simp only [PyData.depthAll]
    exact Nat.max_le.mpr ⟨hd.dp, c⟩
theorem Ly.tuple {k : Nat} {ds : List PyData} (h : ∀ d ∈ ds, Ly k d) : Ly (k + 1) (.tuple ds) := by
  obtain ⟨a, b, c⟩ := ly_all ds h
  exact ⟨a, b, Nat.succ_le_succ c⟩
theorem Ly.list {k : Nat} {ds : List PyData} (h : ∀ d ∈ ds, Ly k d) : Ly (k + 1) (.list ds) := by
  obtain ⟨a, b, c⟩ := ly_all ds h
  exact ⟨a, b, Nat.succ_le_succ c⟩
theorem Ly.sh {k : Nat} {d : PyData} (h : Ly k d) (hk : k ≤ 64) : shD d = true := by
  unfold shD SeqAt.shaped
  rw [h.lay, h.nd, decide_eq_true (Nat.le_trans h.dp hk)]
  rfl
end DL
end L2


set_option Elab.async false
set_option maxRecDepth 100000
set_option maxHeartbeats 4000000
set_option autoImplicit false
namespace L2
namespace DL
open PySem PySem.Spec PyProof.Rows
variable [Lab]
section
variable {X : Cx} {pins : List (Addr × Obj)} {σ : St} {H : Hp} {s : Shared}
omit [Lab] in
theorem newFr (I : Inv X pins σ H s) {f : Addr} (hf : s.heap.objs.size ≤ f) : f ∉ frs X.stack := fun z => by
  rcases List.mem_cons.mp (I.stkSub _ z) with e | e
  · have h1 : X.env.locals < s.heap.objs.size := I.lt
    exact Nat.lt_irrefl _ (Nat.lt_of_lt_of_le (by rw [e]; exact h1) hf)
  · exact I.nofs hf e
end
/-! ### a lambda of one parameter, called by a built-in -/
/-- its names: the parameter, captured ones, globals -/
structure Lam1 (sc scope : Scope) (y : Str) : Prop where
  kind : scope.kind = .function
  co : scope.isCoroutine = false
  gen : scope.isGenerator = false
  loc : ∀ z ∈ scope.names, z.2 = .local → z.1 = y
  own : ∀ z ∈ scope.names, z.2 ≠ .cell
  par : scope.names.lookup y = some .local
  free : ∀ z ∈ scope.names, z.2 = .free → sc.names.lookup z.1 = some .cell ∨ sc.names.lookup z.1 = some .free
/-- the context of its body -/
abbrev lam1Cx (X : Cx) (A : Around) (outer : List Env) (s : Shared) (H : Hp) (E : XK) (scope : Scope) (f c' : Addr) (y : Str) : Cx := { LamX.lamCx X A outer s H E scope f c' with N := X.N ++ [y] }
section
variable {X : Cx} {pins : List (Addr × Obj)} {σ : St} {H : Hp} {s : Shared}
end
end DL
end L2


set_option Elab.async false
set_option maxRecDepth 100000
set_option maxHeartbeats 4000000
set_option autoImplicit false
namespace L2
namespace DL
open PySem PySem.Spec PyProof.Rows PySem.Calls
variable [Lab]
/-! ### what a lambda's body sees of the slots -/
def frzO : Option DV → Option DV
  | some (.fr d) => some (.fr d)
  | _ => none
def frzE (env : DEnv) : DEnv := env.map frzO
/-- the key of an item -/
def keyOf (fb : DEnv → Option (PyData × DEnv)) (env : DEnv) (d : PyData) : Option PyData := (fb (frzE env ++ [some (.fr d)])).map (·.1)
/-! ### objects of a built-in's own -/
structure Nu (X : Cx) (pins : List (Addr × Obj)) (a : Addr) : Prop where
  l : a ≠ X.env.locals
  s0 : X.s_0.heap.objs.size ≤ a
  c : ∀ x c, X.env.cells.lookup x = some c → c ≠ a
  p : ∀ q ∈ X.pn ++ pins, q.1 ≠ a
  f : a ∉ frs X.stack
section
variable {X : Cx} {pins : List (Addr × Obj)} {σ : St} {H : Hp} {s : Shared}
omit [Lab] in
theorem Nu.new (I : Inv X pins σ H s) {a : Addr} (h : s.heap.objs.size ≤ a) : Nu X pins a := by
  refine ⟨fun z => ?_, Nat.le_trans I.sz h, fun x c e z => ?_, fun q hq z => ?_, newFr I h⟩
  · have := I.lt
    rw [← z] at this
    exact Nat.lt_irrefl _ (Nat.lt_of_lt_of_le this h)
  · obtain ⟨w, o, ho, _⟩ := I.cell x c e
    rw [z] at ho
    exact Nat.lt_irrefl _ (Nat.lt_of_lt_of_le (Heap.lt_size ho) h)
  · have ho := (I.pin q hq).1
    rw [z] at ho
    exact Nat.lt_irrefl _ (Nat.lt_of_lt_of_le (Heap.lt_size ho) h)
end
end DL
end L2


set_option Elab.async false
set_option maxRecDepth 100000
set_option maxHeartbeats 4000000
set_option autoImplicit false
namespace L2
namespace DL
open PySem PySem.Spec PyProof.Rows PySem.Calls
variable [Lab]
section
variable {X : Cx} {pins : List (Addr × Obj)} {σ : St} {H : Hp} {s : Shared} {F : Fm}
/-- what a key function is asked for -/
structure KeyFn (X : Cx) (F : Fm) (A : Around) (k : Nat) (y : Str) (scope : Scope) (params : Arguments) (body : Expr) (fb : DEnv → Option (PyData × DEnv)) (f c' : Addr) : Prop where
  L : Lam1 X.env.scope scope y
  fr : A.frames = some X.stack
  rm : Room (k + 1) A
  ny : y ∉ X.N
  bind : ∀ (u : Value) (q : Str) (cl : List (Str × Addr)) (pm cv ctv : Value), bindArgs (PySem.W.kla_fn "<lambda>" q params body scope cl pm cv ctv) ⟨[u], []⟩ = pure [(y, u)]
  body : ∀ (s : Shared) (H : Hp), Room k (A.deeper (LamX.lamEnv X scope s.heap.objs.size f c')) → PD (lam1Cx X A X.stack s H (fun _ _ _ => False) scope f c' y) F body fb
structure KeysOk (A : Around) (fb : DEnv → Option (PyData × DEnv)) (env : DEnv) (ds ks : List PyData) : Prop where
  key : ∀ (i : Nat) (d q : PyData), ds[i]? = some d → ks[i]? = some q → keyOf fb env d = some q
  len : ks.length = ds.length
  alike : PySem.W.AllAlike ks
  sortable : PySem.W.Sortable ks
  nd : ∀ d ∈ ks, d.hasDict = false
  dp : ∀ d, d ∈ ks → A.units + d.depth < cLine
end
end DL
end L2


set_option Elab.async false
set_option maxRecDepth 100000
set_option maxHeartbeats 4000000
set_option autoImplicit false
namespace L2
namespace DL
open PySem PySem.Spec PyProof.Rows PySem.Calls
variable [Lab]
section
variable {X : Cx} {pins : List (Addr × Obj)} {σ : St} {H : Hp} {s : Shared} {F : Fm}
end
end DL
end L2


set_option Elab.async false
set_option maxRecDepth 100000
set_option maxHeartbeats 4000000
set_option autoImplicit false
namespace L2
namespace DL
open PySem PySem.Spec PyProof.Rows PySem.Calls
variable [Lab]
section
variable {prog : Program} {w : World} {A : Around} {E : Value → Shared → Prop} {s : Shared}
end
section
variable {X : Cx} {F : Fm} {e : Expr} {f : DEnv → Option (PyData × DEnv)}
end
end DL
end L2


set_option Elab.async false
set_option maxRecDepth 100000
set_option maxHeartbeats 4000000
set_option autoImplicit false
namespace L2
namespace DL
open PySem PySem.Spec PyProof.Rows PySem.Calls
variable [Lab]
/-! ### sorted(t), t a tuple or a list of ints -/
section
variable {X : Cx} {F : Fm} {e : Expr} {f : DEnv → Option (PyData × DEnv)}
end
end DL
end L2


set_option Elab.async false
set_option maxRecDepth 100000
set_option maxHeartbeats 4000000
set_option autoImplicit false
namespace L2
namespace DL
open PySem PySem.Spec PyProof.Rows PySem.Calls
variable [Lab]
section
variable {X : Cx} {F : Fm} {e : Expr} {f : DEnv → Option (PyData × DEnv)}
end
end DL
end L2


set_option Elab.async false
set_option maxRecDepth 100000
set_option maxHeartbeats 4000000
set_option autoImplicit false
namespace L2
namespace DL
open PySem PySem.Spec PyProof.Rows PySem.Calls
variable [Lab]
section
variable {X : Cx} {F : Fm} {e : Expr} {f g : DEnv → Option (PyData × DEnv)} {y : Str} {p pn pos : Pos}
end
end DL
end L2


set_option Elab.async false
set_option maxRecDepth 100000
set_option maxHeartbeats 4000000
set_option autoImplicit false
namespace L2
namespace DL
open PySem PySem.Spec PyProof.Rows
section
variable [Lab]
variable {X : Cx} {F : Fm}
abbrev cDivB (_ j : Int) : Bool := decide (0 < j) && decide (j < 10000000000000000000000000000000000000000)
def divmodB : List PyData → Option PyData
  | [.int i, .int j] => if cDivB i j then some (.tuple [.int (i / j), .int (i % j)]) else none
  | _ => none
theorem cd_divmodB : CallD X (.builtin "divmod") divmodB := by
  intro pins s σ H xs us Q I r h
  obtain ⟨Z, ds, d, sz, hd, e, q⟩ := h
  match ds, hd, e with
  | [.int i, .int j], hd, e =>
    change (if cDivB i j then some (PyData.tuple [.int (i / j), .int (i % j)]) else none) = some d at e
    split at e
    case isFalse => cases e
    rename_i hc
    rw [cDivB, Bool.and_eq_true, decide_eq_true_eq, decide_eq_true_eq] at hc
    cases e
    obtain ⟨v, w, rfl, h1, h2⟩ := dds2 hd
    cases h1.int_inv
    cases h2.int_inv
    have hb : CDivP i j := ⟨hc.1, PyProof.noPylong_of_log2 (by
      refine Nat.lt_of_lt_of_le (PySem.Flt.log2_lt_of (k := 200) (by decide) ?_) (by decide)
      have p : (10000000000000000000000000000000000000000 : Nat) < 2 ^ 200 := by decide +kernel
      have : j.natAbs < 10000000000000000000000000000000000000000 := by omega
      omega)⟩
    exact call_divmodW pins s σ H _ us Q I r ⟨i, j, rfl, hb, fun p hp => q _ _ _ (grow_new sz hp _) (new_tup sz hp (.cons (.int _) (.cons (.int _) .nil)))⟩
/-! ### three at once; bodies that are never reached -/
variable {s : Stmt} {ss : List Stmt} {fa : DEnv → Option (List PyData × DEnv)}
end
end DL
end L2


set_option Elab.async false
set_option maxRecDepth 100000
set_option maxHeartbeats 4000000
set_option autoImplicit false
namespace L2
namespace DL
open PySem PySem.Spec PyProof.Rows
variable [Lab]
section
variable {X : Cx} {F : Fm} {a b e : Expr} {pos p pn : Pos} {x y : Str} {f g : DEnv → Option (PyData × DEnv)}
/-! ### xs.index(data) -/
def idxE : List PyData → PyData → Option Nat
  | [], _ => none
  | z :: zs, d => if PyData.eqv z d then some 0 else (idxE zs d).map (· + 1)
theorem idxE_is : ∀ {zs : List PyData} {d : PyData} {j : Nat}, idxE zs d = some j → (∃ z, zs[j]? = some z ∧ PyData.eqv z d = true) ∧ ∀ (m : Nat) (z' : PyData), m < j → zs[m]? = some z' → PyData.eqv z' d = false
  | [], _, _, h => by cases h
  | z :: zs, d, j, h => by
    unfold idxE at h
    split at h
    · rename_i c; cases h; exact ⟨⟨z, rfl, c⟩, fun m _ hm => absurd hm (Nat.not_lt_zero _)⟩
    · rename_i c
      obtain ⟨i, h1, rfl⟩ := mpd h
      obtain ⟨⟨w, a1, a2⟩, b⟩ := idxE_is h1
      refine ⟨⟨w, by simpa using a1, a2⟩, fun m z' hm hz => ?_⟩
      cases m with
      | zero => simp at hz; subst hz; simpa using c
      | succ m => exact b m z' (by omega) (by simpa using hz)
def fIdxD (j : Nat) (f : DEnv → Option (PyData × DEnv)) (env : DEnv) : Option (PyData × DEnv) :=
  (rdO j env).bind fun _ => (f env).bind fun x => (rdO j x.2).bind fun es => if shD (.list es) && shD x.1 then (idxE es x.1).map fun i => (.int (i : Nat), x.2) else none
theorem pd_idxD {k : Nat} (hr : Room k X.A) (j : Nat) (ha : PD X F e f) (hN : X.N[j]? = some y := by rfl) (hv : Vis X.env.scope y := by first | exact Or.inl rfl | exact Or.inr (Or.inl rfl) | exact Or.inr (Or.inr rfl)) (hd : (y == ("__debug__" : Str)) = false := by decide)
    (hcd : (y == ("__classdict__" : Str)) = false := by decide)
    (hfew : ((backTo pos (starEach [e] X.env)).all (fun x => !x.1) && (backToKw pos (keywordEach [] X.env)).all (fun x => x.1.isSome)
      && decide ([e].length + ([] : List Keyword).length + (if ([] : List Keyword).isEmpty then 0 else 1) < 30)) = true := by rfl)
    (hline : (p.endLine == pos.line) = true := by rfl) (hs : starEach [e] X.env = (false, eval e X.env) :: starEach [] X.env := by rfl) (hplain : (backTo pos (starEach [] X.env)).any (·.1) = false := by rfl) :
    PD X F (.Call (.Attribute (.Name y pn) "index" p) [e] [] pos) (fIdxD j f) :=
  pe_imp (pe_bm PySem.F.plainAttrs_list PySem.F.slot_list_index PySem.F.type_list_index (mt_indexD (by have := hr.un; omega)) (pe_var hN hv hd hcd) (pa_cons ha pa_nil hs) rfl hfew hline hs hplain) fun σ H Q h => by
  obtain ⟨Z, env, d, env', r, e, q⟩ := h
  obtain ⟨z0, h0, e⟩ := bnd e
  obtain ⟨⟨x, e1⟩, h1, h⟩ := bnd e
  obtain ⟨zs, h2, hh⟩ := bnd h
  clear h
  dsimp only at hh
  split at hh
  case isFalse => cases hh
  rename_i hsh
  obtain ⟨i, h3, h4⟩ := mpd hh
  obtain ⟨rfl, rfl⟩ := Prod.mk.inj h4
  rw [Bool.and_eq_true] at hsh
  obtain ⟨p, xs, sj, _, hp0, _, _⟩ := r.poke h0
  refine ⟨.ref p, sj, own_ty hp0, Z, env, x, e1, r, h1, fun v Z1 H1 r1 s1 d1 => ?_⟩
  obtain ⟨p', xs', sj', zp, hp, dp, fin⟩ := r1.poke h2
  rw [sj] at sj'
  cases sj'
  obtain ⟨⟨w, k1, k2⟩, k3⟩ := idxE_is h3
  have dl : DD X.K H1 (.ref p) (.list zs) := .lst (.inl (Rd.of hp)) (DDsm dp r1.zh)
  unfold shD at hsh
  simp only [Bool.and_eq_true, Bool.not_eq_true'] at hsh
  exact ⟨p, v, x, zs, i, w, rfl, rfl, dl.dp _ _ hsh.1.2, (DDm d1 r1.zh).dp _ _ hsh.2.2, hsh.1.1, hsh.2.1, k1, k2, k3, q _ Z1 H1 r1 s1 (.int _)⟩
end
end DL
end L2


set_option Elab.async false
set_option maxRecDepth 100000
set_option maxHeartbeats 4000000
set_option autoImplicit false
namespace L2
namespace DL
open PySem PySem.Spec PyProof.Rows
variable [Lab]
theorem ev_ixN {j : Nat} {f : DEnv → Option (PyData × DEnv)} {env e1 : DEnv} {d0 d i z : PyData} (h0 : rdB j env = some d0) (h : f env = some (i, e1)) (h1 : rdB j e1 = some d) (h2 : ixD d i = some z) : fIxN j f env = some (z, e1) := by
  unfold fIxN; rw [h0]; show (f env).bind _ = _; rw [h]; show (rdB j e1).bind _ = _; rw [h1]; show (ixD d i).map _ = _; rw [h2]; rfl
theorem ev_iArg {o : List PyData → Option (List PyData)} {fa : DEnv → Option (List PyData × DEnv)} {env e1 : DEnv} {ds r : List PyData} (h : fa env = some (ds, e1)) (h2 : o ds = some r) : iArg o fa env = some (r, e1) := by
  unfold iArg; rw [h]; show (o ds).map _ = _; rw [h2]; rfl
theorem ev_lenN {j : Nat} {env : DEnv} {d n : PyData} (h : rdB j env = some d) (h2 : lenD [d] = some n) : fLenN j env = some (n, env) := by
  unfold fLenN; rw [h]; show (lenD [d]).map _ = _; rw [h2]; rfl
/-- a comprehension over images, with a test -/
theorem lc_flt {α : Type} {i : Nat} {ft : DEnv → Option (Bool × DEnv)} {fe : DEnv → Option (PyData × DEnv)} {e q : α → PyData} {p : α → Bool} {env : DEnv} (hw : env.set i none = env) : ∀ xs : List α, (∀ x ∈ xs, ft (env.set i (some (.fr (e x)))) = some (p x, env.set i (some (.fr (e x))))) →
    (∀ x ∈ xs, p x = true → fe (env.set i (some (.fr (e x)))) = some (q x, env.set i (some (.fr (e x))))) → lcD (gSet i) ft fe [i] (xs.map e) env = some ((xs.filter p).map q, env)
  | [], _, _ => rfl
  | x :: xs, h1, h2 => by
    have ih := lc_flt hw xs (fun y hy => h1 y (List.mem_cons_of_mem _ hy)) fun y hy => h2 y (List.mem_cons_of_mem _ hy)
    rw [List.map_cons, lcD]
    show (ft (env.set i (some (.fr (e x))))).bind _ = _
    rw [h1 x List.mem_cons_self]
    show (if p x = true then _ else _) = _
    cases hp : p x with
    | true =>
      rw [if_pos rfl, List.filter_cons_of_pos hp]
      show (fe (env.set i (some (.fr (e x))))).bind _ = _
      rw [h2 x List.mem_cons_self hp]
      show (lcD (gSet i) ft fe [i] (xs.map e) ((env.set i (some (.fr (e x)))).set i none)).map _ = _
      rw [List.set_set, hw, ih]
      rfl
    | false =>
      rw [if_neg (by decide), List.filter_cons_of_neg (by rw [hp]; decide)]
      show lcD (gSet i) ft fe [i] (xs.map e) ((env.set i (some (.fr (e x)))).set i none) = _
      rw [List.set_set, hw, ih]
theorem lc_img {α : Type} {i : Nat} {fe : DEnv → Option (PyData × DEnv)} {e q : α → PyData} {env : DEnv} (hw : env.set i none = env) (xs : List α) (h2 : ∀ x ∈ xs, fe (env.set i (some (.fr (e x)))) = some (q x, env.set i (some (.fr (e x))))) : lcD (gSet i) fYes fe [i] (xs.map e) env = some (xs.map q, env) := by
  have := lc_flt (ft := fYes) (p := fun _ => true) hw xs (fun _ _ => rfl) fun x hx _ => h2 x hx
  rwa [List.filter_eq_self.mpr (fun _ _ => rfl)] at this
theorem ev_lc {fi : DEnv → Option (List PyData × DEnv)} {g : PyData → DEnv → Option DEnv} {ft : DEnv → Option (Bool × DEnv)} {fe : DEnv → Option (PyData × DEnv)} {vs : List Nat} {env e1 e2 e3 : DEnv} {ds rs : List PyData} (h : fi env = some (ds, e1)) (hl : ds.length ≤ lim) (hw : wipeE e1 vs = e2) (h2 : lcD g ft fe vs ds e2 = some (rs, e3)) : nLc fi g ft fe vs env = some (rs, e3) := by
  unfold nLc; rw [h]; show (if ds.length ≤ lim then _ else _) = _; rw [if_pos hl, hw, h2]
/-! ### equal data, where there are no truths and no dicts -/
mutual
def nbD : PyData → Bool
  | .none => true
  | .int _ => true
  | .str _ => true
  | .list ds => nbDs ds
  | .tuple ds => nbDs ds
  | _ => false
def nbDs : List PyData → Bool
  | [] => true
  | d :: ds => nbD d && nbDs ds
end
mutual
theorem eqv_nb : ∀ (x y : PyData), nbD x = true → nbD y = true → PyData.eqv x y = true → x = y
  | .none, y, _, hy, h => by cases y <;> first | rfl | cases h
  | .int i, y, _, hy, h => by
    cases y with
    | int j => rw [PyData.eqv, beq_iff_eq] at h; rw [h]
    | bool _ => cases hy
    | _ => cases h
  | .str i, y, _, hy, h => by
    cases y with
    | str j => rw [PyData.eqv, beq_iff_eq] at h; rw [h]
    | _ => cases h
  | .list xs, y, hx, hy, h => by
    cases y with
    | list ys => rw [PyData.eqv] at h; rw [eqvAll_nb xs ys hx hy h]
    | _ => cases h
  | .tuple xs, y, hx, hy, h => by
    cases y with
    | tuple ys => rw [PyData.eqv] at h; rw [eqvAll_nb xs ys hx hy h]
    | _ => cases h
theorem eqvAll_nb : ∀ (xs ys : List PyData), nbDs xs = true → nbDs ys = true → PyData.eqvAll xs ys = true → xs = ys
  | [], ys, _, _, h => by
    cases ys with
    | nil => rfl
    | cons _ _ => cases h
  | x :: xs, ys, hx, hy, h => by
    cases ys with
    | nil => cases h
    | cons y ys =>
      rw [PyData.eqvAll, Bool.and_eq_true] at h
      rw [nbDs, Bool.and_eq_true] at hx hy
      rw [eqv_nb x y hx.1 hy.1 h.1, eqvAll_nb xs ys hx.2 hy.2 h.2]
end
/-! ### what repr writes may be laid -/
theorem ok_app {a b : Str} (ha : PyData.strOk a = true) (hb : PyData.strOk b = true) : PyData.strOk (a ++ b) = true := by
  unfold PyData.strOk at *
  show ((a.cps ++ b.cps).all _) = true
  rw [Array.all_append, ha, hb]
  rfl
theorem ok_of (x : String) : PyData.strOk (Str.ofString x) = true := by
  rw [PyData.strOk, Str.ofString_eq_toList]
  simp only [List.all_toArray, List.all_map, List.all_eq_true]
  intro c _
  have := c.valid
  simp only [Function.comp, decide_eq_true_eq]
  show c.val.toNat < 0x110000
  rcases this with h | h
  · exact Nat.lt_trans h (by decide)
  · exact h.2
theorem ok_join {sep : Str} (hs : PyData.strOk sep = true) : ∀ ts : List Str, (∀ t ∈ ts, PyData.strOk t = true) → PyData.strOk (Str.join sep ts) = true
  | [], _ => by simp [Str.join, Str.empty, PyData.strOk]
  | [x], h => h x List.mem_cons_self
  | x :: y :: r, h => ok_app (ok_app (h x List.mem_cons_self) hs) (ok_join hs (y :: r) fun t ht => h t (List.mem_cons_of_mem _ ht))
theorem ok_from : ∀ (ts : List Str) (k : Nat) (acc : Str), PyData.strOk acc = true → (∀ t ∈ ts, PyData.strOk t = true) → PyData.strOk (textFrom k acc ts) = true
  | [], _, _, h, _ => h
  | t :: r, k, acc, h, hs => ok_from r (k + 1) _ (ok_app (ok_app h (ok_of _)) (hs t List.mem_cons_self)) fun x hx => hs x (List.mem_cons_of_mem _ hx)
/-! all its texts' shown forms may be laid -/
mutual
def wordsOk : PyData → Bool
  | .str x => PyData.strOk (reprText x)
  | .list ds => wordsOkAll ds
  | .tuple ds => wordsOkAll ds
  | .dict _ => false
  | _ => true
def wordsOkAll : List PyData → Bool
  | [] => true
  | d :: ds => wordsOk d && wordsOkAll ds
end
mutual
theorem ok_shown : ∀ d : PyData, wordsOk d = true → PyData.strOk d.shown = true
  | .none, _ => ok_of _
  | .bool b, _ => by cases b <;> exact ok_of _
  | .int i, _ => ok_of _
  | .str x, h => h
  | .list xs, h => ok_app (ok_from _ _ _ (ok_of _) (ok_shownAll xs h)) (ok_of _)
  | .tuple xs, h => ok_app (ok_app (ok_of _) (ok_join (ok_of _) _ (ok_shownAll xs h))) (ok_of _)
  | .dict _, h => nomatch h
theorem ok_shownAll : ∀ ds : List PyData, wordsOkAll ds = true → ∀ t ∈ PyData.shownAll ds, PyData.strOk t = true
  | [], _, _, h => nomatch h
  | d :: ds, h, t, ht => by
    rw [wordsOkAll, Bool.and_eq_true] at h
    rcases List.mem_cons.mp ht with rfl | ht
    · exact ok_shown d h.1
    · exact ok_shownAll ds h.2 t ht
end
end DL
end L2


set_option Elab.async false
set_option maxRecDepth 100000
set_option maxHeartbeats 4000000
set_option autoImplicit false
namespace L2
namespace DL
open PySem PySem.Spec PyProof.Rows
variable [Lab]
section
variable {X : Cx} {F : Fm} {a b c e tg iter elt : Expr} {es ifs : List Expr} {pos p pn : Pos} {x y : Str} {f fe : DEnv → Option (PyData × DEnv)} {fa fi : DEnv → Option (List PyData × DEnv)} {ft : DEnv → Option (Bool × DEnv)} {scope : Scope} {ts : List Nat} {g : PyData → DEnv → Option DEnv}
def rdW (j : Nat) (env : DEnv) : Option (List PyData) := match env[j]? with
  | some (some (.ow ds)) => some ds
  | _ => none
/-- a comprehension over an owned list that its parts don't name: the list stays owned -/
def nLcH (j : Nat) (g : PyData → DEnv → Option DEnv) (ft : DEnv → Option (Bool × DEnv)) (fe : DEnv → Option (PyData × DEnv)) (vs : List Nat) (env : DEnv) : Option (List PyData × DEnv) := match rdW j env with
  | some ds => if ds.length ≤ lim then (lcD g ft fe vs ds (wipeE (env.set j none) vs)).map fun r => (r.1, r.2.set j (some (.ow ds))) else none
  | none => nLc (iSeq (rdF j)) g ft fe vs env
theorem Rel.forget {K : PySem.W.Frag} {Z H : Hp} {σ : St} {env : DEnv} (r : Rel K F Z H σ env) (i : Nat) : Rel K F Z H σ (env.set i none) := by
  refine ⟨r.z0, r.zh, r.gh, r.nw, r.pp, by rw [List.length_set]; exact r.len, fun j dv e => ?_, fun a b da db p ea eb oa ob sa sb => ?_, r.tb⟩
  · rcases get_set_some e with ⟨_, z⟩ | ⟨_, z⟩
    · cases z
    · exact r.sl j dv z
  · rcases get_set_some ea with ⟨_, z⟩ | ⟨_, z⟩
    · cases z
    · rcases get_set_some eb with ⟨_, w⟩ | ⟨_, w⟩
      · cases w
      · exact r.inj a b da db p z w oa ob sa sb
theorem Rel.regain {K : PySem.W.Frag} {Z H : Hp} {σ : St} {env : DEnv} {p : Addr} {xs : List V} {ds : List PyData} (r : Rel K F Z H σ env) (i : Nat) (sj : σ[i]? = some (some (V.ref p))) (f : Fre σ env p) (np : ¬ F.P p) (ng : F.G p = none) (hz : Z p = none) (hp : H p = some (.lst xs)) (hd : DDs K Z xs ds) : Rel K F Z H σ (env.set i (some (.ow ds))) := by
  have := r.storeN i f np ng hz hp hd
  rwa [show σ.set i (some (V.ref p)) = σ from by
    obtain ⟨h1, h2⟩ := List.getElem?_eq_some_iff.mp sj
    rw [← h2, List.set_getElem_self]] at this
theorem lc_readH {K : PySem.W.Frag} {ts vs : List Nat} {g : PyData → DEnv → Option DEnv} {fe : DEnv → Option (PyData × DEnv)} (hts : ∀ i ∈ ts, i ∈ vs) (jj : Nat) (hjj : jj ∉ vs) {σ : St} {H : Hp} {Q : VK} {Zx : Hp} {envx : DEnv} {dsx rsx : List PyData} {envx' : DEnv} (rx : Rel K F Zx H σ envx) (ex : rdW jj envx = some dsx) (hlim : dsx.length ≤ lim) (elx : lcD g ft fe vs dsx (wipeE (envx.set jj none) vs) = some (rsx, envx'))
    (qx : ∀ p xs Z' H', Rel K F Z' H' σ (envx'.set jj (some (.ow dsx))) → Stp σ envx Zx H (envx'.set jj (some (.ow dsx))) Z' H' → H p = none → Z' p = none → H' p = some (.lst xs) → DDs K Z' xs rsx → Q (.ref p) H') :
    tLc (iList K (tVar jj)) (tGN K F ts g) (tDT K F ft) (tD K F fe) vs σ H Q := by
  have ej : envx[jj]? = some (some (.ow dsx)) := by
    unfold rdW at ex
    split at ex
    · rename_i z; cases ex; exact z
    · cases ex
  obtain ⟨pp, xs, sj, npp, ngp, zp, hp, dp⟩ := rx.sl jj _ ej
  have r : Rel K F Zx H σ (envx.set jj none) := rx.forget jj
  have frp : Fre σ (envx.set jj none) pp := fun k dv ek ok sk => by
    rcases get_set_some ek with ⟨_, z⟩ | ⟨hne, z⟩
    · cases z
    · exact hne (rx.inj k jj _ _ pp z ej ok rfl sk sj)
  have free0 : ∀ q, Fre σ envx q → Fre σ (envx.set jj none) q := fun q f k dv ek ok => by
    rcases get_set_some ek with ⟨_, z⟩ | ⟨_, z⟩
    · cases z
    · exact f k dv z ok
  have own0 : ∀ (k : Nat) (dv : DV), (envx.set jj none)[k]? = some (some dv) → ownish dv = true → ∃ d0, envx[k]? = some (some d0) ∧ ownish d0 = true := fun k dv ek ok => by
    rcases get_set_some ek with ⟨_, z⟩ | ⟨_, z⟩
    · cases z
    · exact ⟨dv, z, ok⟩
  refine ⟨.ref pp, sj, pp, rfl, ⟨xs, SqL.of hp⟩, fun D hD => ?_⟩
  have hDp : D ≠ pp := fun z => by rw [z, hp] at hD; cases hD
  have zD1 : Zx D = none := r.zh.free hD
  have g1 : Grow Zx H Zx (upd H D (.lst [])) := grow_own r.zh hD _
  have frD : Fre σ (envx.set jj none) D := fre_new r hD
  have wk : Walk (Itl K pp) dsx.length (fun H => SqL K H pp xs) (YAt xs) := (dds_len dp) ▸ walk_list
  refine lc_it wk (fun i Hc => ∃ Zc ec acc ad rest, (Hc pp = some (.lst xs) ∧ Zc pp = none) ∧ Same Zx Zc ∧ Rel K F Zc Hc (wipe σ vs) ec ∧ (∀ (j : Nat) (dv : DV), ec[j]? = some (some dv) → j ∉ vs) ∧ Stp σ (envx.set jj none) Zx H ec Zc Hc ∧ Hc D = some (.lst acc) ∧ Zc D = none ∧ acc.length ≤ i ∧ DDs K Zc acc ad ∧
      lcD g ft fe vs (dsx.drop i) ec = some (rest, envx') ∧ rsx = ad ++ rest) ?_ ?_ ?_ ?_
  · refine ⟨Zx, wipeE (envx.set jj none) vs, [], [], rsx, ⟨by rw [upd_ne (fun z => hDp z.symm)]; exact hp, zp⟩, Same.refl _, (r.grow g1).wipe vs, fun j dv e => (wipeE_in _ _ _ _ e).1, ?_, upd_same, zD1, Nat.le_refl _, .nil, elx, rfl⟩
    have s2 := g1.stp (σ := σ) (env := envx.set jj none)
    exact ⟨s2.z, s2.h, s2.n, fun i dv e o => s2.o i dv (wipeE_in _ _ _ _ e).2 o, s2.k⟩
  · rintro i Hc hi ⟨Zc, ec, acc, ad, rest, hpc, sz, rc, _⟩
    exact SqL.of hpc.1
  · rintro i x Hc H2 hi ⟨Zc, ec, acc, ad, rest, hpc, sz, rc, nv, st, hDc, zDc, hla, dacc, el, eq⟩ y
    obtain ⟨rfl, y⟩ := y
    obtain ⟨d, hd, dd0⟩ := dds_get' dp y
    have dd : DD K Zc x d := DDm dd0 sz
    have ed : dsx.drop i = d :: dsx.drop (i + 1) := by
      obtain ⟨hl, hx⟩ := List.getElem?_eq_some_iff.mp hd
      rw [← hx]
      exact List.drop_eq_getElem_cons hl
    rw [ed] at el
    obtain ⟨e2, g2, el⟩ := bnd el
    obtain ⟨⟨tb, e3⟩, t2, el⟩ := bnd el
    refine ⟨Zc, ec, d, e2, rc, dd, g2, fun σ2 r2 k2 => ⟨?_, ?_⟩⟩
    · rw [wipe_eq (σ := wipe σ vs) (τ := σ2) k2.l (fun j hj => k2.s j fun z => hj (hts j z))]
      exact wipe_eq (wipe_length σ vs) fun j hj => wipe_get σ vs j hj
    have wst : wipe σ2 vs = wipe σ vs := by
      rw [wipe_eq (σ := wipe σ vs) (τ := σ2) k2.l (fun j hj => k2.s j fun z => hj (hts j z))]
      exact wipe_eq (wipe_length σ vs) fun j hj => wipe_get σ vs j hj
    have free2 : ∀ q, Fre σ (envx.set jj none) q → Fre σ2 e2 q := fun q f j dv ej oj sj => by
      obtain ⟨a1, b1⟩ := k2.o j dv ej oj
      obtain ⟨dv0, b2, o2⟩ := st.o j dv b1 oj
      refine f j dv0 b2 o2 ?_
      rw [← wipe_get σ vs j (nv j dv b1), ← k2.s j a1]
      exact sj
    have own2 : ∀ (j : Nat) (dv : DV), e2[j]? = some (some dv) → ownish dv = true → ∃ dv0, (envx.set jj none)[j]? = some (some dv0) ∧ ownish dv0 = true := fun j dv ej oj => by
      obtain ⟨a1, b1⟩ := k2.o j dv ej oj
      exact st.o j dv b1 oj
    have lift : ∀ {e4 : DEnv} {Z4 H4 : Hp}, Stp σ2 e2 Zc H2 e4 Z4 H4 → Stp σ (envx.set jj none) Zx H (wipeE e4 vs) Z4 H4 := fun {e4 Z4 H4} b => by
      refine ⟨st.z.trans b.z, fun q o hq n f => b.h q o (st.h q o hq n f) n (free2 q f), fun q h4 h0 hh f => ?_, fun j dv ej oj => ?_, fun q hq => b.k q (st.k q hq)⟩
      · by_cases hz : Zc q = none
        · exact b.n q h4 hz (st.k q hh) (free2 q f)
        · exact st.n q hz h0 hh f
      · obtain ⟨a1, b1⟩ := b.o j dv (wipeE_in _ _ _ _ ej).2 oj
        exact own2 j a1 b1.1 b1.2
    -- what is held, and what is piled up, stay in such a step
    have stay : ∀ {e4 : DEnv} {Z4 H4 : Hp} {q : Addr} {ys : List V}, Stp σ2 e2 Zc H2 e4 Z4 H4 → Fre σ (envx.set jj none) q → H2 q = some (.lst ys) → Zc q = none → H4 q = some (.lst ys) ∧ Z4 q = none := fun {e4 Z4 H4 q ys} b f hq zq => by
      refine ⟨b.h q _ hq nt_lst (free2 q f), ?_⟩
      cases hh : Z4 q with
      | none => rfl
      | some o => exact absurd (free2 q f) (b.n q (by rw [hh]; simp) zq (by rw [hq]; simp))
    refine ⟨Zc, e2, tb, e3, r2, t2, fun Z3 H3 r3 s3 => ?_⟩
    cases tb with
    | false =>
      refine iteF ⟨Z3, wipeE e3 vs, acc, ad, rest, stay s3 frp hpc.1 hpc.2, sz.trans s3.z, ?_, fun j dv e => (wipeE_in _ _ _ _ e).1, lift s3, (stay s3 frD hDc zDc).1, (stay s3 frD hDc zDc).2, Nat.le_succ_of_le hla, DDsm dacc s3.z, el, eq⟩
      have := r3.wipe vs
      rw [wst] at this
      exact this
    | true =>
      obtain ⟨⟨yv, e4⟩, y2, el⟩ := bnd el
      obtain ⟨⟨rr, e5⟩, l2, el⟩ := mpd el
      cases el
      refine iteT ⟨Z3, e3, yv, e4, r3, y2, fun v Z4 H4 r4 s4 d4 => ?_⟩
      have s34 := s3.trans s4
      obtain ⟨hD4, zD4⟩ := stay s34 frD hDc zDc
      obtain ⟨hp4, zp4⟩ := stay s34 frp hpc.1 hpc.2
      have hlt : acc.length < sizeLine := Nat.lt_of_lt_of_le (Nat.lt_of_le_of_lt hla hi) (Nat.le_trans hlim lim_le)
      refine ⟨acc, hD4, hlt, Z4, wipeE e4 vs, acc ++ [v], ad ++ [yv], rr, ⟨by rw [upd_ne (fun z => hDp z.symm)]; exact hp4, zp4⟩, sz.trans s34.z, ?_, fun j dv e => (wipeE_in _ _ _ _ e).1, ?_, upd_same, zD4, ?_, dds_app (DDsm dacc s34.z) (.cons d4 .nil), l2, ?_⟩
      · have pk := pok_upd r4.zh zD4 hD4 (.lst (acc ++ [v]))
        have rp := r4.poke0 (s34.fre (free2 D frD)) (r.gh.free hD) (fun z => (r.pp D z).1 hD) pk (by rw [upd_same]; simp)
        have := rp.wipe vs
        rw [wst] at this
        exact this
      · have b := lift s34
        refine ⟨b.z, fun q o hq n f => ?_, b.n, b.o, fun q hq => ?_⟩
        · rw [upd_ne (fun z => by rw [z, hD] at hq; cases hq)]
          exact b.h q o hq n f
        · by_cases hqD : q = D
          · subst hqD; rw [upd_same]; simp
          · rw [upd_ne hqD]; exact b.k q hq
      · rw [List.length_append]; exact Nat.succ_le_succ hla
      · rw [eq, List.append_assoc]; rfl
  · rintro Hc ⟨Zc, ec, acc, ad, rest, hpc, sz, rc, nv, st, hDc, zDc, hla, dacc, el, eq⟩
    rw [List.drop_length] at el
    cases el
    rw [List.append_nil] at eq
    subst eq
    have rr := (rc.unwipe nv).regain jj sj (st.fre frp) npp ngp hpc.2 hpc.1 (DDsm dp sz)
    refine qx D acc Zc Hc rr ⟨st.z, fun q o hq n f => st.h q o hq n (free0 q f), fun q h1 h2 h3 f => st.n q h1 h2 h3 (free0 q f), fun k dv ek ok => ?_, st.k⟩ hD zDc hDc dacc
    rcases get_set_some ek with ⟨rfl, _⟩ | ⟨_, z⟩
    · exact ⟨_, ej, rfl⟩
    · obtain ⟨d0, a, b⟩ := st.o k dv z ok
      exact own0 k d0 a b
theorem pn_lcH (j : Nat) {y : Str} {py : Pos} (own : List (Str × Nat)) (hN : X.N.Nodup) (ok : BlkOk X.N X.env.scope scope own)
    (hg : ∀ (s : Shared) (H : Hp) (C : Addr) (cl : List (Str × Addr)) (fp : List Addr), PGN (X.blk s H scope (compEnvC scope cl C X.env) fp) F tg ts g) (ht : ∀ (s : Shared) (H : Hp) (C : Addr) (cl : List (Str × Addr)) (fp : List Addr), PDTs (X.blk s H scope (compEnvC scope cl C X.env) fp) F ifs ft)
    (he : ∀ (s : Shared) (H : Hp) (C : Addr) (cl : List (Str × Addr)) (fp : List Addr), PD (X.blk s H scope (compEnvC scope cl C X.env) fp) F elt fe) (hjv : j ∉ own.map (·.2) := by decide) (hts : ∀ i ∈ ts, i ∈ own.map (·.2) := by decide) (hy : X.N[j]? = some y := by rfl) (hv : Vis X.env.scope y := by first | exact Or.inl rfl | exact Or.inr (Or.inl rfl) | exact Or.inr (Or.inr rfl))
    (hd : (y == ("__debug__" : Str)) = false := by decide) (hcd : (y == ("__classdict__" : Str)) = false := by decide) (hc : X.calm = true := by rfl) (hs : ∀ x, foldedSetIterable (.Name y py) X.env x = pure x := by intro _; rfl) :
    PN X F (.ListComp elt [⟨tg, .Name y py, ifs, 0⟩] scope pos) (nLcH j g ft fe (own.map (·.2))) :=
  pe_imp (pe_lc (g := tGN X.K F ts g) (tt := tDT X.K F ft) (te := tD X.K F fe) hc hN (pi_orr (pi_list (pe_var hy hv hd hcd)) (di_seq (pd_name j hy hv hd hcd))) ok hg ht he hs) fun σ H Q h => by
    obtain ⟨Z, env, d, env', r, e, q⟩ := h
    unfold nLcH at e
    split at e
    · rename_i ds hw
      split at e
      case isFalse => cases e
      rename_i hl
      obtain ⟨⟨rs, e1⟩, h1, h2⟩ := mpd e
      cases h2
      exact .inl (lc_readH hts j hjv r hw hl h1 q)
    · exact .inr (lc_read hts ⟨Z, env, d, env', r, e, q⟩)
/-! ### a, b = a list -/
def gLstD (n : Nat) (gs : List PyData → DEnv → Option DEnv) (d : PyData) (env : DEnv) : Option DEnv := match d with
  | .list ds => if ds.length = n then gs ds env else none
  | _ => none
theorem dg_lst {n kk : Nat} {gs : List PyData → DEnv → Option DEnv} (h : PDGs X F es gs) (hc : X.calm = true := by rfl) (hn : (assignEach es X.env).length = n := by rfl) (hst : (assignEach es X.env).findIdx? (·.1) = none := by rfl) : PDG X F (.Tuple es kk pos) (gLstD n gs) :=
  pg_imp (pg_unl hc h hn hst) fun v σ H Q h => by
    obtain ⟨Z, env, d, env', r, hd, e, q⟩ := h
    cases hd with
    | @lst a xs ds hs ha =>
      change (if ds.length = n then gs ds env else none) = some env' at e
      by_cases hl : ds.length = n
      · rw [if_pos hl] at e
        exact ⟨a, xs, rfl, (same_ls r.zh hs).sq, (dds_len ha).trans hl, Z, env, ds, env', r, ha, e, q⟩
      · rw [if_neg hl] at e; cases e
    | _ => cases e
end
end DL
end L2


set_option Elab.async false
set_option maxRecDepth 100000
set_option maxHeartbeats 4000000
set_option autoImplicit false
namespace L2
namespace DL
open PySem PySem.Spec PyProof.Rows
variable [Lab]
theorem mm_b {a : Int} (ha : 2 ≤ a) {env : DEnv} {n : Nat} (h : fLenN 0 env = some (.int n, env)) : ∃ m : Int, fCB maxD (fCons (fC (.int 2)) (fCons (fCB minD (fCons (fLenN 0) (fCons (fC (.int a)) fNil))) fNil)) env = some (.int m, env) ∧ 2 ≤ m ∧ m ≤ a := by
  have e1 : fCB minD (fCons (fLenN 0) (fCons (fC (.int a)) fNil)) env = some (.int (if a < (n : Int) then a else n), env) := ev_cb (ev_cons h (ev_cons rfl ev_nil)) rfl
  generalize hx : (if a < (n : Int) then a else (n : Int)) = x at e1
  refine ⟨if 2 < x then x else 2, ev_cb (ev_cons rfl (ev_cons e1 ev_nil)) rfl, ?_, ?_⟩
  · split <;> omega
  · split <;> (split at hx <;> omega)
theorem law_fin {mr : List PyData → List PyData → Option (PyData × List PyData)} {mp : List PyData → Option (List PyData)} {mc : List PyData → Option PyData} {PO : List PyData → Prop} {ns : List Int} (hc : ∀ k : Int, 0 ≤ k → k ≤ 1000 → ∃ c : Int, mc [.list (ns.map .int), .int k] = some (.int c)) (hp : ∀ c : Int, ∃ es, mp [.int c] = some es ∧ PO es) (hr : ∀ es, PO es → ∃ es', mr es [] = some (.bool true, es'))
    {v : Nat} {fm : DEnv → Option (PyData × DEnv)} {env : DEnv} (hm : ∃ m : Int, fm env = some (.int m, env) ∧ 2 ≤ m ∧ m ≤ 8) (hv : env.set v none = env) (h0 : ∀ d, rdF 0 (env.set v (some (.fr d))) = some (.list (ns.map .int), env.set v (some (.fr d)))) (hvv : ∀ d, rdF v (env.set v (some (.fr d))) = some (d, env.set v (some (.fr d)))) :
    sRet (fCB allD (fCons (fFrz (nLc (iArg rng1 (fCons fm fNil)) (gSet v) fYes (fCRT mr (fCN mp (fCons (fCB mc (fCons (rdF 0) (fCons (rdF v) fNil))) fNil))) [v])) fNil)) env = some (.rt (.bool true) env) := by
  obtain ⟨m, e1, m1, m2⟩ := hm
  have e2 := lc_img (i := v) (fe := fCRT mr (fCN mp (fCons (fCB mc (fCons (rdF 0) (fCons (rdF v) fNil))) fNil))) (e := fun i : Nat => .int (0 + (i : Int))) (q := fun _ => .bool true) (env := env) hv (List.range m.toNat) fun k hk => by
    have hk := List.mem_range.mp hk
    obtain ⟨c, e3⟩ := hc (0 + (k : Int)) (by omega) (by omega)
    obtain ⟨es, e4, po⟩ := hp c
    obtain ⟨es', e5⟩ := hr es po
    have e6 : fCN mp (fCons (fCB mc (fCons (rdF 0) (fCons (rdF v) fNil))) fNil) (env.set v (some (.fr (.int (0 + (k : Int)))))) = some (es, env.set v (some (.fr (.int (0 + (k : Int)))))) := by
      unfold fCN
      rw [ev_cons (ev_cb (ev_cons (h0 _) (ev_cons (hvv _) ev_nil)) e3) ev_nil]
      show (mp [.int c]).map _ = _
      rw [e4]
      rfl
    unfold fCRT
    rw [e6]
    show (mr es []).map _ = _
    rw [e5]
    rfl
  have hrng : rng1 [.int m] = some ((List.range m.toNat).map fun i : Nat => .int (0 + (i : Int))) := by
    show (if m ≤ 1000000 ∧ _ then some (rangeD 0 m.toNat) else none) = _
    rw [if_pos (by omega)]
    rfl
  refine ev_ret (ev_cb (ev_cons (ev_frz (ev_lc (ev_iArg (ev_cons e1 ev_nil) hrng) ?_ hv e2)) ev_nil) ?_)
  · rw [List.length_map, List.length_range]
    show _ ≤ 100000
    omega
  · rw [all_map (fun _ : Nat => true)]
    simp
/-! ### a new list times a number -/
section
variable {X : Cx} {F : Fm} {a b : Expr} {pos : Pos} {g : DEnv → Option (PyData × DEnv)} {fn : DEnv → Option (List PyData × DEnv)}
end
/-! ### a, b, c = two new lists and data -/
section
variable {X : Cx} {F : Fm} {s : Stmt} {fn gn : DEnv → Option (List PyData × DEnv)} {f : DEnv → Option (PyData × DEnv)}
end
/-! ### words and numbers are small -/
theorem Sm.le {k w : Nat} {d : PyData} (h : Sm k w d) {k' w' : Nat} (hk : k ≤ k' := by decide) (hw : w ≤ w' := by decide) : Sm k' w' d := h.mono hk hw
end DL
end L2


set_option Elab.async false
set_option maxRecDepth 100000
set_option maxHeartbeats 4000000
set_option autoImplicit false
namespace L2
namespace DL
open PySem PySem.Spec PyProof.Rows
/-! ### orders, commands, picks: what they are apart from data -/
def dirsD : List Str := ["up", "down"]
abbrev Ky := Int × Str
def kd (k : Ky) : PyData := .tuple [.int k.1, .str k.2]
structure KOk (n : Int) (ks : List Ky) : Prop where
  nd : (ks.map (·.1)).Nodup
  rg : ∀ k ∈ ks, 0 ≤ k.1 ∧ k.1 < n ∧ k.2 ∈ dirsD
abbrev KB := Int × Bool
abbrev Od := List KB × Bool
def dS (b : Bool) : Str := if b then "up" else "down"
def toKy (k : KB) : Ky := (k.1, dS k.2)
structure OOk (o : Od) : Prop where
  nd : (o.1.map (·.1)).Nodup
  rg : ∀ k ∈ o.1, 0 ≤ k.1 ∧ k.1 < 4
theorem dS_in (b : Bool) : dS b ∈ dirsD := by cases b <;> simp [dS, dirsD]
theorem OOk.k {o : Od} (h : OOk o) : KOk 4 (o.1.map toKy) := by
  refine ⟨?_, fun k hk => ?_⟩
  · rw [List.map_map]; exact h.nd
  · obtain ⟨x, hx, rfl⟩ := List.mem_map.mp hk
    exact ⟨(h.rg x hx).1, (h.rg x hx).2, dS_in _⟩
theorem nodup_le {α : Type} [DecidableEq α] : ∀ (l t : List α), l.Nodup → (∀ x ∈ l, x ∈ t) → l.length ≤ t.length
  | [], _, _, _ => Nat.zero_le _
  | a :: l, t, hn, hs => by
    have ha := hs a List.mem_cons_self
    rw [List.nodup_cons] at hn
    have := nodup_le l (t.erase a) hn.2 fun x hx => by
      have hne : x ≠ a := fun z => hn.1 (by rw [← z]; exact hx)
      exact (List.mem_erase_of_ne hne).mpr (hs x (List.mem_cons_of_mem _ hx))
    rw [List.length_erase_of_mem ha] at this
    have hp : 0 < t.length := List.length_pos_of_mem ha
    rw [List.length_cons]
    omega
theorem OOk.len {o : Od} (h : OOk o) : o.1.length ≤ 4 := by
  have := nodup_le (o.1.map (·.1)) [0, 1, 2, 3] h.nd fun c hc => by
    obtain ⟨k, hk, rfl⟩ := List.mem_map.mp hc
    obtain ⟨a, b⟩ := h.rg k hk
    simp only [List.mem_cons, List.not_mem_nil, or_false]
    omega
  rwa [List.length_map] at this
def nK (k : KB) : KB := (k.1, !k.2)
def flO (o : Od) : Od := (o.1.map nK, !o.2)
def offO (c : Int) (ks : List KB) : List KB := ks.filter fun k => !decide (k.1 = c)
def putO (c : Int) (d : Bool) (o : Od) : Od := ((c, d) :: offO c o.1, o.2)
theorem OOk.fl {o : Od} (h : OOk o) : OOk (flO o) := by
  refine ⟨?_, fun k hk => ?_⟩
  · show ((o.1.map nK).map (·.1)).Nodup
    rw [List.map_map]; exact h.nd
  · obtain ⟨x, hx, rfl⟩ := List.mem_map.mp hk
    exact h.rg x hx
theorem OOk.put {o : Od} (h : OOk o) {c : Int} (h0 : 0 ≤ c) (h1 : c < 4) (d : Bool) : OOk (putO c d o) := by
  refine ⟨?_, fun k hk => ?_⟩
  · show (c :: (offO c o.1).map (·.1)).Nodup
    rw [List.nodup_cons]
    refine ⟨fun z => ?_, ?_⟩
    · obtain ⟨k, hk, e⟩ := List.mem_map.mp z
      have := (List.mem_filter.mp hk).2
      simp [e] at this
    · exact List.Sublist.nodup (List.Sublist.map _ List.filter_sublist) h.nd
  · rcases List.mem_cons.mp hk with rfl | hk
    · exact ⟨h0, h1⟩
    · exact h.rg k (List.mem_filter.mp hk).1
inductive Pl where
  | sort (d : Bool) (c : Int) | rev | res | cut (f : Bool) (k : Int)
abbrev Pk := Od × Int
/-! ### what turns do to an order -/
def offs (P ks : List KB) : List KB := ks.filter fun k => !decide (k.1 ∈ P.map (·.1))
def phi (b : Bool) (ks : List KB) : List KB := if b then ks.map nK else ks
structure ShF (f : Od → Od) (P : List KB) (b : Bool) : Prop where
  eq : ∀ o, f o = (P ++ phi b (offs P o.1), o.2.xor b)
end DL
end L2


set_option Elab.async false
set_option maxRecDepth 100000
set_option maxHeartbeats 4000000
set_option autoImplicit false
namespace L2
namespace DL
open PySem PySem.Spec PyProof.Rows
/-! ### picks, shortened -/
def keep : Int → List Pk → List Pk
  | _, [] => []
  | m, p :: ps => if p.2 < m then p :: keep p.2 ps else keep m ps
def minS : Int → List Pk → Int
  | m, [] => m
  | m, p :: ps => if p.2 < m then minS p.2 ps else minS m ps
structure SameS (a b : List Pk × Od) : Prop where
  o : a.2 = b.2
  k : ∀ m, keep m a.1 = keep m b.1 ∧ minS m a.1 = minS m b.1
end DL
end L2


set_option Elab.async false
set_option maxRecDepth 100000
set_option maxHeartbeats 4000000
set_option autoImplicit false
namespace L2
namespace DL
open PySem PySem.Spec PyProof.Rows PySem.Calls
variable [Lab]
section
variable {X : Cx} {F : Fm} {e a b : Expr} {f : DEnv → Option (PyData × DEnv)} {pos p : Pos}
end
end DL
end L2


set_option Elab.async false
set_option maxRecDepth 100000
set_option maxHeartbeats 4000000
set_option autoImplicit false
namespace L2
namespace DL
open PySem PySem.Spec PyProof.Rows PySem.Calls
variable [Lab]
section
variable {X : Cx} {F : Fm} {a e : Expr} {f : DEnv → Option (PyData × DEnv)} {pos p : Pos} {pins : List (Addr × Obj)} {σ : St} {H : Hp} {s : Shared}
end
end DL
end L2


set_option Elab.async false
set_option maxRecDepth 100000
set_option maxHeartbeats 4000000
set_option autoImplicit false
namespace L2
namespace DL
open PySem PySem.Spec PyProof.Rows
structure KvOk (n : Nat) (kv : Nat → List Int) : Prop where
  len : ∀ i j, i < n → j < n → (kv i).length = (kv j).length
  inj : ∀ i j, i < n → j < n → kv i = kv j → i = j
abbrev Tab := List (List Int)
def sg (d : Str) (x : Int) : Int := if d = "up" then x else -x
def cellT (t : Tab) (i : Nat) (c : Int) : Int := (t.getD i []).getD c.toNat 0
def kvs (t : Tab) (ks : List Ky) (i : Nat) : List Int := ks.map fun k => sg k.2 (cellT t i k.1)
def kv (t : Tab) (ks : List Ky) (s : Str) (i : Nat) : List Int := kvs t ks i ++ [sg s i]
structure TabW (w : Nat) (t : Tab) : Prop where
  l1 : 1 ≤ t.length
  l2 : t.length ≤ 30
  w1 : 1 ≤ w
  w5 : w ≤ 5
  row : ∀ r ∈ t, r.length = w
/-! ### places by an order -/
def kvO (t : Tab) (o : Od) (i : Nat) : List Int := kv t (o.1.map toKy) (dS o.2) i
structure KvA (key : Nat → List Int) : Prop where
  len : ∀ i j, (key i).length = (key j).length
  inj : ∀ i j, key i = key j → i = j
structure StandL (t : Tab) (x : List Nat × Od) (l : List Nat) : Prop where
  nd : x.1.Nodup
  so : x.1.Pairwise fun i j => kvO t x.2 i < kvO t x.2 j
  pm : x.1.Perm l
end DL
end L2


set_option Elab.async false
set_option maxRecDepth 100000
set_option maxHeartbeats 4000000
set_option autoImplicit false
namespace L2
namespace DL
open PySem PySem.Spec PyProof.Rows
local instance labNone_RnD : Lab := { w := none, T := [], gd := True }
end DL
end L2


set_option Elab.async false
set_option maxRecDepth 100000
set_option maxHeartbeats 4000000
set_option autoImplicit false
namespace L2
namespace DL
open PySem PySem.Spec PyProof.Rows PySem.Calls
variable [Lab]
section
variable {X : Cx} {F : Fm} {k n j : Nat} {f : Addr} {fd : FuncData} {ps ks : List Str} {x y : Str} {p pos pn : Pos} {e : Expr} {es : List Expr} {fa fb : DEnv → Option (List PyData × DEnv)}
end
end DL
end L2


set_option Elab.async false
set_option maxRecDepth 100000
set_option maxHeartbeats 4000000
set_option autoImplicit false
/-! ### a for loop in a generator -/
namespace L2
open PySem PySem.Spec PyProof.Rows GenW
section
variable {prog : Program} {w : World} {A : Around} {R : GenEnd} {Y : Protocol} {n : Nat} {s₀ : Shared} {c : Code} {fs : List Frame} {s : Shared} {env : Env} {K : Flow → Sem PySem.Fin} {J : Value → Sem PySem.Fin} {gd : Bool → Bool} {lv : List Value → List Value} {tg iter : Expr} {it : Value} {body : List Stmt} {pos : Pos}
end
section
variable {X : Cx} {tg iter : Expr} {body : List Stmt} {pos : Pos} {wi : TI} {g : TG} {tb : TGn}
end
end L2


set_option Elab.async false
set_option maxRecDepth 100000
set_option maxHeartbeats 4000000
set_option autoImplicit false
/-! ### generators' bodies over data -/
namespace L2
namespace DL
open PySem PySem.Spec PyProof.Rows GenW
variable [Lab]
section
variable {X : Cx} {F : Fm} {tg iter e : Expr} {s : Stmt} {ss : List Stmt} {pos yp : Pos} {f : DEnv → Option (PyData × DEnv)} {fi b fy fz : DEnv → Option (List PyData × DEnv)} {fs : DEnv → Option DFlow} {g : PyData → DEnv → Option DEnv}
end
section
variable {P : Program} {w : World} {K : PySem.W.Frag} {mg : Str → Option Value} {base : Heap} {x qual : Str} {st : Stmt} {f : Addr} {fd : FuncData} {N ps : List Str} {k : Nat} {g : DEnv → Option (List PyData × DEnv)}
end
section
variable {X : Cx} {F : Fm} {k n : Nat} {f : Addr} {fd : FuncData} {ps : List Str} {x nm : Str} {p p2 pos pos2 : Pos} {e : Expr} {es : List Expr} {fa : DEnv → Option (List PyData × DEnv)}
end
/-- repr may be written -/
class LabR [Lab] : Prop where
  on : Lab.gd
end DL
end L2


set_option Elab.async false
set_option maxRecDepth 100000
set_option maxHeartbeats 4000000
set_option autoImplicit false
namespace L2
namespace DL
open PySem PySem.Spec PyProof.Rows
section
variable [Lab]
variable {X : Cx} {F : Fm}
end
end DL
end L2


set_option Elab.async false
set_option maxRecDepth 100000
set_option maxHeartbeats 4000000
set_option autoImplicit false
namespace L2
namespace DL
open PySem PySem.Spec PyProof.Rows
section
variable [Lab]
variable {X : Cx} {F : Fm} {pos : Pos}
end
end DL
end L2


set_option Elab.async false
set_option maxRecDepth 100000
set_option maxHeartbeats 4000000
set_option autoImplicit false
namespace L2
namespace DL
open PySem PySem.Spec PyProof.Rows
section
variable [Lab]
end
end DL
end L2


set_option Elab.async false
set_option maxRecDepth 100000
set_option maxHeartbeats 4000000
set_option autoImplicit false
namespace L2
namespace DL
open PySem PySem.Spec PyProof.Rows
section
variable [Lab]
variable {X : Cx} {F : Fm} {e : Expr} {f : DEnv → Option (PyData × DEnv)}
end
end DL
end L2


set_option Elab.async false
set_option maxRecDepth 100000
set_option maxHeartbeats 4000000
set_option autoImplicit false
namespace L2
namespace DL
open PySem PySem.Spec PyProof.Rows
variable [Lab]
/-- reached from a start by steps, stores into the block's names and wipes -/
structure Frm (σ0 : St) (e0 : DEnv) (Z0 H0 : Hp) (σ : St) (e : DEnv) (Z H : Hp) : Prop where
  st : Stp σ0 e0 Z0 H0 e Z H
  ss : ∀ (j : Nat) (dv : DV), e[j]? = some (some dv) → ownish dv = true → σ[j]? = σ0[j]?
section
variable {F : Fm} {σ0 σ σ' : St} {e0 e e' : DEnv} {Z0 H0 Z H Z' H' : Hp} {D : Addr}
theorem Frm.free (f : Frm σ0 e0 Z0 H0 σ e Z H) {q : Addr} (h : Fre σ0 e0 q) : Fre σ e q := fun j dv ej oj sj => by
  obtain ⟨dv0, b, o⟩ := f.st.o j dv ej oj
  exact h j dv0 b o ((f.ss j dv ej oj).symm.trans sj)
theorem Frm.step (f : Frm σ0 e0 Z0 H0 σ e Z H) (b : Stp σ e Z H e' Z' H') : Frm σ0 e0 Z0 H0 σ e' Z' H' := by
  refine ⟨⟨f.st.z.trans b.z, fun q o hq n fr => b.h q o (f.st.h q o hq n fr) n (f.free fr), fun q h4 h0 hh fr => ?_, fun j dv ej oj => ?_, fun q hq => b.k q (f.st.k q hq)⟩, fun j dv ej oj => ?_⟩
  · by_cases hz : Z q = none
    · exact b.n q h4 hz (f.st.k q hh) (f.free fr)
    · exact f.st.n q hz h0 hh fr
  · obtain ⟨dv1, a, o⟩ := b.o j dv ej oj
    exact f.st.o j dv1 a o
  · obtain ⟨dv1, a, o⟩ := b.o j dv ej oj
    exact f.ss j dv1 a o
theorem Frm.wipe (f : Frm σ0 e0 Z0 H0 σ e Z H) (vs : List Nat) : Frm σ0 e0 Z0 H0 (L2.wipe σ vs) (wipeE e vs) Z H :=
  ⟨⟨f.st.z, f.st.h, f.st.n, fun j dv ej oj => f.st.o j dv (wipeE_in _ _ _ _ ej).2 oj, f.st.k⟩, fun j dv ej oj => by
    obtain ⟨a, b⟩ := wipeE_in _ _ _ _ ej
    rw [wipe_get _ _ _ a]; exact f.ss j dv b oj⟩
theorem Frm.tg {ts : List Nat} (f : Frm σ0 e0 Z0 H0 σ e Z H) (k : TgOk ts σ e σ' e') : Frm σ0 e0 Z0 H0 σ' e' Z H :=
  ⟨⟨f.st.z, f.st.h, f.st.n, fun j dv ej oj => f.st.o j dv (k.o j dv ej oj).2 oj, f.st.k⟩, fun j dv ej oj => by
    obtain ⟨a, b⟩ := k.o j dv ej oj
    rw [k.s j a]; exact f.ss j dv b oj⟩
theorem Frm.poke (f : Frm σ0 e0 Z0 H0 σ e Z H) (h0 : H0 D = none) (x : HO) : Frm σ0 e0 Z0 H0 σ e Z (upd H D x) :=
  ⟨⟨f.st.z, fun q o hq n fr => by rw [upd_ne (fun z => by rw [z, h0] at hq; cases hq)]; exact f.st.h q o hq n fr, f.st.n, f.st.o, fun q hq => by
    by_cases hqD : q = D
    · subst hqD; rw [upd_same]; simp
    · rw [upd_ne hqD]; exact f.st.k q hq⟩, f.ss⟩
end
section
variable {X : Cx} {F : Fm} {tg iter tg1 iter1 elt : Expr} {ifs ifs1 : List Expr} {pos : Pos} {y : Str} {fe : DEnv → Option (PyData × DEnv)} {fi fi1 : DEnv → Option (List PyData × DEnv)} {ft ft1 : DEnv → Option (Bool × DEnv)} {scope : Scope} {ts ts1 : List Nat} {g g1 : PyData → DEnv → Option DEnv}
end
end DL
end L2


set_option Elab.async false
set_option maxRecDepth 100000
set_option maxHeartbeats 4000000
set_option autoImplicit false
namespace L2
namespace DL
open PySem PySem.Spec PyProof.Rows
variable [Lab]
end DL
end L2


set_option Elab.async false
set_option maxRecDepth 100000
set_option maxHeartbeats 4000000
set_option autoImplicit false
namespace L2
namespace DL
open PySem PySem.Spec PyProof.Rows
variable [Lab]
section
variable {X : Cx} {F : Fm} {e : Expr} {y : Str} {pos pn tpos : Pos} {f fe : DEnv → Option (PyData × DEnv)}
end
end DL
end L2


set_option Elab.async false
set_option maxRecDepth 100000
set_option maxHeartbeats 4000000
set_option autoImplicit false
namespace L2
namespace DL
open PySem PySem.Spec PyProof.Rows
variable [Lab]
end DL
end L2


set_option Elab.async false
set_option maxRecDepth 100000
set_option maxHeartbeats 4000000
set_option autoImplicit false
namespace L2
namespace DL
open PySem PySem.Spec PyProof.Rows PySem.Calls
variable [Lab]
/-! ### any(l), l a list of ints -/
section
variable {X : Cx}
end
end DL
end L2


set_option Elab.async false
set_option maxRecDepth 100000
set_option maxHeartbeats 4000000
set_option autoImplicit false
namespace L2
namespace DL
open PySem PySem.Spec PyProof.Rows PySem.Calls
/-! ### nested keys -/
mutual
def nkOf : PyData → Option NestedKey
  | .none => some .none
  | .int i => some (.num i)
  | .str s => some (.text s)
  | .tuple ds => (nksOf ds).map .tup
  | .bool _ => none
  | .list _ => none
  | .dict _ => none
def nksOf : List PyData → Option (List NestedKey)
  | [] => some []
  | d :: ds => (nkOf d).bind fun k => (nksOf ds).map (k :: ·)
end
variable [Lab]
mutual
theorem nk_data : ∀ (d : PyData) (k : NestedKey), nkOf d = some k → k.data = d
  | .none, _, h => by cases h; rfl
  | .int _, _, h => by cases h; rfl
  | .str _, _, h => by cases h; rfl
  | .bool _, _, h => by cases h
  | .list _, _, h => by cases h
  | .dict _, _, h => by cases h
  | .tuple ds, k, h => by
    rw [nkOf] at h
    obtain ⟨ks, e, rfl⟩ := mpd h
    rw [NestedKey.data, nks_data ds ks e]
theorem nks_data : ∀ (ds : List PyData) (ks : List NestedKey), nksOf ds = some ks → NestedKey.datas ks = ds
  | [], _, h => by cases h; rfl
  | d :: ds, _, h => by
    rw [nksOf] at h
    obtain ⟨k, e1, h⟩ := bnd h
    obtain ⟨ks, e2, rfl⟩ := mpd h
    rw [NestedKey.datas, nk_data d k e1, nks_data ds ks e2]
end
mutual
theorem nk_of : ∀ k : NestedKey, nkOf k.data = some k
  | .none => rfl
  | .num _ => rfl
  | .text _ => rfl
  | .tup ks => by rw [NestedKey.data, nkOf, nks_of ks]; rfl
theorem nks_of : ∀ ks : List NestedKey, nksOf (NestedKey.datas ks) = some ks
  | [] => rfl
  | k :: ks => by rw [NestedKey.datas, nksOf, nk_of k, nks_of ks]; rfl
end
mutual
theorem dd_nk {X : Cx} {pins : List (Addr × Obj)} {σ : St} {H : Hp} {s : Shared} (I : Inv X pins σ H s) {Z : Hp} (sz : Same Z H) : ∀ (k : NestedKey) (v : V) (u : Value), DD X.K Z v k.data → RelV v u → NestedIs s.heap k u
  | .none, v, u, h, r => by cases h; cases (show u = Value.none from r); exact .none
  | .num i, v, u, h, r => by cases h; obtain ⟨t, rfl⟩ := (show ∃ t, u = Value.int i t from r); exact .int i t
  | .text x, v, u, h, r => by cases h; obtain ⟨t, rfl⟩ := (show ∃ t, u = Value.str x t from r); exact .text x t
  | .tup ks, v, u, h, r => by
    rw [NestedKey.data] at h
    cases h with
    | @tup a xs _ hs hd =>
      cases (show u = Value.ref a from r)
      obtain ⟨its, rv, ⟨o, h1, h2, n, h3⟩, _⟩ := I.tuple (same_sqT sz hs)
      exact .tup h1 h2 h3 (by simpa using dds_nk I sz ks xs its hd rv)
theorem dds_nk {X : Cx} {pins : List (Addr × Obj)} {σ : St} {H : Hp} {s : Shared} (I : Inv X pins σ H s) {Z : Hp} (sz : Same Z H) : ∀ (ks : List NestedKey) (vs : List V) (us : List Value), DDs X.K Z vs (NestedKey.datas ks) → Vals vs us → NestedAll s.heap ks us
  | [], _, _, h, r => by
    rw [NestedKey.datas] at h
    cases h; cases r; exact .nil
  | k :: ks, _, _, h, r => by
    rw [NestedKey.datas] at h
    cases h with
    | cons h1 h2 =>
      cases r with
      | cons r1 r2 => exact .cons (dd_nk I sz k _ _ h1 r1) (dds_nk I sz ks _ _ h2 r2)
end
/-! ### the dict as the library tells it -/
abbrev NEnt := NestedKey × Addr × V
end DL
end L2


set_option Elab.async false
set_option maxRecDepth 100000
set_option maxHeartbeats 4000000
set_option autoImplicit false
namespace L2
namespace DL
open PySem PySem.Spec PyProof.Rows PySem.Calls
variable [Lab]
/-! ### a display, its keys nested tuples -/
abbrev FD := DEnv → Option (PyData × DEnv)
end DL
end L2


set_option Elab.async false
set_option maxRecDepth 100000
set_option maxHeartbeats 4000000
set_option autoImplicit false
namespace L2
namespace DL
open PySem PySem.Spec PyProof.Rows PySem.Calls
variable [Lab]
/-! ### min(l, key=len) -/
section
variable {X : Cx} {pins : List (Addr × Obj)} {σ : St} {H : Hp}
/-- the least so far -/
structure Least (kf : Nat → Int) (i j : Nat) : Prop where
  lt : i < j
  le : ∀ k, k < j → kf i ≤ kf k ∧ (k < i → kf i < kf k)
omit [Lab] in
theorem Least.no {kf : Nat → Int} {i j : Nat} (h : Least kf i j) (n : ¬ kf j < kf i) : Least kf i (j + 1) := by
  refine ⟨by have := h.lt; omega, fun k hk => ?_⟩
  by_cases e : k = j
  · subst e
    exact ⟨by omega, fun z => by have := h.lt; omega⟩
  · exact h.le k (by omega)
end
/-- the world that the dicts' hashes are of -/
class LabV (w : World) : Prop where
  eq : LabW.w = some w
end DL
end L2


set_option Elab.async false
set_option maxRecDepth 100000
set_option maxHeartbeats 4000000
set_option autoImplicit false
namespace L2
namespace DL
open PySem PySem.Spec PyProof.Rows
variable [Lab]
section
variable {X : Cx}
end
/-! ### a, b = a new list and data -/
section
variable {X : Cx} {F : Fm} {s : Stmt} {fn : DEnv → Option (List PyData × DEnv)} {f : DEnv → Option (PyData × DEnv)}
end
end DL
end L2


set_option Elab.async false
set_option maxRecDepth 100000
set_option maxHeartbeats 4000000
set_option autoImplicit false
namespace L2
namespace DL
open PySem PySem.Spec PyProof.Rows
variable [Lab]
/-! ### a call that reads an owned list and hands back data without lists: the list stays owned -/
mutual
def noL : PyData → Bool
  | .list _ => false
  | .dict _ => false
  | .tuple ds => noLs ds
  | _ => true
def noLs : List PyData → Bool
  | [] => true
  | d :: ds => noL d && noLs ds
end
/-- Z without the list at p -/
def offZ (Z : Hp) (p : Addr) : Hp := fun q => if q = p then none else Z q
theorem offZ_ne {Z : Hp} {p q : Addr} (h : q ≠ p) : offZ Z p q = Z q := if_neg h
mutual
theorem dd_off {K : PySem.W.Frag} {Z : Hp} {p : Addr} {xs : List V} (hp : Z p = some (.lst xs)) : ∀ (d : PyData) (v : V), noL d = true → DD K Z v d → DD K (offZ Z p) v d
  | .none, _, _, h => by cases h; exact .non
  | .bool _, _, _, h => by cases h; exact .bl _
  | .int _, _, _, h => by cases h; exact .int _
  | .str _, _, _, h => by cases h; exact .str _
  | .list _, _, n, _ => by cases n
  | .dict _, _, n, _ => by cases n
  | .tuple ds, _, n, h => by
    cases h with
    | tup hs hd =>
      refine .tup ?_ (dds_off hp ds _ n hd)
      rcases hs with h | h
      · refine .inl ?_
        rcases h with h | ⟨o, h⟩
        · exact .inl (by rw [offZ_ne (fun z => by rw [z, hp] at h; cases h)]; exact h)
        · exact .inr ⟨o, by rw [offZ_ne (fun z => by rw [z, hp] at h; cases h)]; exact h⟩
      · exact .inr h
theorem dds_off {K : PySem.W.Frag} {Z : Hp} {p : Addr} {xs : List V} (hp : Z p = some (.lst xs)) : ∀ (ds : List PyData) (vs : List V), noLs ds = true → DDs K Z vs ds → DDs K (offZ Z p) vs ds
  | [], _, _, h => by cases h; exact .nil
  | d :: ds, _, n, h => by
    obtain ⟨n1, n2⟩ := Bool.and_eq_true_iff.mp n
    cases h with
    | cons h1 h2 => exact .cons (dd_off hp d _ n1 h1) (dds_off hp ds _ n2 h2)
end
section
variable {X : Cx} {F : Fm} {k n : Nat} {f : Addr} {fd : FuncData} {ps : List Str} {x a y b : Str} {p pa py pb pos : Pos}
end
end DL
end L2


set_option Elab.async false
set_option maxRecDepth 100000
set_option maxHeartbeats 4000000
set_option autoImplicit false
namespace L2
namespace DL
open PySem PySem.Spec PyProof.Rows PySem.Calls
variable [Lab]
/-! ### a, b, c = a new dict, a new list, data -/
section
variable {X : Cx} {F : Fm} {s : Stmt} {fk : DEnv → Option (List (PyData × PyData) × DEnv)} {gn : DEnv → Option (List PyData × DEnv)} {f : DEnv → Option (PyData × DEnv)}
end
end DL
end L2


set_option Elab.async false
set_option maxRecDepth 100000
set_option maxHeartbeats 4000000
set_option autoImplicit false
namespace L2
namespace DL
open PySem PySem.Spec PyProof.Rows PySem.Calls
variable [Lab]
end DL
end L2


set_option Elab.async false
set_option maxRecDepth 100000
set_option maxHeartbeats 4000000
set_option autoImplicit false
namespace L2
namespace DL
open PySem PySem.Spec PyProof.Rows PySem.Calls
variable [Lab]
/-! ### xs[::-1], xs a list -/
section
variable {X : Cx} {F : Fm} {e : Expr} {f : DEnv → Option (PyData × DEnv)}
end
end DL
end L2


set_option Elab.async false
set_option maxRecDepth 100000
set_option maxHeartbeats 4000000
set_option autoImplicit false
namespace L2
open PySem PySem.Spec PyProof.Rows PySem.Calls
/-! ### set(t), t a tuple of ints -/
section
variable {X : Cx}
end
namespace DL
variable [Lab]
section
variable {X : Cx} {F : Fm} {e : Expr} {f : DEnv → Option (PyData × DEnv)}
end
end DL
end L2


set_option Elab.async false
set_option maxRecDepth 100000
set_option maxHeartbeats 4000000
set_option autoImplicit false
namespace L2
open PySem PySem.Spec PyProof.Rows PySem.Calls
section
variable {P : Program} {w : World} {A : Around} {E : Value → Shared → Prop} {s : Shared}
end
end L2


set_option Elab.async false
set_option maxRecDepth 100000
set_option maxHeartbeats 4000000
set_option autoImplicit false
namespace L2
open PySem PySem.Spec PyProof.Rows PySem.Calls
namespace DL
variable [DL.Lab]
end DL
section
variable [DL.Lab]
variable {X : Cx}
end
namespace DL
variable [DL.Lab]
section
variable {X : Cx} {F : Fm} {e : Expr} {f : DEnv → Option (PyData × DEnv)}
end
end DL
end L2


set_option Elab.async false
set_option maxRecDepth 100000
set_option maxHeartbeats 4000000
set_option autoImplicit false
namespace L2
namespace DL
open PySem PySem.Spec PyProof.Rows PySem.Calls
variable [Lab]
/-! ### list(range(i, j)), new -/
section
variable {X : Cx} {F : Fm} {a b : Expr} {f g : DEnv → Option (PyData × DEnv)}
end
end DL
end L2


set_option Elab.async false
set_option maxRecDepth 100000
set_option maxHeartbeats 4000000
set_option autoImplicit false
namespace L2
open PySem PySem.Spec PyProof.Rows PySem.Calls
section
variable {P : Program} {w : World} {A : Around} {E : Value → Shared → Prop} {s : Shared}
end
section
variable [DL.Lab]
variable {X : Cx}
end
end L2


set_option Elab.async false
set_option maxRecDepth 100000
set_option maxHeartbeats 4000000
set_option autoImplicit false
namespace L2
open PySem PySem.Spec PyProof.Rows PySem.Calls
namespace DL
variable [DL.Lab]
section
variable {X : Cx} {F : Fm} {e : Expr} {f : DEnv → Option (PyData × DEnv)}
end
end DL
end L2


set_option Elab.async false
set_option maxRecDepth 100000
set_option maxHeartbeats 4000000
set_option autoImplicit false
namespace L2
namespace DL
open PySem PySem.Spec PyProof.Rows PySem.Calls
variable [Lab]
section
variable {X : Cx} {F : Fm} {y : Str} {pn p cpos : Pos}
end
abbrev PK (K : PySem.W.Frag) (Z : Hp) : List (Key × V) → List (Key × PyData) → Prop := Paired fun a b => a.1 = b.1 ∧ DD K Z a.2 b.2
section
variable {X : Cx} {F : Fm} {o e1 e2 : Expr} {apos cpos : Pos} {f g h : FD}
end
section
variable {X : Cx} {F : Fm} {b : Expr} {nm : Str} {pos pn : Pos} {f : FD} {kvs : List (Str × PyData)}
end
end DL
end L2


set_option Elab.async false
set_option maxRecDepth 100000
set_option maxHeartbeats 4000000
set_option autoImplicit false
namespace L2
namespace DL
open PySem PySem.Spec PyProof.Rows PySem.Calls
variable [Lab]
section
variable {X : Cx} {pins : List (Addr × Obj)} {σ : St} {Fv : Fm}
/-- the state of the loop between two turns -/
structure MinS (X : Cx) (Fv : Fm) (pins : List (Addr × Obj)) (σ : St) (env : DEnv) (f c' I S l : Addr) (lo co : HO) (xs : List V) (ds : List PyData) (Z H : Hp) (s : Shared) : Prop where
  iv : Inv X pins σ H s
  rl : Rel X.K Fv Z H σ env
  hf : H f = some lo
  hc : H c' = some co
  hl : LsR X.K H l xs
  hd : DDs X.K Z xs ds
  fi : FpOk X pins H I
  fs : FpOk X pins H S
theorem MinS.at {env : DEnv} {f c' I S l : Addr} {lo co : HO} {xs : List V} {ds : List PyData} {Z H : Hp} {s s' : Shared} (m : MinS X Fv pins σ env f c' I S l lo co xs ds Z H s) (iv : Inv X pins σ H s') : MinS X Fv pins σ env f c' I S l lo co xs ds Z H s' :=
  ⟨iv, m.rl, m.hf, m.hc, m.hl, m.hd, m.fi, m.fs⟩
end
end DL
end L2


set_option Elab.async false
set_option maxRecDepth 100000
set_option maxHeartbeats 4000000
set_option autoImplicit false
namespace L2
namespace DL
open PySem PySem.Spec PyProof.Rows PySem.AutoSeq1
variable [Lab]
/-! ### xs.extend(tuple) -/
section
set_option maxRecDepth 8000
end
section
variable {X : Cx} {F : Fm} {a b e : Expr} {pos p pn : Pos} {x y : Str} {f g : DEnv → Option (PyData × DEnv)}
end
end DL
end L2


set_option Elab.async false
set_option maxRecDepth 100000
set_option maxHeartbeats 4000000
set_option autoImplicit false
namespace L2
namespace DL
open PySem PySem.Spec PyProof.Rows PySem.Calls
variable [Lab]
section
variable {X : Cx} {F : Fm} {e : Expr} {f : DEnv → Option (PyData × DEnv)}
end
end DL
end L2


set_option Elab.async false
set_option maxRecDepth 100000
set_option maxHeartbeats 4000000
set_option autoImplicit false
namespace L2
namespace DL
open PySem PySem.Spec PyProof.Rows PySem.Calls
variable [Lab]
/-! ### repr of data that may hold empty dicts -/
mutual
def emD : PyData → Bool
  | .list ds => emDs ds
  | .tuple ds => emDs ds
  | .dict kvs => kvs.isEmpty
  | _ => true
def emDs : List PyData → Bool
  | [] => true
  | d :: ds => emD d && emDs ds
end
abbrev reprOkE (d : PyData) : Bool := d.showable && emD d && decide (d.shown.length ≤ sizeLine) && decide (d.depth ≤ 64)
def reprE : List PyData → Option PyData
  | [d] => if reprOkE d then some (.str d.shown) else none
  | _ => none
section
variable {X : Cx} {pins : List (Addr × Obj)} {σ : St} {H : Hp} {s : Shared}
theorem dd_emp (I : Inv X pins σ H s) {v : V} (h : DD X.K H v (.dict [])) : ∃ a o es ep, v = .ref a ∧ (a == sysModules) = false ∧ s.heap.get? a = some o ∧ o.cls = .type "dict" ∧ o.data = .dict es ep ∧ es.toList = [] := by
  cases h with
  | @dct a xs _ e hi =>
    cases hi
    obtain ⟨_, hs, vs, rel, o, es, ep, ho, hx, hd, _, hp, _⟩ := dk_of I.hok e
    cases rel
    refine ⟨a, o, es, ep, rfl, hs, ho, hx.1, hd, ?_⟩
    generalize es.toList = l at hp
    cases hp
    rfl
  | @dcn a o xs _ e hf hk =>
    cases hk
    obtain ⟨w', es, ep, _, hd, hp⟩ := hf.es
    obtain ⟨hh, _, _⟩ := I.hok a _ e
    refine ⟨a, o, es, ep, rfl, hf.hd, hh, hf.ex.1, hd, ?_⟩
    generalize es.toList = l at hp
    cases hp
    rfl
/-- what is read is shown so -/
abbrev RkD (X : Cx) (s : Shared) (u : Value) (d : PyData) : Prop := (∃ as, Reads s.heap u d as) ∧ ∃ bs, ReadAtMost s.heap d.depth bs ∧ ReprK X.prog X.w bs s.heap d.depth u d.shown
abbrev RkDs (X : Cx) (s : Shared) (us : List Value) (ds : List PyData) : Prop := (∃ as, ReadsAll s.heap us ds as) ∧ ∃ bs, ReadAtMost s.heap (PyData.depthAll ds) bs ∧ ReprAllK X.prog X.w bs s.heap (PyData.depthAll ds) us (PyData.shownAll ds)
theorem rk_atom {u : Value} {d : PyData} (hr : Reads s.heap u d []) (hk : ∀ n, ReprK X.prog X.w [] s.heap n u d.shown) : RkD X s u d := ⟨⟨_, hr⟩, [], (fun _ h => nomatch h), hk _⟩
mutual
theorem dd_rk (I : Inv X pins σ H s) : ∀ (d : PyData) (v : V) (u : Value), DD X.K H v d → RelV v u → emD d = true → d.showable = true → d.shown.length ≤ sizeLine → RkD X s u d
  | .none, _, _, h, r, _, _, _ => by
    cases h
    cases r
    exact rk_atom .none fun n => ReprK.of_is ReprIs.none _ _ _
  | .bool b, _, _, h, r, _, _, _ => by
    cases h
    cases r
    exact rk_atom (.bool b) fun n => ReprK.of_is (ReprIs.bool b) _ _ _
  | .int i, _, _, h, r, _, c, _ => by
    cases h.int_inv
    obtain ⟨t, rfl⟩ := r
    exact rk_atom (.int i t) fun n => ReprK.of_is (ReprIs.int t (of_decide_eq_true c)) _ _ _
  | .str x, _, _, h, r, _, _, z => by
    cases h
    obtain ⟨t, rfl⟩ := r
    exact rk_atom (.str x t) fun n => ReprK.of_is (ReprIs.str x t z) _ _ _
  | .list ds, _, _, h, r, em, c, z => by
    cases h with
    | @lst a xs _ hs ha =>
      cases r
      obtain ⟨its, rv, ⟨o, n, ho, hc, _, hd⟩, _⟩ := I.list hs.sq
      have z1 : (listText (PyData.shownAll ds)).length ≤ sizeLine := z
      obtain ⟨⟨as, hr⟩, bs, hb, hk⟩ := dds_rk I ds xs its ha rv em c fun t ht => Nat.le_trans (listText_mem_le ht) z1
      have rd : Reads s.heap (.ref a) (.list ds) (a :: as) := .list ho hc hd hr
      have hna : a ∉ bs := not_mem_of_deeper rd (Nat.lt_succ_self _) hb
      refine ⟨⟨_, rd⟩, a :: bs, ReadAtMost.cons rd (Nat.le_succ _) hb, ?_⟩
      cases its with
      | nil =>
        cases hr
        exact ReprK.listEmpty ho hc hd
      | cons y l => exact ReprK.list ho hc hd hna (by simpa using hk.length_eq) fun i y e => hk.item i y (by simpa using e)
  | .tuple ds, _, _, h, r, em, c, z => by
    cases h with
    | @tup a xs _ hs ha =>
      cases r
      obtain ⟨its, rv, ⟨o, ho, hc, n, hd⟩, _⟩ := I.tuple hs
      have z1 : (tupleText (PyData.shownAll ds)).length ≤ sizeLine := z
      obtain ⟨⟨as, hr⟩, bs, hb, hk⟩ := dds_rk I ds xs its ha rv em c fun t ht => Nat.le_trans (tupleText_mem_le ht) z1
      have rd : Reads s.heap (.ref a) (.tuple ds) as := .tuple ho hc hd hr
      have hna : a ∉ bs := not_mem_of_deeper rd (Nat.lt_succ_self _) hb
      exact ⟨⟨_, rd⟩, a :: bs, ReadAtMost.cons rd (Nat.le_succ _) hb, ReprK.tuple ho hc hd hna hk⟩
  | .dict kvs, _, _, h, r, em, c, z => by
    have hk : kvs = [] := List.isEmpty_iff.mp em
    subst hk
    obtain ⟨a, o, es, ep, rfl, hsy, ho, hc, hd, he⟩ := dd_emp I h
    cases r
    have rd : Reads s.heap (.ref a) (.dict []) (a :: [] ++ []) := .dict ho hc hd (by rw [he]; exact .nil) (by rw [he]; exact .nil)
    refine ⟨⟨_, rd⟩, a :: [], ReadAtMost.cons (n := 0) (bs := []) rd (Nat.zero_le _) (fun _ h => nomatch h), ?_⟩
    exact ReprK.dict (d := 0) (ps := []) ho hc hd hsy (fun h => nomatch h) (by rw [he]; exact .nil)
theorem dds_rk (I : Inv X pins σ H s) : ∀ (ds : List PyData) (vs : List V) (us : List Value), DDs X.K H vs ds → Vals vs us → emDs ds = true → PyData.showableAll ds = true → (∀ t ∈ PyData.shownAll ds, t.length ≤ sizeLine) → RkDs X s us ds
  | [], _, _, h, r, _, _, _ => by
    cases h
    cases r
    exact ⟨⟨_, .nil⟩, [], (fun _ h => nomatch h), .nil⟩
  | d :: ds, _, _, h, r, em, c, z => by
    cases h with
    | cons h1 h2 =>
      cases r with
      | cons r1 r2 =>
        have em' : (emD d && emDs ds) = true := em
        have c' : (d.showable && PyData.showableAll ds) = true := c
        rw [Bool.and_eq_true] at em' c'
        obtain ⟨⟨as, q1⟩, b1, hb1, k1⟩ := dd_rk I d _ _ h1 r1 em'.1 c'.1 (z _ List.mem_cons_self)
        obtain ⟨⟨cs, q2⟩, b2, hb2, k2⟩ := dds_rk I ds _ _ h2 r2 em'.2 c'.2 fun t ht => z t (List.mem_cons_of_mem _ ht)
        refine ⟨⟨_, .cons q1 q2⟩, b1 ++ b2, ReadAtMost.append (hb1.mono (Nat.le_max_left _ _)) (hb2.mono (Nat.le_max_right _ _)), ?_⟩
        exact .cons ((k1.more fun b hb => List.mem_append_left _ hb).level_le (Nat.le_max_left _ _)) (k2.more_le (fun b hb => List.mem_append_right _ hb) (Nat.le_max_right _ _))
end
/-- the object at a, shown by its type's own -/
theorem dd_shows (I : Inv X pins σ H s) {d : PyData} {v : V} {a : Addr} (h : DD X.K H v d) (rv : RelV v (.ref a)) (em : emD d = true) (c : d.showable = true) (z : d.shown.length ≤ sizeLine) : ∃ T idr, ShowsBy X.prog X.w s.heap a d T idr := by
  cases h with
  | non => cases rv
  | bl b => cases rv
  | int i => obtain ⟨t, e⟩ := rv; cases e
  | str x => obtain ⟨t, e⟩ := rv; cases e
  | @lst a' xs ds hs ha =>
    cases rv
    obtain ⟨its, rv, ⟨o, n, ho, hc, _, hd⟩, _⟩ := I.list hs.sq
    have z1 : (listText (PyData.shownAll ds)).length ≤ sizeLine := z
    obtain ⟨⟨as, hr⟩, bs, hb, hk⟩ := dds_rk I ds xs its ha rv em c fun t ht => Nat.le_trans (listText_mem_le ht) z1
    have rd : Reads s.heap (.ref a) (.list ds) (a :: as) := .list ho hc hd hr
    have hna : a ∉ bs := not_mem_of_deeper rd (Nat.lt_succ_self _) hb
    refine ⟨"list", "list.__repr__", F.slot_list_repr.toG, F.slot_list_str, F.slot_list_format, fun s2 k => ⟨o, k _ _ ho, hc⟩, fun A2 E2 s2 Q2 hg hu k hQ => ?_⟩
    cases its with
    | nil =>
      cases hr
      exact call_list_repr_empty ⟨o, k _ _ ho, hc⟩ (k _ _ ho) hd (hQ s2.heap _ _ fun _ _ e => e)
    | cons y l => exact call_list_reprK ho hc hd hna (by simpa using hk.length_eq) (fun i y e => hk.item i y (by simpa using e)) hg (fun b _ => Clear.nil b) hu k hQ z1
  | @tup a' xs ds hs ha =>
    cases rv
    obtain ⟨its, rv, ⟨o, ho, hc, n, hd⟩, _⟩ := I.tuple hs
    have z1 : (tupleText (PyData.shownAll ds)).length ≤ sizeLine := z
    obtain ⟨⟨as, hr⟩, bs, hb, hk⟩ := dds_rk I ds xs its ha rv em c fun t ht => Nat.le_trans (tupleText_mem_le ht) z1
    have rd : Reads s.heap (.ref a) (.tuple ds) as := .tuple ho hc hd hr
    have hna : a ∉ bs := not_mem_of_deeper rd (Nat.lt_succ_self _) hb
    exact ⟨"tuple", "tuple.__repr__", F.slot_tuple_repr, F.slot_tuple_str, F.slot_tuple_format, fun s2 k => ⟨o, k _ _ ho, hc⟩, fun A2 E2 s2 Q2 hg hu k hQ => call_tuple_reprK ho hc hd hna hk hg (fun b _ => Clear.nil b) hu k hQ z1⟩
  | exc _ _ _ _ _ => cases em
  | exn _ _ => cases em
  | @dct a' xs kvs e hi =>
    have hk : kvs = [] := List.isEmpty_iff.mp em
    subst hk
    obtain ⟨a2, o, es, ep, e2, hsy, ho, hc, hd, he⟩ := dd_emp I (.dct e hi)
    cases e2
    cases rv
    exact ⟨"dict", "dict.__repr__", F.slot_dict_repr, F.slot_dict_str, F.slot_dict_format, fun s2 k => ⟨o, k _ _ ho, hc⟩, fun A2 E2 s2 Q2 hg hu k hQ => call_dict_reprK (as := []) (d := 0) (ps := []) ho hc hd hsy (fun h => nomatch h) (by rw [he]; exact .nil) hg (fun b _ => Clear.nil b) hu k hQ z⟩
  | @dcn a' o' xs kvs e hf hi =>
    have hk : kvs = [] := List.isEmpty_iff.mp em
    subst hk
    obtain ⟨a2, o, es, ep, e2, hsy, ho, hc, hd, he⟩ := dd_emp I (.dcn e hf hi)
    cases e2
    cases rv
    exact ⟨"dict", "dict.__repr__", F.slot_dict_repr, F.slot_dict_str, F.slot_dict_format, fun s2 k => ⟨o, k _ _ ho, hc⟩, fun A2 E2 s2 Q2 hg hu k hQ => call_dict_reprK (as := []) (d := 0) (ps := []) ho hc hd hsy (fun h => nomatch h) (by rw [he]; exact .nil) hg (fun b _ => Clear.nil b) hu k hQ z⟩
end
section
variable {X : Cx} {F : Fm}
theorem cd_reprE {k : Nat} (hr : Room k X.A) (hgd : GdOk X.A) (hl : Lab.gd) : CallD X (.builtin "repr") reprE := by
  have hg := hgd hl
  intro pins s σ H xs us Q I r h
  obtain ⟨Z, ds, d, sz, hd, e, q⟩ := h
  match ds, hd, e with
  | [a], hd, e =>
    change (if reprOkE a then some (PyData.str a.shown) else none) = some d at e
    split at e
    case isFalse => cases e
    rename_i hc
    simp only [reprOkE, Bool.and_eq_true, decide_eq_true_eq] at hc
    obtain ⟨⟨⟨c1, c2⟩, c3⟩, c4⟩ := hc
    cases e
    obtain ⟨v, rfl, h1⟩ := dds1 hd
    obtain ⟨u, rfl, rv⟩ := vals1 r
    have hun := hr.un
    have h2 := DDm h1 sz
    have fin : ∀ l, u = .ref l → wpAny (model X.prog X.w) X.A (call (.builtin "repr") [u]) (EP X pins σ Q) X.xe s := fun l hl => by
      subst hl
      obtain ⟨T, idr, S⟩ := dd_shows I h2 rv c2 c1 c3
      refine call_repr_slot (by omega) (S.typeIs s fun _ _ e => e) S.slotRepr (S.call X.A.in1 _ s _ hg (by show X.A.units + 1 + a.depth < cLine; omega) (fun _ _ e => e) fun h' u tk hk => ⟨_, _, rfl, ?_⟩)
      exact ⟨.str _, H, I.kept hk, ⟨_, rfl⟩, q _ Z H (Grow.refl sz) (.str _)⟩
    cases h1 with
    | non => cases rv; exact PySem.P.repr_of_none ⟨.str _, H, I.tok _, ⟨_, rfl⟩, q _ Z H (Grow.refl sz) (.str _)⟩
    | bl b => cases rv; exact PySem.P.repr_of_bool ⟨.str _, H, I.tok _, ⟨_, rfl⟩, q _ Z H (Grow.refl sz) (.str _)⟩
    | int i =>
      obtain ⟨t, rfl⟩ := rv
      exact PySem.P.repr_of_int (of_decide_eq_true c1) ⟨.str _, H, I.tok _, ⟨_, rfl⟩, q _ Z H (Grow.refl sz) (.str _)⟩
    | str z =>
      obtain ⟨t, rfl⟩ := rv
      exact PySem.P.repr_of_str ⟨.str _, H, I.tok _, ⟨_, rfl⟩, q _ Z H (Grow.refl sz) (.str _)⟩ c3
    | lst _ _ => exact fin _ rv
    | tup _ _ => exact fin _ rv
    | dct _ _ => exact fin _ rv
    | dcn _ _ _ => exact fin _ rv
    | exc _ _ _ _ _ => exact fin _ rv
    | exn _ _ => exact fin _ rv
end
end DL
end L2


set_option Elab.async false
set_option maxRecDepth 100000
set_option maxHeartbeats 4000000
set_option autoImplicit false
namespace L2
namespace DL
open PySem PySem.Spec PyProof.Rows
variable [Lab]
/-! ### a, b = data and a new list -/
section
variable {X : Cx} {F : Fm} {s : Stmt} {f : DEnv → Option (PyData × DEnv)} {gn : DEnv → Option (List PyData × DEnv)}
end
end DL
end L2


set_option Elab.async false
set_option maxRecDepth 100000
set_option maxHeartbeats 4000000
set_option autoImplicit false
namespace L2
namespace DL
open PySem PySem.Spec PyProof.Rows
section
variable {X : Cx}
end
section
variable {X : Cx} {t : Expr} {cl : List Value} {body suite : List Stmt} {b₀ : Stmt} {pos pos' : Pos} {tb : WX → TS} {ts : Addr → Value → Option Addr → TS} {Wout : WX}
end
section
variable [Lab]
end
end DL
end L2


set_option Elab.async false
set_option maxRecDepth 100000
set_option maxHeartbeats 4000000
set_option autoImplicit false
namespace L2
namespace DL
open PySem PySem.Spec PyProof.Rows
variable [Lab]
/-! ### calls that may raise within an expression -/
section
variable {X : Cx} {F : Fm} {a b c e : Expr} {rest : List Expr} {pos : Pos} {f g : DEnv → Option DX} {fd : DEnv → Option (PyData × DEnv)} {ft : DEnv → Option (Bool × DEnv)}
theorem FinE.mono {K : PySem.W.Frag} {Z Z1 : Hp} {env e1 : DEnv} {σ : St} {H H1 : Hp} {Q : VK} {r : DX} (q : FinE K F Z env σ H Q r) (s : Stp σ env Z H e1 Z1 H1) : FinE K F Z1 e1 σ H1 Q r := by
  cases r with
  | ok d e' => exact fun v Z' H' r' s' dd => q v Z' H' r' (s.trans s') dd
  | ex c a d e' => exact fun v p Z' H' r' s' x0 x1 x2 x3 x4 dd => q v p Z' H' r' (s.trans s') (s.new x0) x1 x2 x3 x4 dd
end
/-! ### their evaluation -/
section
variable {f g : DEnv → Option DX} {fd : DEnv → Option (PyData × DEnv)} {ft : DEnv → Option (Bool × DEnv)} {env e1 e2 : DEnv}
end
end DL
end L2


set_option Elab.async false
set_option maxRecDepth 100000
set_option maxHeartbeats 4000000
set_option autoImplicit false
namespace L2
namespace DL
open PySem PySem.Spec PyProof.Rows
section
variable [Lab]
end
end DL
end L2


set_option Elab.async false
set_option maxRecDepth 100000
set_option maxHeartbeats 4000000
set_option autoImplicit false
namespace L2
namespace DL
open PySem PySem.Spec PyProof.Rows
variable [Lab]
end DL
end L2


set_option Elab.async false
set_option maxRecDepth 100000
set_option maxHeartbeats 4000000
set_option autoImplicit false
namespace L2
namespace DL
open PySem PySem.Spec PyProof.Rows
variable [Lab]
end DL
end L2


set_option Elab.async false
set_option maxRecDepth 100000
set_option maxHeartbeats 4000000
set_option autoImplicit false
namespace L2
namespace DL
open PySem PySem.Spec PyProof.Rows
variable [Lab]
/-! ### a, b, c = data, a new list, data -/
section
variable {X : Cx} {F : Fm} {s : Stmt} {gn : DEnv → Option (List PyData × DEnv)} {fd f : DEnv → Option (PyData × DEnv)}
end
end DL
end L2


/-! own exceptions over LookupError, each with its one attribute -/
set_option maxRecDepth 4000
namespace PySem
namespace OEL
open PySem.W PySem.Calls PyProof.Rows PySem.HandSPX
abbrev leTail : List Value := [.type "LookupError", .type "Exception", .type "BaseException", .type "object"]
def isRf : Value → Bool
  | .ref _ => true
  | _ => false
theorem isRf_ref {v : Value} (h : isRf v = true) : ∃ c, v = .ref c := by
  cases v <;> first | exact ⟨_, rfl⟩ | cases h
/-- own classes, then the mro of LookupError -/
def leB : List Value → Bool
  | [] => false
  | a :: r => (isRf a && leB r) || (a :: r == leTail)
inductive LeM : List Value → Prop where
  | tail : LeM leTail
  | ref (c : Addr) {l : List Value} (h : LeM l) : LeM (.ref c :: l)
theorem leB_M : ∀ {l : List Value}, leB l = true → LeM l
  | [], h => by cases h
  | a :: r, h => by
    unfold leB at h
    rcases (Bool.or_eq_true _ _).mp h with z | z
    · obtain ⟨z1, z2⟩ := (Bool.and_eq_true _ _).mp z
      obtain ⟨c, rfl⟩ := isRf_ref z1
      exact .ref c (leB_M z2)
    · rw [beq_iff_eq.mp z]
      exact .tail
theorem LeM.contains (X : String) {l : List Value} (h : LeM l) : l.contains (.type X) = leTail.contains (.type X) := by
  induction h with
  | tail => rfl
  | ref c h ih => rw [List.contains_cons, ih]; rfl
theorem LeM.passes (self : Value) {l : List Value} (h : LeM l) : refuseLoop self "__setattr__" l = pure () := by
  induction h with
  | tail => kernel_rfl
  | ref c h ih => rw [refuseLoop_ref]; exact ih
theorem LeM.some {l : List Value} (h : LeM l) : l.isEmpty = false := by
  cases h <;> rfl
section
open Builtin Builtin.ObjectAttr
variable {prog : Program} {w : World} {A : Around} {E : Value → Shared → Prop} {R : Result → Shared → Prop} {hp : Heap} {g : Array GenState} {d : Drawn} {t : Nat} {os : OsState}
/-- the first attribute of such an exception -/
theorem first_attr {K : W.Frag} {name : Str} {tk : Tok} {v : Value} {x C : Addr} {fv : Array Value} {cd : ClassData}
    (X : K.In hp) (hx : hp.get? x = Option.some { cls := .ref C, data := .fields fv }) (hcd : W.clsIn K C = Option.some cd) (hm : LeM cd.mro) (hh : cd.hasDict = true) (ha : W.findIn K (.ref C) name = Option.some none)
    (hq : ∀ h' tk' dx, (∀ b o, b ≠ x → hp.get? b = Option.some o → h'.get? b = Option.some o) → hp.objs.size ≤ dx → dx ≠ x → h'.get? x = Option.some { cls := .ref C, dict := Option.some dx, data := .fields fv } →
      h'.Ns1 dx (fun y => if y = name then Option.some v else none) → R (.ok (.ret .none)) ⟨h', g, d, tk', os⟩) :
    codeAny (model prog w) A (.call (.builtin "object.__setattr__") ⟨[.ref x, .str name tk, v], []⟩) R ⟨hp, g, d, t, os⟩ := by
  have I : W.InstAt hp x { cls := .ref C, data := .fields fv } C none := ⟨hx, rfl, rfl, trivial⟩
  have S := F.store_object
  have xs : x ≠ hp.objs.size := Nat.ne_of_lt (Heap.lt_size hx)
  have isO : W.mroIn K C (.type "object") = Option.some true := by
    unfold W.mroIn
    rw [hcd, Option.bind_some, if_neg (by rw [hm.some]; decide), hm.contains]
    decide +kernel
  refine codeAny_call_builtin S.slot.plain S.entry (@W.check_slot (model prog w) _ _ ⟨hp, g, d, t, os⟩ "object.__setattr__" "object" "__setattr__" (.ref x) [.str name tk, v] [] _ S.kind S.split (I.type.andThen (W.looks_mroIn X isO)) (S.args (.ref x) (.str name tk) v) ?_)
  have l1 : W.Looks (model prog w) hp (mroOf (.ref C)) cd.mro := (W.looks_clsIn X hcd).andThen .now
  have l2 : W.Looks (model prog w) hp (storeTaker? none) none := .now
  have l3 : W.Looks (model prog w) hp (classData C) cd := W.looks_clsIn X hcd
  rw [W.osa_eq, refuse_eq]
  refine wpAny_bind (wpAny_bind (I.type.at (wpAny_bind (l1.at ?_))))
  rw [hm.passes]
  refine wpAny_pure (wpAny_bind (I.type.at (wpAny_bind ((W.looks_findIn X ha).at (wpAny_bind (l2.at ?_))))))
  show wpAny _ _ (storeInOwnDict (.ref x) (.ref C) (.str name tk) name v false) _ _ _
  obtain ⟨nm, bs, mro, ns, qn, hd, sn, sb, ab, col, del⟩ := cd
  dsimp only at hh
  subst hh
  unfold storeInOwnDict ownDictForStores
  repeat (first | with_reducible refine store_in_new ?_ ?_ | with_reducible refine wpAny_loadPart_at hx ?_ | with_reducible refine l3.at ?_ | wp_step)
  · exact ⟨_, #[], _, (Heap.get?_update_ne _ _ _ _ xs.symm).trans (Heap.get?_push_at rfl rfl), rfl, fun e he => absurd he (by simp), fun _ => rfl⟩
  · intro h' tk' hn' hs
    refine hq h' tk' hp.objs.size (fun b o hb ho => (hs.2 b (Nat.ne_of_lt (Heap.lt_size ho))).trans ((Heap.get?_update_ne _ _ _ _ hb).trans (Heap.get?_push_of_some _ ho))) (Nat.le_refl _) xs.symm ((hs.2 x xs).trans (Heap.get?_update_self _ (Heap.get?_push_of_some _ hx) rfl)) hn'
end
end OEL
end PySem
namespace L2
open PySem PySem.Spec PyProof.Rows PySem.OEL
/-- what is known of an own class over LookupError -/
structure OexL (K : PySem.W.Frag) (C : Addr) : Prop where
  cls : ∃ nm q N bs bm sn sub ab col dd k0 k1 k2 k3 k5, K.lookup C = some (excClassObj nm q C N bs bm true sn sub ab col dd k0 k1 k2 k3 k5 "LookupError.__new__") ∧ leB bm = true
  sa : PySem.W.findIn K (.ref C) "__setattr__" = some (some (.builtin "object.__setattr__"))
  exC : PySem.W.subIn K (.ref C) (.type "BaseException") = some true
  tyC : PySem.W.typeIn K (.ref C) = some (.type "type")
  kC : PySem.W.keepIn K (.ref C) = true
section
variable {X : Cx} {pins : List (Addr × Obj)} {σ : St} {H : Hp} {s : Shared} {a C dx : Addr} {f : Str} {y : V} {u : Value} {Q : Unit → Shared → Prop} {E : Value → Shared → Prop} {A : Around}
theorem ost_le (T : OexL X.K C) (I : Inv X pins σ H s) (e : H a = some (exo a C none)) (hno : PySem.W.findIn X.K (.ref C) f = some none) (ry : RelV y u)
    (h : ∀ dx s', H dx = none → dx ≠ a → Inv X pins σ (upd (upd H dx (exd dx [(f, y)])) a (exo a C (some dx))) s' → Q () s') : wpAny (model X.prog X.w) A (setAttr (.ref a) f u) Q E s := by
  obtain ⟨nm, q, N, bs, bm, sn, sub, ab, col, dd, k0, k1, k2, k3, k5, hC, hbm⟩ := T.cls
  have hcl : PySem.W.clsIn X.K C = some { name := nm, bases := bs, mro := .ref C :: bm, ns := N, qualname := q, hasDict := true, slotNames := sn, subclasses := sub, abstract := ab, collection := col, hasDel := false } := by unfold PySem.W.clsIn; rw [hC] <;> rfl
  obtain ⟨t1, ho⟩ := exo_at I.hok e
  obtain ⟨hp, g, d, t, os⟩ := s
  refine PySem.W.set_plain I.kIn (ox := { cls := .ref C, dict := none, data := .fields #[.ref t1, .none, .none, .none, .bool false, .none] }) (od := none) ⟨ho, rfl, rfl, trivial⟩ T.sa ?_
  refine first_attr I.kIn ho hcl (show LeM (.ref C :: bm) from .ref C (leB_M hbm)) rfl hno (fun h' tk' dx k dn dne hx hn => ?_)
  have n0 : H dx = none := I.hok.fresh dn
  have da : ∀ {b : Addr}, H b = none → b ≠ a := fun {b} n z => by
    rw [z, e] at n
    cases n
  have dd' : ∀ {b : Addr} {o : Obj}, hp.get? b = some o → b ≠ dx := fun {b o} q => Nat.ne_of_lt (Nat.lt_of_lt_of_le (Heap.lt_size q) dn)
  have U : Un X.fs [] H (upd (upd H dx (exd dx [(f, y)])) a (exo a C (some dx))) hp h' := {
    keep := fun b o q n _ _ => k b o (da n) q
    slot := fun b o q n _ _ => ⟨o.slots, k b o (da n) q⟩
    free := fun b o q n _ => by rw [upd_ne (da n), upd_ne (dd' q)]; exact n
    there := fun b o q _ => by
      by_cases z : b = a
      · rw [z]; exact ⟨_, hx⟩
      · exact ⟨o, k b o z q⟩
    tups := fun b xs q => by rw [upd_ne (at_ne e q exo_tup), upd_ne (ne_of_none q n0)]; exact q
    frzs := fun b o v q => by rw [upd_ne (at_ne e q exo_frz), upd_ne (ne_of_none q n0)]; exact q
    tbls := fun b ps q => ⟨#[], by rw [upd_ne (at_ne e q exo_tbl), upd_ne (ne_of_none q n0), q]; simp⟩ }
  refine h dx _ n0 dne (I.un (t' := tk') U fun b o q => ?_)
  by_cases z : b = a
  · subst z
    rw [upd_same] at q
    cases q
    exact exo_ok hx
  · rw [upd_ne z] at q
    by_cases z2 : b = dx
    · subst z2
      rw [upd_same] at q
      cases q
      exact exd_ok hn (relO_put (fs := []) ry fun g => True.intro)
    · rw [upd_ne z2] at q
      refine (I.hok b o q).stay (fun c v hc w => k c v (hc.elim (fun hc => hc ▸ z) fun hc => at_ne e hc exo_own) w) (fun c hc => ?_) fun c xs hc => ?_
      · rw [upd_ne (at_ne e hc exo_own), upd_ne (ne_of_none hc n0)]; exact hc
      · rw [upd_ne (at_ne e hc exo_tup), upd_ne (ne_of_none hc n0)]; exact hc
end
/-- self.f = e, the first one -/
def tLe1 (K : PySem.W.Frag) (f : Str) (to te : TE) : TS := fun D σ H => te σ H fun y H1 => to σ H1 fun x H2 => ∃ a C : Addr, x = .ref a ∧ OexL K C ∧ PySem.W.findIn K (.ref C) f = some none ∧ H2 a = some (exo a C none) ∧ ∀ dx, H2 dx = none → dx ≠ a → D.nx σ (upd (upd H2 dx (exd dx [(f, y)])) a (exo a C (some dx)))
theorem ps_lst {X : Cx} {o e : Expr} {to te : TE} {f : Str} {p' pos : Pos} (ho : PE X o to) (he : PE X e te) (hs : swapsWith e (some (.Attribute o f p')) pos.line X.env = pure false := by rfl) : PS X (.Assign [.Attribute o f p'] e pos) (tLe1 X.K f to te) := by
  refine ⟨fun pins s σ H D I h => ?_⟩
  refine plainObj_wpAny_Assign_Attribute (thn (he.run pins s σ H _ I h) fun v s1 ⟨y, H1, I1, r1, q1⟩ => thn (ho.run pins s1 σ H1 _ I1 q1) fun u s2 ⟨x, H2, I2, r2, a, C, ex, T, hno, ea, q⟩ => ?_) hs
  subst ex
  obtain rfl : u = Value.ref a := r2
  exact ost_le T I2 ea hno r1 fun dx s' n ne J => ⟨σ, _, J, q dx n ne⟩
theorem pmk_oel {X : Cx} {e : Expr} {es : List Expr} {ta : TA} {p pos : Pos} {CX : CXT} {x : Str} {C fI : Addr} {k : Nat} {fd : FuncData} {ps : List Str} {sp : Sp} {ds : List Value} {dvs : List V} (T : OexL X.K C) (iC : PySem.W.findIn X.K (.ref C) "__init__" = some (some (.ref fI))) (tI : PySem.W.typeIn X.K (.ref fI) = some (.type "function"))
    (F1 : FnOk X.prog X.w X.K X.mg X.base CX k fI fd ps sp) (hr : Room (k + 1) X.A) (hb : Binds X.K fd ps ds) (hd : Vals dvs ds) (hx : Passes CX X (fun _ _ _ => False)) (hg : Gl X x) (hm : X.mg x = some (.ref C)) (ha : PA X (e :: es) ta)
    (hdb : (x == ("__debug__" : Str)) = false := by decide) (he : starEach (e :: es) X.env = (false, eval e X.env) :: starEach es X.env := by rfl) (hpl : (backTo pos (starEach es X.env)).any (·.1) = false := by rfl) :
    PMk X (.Call (.Name x p) (e :: es) [] pos) (tMkO C sp dvs ta) := by
  intro pins s σ H Q I h
  obtain ⟨nm, q, N, bs, bm, sn, sub, ab, col, dd, k0, k1, k2, k3, k5, hC, hbm⟩ := T.cls
  refine wpAny_Call_Name_kw (ld_glob I hg hm ?_ hdb)
  refine PySem.W.callWith_K (h₀ := X.base) I.ok.mod.kin T.kC (thn (ha.run pos pins s σ H _ I h) fun us s1 ⟨vs, H1, I1, r1, hz, q1⟩ => ⟨I1.kIn, ?_⟩) he hpl
  show wpAny _ _ (call (.ref C) us) _ _ _
  obtain ⟨hp, g, dr, tk, os⟩ := s1
  let b1 : Addr := hp.objs.size + 1
  have hsz : hp.objs.size ≤ b1 := Nat.le_succ _
  let G : Heap := (hp.push (PySem.W.kdv_tup us)).push (PySem.HandSPX.excO C hp.objs.size)
  have hq := q1 b1 (I1.hok.fresh hsz)
  have kk : ∀ b o, hp.get? b = some o → G.get? b = some o := fun b o e => Heap.get?_push_of_some _ (Heap.get?_push_of_some _ e)
  have hget : G.get? b1 = some (PySem.HandSPX.excO C hp.objs.size) := by
    show ((hp.push (PySem.W.kdv_tup us)).push (PySem.HandSPX.excO C hp.objs.size)).get? (hp.objs.size + 1) = _
    heap_get
  have I2 : Inv X pins σ (upd H1 b1 (exo b1 C none)) ⟨G, g, dr, tk, os⟩ := I1.laid (t' := tk) (a := b1) (o := exo b1 C none) (h' := G) kk hsz (exo_ok hget)
  have r2 : Vals (V.ref b1 :: (vs ++ dvs)) (Value.ref b1 :: (us ++ ds)) := .cons rfl (r1.append hd)
  have hl : (Value.ref b1 :: us ++ ds).length = ps.length := by
    have e := r2.length
    rw [F1.len _ _ _ _ hq] at e
    exact e.symm
  have hus : us.length ≤ sizeLine := by
    rw [← Paired.length r1, sizeLine_eq]
    omega
  refine wpAny_call (PySem.HandSPX.call_own F.excBase_LookupError (fun Y => (leB_M hbm).contains Y) (I1.kIn _ _ hC) (PySem.W.looks_findIn I1.kIn iC) (fun self => PySem.W.bind_fn I1.kIn self tI) hus
    (codeAny_mono (F1.run _ X.stack _ _ ⟨Value.ref b1 :: us, []⟩ (Value.ref b1 :: (us ++ ds)) _ _ (fun _ _ _ => False) (hr.make C us []) (I2.env0.make C us []) (hb _ (Value.ref b1 :: us) I2.kIn hl) r2 hq) fun r s' z => ?_))
  cases r with
  | error er => exact hx pins σ _ _ er s' I2 z
  | ok fl =>
    cases fl with
    | ret u =>
      obtain ⟨v, H2, os2, bare2, un2, hok2, rv, ev, d, fs, ea, ed, hd1, q2⟩ := z
      subst ev
      obtain ⟨h2, g2, d2, t2, os'⟩ := s'
      exact ⟨rv, mk_end (raises_own T.exC T.tyC) I1 hsz kk un2 hok2 os2 bare2 ea ed hd1 q2⟩
    | next => exact False.elim z
    | brk => exact False.elim z
    | cont => exact False.elim z
namespace DL
theorem init_okL {P : Program} {w : World} {K : PySem.W.Frag} {mg : Str → Option Value} {base : Heap} {qual : Str} {st : Stmt} {fI C : Addr} {fd : FuncData} {an : Str} {p1 p2 p3 p4 : Pos} (D : Fun K "__init__" qual st fI fd) (S : FnScope ["self", an] ["self", an] (defScope st)) (T : OexL K C) (hno : PySem.W.findIn K (.ref C) an = some none)
    (hbd : defBody st = [.Assign [.Attribute (.Name "self" p1) an p2] (.Name an p3) p4]) (hv1 : Vis (defScope st) "self") (hv2 : Vis (defScope st) an) (hd : (an == ("__debug__" : Str)) = false) (hcd : (an == ("__classdict__" : Str)) = false) :
    FnOk P w K mg base CX0 1 fI fd ["self", an] (spI C an) := by
  refine D.ok S (fun vs H Q E h => by obtain ⟨a, y, rfl, _⟩ := h; rfl) fun cdv A outer s H vs Q E hr h => ?_
  obtain ⟨a, y, rfl, ha, q⟩ := h
  rw [hbd]
  refine ⟨_, pss_one (ps_lst (pe_var (i := 0) rfl hv1) (pe_var (i := 1) rfl hv2 hd hcd)), ?_⟩
  exact ⟨y, rfl, .ref a, rfl, a, C, rfl, T, hno, ha, fun dx h1 h2 => q dx h1 h2⟩
variable [Lab]
omit [Lab] in
theorem oel_mk {K : PySem.W.Frag} {C : Addr} {nm q N bs bm sn sub ab col dd k0 k1 k2 k3 k5} (l : K.lookup C = some (excClassObj nm q C N bs bm true sn sub ab col dd k0 k1 k2 k3 k5 "LookupError.__new__")) (r : leB bm = true)
    (sa : PySem.W.findIn K (.ref C) "__setattr__" = some (some (.builtin "object.__setattr__"))) (ex : PySem.W.subIn K (.ref C) (.type "BaseException") = some true) (ty : PySem.W.typeIn K (.ref C) = some (.type "type")) (k : PySem.W.keepIn K (.ref C) = true) : OexL K C :=
  ⟨⟨nm, q, N, bs, bm, sn, sub, ab, col, dd, k0, k1, k2, k3, k5, l, r⟩, sa, ex, ty, k⟩
end DL
end L2


set_option Elab.async false
set_option maxRecDepth 100000
set_option maxHeartbeats 4000000
set_option autoImplicit false
namespace L2
namespace DL
open PySem PySem.Spec PyProof.Rows PySem.Calls
variable [Lab]
/-! ### len(set(t)), t a tuple of ints -/
section
variable {X : Cx} {F : Fm} {e : Expr} {f : DEnv → Option (PyData × DEnv)}
end
end DL
end L2


set_option Elab.async false
set_option maxRecDepth 100000
set_option maxHeartbeats 4000000
set_option autoImplicit false
namespace L2
namespace DL
open PySem PySem.Spec PyProof.Rows
/-! ### exceptions are kept -/
theorem exo_okD {P : Program} {w : World} {H : Hp} {h : Heap} {a : Addr} {cls : Value} {d : Option Addr} {oe : Obj} {vs : Array Value} (e : h.get? a = some oe) (z : Zc cls d oe) (hd : oe.data = .fields vs) : ObjOk P w H h a (ExO a cls d) :=
  ⟨⟨oe, vs, e, z.1, z.2, hd⟩, ⟨oe, e⟩, fun _ _ ⟨o, v, q, r⟩ k => ⟨o, v, k o q, r⟩⟩
section
variable {X : Cx} {pins : List (Addr × Obj)} {σ : St} {H : Hp} {s : Shared}
end
section
variable {X : Cx} {t : Expr} {n : Str} {cl : List Value} {i : Nat} {body suite : List Stmt} {b₀ : Stmt} {pos pos' : Pos} {tb : WX → TS} {ts : Addr → Value → Option Addr → TS} {Wout : WX}
end
end DL
end L2


set_option Elab.async false
set_option maxRecDepth 100000
set_option maxHeartbeats 4000000
set_option autoImplicit false
namespace L2
namespace DL
open PySem PySem.Spec PyProof.Rows
variable [Lab]
/-- the classes whose exceptions a clause may keep, each with its attribute -/
structure ExKp (K : PySem.W.Frag) (mt : Str → Option Bool) (at' : Str → Str) : Prop where
  k : ∀ c, mt c = some true → KEx K (LabW.C c)
  n : ∀ c, mt c = some true → PySem.W.findIn K (.ref (LabW.C c)) (at' c) = some none
/-! ### isinstance(e, C), C a class of exceptions -/
def fIsC (m : Str → Option Bool) (f : DEnv → Option (PyData × DEnv)) (env : DEnv) : Option (PyData × DEnv) := (f env).bind fun x => match x.1 with
  | .dict [(.dict [], .tuple [.str c, .str _, _])] => (m c).map fun b => (.bool b, x.2)
  | .dict [(.dict [], .tuple [.str c])] => (m c).map fun b => (.bool b, x.2)
  | _ => none
section
variable {X : Cx} {F : Fm} {e : Expr} {f : DEnv → Option (PyData × DEnv)} {p pn pos : Pos}
theorem ddi_dict {K : PySem.W.Frag} {H : Hp} {xs : List (Key × V)} {kvs : List (PyData × PyData)} {x y : PyData} {r : List (PyData × PyData)} (h : DDi K H xs kvs) (e : kvs = (.dict [], y) :: r) : False := by
  cases h with
  | nil => cases e
  | @cons k v xs vd kvs h1 h2 => cases k <;> cases e
theorem ddk_dict {K : PySem.W.Frag} {H : Hp} {xs : List NEnt} {kvs : List (PyData × PyData)} {y : PyData} {r : List (PyData × PyData)} (h : DDk K H xs kvs) (e : kvs = (.dict [], y) :: r) : False := by
  cases h with
  | nil => cases e
  | @cons k a v xs kd vd kvs h0 h1 h2 h3 =>
    cases e
    cases k <;> cases h0
theorem dd_ex1 {K : PySem.W.Frag} {H : Hp} {x : V} {c an : Str} {d : PyData} (h : DD K H x (excD c an d)) : ∃ a dx v, x = .ref a ∧ H a = some (ExO a (.ref (LabW.C c)) (some dx)) ∧ H dx = some (.xd [(an, v)]) ∧ KEx K (LabW.C c) ∧ PySem.W.findIn K (.ref (LabW.C c)) an = some none ∧ DD K H v d := by
  cases h with
  | dct _ hi => exact (ddi_dict (x := .none) hi rfl).elim
  | dcn _ _ hi => exact (ddk_dict hi rfl).elim
  | exc e1 e2 k n hd => exact ⟨_, _, _, rfl, e1, e2, k, n, hd⟩
theorem dd_ex0 {K : PySem.W.Frag} {H : Hp} {x : V} {c : Str} (h : DD K H x (exnD c)) : ∃ a, x = .ref a ∧ H a = some (ExO a (.ref (LabW.C c)) none) ∧ KEx K (LabW.C c) := by
  cases h with
  | dct _ hi => exact (ddi_dict (x := .none) hi rfl).elim
  | dcn _ _ hi => exact (ddk_dict hi rfl).elim
  | exn e1 k => exact ⟨_, rfl, e1, k⟩
theorem pd_isC {tn : Str} {m : Str → Option Bool} {cx : V} {cv : Value} (hcl : ClsV cx cv) (hm' : ∀ c b, m c = some b → PySem.W.kitOne X.K (.ref (LabW.C c)) cv = some b) (hn : PE X (.Name tn pn) (tC cx)) (hm : X.mg "isinstance" = none) (ha : PD X F e f) (hg : Gl X "isinstance" := by rfl)
    (he : starEach [e, .Name tn pn] X.env = (false, eval e X.env) :: starEach [.Name tn pn] X.env := by rfl) (he2 : starEach [.Name tn pn] X.env = (false, eval (.Name tn pn) X.env) :: starEach [] X.env := by rfl) (hpl : (backTo pos (starEach [.Name tn pn] X.env)).any (·.1) = false := by rfl) :
    PD X F (.Call (.Name "isinstance" p) [e, .Name tn pn] [] pos) (fIsC m f) :=
  pe_imp (pe_callB call_isiY hg hm (by decide +kernel) (pa_cons ha (pa_cons hn pa_nil he2) he) (by decide) (by decide) he hpl) fun σ H Q h => by
    obtain ⟨Z, env, d, env', r, e, q⟩ := h
    obtain ⟨⟨i, e1⟩, h1, e⟩ := bnd e
    refine ⟨Z, env, i, e1, r, h1, fun v Z1 H1 r1 s1 d1 => ?_⟩
    dsimp only at e
    split at e
    · rename_i c an d0
      obtain ⟨b, h2, e⟩ := mpd e
      cases e
      obtain ⟨a, dx, w, rfl, e1, e2, k, _, _⟩ := dd_ex1 (DDm d1 r1.zh)
      exact ⟨_, cx, _, cv, b, rfl, hcl, .inr (.inr ⟨a, _, rfl, rfl, k, .inr ⟨dx, _, e1, e2⟩⟩), hm' c b h2, q _ Z1 H1 r1 s1 (.bl _)⟩
    · rename_i c
      obtain ⟨b, h2, e⟩ := mpd e
      cases e
      obtain ⟨a, rfl, e1, k⟩ := dd_ex0 (DDm d1 r1.zh)
      exact ⟨_, cx, _, cv, b, rfl, hcl, .inr (.inr ⟨a, _, rfl, rfl, k, .inl e1⟩), hm' c b h2, q _ Z1 H1 r1 s1 (.bl _)⟩
    · cases e
/-! ### e.f -/
def fExA (n : Str) (f : DEnv → Option (PyData × DEnv)) (env : DEnv) : Option (PyData × DEnv) := (f env).bind fun x => match x.1 with
  | .dict [(.dict [], .tuple [.str _, .str an, d])] => if an = n then some (d, x.2) else none
  | _ => none
theorem pd_exA {n : Str} (ha : PD X F e f) (hb : attributeBase e n X.env (eval e X.env) = eval e X.env := by rfl) : PD X F (.Attribute e n pos) (fExA n f) := by
  refine ⟨fun pins s σ H Q I h => ?_⟩
  obtain ⟨Z, env, d, env', r, e, q⟩ := h
  obtain ⟨⟨i, e1⟩, h1, e⟩ := bnd e
  dsimp only at e
  split at e
  case h_2 => cases e
  rename_i c an d0
  split at e
  case isFalse => cases e
  rename_i han
  cases e
  subst han
  refine attr_of hb (thn (ha.run pins s σ H (fun v H1 => ∃ Z1, Rel X.K F Z1 H1 σ env' ∧ Stp σ env Z H env' Z1 H1 ∧ DD X.K Z1 v (excD c an d)) I ⟨Z, env, _, env', r, h1, fun v Z1 H1 r1 s1 d1 => ⟨Z1, r1, s1, d1⟩⟩) fun u s1 hh => ?_)
  obtain ⟨x, H1, I1, rx, Z1, r1, st, d1⟩ := hh
  obtain ⟨a, dx, w, rfl, e1', e2, k, hn, dw⟩ := dd_ex1 d1
  obtain rfl : u = Value.ref a := rx
  have f1 := r1.zh.h _ _ e1' nt_exo
  have f2 := r1.zh.h _ _ e2 nt_xd
  obtain ⟨⟨oe, vs, g1, g2, g3, g4⟩, _, _⟩ := (show ObjOk X.prog X.w H1 s1.heap a (ExO a (.ref (LabW.C c)) (some dx)) from I1.hok a _ f1)
  obtain ⟨mA, hns, hr⟩ := (show ObjOk X.prog X.w H1 s1.heap dx (.xd [(an, w)]) from I1.hok dx _ f2)
  obtain ⟨od, ho, hl⟩ := lookIn_ns hns
  obtain ⟨u, hu, ru⟩ := RelO.some_of (v := w) (o := mA an) (by
    have := hr an
    rw [show ([(an, w)] : List (Str × V)).lookup an = some w by simp [List.lookup]] at this
    exact this)
  have J : PySem.W.InstAt s1.heap a oe (LabW.C c) (some od) := ⟨g1, g2, by unfold PySem.W.notCls; rw [g4] <;> rfl, by rw [g3]; exact ho⟩
  exact HandSPX.exc_get I1.kIn J k.hga k.hgt k.hsub (PySem.W.findObj_own k.hdct hn rfl (by rw [hl, hu])) (handed_of ru) ⟨w, H1, I1.tok _, ru, q w Z1 H1 r1 st dw⟩
end
/-! ### xs.count(e) -/
def rCountD (K : PySem.W.Frag) : V → List V → Hp → VK → Prop := fun x xs H Q => ∃ (a : Addr) (y : V) (d : PyData) (ds : List PyData), x = V.ref a ∧ xs = [y] ∧ Dp K H (V.ref a) (.list ds) ∧ Dp K H y d ∧
  SeqAt.shaped (.list ds) = true ∧ SeqAt.shaped d = true ∧ Q (.int (ds.countP fun z => PyData.eqv z d : Nat)) H
omit [Lab] in
theorem mt_countD {X : Cx} (hu : X.A.units + 65 < cLine) : MtR X "list.count" (rCountD X.K) := by
  intro pins s σ H x xs v us Q I rx rxs h
  obtain ⟨a, y, d, ds, rfl, rfl, hl, hy, sl, sd, q⟩ := h
  cases rx
  cases rxs with
  | cons ry rt =>
    rename_i uy ut
    cases rt
    obtain ⟨bs, r1⟩ := Dp.reads I d y uy hy ry
    have hxs : PyData.canLayAll0 ds = true := SeqAt.canLay_of_shaped sl
    have hroom : X.A.units + 1 + min (PyData.depthAll ds) d.depth < cLine := room_in_shaped sd hu
    cases hl with
    | lst hs ha =>
      obtain ⟨its, rv, ⟨⟨cls, dd, data, sls⟩, n, ho, hc, hdn, hdt⟩, hlen⟩ := I.list hs
      simp only at hc hdt
      subst hc hdt
      obtain ⟨as, h4⟩ := Dp.readsAll I ds _ its ha rv
      have hmap : its.map (SeqAt.readOf s.heap) = ds := SeqAt.readsAll_map ds its as hxs h4
      refine call_meets PySem.F.slot_list_count ⟨_, ho, rfl⟩ PySem.F.entry_list_count (PySem.F.args_list_count_2 _ _)
        (SeqAt.list_countAt a its.toArray n dd sls uy (fun u => PyData.eqv (SeqAt.readOf s.heap u) d)) ⟨ho, SeqAt.items_eqAt (vs := its.toArray) (show ReadsAll s.heap its.toArray.toList ds as from h4) r1 hxs (SeqAt.canLay_of_shaped sd) hroom, ?_⟩
      have e : (its.toArray.toList.countP fun u => PyData.eqv (SeqAt.readOf s.heap u) d) = ds.countP fun z => PyData.eqv z d := by
        rw [← hmap, List.countP_map]
        rfl
      rw [e]
      exact ⟨.int _, H, I.tok _, ⟨_, rfl⟩, q⟩
def fCntD (j : Nat) (f : DEnv → Option (PyData × DEnv)) (env : DEnv) : Option (PyData × DEnv) :=
  (rdO j env).bind fun _ => (f env).bind fun x => (rdO j x.2).bind fun es => if shD (.list es) && shD x.1 then some (.int (es.countP fun z => PyData.eqv z x.1 : Nat), x.2) else none
section
variable {X : Cx} {F : Fm} {e : Expr} {f : DEnv → Option (PyData × DEnv)} {p pn pos : Pos} {y : Str}
theorem pd_cntD {k : Nat} (hr : Room k X.A) (j : Nat) (ha : PD X F e f) (hN : X.N[j]? = some y := by rfl) (hv : Vis X.env.scope y := by first | exact Or.inl rfl | exact Or.inr (Or.inl rfl) | exact Or.inr (Or.inr rfl)) (hd : (y == ("__debug__" : Str)) = false := by decide)
    (hcd : (y == ("__classdict__" : Str)) = false := by decide)
    (hfew : ((backTo pos (starEach [e] X.env)).all (fun x => !x.1) && (backToKw pos (keywordEach [] X.env)).all (fun x => x.1.isSome)
      && decide ([e].length + ([] : List Keyword).length + (if ([] : List Keyword).isEmpty then 0 else 1) < 30)) = true := by rfl)
    (hline : (p.endLine == pos.line) = true := by rfl) (hs : starEach [e] X.env = (false, eval e X.env) :: starEach [] X.env := by rfl) (hplain : (backTo pos (starEach [] X.env)).any (·.1) = false := by rfl) :
    PD X F (.Call (.Attribute (.Name y pn) "count" p) [e] [] pos) (fCntD j f) :=
  pe_imp (pe_bm PySem.F.plainAttrs_list PySem.F.slot_list_count PySem.F.type_list_count (mt_countD (by have := hr.un; omega)) (pe_var hN hv hd hcd) (pa_cons ha pa_nil hs) rfl hfew hline hs hplain) fun σ H Q h => by
  obtain ⟨Z, env, d, env', r, e, q⟩ := h
  obtain ⟨z0, h0, e⟩ := bnd e
  obtain ⟨⟨x, e1⟩, h1, h⟩ := bnd e
  obtain ⟨zs, h2, hh⟩ := bnd h
  clear h
  dsimp only at hh
  split at hh
  case isFalse => cases hh
  rename_i hsh
  obtain ⟨rfl, rfl⟩ := Prod.mk.inj (Option.some.inj hh)
  rw [Bool.and_eq_true] at hsh
  obtain ⟨p, xs, sj, _, hp0, _, _⟩ := r.poke h0
  refine ⟨.ref p, sj, own_ty hp0, Z, env, x, e1, r, h1, fun v Z1 H1 r1 s1 d1 => ?_⟩
  obtain ⟨p', xs', sj', zp, hp, dp, fin⟩ := r1.poke h2
  rw [sj] at sj'
  cases sj'
  have dl : DD X.K H1 (.ref p) (.list zs) := .lst (.inl (Rd.of hp)) (DDsm dp r1.zh)
  unfold shD at hsh
  simp only [Bool.and_eq_true, Bool.not_eq_true'] at hsh
  exact ⟨p, v, x, zs, rfl, rfl, dl.dp _ _ hsh.1.2, (DDm d1 r1.zh).dp _ _ hsh.2.2, hsh.1.1, hsh.2.1, q _ Z1 H1 r1 s1 (.int _)⟩
end
end DL
end L2


set_option Elab.async false
set_option maxRecDepth 100000
set_option maxHeartbeats 4000000
set_option autoImplicit false
namespace L2
namespace DL
open PySem PySem.Spec PyProof.Rows PySem.Calls
variable [Lab]
/-! ### a lambda handed to a def that catches what it raises -/
section
variable {X : Cx} {pins : List (Addr × Obj)} {σ : St} {H : Hp} {s : Shared}
end
abbrev RestOk (P : Program) (w : World) (K : PySem.W.Frag) (mg : Str → Option Value) (base : Heap) (N : List Str) (qual : Str) (st : Stmt) (f : Addr) (cv : Value) (k : Nat) (rest : List Stmt) (g : DEnv → Option DFlow) : Prop :=
  ∀ (cdv : Value) (A : Around) (outer : List Env) (s : Shared) (H : Hp) (E : XK) (F : Fm), cdv = cv → F.W = W0 → GdOk (A.deeper (envOfC qual (defScope st) s.heap.objs.size f cdv)) → Room k (A.deeper (envOfC qual (defScope st) s.heap.objs.size f cdv)) →
    PDSs (cxOf CX0 P w K mg base N qual (defScope st) f cdv A outer s H E).nox F rest g
section
variable {X : Cx} {F : Fm} {mt : Str → Option Bool} {at' : Str → Str} {cl : List Value} {x a y n : Str} {g c P : Addr} {k i j nS : Nat} {stg : Stmt} {fdg : FuncData} {Ng : List Str} {t : Expr} {rest : List Stmt} {gr : DEnv → Option DFlow} {fX : DEnv → Option DX}
  {params : Arguments} {body : Expr} {scope : Scope} {p lpos pos p1 p2 p3 p4 p5 p6 p7 p8 p9 p10 p11 : Pos} {j0 : Nat}
end
/-! ### checks of classes -/
section
omit [Lab]
def kexB (K : PySem.W.Frag) (C : Addr) : Bool :=
  (PySem.W.clsIn K C).isSome && (decide (PySem.W.findIn K (.ref C) "__getattribute__" = some (some (.builtin "BaseException.__getattribute__"))) && (decide (PySem.W.findIn K (.ref C) "__getattr__" = some none) && (decide (PySem.W.subIn K (.ref C) (.type "BaseException") = some true) && (PySem.W.hasDictIn K C &&
  (decide (PySem.W.findIn K (.ref C) "__class__" = some (some (.builtin "object.__class__"))) && (decide (PySem.W.specialIn K (.builtin "object.__class__") "__get__" = some (some (.builtin "getset_descriptor.__get__"))) && (decide (PySem.W.takesIn K (.builtin "object.__class__") = some true) && (decide (PySem.W.mroIn K C (.type "object") = some true) &&
  fiveT.all fun T => decide (PySem.W.kitOne K (.ref C) (.type T) = some false)))))))))
theorem kexB_ok {K : PySem.W.Frag} {C : Addr} (h : kexB K C = true) : KEx K C := by
  unfold kexB at h
  simp only [Bool.and_eq_true, decide_eq_true_eq, List.all_eq_true] at h
  obtain ⟨h1, h2, h3, h4, h5, h6, h7, h8, h9, h10⟩ := h
  exact ⟨h1, h2, h3, h4, h5, h6, h7, h8, h9, h10⟩
def kitTab (K : PySem.W.Frag) (l : List (Addr × Value × Bool)) : Bool := l.all fun x => decide (PySem.W.kitOne K (.ref x.1) x.2.1 = some x.2.2)
end
theorem RestOk.mono {P : Program} {w : World} {K : PySem.W.Frag} {mg : Str → Option Value} {base : Heap} {N : List Str} {qual : Str} {st : Stmt} {f : Addr} {cv : Value} {k k' : Nat} {rest : List Stmt} {g : DEnv → Option DFlow} (h : RestOk P w K mg base N qual st f cv k rest g) (hk : k ≤ k') : RestOk P w K mg base N qual st f cv k' rest g :=
  fun cdv A outer s H E F hcv hW hgd hr => h cdv A outer s H E F hcv hW hgd (hr.mono hk)
/-! ### f(a=.., b=..), f may raise -/
section
variable {X : Cx} {F : Fm} {W : WX} {C : Str → Addr} {k n : Nat} {f : Addr} {fd : FuncData} {ps ks : List Str} {sp : Sp} {x : Str} {p pos : Pos} {tk' : TA} {kws : List Keyword} {fk : DEnv → Option (List PyData × DEnv)} {gU : List Value → List Value} {gW : List V → List V}
end
end DL
end L2


set_option Elab.async false
set_option maxRecDepth 100000
set_option maxHeartbeats 4000000
set_option autoImplicit false
namespace L2
namespace DL
open PySem PySem.Spec PyProof.Rows
variable [Lab]
section
variable {X : Cx} {F : Fm} {a e : Expr} {fa f : DEnv → Option (PyData × DEnv)} {p pos : Pos}
end
end DL
end L2


set_option Elab.async false
set_option maxRecDepth 100000
set_option maxHeartbeats 4000000
set_option autoImplicit false
namespace PySem
namespace HandSPX
open PySem.W PySem.Calls PyProof.Rows
section
variable {M : Model} {prog : Program} {w : World} {A : Around} {E : Value → Shared → Prop} {R : Result → Shared → Prop} {h : Heap} {g : Array GenState} {d : Drawn} {t : Nat} {os : OsState}
variable {nm q : Str} {C N : Addr} {bs bm bmB : List Value} {hdct : Bool} {sn : List Str} {sub : List Value} {ab : Bool} {col : Option Bool} {dd : Option Addr} {k0 k1 k2 k3 k5 : Option Value} {B newId initId : String}
theorem check_new_ownK (F : ExcBaseFacts B newId initId bmB) (hT : ∀ X : String, bm.contains (.type X) = bmB.contains (.type X)) {rest : List Value} {kw : List (Str × Value)} {Q : Unit → Shared → Prop}
    (hC : h.get? C = some (excClassObj nm q C N bs bm hdct sn sub ab col dd k0 k1 k2 k3 k5 newId)) (hq : Q () ⟨h, g, d, t, os⟩) : wpAny M A (checkBuiltinCall newId ⟨.ref C :: rest, kw⟩) Q E ⟨h, g, d, t, os⟩ := by
  have hcont : (Value.ref C :: bm).contains (.type B) = true := by rw [List.contains_cons, hT, F.hasB, Bool.or_true]
  have hstar := F.noStar
  simp only [checkBuiltinCall, F.newKind, F.newSplit, F.newRow]
  repeat (first | refine wpAny_loadPart_at hC ?_ | (refine wpAny_isSubtype_exc hC ?_; rw [hcont]) | refine wpAny_staticBase_exc hC ?_ | refine wpAny_madeBy_exc hC ?_ | simp only [bne_self_eq_false, Bool.false_eq_true, if_false] | wp_step)
  exact hq
theorem new_ownK (F : ExcBaseFacts B newId initId bmB) (hT : ∀ X : String, bm.contains (.type X) = bmB.contains (.type X)) {rest : List Value} {kw : List (Str × Value)}
    (hC : h.get? C = some (excClassObj nm q C N bs bm hdct sn sub ab col dd k0 k1 k2 k3 k5 newId))
    (hq : R (.ok (.ret (.ref (h.objs.size + 1)))) ⟨(h.push { cls := .type "tuple", data := .seq rest.toArray }).push
      { cls := .ref C, data := .fields #[.ref h.objs.size, .none, .none, .none, .bool false, .none] }, g, d, t, os⟩) (hrest : rest.length ≤ sizeLine) :
    codeAny (model prog w) A (.builtin newId ⟨.ref C :: rest, kw⟩) R ⟨h, g, d, t, os⟩ := by
  have hends := F.ends
  have hcB : (Value.ref C :: bm).contains (.type B) = true := by rw [List.contains_cons, hT, F.hasB, Bool.or_true]
  have hcA : (Value.ref C :: bm).contains (.type "AttributeError") = false := by rw [List.contains_cons, hT, F.noAttr]; rfl
  have hcN : (Value.ref C :: bm).contains (.type "NameError") = false := by rw [List.contains_cons, hT, F.noName]; rfl
  refine codeAny_builtinAt F.entry ?_
  unfold Builtin.«BaseException.__new__»
  refine wpAt_bind ?_
  show wpAt _ _ _ (stack >>= _) _ _ _
  refine wpAt_bind (wpAt_stack fun p below => wpAt_of_wpAny ?_)
  wp_walk
  refine wpAt_of_wpAny ?_
  rw [F.owner]
  repeat (first | with_reducible refine wpAny_madeHere_exc F.canon hC ?_ | with_reducible refine wpAny_loadPart_at hC ?_ | (with_reducible refine wpAny_isSubtype_exc hC ?_; first | rw [hcB] | rw [hcA] | rw [hcN]) | wp_step)
  show R _ _
  rw [Heap.size_push]
  exact hq
theorem type_call_ownK (F : ExcBaseFacts B newId initId bmB) (hT : ∀ X : String, bm.contains (.type X) = bmB.contains (.type X)) {rest : List Value} {kw : List (Str × Value)} {fI : Addr} {Q : Fin → Shared → Prop}
    (hC : h.get? C = some (excClassObj nm q C N bs bm hdct sn sub ab col dd k0 k1 k2 k3 k5 newId))
    (hi : W.Looks (model prog w) h (typeLookup (.ref C) "__init__") (some (.ref fI))) (hb : ∀ self, W.Looks (model prog w) h (bindSpecial (.ref fI) self) (.ref fI, [self])) (hrest : rest.length ≤ sizeLine)
    (hq : codeAny (model prog w) A (.call (.ref fI) ⟨.ref (h.objs.size + 1) :: rest, kw⟩)
      (fun r s' => match r with | .ok (.ret v) => v = .none ∧ Q (.done (.ret (.ref (h.objs.size + 1)))) s' | .ok _ => False | .error e => E e s')
      ⟨(h.push (W.kdv_tup rest)).push (excO C h.objs.size), g, d, t, os⟩) :
    wpAny (model prog w) A (Builtin.«type.__call__» ⟨.ref C :: rest, kw⟩) Q E ⟨h, g, d, t, os⟩ := by
  repeat (first | with_reducible refine wpAny_loadPart_at hC ?_ | with_reducible refine wpAny_madeBy_exc hC ?_ | wp_step)
  refine codeAny_call_builtin_code (Code.quiet_builtin _ F.quiet) (check_new_ownK F hT hC ?_)
  refine new_ownK F hT hC ?_ hrest
  show wpAny _ _ _ _ _ _
  have k : ∀ b o, h.get? b = some o → ((h.push (W.kdv_tup rest)).push (excO C h.objs.size)).get? b = some o := fun b o e => Heap.get?_push_of_some _ (Heap.get?_push_of_some _ e)
  have hC₁ := k _ _ hC
  have hget : ((h.push (W.kdv_tup rest)).push (excO C h.objs.size)).get? (h.objs.size + 1) = some (excO C h.objs.size) := by heap_get
  have hcC : (Value.ref C :: bm).contains (.ref C) = true := by simp
  have i1 := hi.keeps k
  have b1 := (hb (.ref (h.objs.size + 1))).keeps k
  unfold isInstance
  repeat (first | with_reducible refine wpAny_loadPart_at hget ?_ | (with_reducible refine wpAny_isSubtype_exc hC₁ ?_; rw [hcC]) | wp_step)
  show wpAny _ _ (typeLookup (.ref C) _) _ _ _
  refine i1.at ?_
  refine wpAny_holding (wpAny_bind (b1.at ?_))
  refine wpAny_bind (wpAny_call (codeAny_mono hq fun r s' z => ?_))
  rcases r with e | (v | _ | _ | _) <;> first | exact z | exact z.elim | skip
  obtain ⟨rfl, z⟩ := z
  first
    | exact wpAny_pure (wpAny_pure z)
    | (wp_walk; exact z)
theorem call_ownK (F : ExcBaseFacts B newId initId bmB) (hT : ∀ X : String, bm.contains (.type X) = bmB.contains (.type X)) {rest : List Value} {kw : List (Str × Value)} {fI : Addr}
    (hC : h.get? C = some (excClassObj nm q C N bs bm hdct sn sub ab col dd k0 k1 k2 k3 k5 newId))
    (hi : W.Looks (model prog w) h (typeLookup (.ref C) "__init__") (some (.ref fI))) (hb : ∀ self, W.Looks (model prog w) h (bindSpecial (.ref fI) self) (.ref fI, [self])) (hrest : rest.length ≤ sizeLine)
    (hq : codeAny (model prog w) (A.under (.builtin "type.__call__" ⟨.ref C :: rest, kw⟩)) (.call (.ref fI) ⟨.ref (h.objs.size + 1) :: rest, kw⟩) (W.InitBack (h.objs.size + 1) R)
      ⟨(h.push (W.kdv_tup rest)).push (excO C h.objs.size), g, d, t, os⟩) :
    codeAny (model prog w) A (.call (.ref C) ⟨rest, kw⟩) R ⟨h, g, d, t, os⟩ := by
  have f1 := tc_lookup
  have f2 := tc_bind (.ref C)
  have hTy : (⟨h, g, d, t, os⟩ : Shared).TypeIs (.ref C) "type" := ⟨_, hC, rfl⟩
  refine codeAny_of_tree ?_
  show wpAny _ _ (callAny (.ref C) _) _ _ _
  repeat (any_goals (first | assumption | with_reducible refine wpAny_loadPart_at hC ?_ | wp_step))
  refine ⟨rfl, ?_⟩
  refine codeAny_call_builtin_at (Code.quiet_builtin _ (by decide +kernel)) entry_typeCall (wpAny_check_type_call_sub hC (type_call_ownK F hT hC hi hb hrest ?_))
  refine codeAny_mono hq fun r s' z => ?_
  rcases r with e | (v | _ | _ | _) <;> exact z
end
end HandSPX
end PySem


/-! own exceptions over ArithmeticError, each with its one attribute -/
set_option maxRecDepth 4000
namespace PySem
namespace OEA
open PySem.W PySem.Calls PyProof.Rows PySem.HandSPX
abbrev leTail : List Value := [.type "ArithmeticError", .type "Exception", .type "BaseException", .type "object"]
def isRf : Value → Bool
  | .ref _ => true
  | _ => false
theorem isRf_ref {v : Value} (h : isRf v = true) : ∃ c, v = .ref c := by
  cases v <;> first | exact ⟨_, rfl⟩ | cases h
/-- own classes, then the mro of ArithmeticError -/
def leB : List Value → Bool
  | [] => false
  | a :: r => (isRf a && leB r) || (a :: r == leTail)
inductive LeM : List Value → Prop where
  | tail : LeM leTail
  | ref (c : Addr) {l : List Value} (h : LeM l) : LeM (.ref c :: l)
theorem leB_M : ∀ {l : List Value}, leB l = true → LeM l
  | [], h => by cases h
  | a :: r, h => by
    unfold leB at h
    rcases (Bool.or_eq_true _ _).mp h with z | z
    · obtain ⟨z1, z2⟩ := (Bool.and_eq_true _ _).mp z
      obtain ⟨c, rfl⟩ := isRf_ref z1
      exact .ref c (leB_M z2)
    · rw [beq_iff_eq.mp z]
      exact .tail
theorem LeM.contains (X : String) {l : List Value} (h : LeM l) : l.contains (.type X) = leTail.contains (.type X) := by
  induction h with
  | tail => rfl
  | ref c h ih => rw [List.contains_cons, ih]; rfl
theorem LeM.passes (self : Value) {l : List Value} (h : LeM l) : refuseLoop self "__setattr__" l = pure () := by
  induction h with
  | tail => kernel_rfl
  | ref c h ih => rw [refuseLoop_ref]; exact ih
theorem LeM.some {l : List Value} (h : LeM l) : l.isEmpty = false := by
  cases h <;> rfl
section
open Builtin Builtin.ObjectAttr
variable {prog : Program} {w : World} {A : Around} {E : Value → Shared → Prop} {R : Result → Shared → Prop} {hp : Heap} {g : Array GenState} {d : Drawn} {t : Nat} {os : OsState}
/-- the first attribute of such an exception -/
theorem first_attr {K : W.Frag} {name : Str} {tk : Tok} {v : Value} {x C : Addr} {fv : Array Value} {cd : ClassData}
    (X : K.In hp) (hx : hp.get? x = Option.some { cls := .ref C, data := .fields fv }) (hcd : W.clsIn K C = Option.some cd) (hm : LeM cd.mro) (hh : cd.hasDict = true) (ha : W.findIn K (.ref C) name = Option.some none)
    (hq : ∀ h' tk' dx, (∀ b o, b ≠ x → hp.get? b = Option.some o → h'.get? b = Option.some o) → hp.objs.size ≤ dx → dx ≠ x → h'.get? x = Option.some { cls := .ref C, dict := Option.some dx, data := .fields fv } →
      h'.Ns1 dx (fun y => if y = name then Option.some v else none) → R (.ok (.ret .none)) ⟨h', g, d, tk', os⟩) :
    codeAny (model prog w) A (.call (.builtin "object.__setattr__") ⟨[.ref x, .str name tk, v], []⟩) R ⟨hp, g, d, t, os⟩ := by
  have I : W.InstAt hp x { cls := .ref C, data := .fields fv } C none := ⟨hx, rfl, rfl, trivial⟩
  have S := F.store_object
  have xs : x ≠ hp.objs.size := Nat.ne_of_lt (Heap.lt_size hx)
  have isO : W.mroIn K C (.type "object") = Option.some true := by
    unfold W.mroIn
    rw [hcd, Option.bind_some, if_neg (by rw [hm.some]; decide), hm.contains]
    decide +kernel
  refine codeAny_call_builtin S.slot.plain S.entry (@W.check_slot (model prog w) _ _ ⟨hp, g, d, t, os⟩ "object.__setattr__" "object" "__setattr__" (.ref x) [.str name tk, v] [] _ S.kind S.split (I.type.andThen (W.looks_mroIn X isO)) (S.args (.ref x) (.str name tk) v) ?_)
  have l1 : W.Looks (model prog w) hp (mroOf (.ref C)) cd.mro := (W.looks_clsIn X hcd).andThen .now
  have l2 : W.Looks (model prog w) hp (storeTaker? none) none := .now
  have l3 : W.Looks (model prog w) hp (classData C) cd := W.looks_clsIn X hcd
  rw [W.osa_eq, refuse_eq]
  refine wpAny_bind (wpAny_bind (I.type.at (wpAny_bind (l1.at ?_))))
  rw [hm.passes]
  refine wpAny_pure (wpAny_bind (I.type.at (wpAny_bind ((W.looks_findIn X ha).at (wpAny_bind (l2.at ?_))))))
  show wpAny _ _ (storeInOwnDict (.ref x) (.ref C) (.str name tk) name v false) _ _ _
  obtain ⟨nm, bs, mro, ns, qn, hd, sn, sb, ab, col, del⟩ := cd
  dsimp only at hh
  subst hh
  unfold storeInOwnDict ownDictForStores
  repeat (first | with_reducible refine store_in_new ?_ ?_ | with_reducible refine wpAny_loadPart_at hx ?_ | with_reducible refine l3.at ?_ | wp_step)
  · exact ⟨_, #[], _, (Heap.get?_update_ne _ _ _ _ xs.symm).trans (Heap.get?_push_at rfl rfl), rfl, fun e he => absurd he (by simp), fun _ => rfl⟩
  · intro h' tk' hn' hs
    refine hq h' tk' hp.objs.size (fun b o hb ho => (hs.2 b (Nat.ne_of_lt (Heap.lt_size ho))).trans ((Heap.get?_update_ne _ _ _ _ hb).trans (Heap.get?_push_of_some _ ho))) (Nat.le_refl _) xs.symm ((hs.2 x xs).trans (Heap.get?_update_self _ (Heap.get?_push_of_some _ hx) rfl)) hn'
end
end OEA
end PySem
namespace L2
open PySem PySem.Spec PyProof.Rows PySem.OEA
/-- what is known of an own class over ArithmeticError -/
structure OexA (K : PySem.W.Frag) (C : Addr) : Prop where
  cls : ∃ nm q N bs bm sn sub ab col dd k0 k1 k2 k3 k5, K.lookup C = some (excClassObj nm q C N bs bm true sn sub ab col dd k0 k1 k2 k3 k5 "ArithmeticError.__new__") ∧ leB bm = true
  sa : PySem.W.findIn K (.ref C) "__setattr__" = some (some (.builtin "object.__setattr__"))
  exC : PySem.W.subIn K (.ref C) (.type "BaseException") = some true
  tyC : PySem.W.typeIn K (.ref C) = some (.type "type")
  kC : PySem.W.keepIn K (.ref C) = true
section
variable {X : Cx} {pins : List (Addr × Obj)} {σ : St} {H : Hp} {s : Shared} {a C dx : Addr} {f : Str} {y : V} {u : Value} {Q : Unit → Shared → Prop} {E : Value → Shared → Prop} {A : Around}
theorem ost_ae (T : OexA X.K C) (I : Inv X pins σ H s) (e : H a = some (exo a C none)) (hno : PySem.W.findIn X.K (.ref C) f = some none) (ry : RelV y u)
    (h : ∀ dx s', H dx = none → dx ≠ a → Inv X pins σ (upd (upd H dx (exd dx [(f, y)])) a (exo a C (some dx))) s' → Q () s') : wpAny (model X.prog X.w) A (setAttr (.ref a) f u) Q E s := by
  obtain ⟨nm, q, N, bs, bm, sn, sub, ab, col, dd, k0, k1, k2, k3, k5, hC, hbm⟩ := T.cls
  have hcl : PySem.W.clsIn X.K C = some { name := nm, bases := bs, mro := .ref C :: bm, ns := N, qualname := q, hasDict := true, slotNames := sn, subclasses := sub, abstract := ab, collection := col, hasDel := false } := by unfold PySem.W.clsIn; rw [hC] <;> rfl
  obtain ⟨t1, ho⟩ := exo_at I.hok e
  obtain ⟨hp, g, d, t, os⟩ := s
  refine PySem.W.set_plain I.kIn (ox := { cls := .ref C, dict := none, data := .fields #[.ref t1, .none, .none, .none, .bool false, .none] }) (od := none) ⟨ho, rfl, rfl, trivial⟩ T.sa ?_
  refine first_attr I.kIn ho hcl (show LeM (.ref C :: bm) from .ref C (leB_M hbm)) rfl hno (fun h' tk' dx k dn dne hx hn => ?_)
  have n0 : H dx = none := I.hok.fresh dn
  have da : ∀ {b : Addr}, H b = none → b ≠ a := fun {b} n z => by
    rw [z, e] at n
    cases n
  have dd' : ∀ {b : Addr} {o : Obj}, hp.get? b = some o → b ≠ dx := fun {b o} q => Nat.ne_of_lt (Nat.lt_of_lt_of_le (Heap.lt_size q) dn)
  have U : Un X.fs [] H (upd (upd H dx (exd dx [(f, y)])) a (exo a C (some dx))) hp h' := {
    keep := fun b o q n _ _ => k b o (da n) q
    slot := fun b o q n _ _ => ⟨o.slots, k b o (da n) q⟩
    free := fun b o q n _ => by rw [upd_ne (da n), upd_ne (dd' q)]; exact n
    there := fun b o q _ => by
      by_cases z : b = a
      · rw [z]; exact ⟨_, hx⟩
      · exact ⟨o, k b o z q⟩
    tups := fun b xs q => by rw [upd_ne (at_ne e q exo_tup), upd_ne (ne_of_none q n0)]; exact q
    frzs := fun b o v q => by rw [upd_ne (at_ne e q exo_frz), upd_ne (ne_of_none q n0)]; exact q
    tbls := fun b ps q => ⟨#[], by rw [upd_ne (at_ne e q exo_tbl), upd_ne (ne_of_none q n0), q]; simp⟩ }
  refine h dx _ n0 dne (I.un (t' := tk') U fun b o q => ?_)
  by_cases z : b = a
  · subst z
    rw [upd_same] at q
    cases q
    exact exo_ok hx
  · rw [upd_ne z] at q
    by_cases z2 : b = dx
    · subst z2
      rw [upd_same] at q
      cases q
      exact exd_ok hn (relO_put (fs := []) ry fun g => True.intro)
    · rw [upd_ne z2] at q
      refine (I.hok b o q).stay (fun c v hc w => k c v (hc.elim (fun hc => hc ▸ z) fun hc => at_ne e hc exo_own) w) (fun c hc => ?_) fun c xs hc => ?_
      · rw [upd_ne (at_ne e hc exo_own), upd_ne (ne_of_none hc n0)]; exact hc
      · rw [upd_ne (at_ne e hc exo_tup), upd_ne (ne_of_none hc n0)]; exact hc
end
/-- self.f = e, the first one -/
def tAe1 (K : PySem.W.Frag) (f : Str) (to te : TE) : TS := fun D σ H => te σ H fun y H1 => to σ H1 fun x H2 => ∃ a C : Addr, x = .ref a ∧ OexA K C ∧ PySem.W.findIn K (.ref C) f = some none ∧ H2 a = some (exo a C none) ∧ ∀ dx, H2 dx = none → dx ≠ a → D.nx σ (upd (upd H2 dx (exd dx [(f, y)])) a (exo a C (some dx)))
theorem ps_ast {X : Cx} {o e : Expr} {to te : TE} {f : Str} {p' pos : Pos} (ho : PE X o to) (he : PE X e te) (hs : swapsWith e (some (.Attribute o f p')) pos.line X.env = pure false := by rfl) : PS X (.Assign [.Attribute o f p'] e pos) (tAe1 X.K f to te) := by
  refine ⟨fun pins s σ H D I h => ?_⟩
  refine plainObj_wpAny_Assign_Attribute (thn (he.run pins s σ H _ I h) fun v s1 ⟨y, H1, I1, r1, q1⟩ => thn (ho.run pins s1 σ H1 _ I1 q1) fun u s2 ⟨x, H2, I2, r2, a, C, ex, T, hno, ea, q⟩ => ?_) hs
  subst ex
  obtain rfl : u = Value.ref a := r2
  exact ost_ae T I2 ea hno r1 fun dx s' n ne J => ⟨σ, _, J, q dx n ne⟩
theorem pmk_oea {X : Cx} {e : Expr} {es : List Expr} {ta : TA} {p pos : Pos} {CX : CXT} {x : Str} {C fI : Addr} {k : Nat} {fd : FuncData} {ps : List Str} {sp : Sp} {ds : List Value} {dvs : List V} (T : OexA X.K C) (iC : PySem.W.findIn X.K (.ref C) "__init__" = some (some (.ref fI))) (tI : PySem.W.typeIn X.K (.ref fI) = some (.type "function"))
    (F1 : FnOk X.prog X.w X.K X.mg X.base CX k fI fd ps sp) (hr : Room (k + 1) X.A) (hb : Binds X.K fd ps ds) (hd : Vals dvs ds) (hx : Passes CX X (fun _ _ _ => False)) (hg : Gl X x) (hm : X.mg x = some (.ref C)) (ha : PA X (e :: es) ta)
    (hdb : (x == ("__debug__" : Str)) = false := by decide) (he : starEach (e :: es) X.env = (false, eval e X.env) :: starEach es X.env := by rfl) (hpl : (backTo pos (starEach es X.env)).any (·.1) = false := by rfl) :
    PMk X (.Call (.Name x p) (e :: es) [] pos) (tMkO C sp dvs ta) := by
  intro pins s σ H Q I h
  obtain ⟨nm, q, N, bs, bm, sn, sub, ab, col, dd, k0, k1, k2, k3, k5, hC, hbm⟩ := T.cls
  refine wpAny_Call_Name_kw (ld_glob I hg hm ?_ hdb)
  refine PySem.W.callWith_K (h₀ := X.base) I.ok.mod.kin T.kC (thn (ha.run pos pins s σ H _ I h) fun us s1 ⟨vs, H1, I1, r1, hz, q1⟩ => ⟨I1.kIn, ?_⟩) he hpl
  show wpAny _ _ (call (.ref C) us) _ _ _
  obtain ⟨hp, g, dr, tk, os⟩ := s1
  let b1 : Addr := hp.objs.size + 1
  have hsz : hp.objs.size ≤ b1 := Nat.le_succ _
  let G : Heap := (hp.push (PySem.W.kdv_tup us)).push (PySem.HandSPX.excO C hp.objs.size)
  have hq := q1 b1 (I1.hok.fresh hsz)
  have kk : ∀ b o, hp.get? b = some o → G.get? b = some o := fun b o e => Heap.get?_push_of_some _ (Heap.get?_push_of_some _ e)
  have hget : G.get? b1 = some (PySem.HandSPX.excO C hp.objs.size) := by
    show ((hp.push (PySem.W.kdv_tup us)).push (PySem.HandSPX.excO C hp.objs.size)).get? (hp.objs.size + 1) = _
    heap_get
  have I2 : Inv X pins σ (upd H1 b1 (exo b1 C none)) ⟨G, g, dr, tk, os⟩ := I1.laid (t' := tk) (a := b1) (o := exo b1 C none) (h' := G) kk hsz (exo_ok hget)
  have r2 : Vals (V.ref b1 :: (vs ++ dvs)) (Value.ref b1 :: (us ++ ds)) := .cons rfl (r1.append hd)
  have hl : (Value.ref b1 :: us ++ ds).length = ps.length := by
    have e := r2.length
    rw [F1.len _ _ _ _ hq] at e
    exact e.symm
  have hus : us.length ≤ sizeLine := by
    rw [← Paired.length r1, sizeLine_eq]
    omega
  refine wpAny_call (PySem.HandSPX.call_own F.excBase_ArithmeticError (fun Y => (leB_M hbm).contains Y) (I1.kIn _ _ hC) (PySem.W.looks_findIn I1.kIn iC) (fun self => PySem.W.bind_fn I1.kIn self tI) hus
    (codeAny_mono (F1.run _ X.stack _ _ ⟨Value.ref b1 :: us, []⟩ (Value.ref b1 :: (us ++ ds)) _ _ (fun _ _ _ => False) (hr.make C us []) (I2.env0.make C us []) (hb _ (Value.ref b1 :: us) I2.kIn hl) r2 hq) fun r s' z => ?_))
  cases r with
  | error er => exact hx pins σ _ _ er s' I2 z
  | ok fl =>
    cases fl with
    | ret u =>
      obtain ⟨v, H2, os2, bare2, un2, hok2, rv, ev, d, fs, ea, ed, hd1, q2⟩ := z
      subst ev
      obtain ⟨h2, g2, d2, t2, os'⟩ := s'
      exact ⟨rv, mk_end (raises_own T.exC T.tyC) I1 hsz kk un2 hok2 os2 bare2 ea ed hd1 q2⟩
    | next => exact False.elim z
    | brk => exact False.elim z
    | cont => exact False.elim z
namespace DL
theorem init_okA {P : Program} {w : World} {K : PySem.W.Frag} {mg : Str → Option Value} {base : Heap} {qual : Str} {st : Stmt} {fI C : Addr} {fd : FuncData} {an : Str} {p1 p2 p3 p4 : Pos} (D : Fun K "__init__" qual st fI fd) (S : FnScope ["self", an] ["self", an] (defScope st)) (T : OexA K C) (hno : PySem.W.findIn K (.ref C) an = some none)
    (hbd : defBody st = [.Assign [.Attribute (.Name "self" p1) an p2] (.Name an p3) p4]) (hv1 : Vis (defScope st) "self") (hv2 : Vis (defScope st) an) (hd : (an == ("__debug__" : Str)) = false) (hcd : (an == ("__classdict__" : Str)) = false) :
    FnOk P w K mg base CX0 1 fI fd ["self", an] (spI C an) := by
  refine D.ok S (fun vs H Q E h => by obtain ⟨a, y, rfl, _⟩ := h; rfl) fun cdv A outer s H vs Q E hr h => ?_
  obtain ⟨a, y, rfl, ha, q⟩ := h
  rw [hbd]
  refine ⟨_, pss_one (ps_ast (pe_var (i := 0) rfl hv1) (pe_var (i := 1) rfl hv2 hd hcd)), ?_⟩
  exact ⟨y, rfl, .ref a, rfl, a, C, rfl, T, hno, ha, fun dx h1 h2 => q dx h1 h2⟩
variable [Lab]
omit [Lab] in
theorem oea_mk {K : PySem.W.Frag} {C : Addr} {nm q N bs bm sn sub ab col dd k0 k1 k2 k3 k5} (l : K.lookup C = some (excClassObj nm q C N bs bm true sn sub ab col dd k0 k1 k2 k3 k5 "ArithmeticError.__new__")) (r : leB bm = true)
    (sa : PySem.W.findIn K (.ref C) "__setattr__" = some (some (.builtin "object.__setattr__"))) (ex : PySem.W.subIn K (.ref C) (.type "BaseException") = some true) (ty : PySem.W.typeIn K (.ref C) = some (.type "type")) (k : PySem.W.keepIn K (.ref C) = true) : OexA K C :=
  ⟨⟨nm, q, N, bs, bm, sn, sub, ab, col, dd, k0, k1, k2, k3, k5, l, r⟩, sa, ex, ty, k⟩
end DL
end L2


set_option Elab.async false
set_option maxRecDepth 100000
set_option maxHeartbeats 4000000
set_option autoImplicit false
namespace L2
open PySem PySem.Spec PyProof.Rows
section
variable {X : Cx} {pins : List (Addr × Obj)} {σ : St} {H : Hp}
theorem inv_to {s s' : Shared} (I : Inv X pins σ H s) (hh : s'.heap = s.heap) (ho : s'.os = s.os) (hb : AllBare s'.gens) : Inv X pins σ H s' := by
  obtain ⟨hp, g, d, t, os⟩ := s
  obtain ⟨hp', g', d', t', os'⟩ := s'
  cases hh
  cases ho
  exact ⟨I.ok, I.os, hb, I.base, I.loc, I.cell, I.free, I.freeC, I.pin, I.hok, I.len⟩
/-- what makes an exception, as a value -/
theorem pe_of_mk {e : Expr} {t : St → Hp → XK → Prop} (he : PMk X e t) : PE X e (fun σ H Q => t σ H fun cls d H' => ∀ a, H' a = none → Q (.ref a) (upd H' a (DL.ExO a cls d))) := by
  refine ⟨fun pins s σ H Q I h => wpAny_mono (he pins s σ H _ I h) (fun u s1 hu => ?_) fun _ _ x => x⟩
  obtain ⟨a, oe, vs, sI, H', cls, d, rfl, J, k, hne, ha, hz, hd, h1, na, os, ag, r, q⟩ := hu
  exact ⟨.ref a, upd H' a (DL.ExO a cls d), inv_to (J.laidN (h' := s1.heap) (t' := 0) k hne na (DL.exo_okD ha hz hd)) rfl os ag, rfl, q a na⟩
/-- X(), X an own exception class without own __init__ -/
theorem pmk_own0 {C : Addr} {bmB : List Value} {B newId initId : String} {x : Str} {p pos : Pos} (F : ExcBaseFacts B newId initId bmB) (q : PySem.W.excIn X.K C bmB newId = true) (gC : X.mg x = some (.ref C)) (kC : PySem.W.keepIn X.K (.ref C) = true) (r : Raises X (.ref C)) (hg : Gl X x)
    (hdb : (x == ("__debug__" : Str)) = false := by decide) : PMk X (.Call (.Name x p) [] [] pos) (fun _ H Q => Q (.ref C) none H) := by
  intro pins s σ H Q I h
  refine wpAny_Call_Name_kw (ld_glob I hg gC ?_ hdb)
  refine PySem.W.callWith_K0 I.kIn kC ?_
  show wpAny _ _ (call (.ref C) []) _ _ _
  obtain ⟨bm, N, nm, qn, bs, hdct, sn, sub, ab, col, dd, k0, k1, k2, k3, k5, mN, hC, hN, hni, T⟩ := exc_obj I.kIn q
  refine wpAny_call_exc_subT F T hC hN hni (fun h' e hm => ?_) (by show 0 ≤ sizeLine; rw [sizeLine_eq]; omega)
  exact mk_of I hm r h (I.hok.gone hm.new)
end
/-- X(f=e) -/
def tMkK (C : Addr) (sp : Sp) (ta : TA) : St → Hp → XK → Prop := fun σ H Q => ta σ H fun vs H1 => vs.length = 1 ∧ ∀ a, H1 a = none → sp (.ref a :: vs) (upd H1 a (exo a C none))
  (fun v H2 => v = .non ∧ ∃ (d : Addr) (fs : List (Str × V)), H2 a = some (exo a C (some d)) ∧ H2 d = some (exd d fs) ∧ H1 d = none ∧ Q (.ref C) (some d) (upd (del H2 a) d (.xd fs))) (fun _ _ _ => False)
theorem pmk_oecK {X : Cx} {ta : TA} {p pos : Pos} {x an : Str} {C fI : Addr} {fd : FuncData} {sp : Sp} {kws : List Keyword} (T : OexC X.K C) (iC : PySem.W.findIn X.K (.ref C) "__init__" = some (some (.ref fI))) (tI : PySem.W.typeIn X.K (.ref fI) = some (.type "function"))
    (F1 : FnOk X.prog X.w X.K X.mg X.base CX0 1 fI fd ["self", an] sp) (hr : Room 2 X.A) (hb : ∀ (s : Shared) (a w : Value), BindsTo s fd ⟨[a], [(an, w)]⟩ [("self", a), (an, w)]) (hg : Gl X x) (hm : X.mg x = some (.ref C)) (hkw : L2.PK X kws ta)
    (hall : (backToKw pos (keywordEach kws X.env)).all (·.1.isSome) = true := by rfl) (hks : (backToKw pos (keywordEach kws X.env)).filterMap (·.1) = [an] := by rfl)
    (hdb : (x == ("__debug__" : Str)) = false := by decide)
    (hpl : ((backTo pos (starEach [] X.env)).any (·.1) || (backToKw pos (keywordEach kws X.env)).any (·.1.isNone)) = false := by rfl) :
    PMk X (.Call (.Name x p) [] kws pos) (tMkK C sp ta) := by
  intro pins s σ H Q I h
  obtain ⟨nm, q, N, bs, bm, sn, sub, ab, col, dd, k0, k1, k2, k3, k5, hC, hbm⟩ := T.cls
  refine wpAny_Call_Name_kw (ld_glob I hg hm (PySem.W.callWith_KW0 (h₀ := X.base) I.ok.mod.kin T.kC hall (thn (hkw.run pos pins s σ H _ I h) ?_) hpl) hdb)
  rintro ws s1 ⟨vs, H1, I1, r1, hz, q1⟩
  refine ⟨I1.kIn, ?_⟩
  rw [hks]
  match vs, ws, hz, r1 with
  | [y], [u], _, r1 =>
  obtain ⟨hp, g, dr, tk, os⟩ := s1
  let b1 : Addr := hp.objs.size + 1
  have hsz : hp.objs.size ≤ b1 := Nat.le_succ _
  let G : Heap := (hp.push (PySem.W.kdv_tup [])).push (PySem.HandSPX.excO C hp.objs.size)
  have hq := q1 b1 (I1.hok.fresh hsz)
  have kk : ∀ b o, hp.get? b = some o → G.get? b = some o := fun b o e => Heap.get?_push_of_some _ (Heap.get?_push_of_some _ e)
  have hget : G.get? b1 = some (PySem.HandSPX.excO C hp.objs.size) := by
    show ((hp.push (PySem.W.kdv_tup [])).push (PySem.HandSPX.excO C hp.objs.size)).get? (hp.objs.size + 1) = _
    heap_get
  have I2 : Inv X pins σ (upd H1 b1 (exo b1 C none)) ⟨G, g, dr, tk, os⟩ := I1.laid (t' := tk) (a := b1) (o := exo b1 C none) (h' := G) kk hsz (exo_ok hget)
  have r2 : Vals (V.ref b1 :: [y]) (Value.ref b1 :: [u]) := .cons rfl r1
  refine wpAny_call (PySem.HandSPX.call_ownK F.excBase_ValueError (fun Y => PySem.HandSPX.refsVE_contains Y bm hbm) (I1.kIn _ _ hC) (PySem.W.looks_findIn I1.kIn iC) (fun self => PySem.W.bind_fn I1.kIn self tI) (Nat.zero_le _)
    (codeAny_mono (F1.run _ X.stack _ _ ⟨[Value.ref b1], [(an, u)]⟩ (Value.ref b1 :: [u]) _ _ (fun _ _ _ => False) (hr.make C [] [(an, u)]) (I2.env0.make C [] [(an, u)]) (hb _ (Value.ref b1) u) r2 hq) fun r s' z => ?_))
  cases r with
  | error er => exact (fun _ _ _ _ _ _ _ z => z.elim : Passes CX0 X (fun _ _ _ => False)) pins σ _ _ er s' I2 z
  | ok fl =>
    cases fl with
    | ret u =>
      obtain ⟨v, H2, os2, bare2, un2, hok2, rv, ev, d, fs, ea, ed, hd1, q2⟩ := z
      subst ev
      obtain ⟨h2, g2, d2, t2, os'⟩ := s'
      exact ⟨rv, mk_end (raises_own T.exC T.tyC) I1 hsz kk un2 hok2 os2 bare2 ea ed hd1 q2⟩
    | next => exact False.elim z
    | brk => exact False.elim z
    | cont => exact False.elim z
theorem pmk_oelK {X : Cx} {ta : TA} {p pos : Pos} {x an : Str} {C fI : Addr} {fd : FuncData} {sp : Sp} {kws : List Keyword} (T : OexL X.K C) (iC : PySem.W.findIn X.K (.ref C) "__init__" = some (some (.ref fI))) (tI : PySem.W.typeIn X.K (.ref fI) = some (.type "function"))
    (F1 : FnOk X.prog X.w X.K X.mg X.base CX0 1 fI fd ["self", an] sp) (hr : Room 2 X.A) (hb : ∀ (s : Shared) (a w : Value), BindsTo s fd ⟨[a], [(an, w)]⟩ [("self", a), (an, w)]) (hg : Gl X x) (hm : X.mg x = some (.ref C)) (hkw : L2.PK X kws ta)
    (hall : (backToKw pos (keywordEach kws X.env)).all (·.1.isSome) = true := by rfl) (hks : (backToKw pos (keywordEach kws X.env)).filterMap (·.1) = [an] := by rfl)
    (hdb : (x == ("__debug__" : Str)) = false := by decide)
    (hpl : ((backTo pos (starEach [] X.env)).any (·.1) || (backToKw pos (keywordEach kws X.env)).any (·.1.isNone)) = false := by rfl) :
    PMk X (.Call (.Name x p) [] kws pos) (tMkK C sp ta) := by
  intro pins s σ H Q I h
  obtain ⟨nm, q, N, bs, bm, sn, sub, ab, col, dd, k0, k1, k2, k3, k5, hC, hbm⟩ := T.cls
  refine wpAny_Call_Name_kw (ld_glob I hg hm (PySem.W.callWith_KW0 (h₀ := X.base) I.ok.mod.kin T.kC hall (thn (hkw.run pos pins s σ H _ I h) ?_) hpl) hdb)
  rintro ws s1 ⟨vs, H1, I1, r1, hz, q1⟩
  refine ⟨I1.kIn, ?_⟩
  rw [hks]
  match vs, ws, hz, r1 with
  | [y], [u], _, r1 =>
  obtain ⟨hp, g, dr, tk, os⟩ := s1
  let b1 : Addr := hp.objs.size + 1
  have hsz : hp.objs.size ≤ b1 := Nat.le_succ _
  let G : Heap := (hp.push (PySem.W.kdv_tup [])).push (PySem.HandSPX.excO C hp.objs.size)
  have hq := q1 b1 (I1.hok.fresh hsz)
  have kk : ∀ b o, hp.get? b = some o → G.get? b = some o := fun b o e => Heap.get?_push_of_some _ (Heap.get?_push_of_some _ e)
  have hget : G.get? b1 = some (PySem.HandSPX.excO C hp.objs.size) := by
    show ((hp.push (PySem.W.kdv_tup [])).push (PySem.HandSPX.excO C hp.objs.size)).get? (hp.objs.size + 1) = _
    heap_get
  have I2 : Inv X pins σ (upd H1 b1 (exo b1 C none)) ⟨G, g, dr, tk, os⟩ := I1.laid (t' := tk) (a := b1) (o := exo b1 C none) (h' := G) kk hsz (exo_ok hget)
  have r2 : Vals (V.ref b1 :: [y]) (Value.ref b1 :: [u]) := .cons rfl r1
  refine wpAny_call (PySem.HandSPX.call_ownK F.excBase_LookupError (fun Y => (OEL.leB_M hbm).contains Y) (I1.kIn _ _ hC) (PySem.W.looks_findIn I1.kIn iC) (fun self => PySem.W.bind_fn I1.kIn self tI) (Nat.zero_le _)
    (codeAny_mono (F1.run _ X.stack _ _ ⟨[Value.ref b1], [(an, u)]⟩ (Value.ref b1 :: [u]) _ _ (fun _ _ _ => False) (hr.make C [] [(an, u)]) (I2.env0.make C [] [(an, u)]) (hb _ (Value.ref b1) u) r2 hq) fun r s' z => ?_))
  cases r with
  | error er => exact (fun _ _ _ _ _ _ _ z => z.elim : Passes CX0 X (fun _ _ _ => False)) pins σ _ _ er s' I2 z
  | ok fl =>
    cases fl with
    | ret u =>
      obtain ⟨v, H2, os2, bare2, un2, hok2, rv, ev, d, fs, ea, ed, hd1, q2⟩ := z
      subst ev
      obtain ⟨h2, g2, d2, t2, os'⟩ := s'
      exact ⟨rv, mk_end (raises_own T.exC T.tyC) I1 hsz kk un2 hok2 os2 bare2 ea ed hd1 q2⟩
    | next => exact False.elim z
    | brk => exact False.elim z
    | cont => exact False.elim z
theorem pmk_oeaK {X : Cx} {ta : TA} {p pos : Pos} {x an : Str} {C fI : Addr} {fd : FuncData} {sp : Sp} {kws : List Keyword} (T : OexA X.K C) (iC : PySem.W.findIn X.K (.ref C) "__init__" = some (some (.ref fI))) (tI : PySem.W.typeIn X.K (.ref fI) = some (.type "function"))
    (F1 : FnOk X.prog X.w X.K X.mg X.base CX0 1 fI fd ["self", an] sp) (hr : Room 2 X.A) (hb : ∀ (s : Shared) (a w : Value), BindsTo s fd ⟨[a], [(an, w)]⟩ [("self", a), (an, w)]) (hg : Gl X x) (hm : X.mg x = some (.ref C)) (hkw : L2.PK X kws ta)
    (hall : (backToKw pos (keywordEach kws X.env)).all (·.1.isSome) = true := by rfl) (hks : (backToKw pos (keywordEach kws X.env)).filterMap (·.1) = [an] := by rfl)
    (hdb : (x == ("__debug__" : Str)) = false := by decide)
    (hpl : ((backTo pos (starEach [] X.env)).any (·.1) || (backToKw pos (keywordEach kws X.env)).any (·.1.isNone)) = false := by rfl) :
    PMk X (.Call (.Name x p) [] kws pos) (tMkK C sp ta) := by
  intro pins s σ H Q I h
  obtain ⟨nm, q, N, bs, bm, sn, sub, ab, col, dd, k0, k1, k2, k3, k5, hC, hbm⟩ := T.cls
  refine wpAny_Call_Name_kw (ld_glob I hg hm (PySem.W.callWith_KW0 (h₀ := X.base) I.ok.mod.kin T.kC hall (thn (hkw.run pos pins s σ H _ I h) ?_) hpl) hdb)
  rintro ws s1 ⟨vs, H1, I1, r1, hz, q1⟩
  refine ⟨I1.kIn, ?_⟩
  rw [hks]
  match vs, ws, hz, r1 with
  | [y], [u], _, r1 =>
  obtain ⟨hp, g, dr, tk, os⟩ := s1
  let b1 : Addr := hp.objs.size + 1
  have hsz : hp.objs.size ≤ b1 := Nat.le_succ _
  let G : Heap := (hp.push (PySem.W.kdv_tup [])).push (PySem.HandSPX.excO C hp.objs.size)
  have hq := q1 b1 (I1.hok.fresh hsz)
  have kk : ∀ b o, hp.get? b = some o → G.get? b = some o := fun b o e => Heap.get?_push_of_some _ (Heap.get?_push_of_some _ e)
  have hget : G.get? b1 = some (PySem.HandSPX.excO C hp.objs.size) := by
    show ((hp.push (PySem.W.kdv_tup [])).push (PySem.HandSPX.excO C hp.objs.size)).get? (hp.objs.size + 1) = _
    heap_get
  have I2 : Inv X pins σ (upd H1 b1 (exo b1 C none)) ⟨G, g, dr, tk, os⟩ := I1.laid (t' := tk) (a := b1) (o := exo b1 C none) (h' := G) kk hsz (exo_ok hget)
  have r2 : Vals (V.ref b1 :: [y]) (Value.ref b1 :: [u]) := .cons rfl r1
  refine wpAny_call (PySem.HandSPX.call_ownK F.excBase_ArithmeticError (fun Y => (OEA.leB_M hbm).contains Y) (I1.kIn _ _ hC) (PySem.W.looks_findIn I1.kIn iC) (fun self => PySem.W.bind_fn I1.kIn self tI) (Nat.zero_le _)
    (codeAny_mono (F1.run _ X.stack _ _ ⟨[Value.ref b1], [(an, u)]⟩ (Value.ref b1 :: [u]) _ _ (fun _ _ _ => False) (hr.make C [] [(an, u)]) (I2.env0.make C [] [(an, u)]) (hb _ (Value.ref b1) u) r2 hq) fun r s' z => ?_))
  cases r with
  | error er => exact (fun _ _ _ _ _ _ _ z => z.elim : Passes CX0 X (fun _ _ _ => False)) pins σ _ _ er s' I2 z
  | ok fl =>
    cases fl with
    | ret u =>
      obtain ⟨v, H2, os2, bare2, un2, hok2, rv, ev, d, fs, ea, ed, hd1, q2⟩ := z
      subst ev
      obtain ⟨h2, g2, d2, t2, os'⟩ := s'
      exact ⟨rv, mk_end (raises_own T.exC T.tyC) I1 hsz kk un2 hok2 os2 bare2 ea ed hd1 q2⟩
    | next => exact False.elim z
    | brk => exact False.elim z
    | cont => exact False.elim z
namespace DL
variable [Lab]
/-! ### an exception made as a value -/
def fExN (c an : Str) (f : DEnv → Option (PyData × DEnv)) (env : DEnv) : Option (PyData × DEnv) := (f env).map fun x => (excD c an x.1, x.2)
def fExK (c an : Str) (fk : DEnv → Option (List PyData × DEnv)) (env : DEnv) : Option (PyData × DEnv) := (fk env).bind fun x => match x.1 with
  | [d] => some (excD c an d, x.2)
  | _ => none
theorem exn_end {K : PySem.W.Frag} {F : Fm} {C : Str → Addr} {cn an : Str} {σ : St} {env e1 : DEnv} {Z H Z1 H1 : Hp} {d : PyData} {v : V} {Q : VK} {a dx : Addr} (hC : C = LabW.C) (kx : KEx K (LabW.C cn)) (hno : PySem.W.findIn K (.ref (LabW.C cn)) an = some none)
    (q : ∀ (v : V) (Z' H' : Hp), Rel K F Z' H' σ e1 → Stp σ env Z H e1 Z' H' → DD K Z' v (excD cn an d) → Q v H') (r1 : Rel K F Z1 H1 σ e1) (s1 : Stp σ env Z H e1 Z1 H1) (dd : DD K Z1 v d)
    (na : H1 a = none) (hne : dx ≠ a) (hdx : H1 dx = none) (a' : Addr) (na' : (upd (del (upd (upd (upd H1 a (exo a (C cn) none)) dx (exd dx [(an, v)])) a (exo a (C cn) (some dx))) a) dx (.xd [(an, v)])) a' = none) :
    Q (.ref a') (upd (upd (del (upd (upd (upd H1 a (exo a (C cn) none)) dx (exd dx [(an, v)])) a (exo a (C cn) (some dx))) a) dx (.xd [(an, v)])) a' (ExO a' (.ref (C cn)) (some dx))) := by
  have eH : upd (del (upd (upd (upd H1 a (exo a (C cn) none)) dx (exd dx [(an, v)])) a (exo a (C cn) (some dx))) a) dx (.xd [(an, v)]) = upd H1 dx (.xd [(an, v)]) := by
    refine funext fun b => ?_
    by_cases z : b = dx
    · rw [z, upd_same, upd_same]
    · rw [upd_ne z, upd_ne z]
      by_cases z2 : b = a
      · rw [z2, del_same, na]
      · rw [del_ne z2, upd_ne z2, upd_ne z, upd_ne z2]
  rw [eH] at na' ⊢
  subst hC
  have ne : dx ≠ a' := fun z => by rw [← z, upd_same] at na'; cases na'
  have g1 := grow_new r1.zh hdx (.xd [(an, v)])
  have g2 := grow_new g1.zh na' (ExO a' (.ref (LabW.C cn)) (some dx))
  have g := g1.trans g2
  exact q _ _ _ (r1.grow g) (s1.trans g.stp) (.exc upd_same (by rw [upd_ne ne, upd_same]) kx hno (DDm dd g.z))
theorem pd_newC {X : Cx} {F : Fm} {C : Str → Addr} {cn an : Str} {fI : Addr} {fd : FuncData} {p pos : Pos} {e : Expr} {f : DEnv → Option (PyData × DEnv)} (hC : C = LabW.C) (kx : KEx X.K (LabW.C cn)) (hno : PySem.W.findIn X.K (.ref (LabW.C cn)) an = some none) (T : OexC X.K (C cn)) (iC : PySem.W.findIn X.K (.ref (C cn)) "__init__" = some (some (.ref fI))) (tI : PySem.W.typeIn X.K (.ref fI) = some (.type "function"))
    (F1 : FnOk X.prog X.w X.K X.mg X.base CX0 1 fI fd ["self", an] (spI (C cn) an)) (hr : Room 2 X.A) (hb : Binds X.K fd ["self", an] []) (hm : X.mg cn = some (.ref (C cn))) (ha : PD X F e f) (hg : Gl X cn := by rfl)
    (hdb : (cn == ("__debug__" : Str)) = false := by decide) (he : starEach [e] X.env = (false, eval e X.env) :: starEach [] X.env := by rfl) (hpl : (backTo pos (starEach [] X.env)).any (·.1) = false := by rfl) :
    PD X F (.Call (.Name cn p) [e] [] pos) (fExN cn an f) :=
  pe_imp (pe_of_mk (pmk_oex T iC tI F1 hr hb .nil (fun _ _ _ _ _ _ _ z => z.elim) hg hm (pa_cons ha pa_nil he) hdb he hpl)) fun σ H Q h => by
    obtain ⟨Z, env, d0, env', r, e, q⟩ := h
    obtain ⟨⟨d, e1⟩, h1, h⟩ := mpd e
    obtain ⟨rfl, rfl⟩ := Prod.mk.inj h
    refine ⟨Z, env, d, e1, r, h1, fun v Z1 H1 r1 s1 dd => ⟨by show 1 ≤ 1000; decide, fun a na => ⟨a, v, rfl, upd_same, fun dx hdx hne => ⟨rfl, dx, [(an, v)], upd_same, ?_, ?_, fun a' na' => ?_⟩⟩⟩⟩
    · rw [upd_ne hne, upd_same]
    · rw [upd_ne hne] at hdx; exact hdx
    · rw [upd_ne hne] at hdx
      exact exn_end hC kx hno q r1 s1 dd na hne hdx a' na'
theorem pd_newKC {X : Cx} {F : Fm} {C : Str → Addr} {cn an : Str} {fI : Addr} {fd : FuncData} {p pos : Pos} {kws : List Keyword} {fk : DEnv → Option (List PyData × DEnv)} (hC : C = LabW.C) (kx : KEx X.K (LabW.C cn)) (hno : PySem.W.findIn X.K (.ref (LabW.C cn)) an = some none) (T : OexC X.K (C cn)) (iC : PySem.W.findIn X.K (.ref (C cn)) "__init__" = some (some (.ref fI))) (tI : PySem.W.typeIn X.K (.ref fI) = some (.type "function"))
    (F1 : FnOk X.prog X.w X.K X.mg X.base CX0 1 fI fd ["self", an] (spI (C cn) an)) (hr : Room 2 X.A) (hb : ∀ (s : Shared) (a w : Value), BindsTo s fd ⟨[a], [(an, w)]⟩ [("self", a), (an, w)]) (hm : X.mg cn = some (.ref (C cn))) (hkw : PDK X F kws fk) (hg : Gl X cn := by rfl)
    (hall : (backToKw pos (keywordEach kws X.env)).all (·.1.isSome) = true := by rfl) (hks : (backToKw pos (keywordEach kws X.env)).filterMap (·.1) = [an] := by rfl)
    (hdb : (cn == ("__debug__" : Str)) = false := by decide)
    (hpl : ((backTo pos (starEach [] X.env)).any (·.1) || (backToKw pos (keywordEach kws X.env)).any (·.1.isNone)) = false := by rfl) :
    PD X F (.Call (.Name cn p) [] kws pos) (fExK cn an fk) :=
  pe_imp (pe_of_mk (pmk_oecK T iC tI F1 hr hb hg hm hkw hall hks hdb hpl)) fun σ H Q h => by
    obtain ⟨Z, env, d0, env', r, e, q⟩ := h
    obtain ⟨⟨ds, e1⟩, h1, h⟩ := bnd e
    match ds, h with
    | [d], h =>
    obtain ⟨rfl, rfl⟩ := Prod.mk.inj (Option.some.inj h)
    refine ⟨Z, env, [d], e1, r, h1, fun vs Z1 H1 r1 s1 dds => ?_⟩
    match vs, dds with
    | [v], .cons dd .nil =>
    refine ⟨rfl, fun a na => ⟨a, v, rfl, upd_same, fun dx hdx hne => ⟨rfl, dx, [(an, v)], upd_same, ?_, ?_, fun a' na' => ?_⟩⟩⟩
    · rw [upd_ne hne, upd_same]
    · rw [upd_ne hne] at hdx; exact hdx
    · rw [upd_ne hne] at hdx
      exact exn_end hC kx hno q r1 s1 dd na hne hdx a' na'
theorem pd_newL {X : Cx} {F : Fm} {C : Str → Addr} {cn an : Str} {fI : Addr} {fd : FuncData} {p pos : Pos} {e : Expr} {f : DEnv → Option (PyData × DEnv)} (hC : C = LabW.C) (kx : KEx X.K (LabW.C cn)) (hno : PySem.W.findIn X.K (.ref (LabW.C cn)) an = some none) (T : OexL X.K (C cn)) (iC : PySem.W.findIn X.K (.ref (C cn)) "__init__" = some (some (.ref fI))) (tI : PySem.W.typeIn X.K (.ref fI) = some (.type "function"))
    (F1 : FnOk X.prog X.w X.K X.mg X.base CX0 1 fI fd ["self", an] (spI (C cn) an)) (hr : Room 2 X.A) (hb : Binds X.K fd ["self", an] []) (hm : X.mg cn = some (.ref (C cn))) (ha : PD X F e f) (hg : Gl X cn := by rfl)
    (hdb : (cn == ("__debug__" : Str)) = false := by decide) (he : starEach [e] X.env = (false, eval e X.env) :: starEach [] X.env := by rfl) (hpl : (backTo pos (starEach [] X.env)).any (·.1) = false := by rfl) :
    PD X F (.Call (.Name cn p) [e] [] pos) (fExN cn an f) :=
  pe_imp (pe_of_mk (pmk_oel T iC tI F1 hr hb .nil (fun _ _ _ _ _ _ _ z => z.elim) hg hm (pa_cons ha pa_nil he) hdb he hpl)) fun σ H Q h => by
    obtain ⟨Z, env, d0, env', r, e, q⟩ := h
    obtain ⟨⟨d, e1⟩, h1, h⟩ := mpd e
    obtain ⟨rfl, rfl⟩ := Prod.mk.inj h
    refine ⟨Z, env, d, e1, r, h1, fun v Z1 H1 r1 s1 dd => ⟨by show 1 ≤ 1000; decide, fun a na => ⟨a, v, rfl, upd_same, fun dx hdx hne => ⟨rfl, dx, [(an, v)], upd_same, ?_, ?_, fun a' na' => ?_⟩⟩⟩⟩
    · rw [upd_ne hne, upd_same]
    · rw [upd_ne hne] at hdx; exact hdx
    · rw [upd_ne hne] at hdx
      exact exn_end hC kx hno q r1 s1 dd na hne hdx a' na'
theorem pd_newKL {X : Cx} {F : Fm} {C : Str → Addr} {cn an : Str} {fI : Addr} {fd : FuncData} {p pos : Pos} {kws : List Keyword} {fk : DEnv → Option (List PyData × DEnv)} (hC : C = LabW.C) (kx : KEx X.K (LabW.C cn)) (hno : PySem.W.findIn X.K (.ref (LabW.C cn)) an = some none) (T : OexL X.K (C cn)) (iC : PySem.W.findIn X.K (.ref (C cn)) "__init__" = some (some (.ref fI))) (tI : PySem.W.typeIn X.K (.ref fI) = some (.type "function"))
    (F1 : FnOk X.prog X.w X.K X.mg X.base CX0 1 fI fd ["self", an] (spI (C cn) an)) (hr : Room 2 X.A) (hb : ∀ (s : Shared) (a w : Value), BindsTo s fd ⟨[a], [(an, w)]⟩ [("self", a), (an, w)]) (hm : X.mg cn = some (.ref (C cn))) (hkw : PDK X F kws fk) (hg : Gl X cn := by rfl)
    (hall : (backToKw pos (keywordEach kws X.env)).all (·.1.isSome) = true := by rfl) (hks : (backToKw pos (keywordEach kws X.env)).filterMap (·.1) = [an] := by rfl)
    (hdb : (cn == ("__debug__" : Str)) = false := by decide)
    (hpl : ((backTo pos (starEach [] X.env)).any (·.1) || (backToKw pos (keywordEach kws X.env)).any (·.1.isNone)) = false := by rfl) :
    PD X F (.Call (.Name cn p) [] kws pos) (fExK cn an fk) :=
  pe_imp (pe_of_mk (pmk_oelK T iC tI F1 hr hb hg hm hkw hall hks hdb hpl)) fun σ H Q h => by
    obtain ⟨Z, env, d0, env', r, e, q⟩ := h
    obtain ⟨⟨ds, e1⟩, h1, h⟩ := bnd e
    match ds, h with
    | [d], h =>
    obtain ⟨rfl, rfl⟩ := Prod.mk.inj (Option.some.inj h)
    refine ⟨Z, env, [d], e1, r, h1, fun vs Z1 H1 r1 s1 dds => ?_⟩
    match vs, dds with
    | [v], .cons dd .nil =>
    refine ⟨rfl, fun a na => ⟨a, v, rfl, upd_same, fun dx hdx hne => ⟨rfl, dx, [(an, v)], upd_same, ?_, ?_, fun a' na' => ?_⟩⟩⟩
    · rw [upd_ne hne, upd_same]
    · rw [upd_ne hne] at hdx; exact hdx
    · rw [upd_ne hne] at hdx
      exact exn_end hC kx hno q r1 s1 dd na hne hdx a' na'
theorem pd_newA {X : Cx} {F : Fm} {C : Str → Addr} {cn an : Str} {fI : Addr} {fd : FuncData} {p pos : Pos} {e : Expr} {f : DEnv → Option (PyData × DEnv)} (hC : C = LabW.C) (kx : KEx X.K (LabW.C cn)) (hno : PySem.W.findIn X.K (.ref (LabW.C cn)) an = some none) (T : OexA X.K (C cn)) (iC : PySem.W.findIn X.K (.ref (C cn)) "__init__" = some (some (.ref fI))) (tI : PySem.W.typeIn X.K (.ref fI) = some (.type "function"))
    (F1 : FnOk X.prog X.w X.K X.mg X.base CX0 1 fI fd ["self", an] (spI (C cn) an)) (hr : Room 2 X.A) (hb : Binds X.K fd ["self", an] []) (hm : X.mg cn = some (.ref (C cn))) (ha : PD X F e f) (hg : Gl X cn := by rfl)
    (hdb : (cn == ("__debug__" : Str)) = false := by decide) (he : starEach [e] X.env = (false, eval e X.env) :: starEach [] X.env := by rfl) (hpl : (backTo pos (starEach [] X.env)).any (·.1) = false := by rfl) :
    PD X F (.Call (.Name cn p) [e] [] pos) (fExN cn an f) :=
  pe_imp (pe_of_mk (pmk_oea T iC tI F1 hr hb .nil (fun _ _ _ _ _ _ _ z => z.elim) hg hm (pa_cons ha pa_nil he) hdb he hpl)) fun σ H Q h => by
    obtain ⟨Z, env, d0, env', r, e, q⟩ := h
    obtain ⟨⟨d, e1⟩, h1, h⟩ := mpd e
    obtain ⟨rfl, rfl⟩ := Prod.mk.inj h
    refine ⟨Z, env, d, e1, r, h1, fun v Z1 H1 r1 s1 dd => ⟨by show 1 ≤ 1000; decide, fun a na => ⟨a, v, rfl, upd_same, fun dx hdx hne => ⟨rfl, dx, [(an, v)], upd_same, ?_, ?_, fun a' na' => ?_⟩⟩⟩⟩
    · rw [upd_ne hne, upd_same]
    · rw [upd_ne hne] at hdx; exact hdx
    · rw [upd_ne hne] at hdx
      exact exn_end hC kx hno q r1 s1 dd na hne hdx a' na'
theorem pd_newKA {X : Cx} {F : Fm} {C : Str → Addr} {cn an : Str} {fI : Addr} {fd : FuncData} {p pos : Pos} {kws : List Keyword} {fk : DEnv → Option (List PyData × DEnv)} (hC : C = LabW.C) (kx : KEx X.K (LabW.C cn)) (hno : PySem.W.findIn X.K (.ref (LabW.C cn)) an = some none) (T : OexA X.K (C cn)) (iC : PySem.W.findIn X.K (.ref (C cn)) "__init__" = some (some (.ref fI))) (tI : PySem.W.typeIn X.K (.ref fI) = some (.type "function"))
    (F1 : FnOk X.prog X.w X.K X.mg X.base CX0 1 fI fd ["self", an] (spI (C cn) an)) (hr : Room 2 X.A) (hb : ∀ (s : Shared) (a w : Value), BindsTo s fd ⟨[a], [(an, w)]⟩ [("self", a), (an, w)]) (hm : X.mg cn = some (.ref (C cn))) (hkw : PDK X F kws fk) (hg : Gl X cn := by rfl)
    (hall : (backToKw pos (keywordEach kws X.env)).all (·.1.isSome) = true := by rfl) (hks : (backToKw pos (keywordEach kws X.env)).filterMap (·.1) = [an] := by rfl)
    (hdb : (cn == ("__debug__" : Str)) = false := by decide)
    (hpl : ((backTo pos (starEach [] X.env)).any (·.1) || (backToKw pos (keywordEach kws X.env)).any (·.1.isNone)) = false := by rfl) :
    PD X F (.Call (.Name cn p) [] kws pos) (fExK cn an fk) :=
  pe_imp (pe_of_mk (pmk_oeaK T iC tI F1 hr hb hg hm hkw hall hks hdb hpl)) fun σ H Q h => by
    obtain ⟨Z, env, d0, env', r, e, q⟩ := h
    obtain ⟨⟨ds, e1⟩, h1, h⟩ := bnd e
    match ds, h with
    | [d], h =>
    obtain ⟨rfl, rfl⟩ := Prod.mk.inj (Option.some.inj h)
    refine ⟨Z, env, [d], e1, r, h1, fun vs Z1 H1 r1 s1 dds => ?_⟩
    match vs, dds with
    | [v], .cons dd .nil =>
    refine ⟨rfl, fun a na => ⟨a, v, rfl, upd_same, fun dx hdx hne => ⟨rfl, dx, [(an, v)], upd_same, ?_, ?_, fun a' na' => ?_⟩⟩⟩
    · rw [upd_ne hne, upd_same]
    · rw [upd_ne hne] at hdx; exact hdx
    · rw [upd_ne hne] at hdx
      exact exn_end hC kx hno q r1 s1 dd na hne hdx a' na'
/-- X(), without own __init__ -/
theorem pd_new0 {X : Cx} {F : Fm} {C : Str → Addr} {cn : Str} {bmB : List Value} {B newId initId : String} {p pos : Pos} (hC : C = LabW.C) (kx : KEx X.K (LabW.C cn)) (F0 : ExcBaseFacts B newId initId bmB) (q0 : PySem.W.excIn X.K (C cn) bmB newId = true) (kC : PySem.W.keepIn X.K (.ref (C cn)) = true) (exC : PySem.W.subIn X.K (.ref (C cn)) (.type "BaseException") = some true) (tyC : PySem.W.typeIn X.K (.ref (C cn)) = some (.type "type"))
    (hm : X.mg cn = some (.ref (C cn))) (hg : Gl X cn := by rfl) (hdb : (cn == ("__debug__" : Str)) = false := by decide) : PD X F (.Call (.Name cn p) [] [] pos) (fC (exnD cn)) :=
  pe_imp (pe_of_mk (pmk_own0 F0 q0 hm kC (raises_own exC tyC) hg hdb)) fun σ H Q h => by
    obtain ⟨Z, env, d, env', r, e, q⟩ := h
    cases e
    intro a na
    have g := grow_new r.zh na (ExO a (.ref (C cn)) none)
    refine q _ _ _ (r.grow g) g.stp ?_
    subst hC
    exact .exn upd_same kx
/-- a table of truths by the classes' names -/
def tabI : List (Str × Bool) → Str → Option Bool
  | [], _ => none
  | x :: l, c => if c = x.1 then some x.2 else tabI l c
omit [Lab] in
theorem tabI_ok {K : PySem.W.Frag} {C : Str → Addr} {v : Value} {l : List (Str × Bool)} (h : kitTab K (l.map fun x => (C x.1, v, x.2)) = true) : ∀ c b, tabI l c = some b → PySem.W.kitOne K (.ref (C c)) v = some b := by
  induction l with
  | nil => intro c b e; cases e
  | cons x l ih =>
    intro c b e
    unfold tabI at e
    unfold kitTab at h
    rw [List.map_cons, List.all_cons, Bool.and_eq_true] at h
    split at e
    · rename_i z
      cases e
      rw [z]
      exact of_decide_eq_true h.1
    · exact ih h.2 c b e
end DL
end L2


set_option Elab.async false
set_option maxRecDepth 100000
set_option maxHeartbeats 4000000
set_option autoImplicit false
namespace L2
namespace DL
open PySem PySem.Spec PyProof.Rows
variable [Lab]
def inS (i j : Nat) : Stmt := match PySem.Challenge.pw_sortcuts_k82_limits_and_errors.main.body.getD i (.Pass ⟨0, 0, 0, 0⟩) with
  | .ClassDef _ _ _ b _ _ _ _ _ _ _ => b.getD j (.Pass ⟨0, 0, 0, 0⟩)
  | s => s
def topS (i : Nat) : Stmt := PySem.Challenge.pw_sortcuts_k82_limits_and_errors.main.body.getD i (.Pass ⟨0, 0, 0, 0⟩)
def cv_MOST_EDITS : PyData := .int 500
def cv_MOST_TIMES : PyData := .int 1000000000000000000000000000000
def cv_MOST_COMMANDS : PyData := .int 400
def cv_MOST_SIZE : PyData := .int 29
def cv_LEAST_SIZE : PyData := .int 2
def cv_MOST_RECORDS : PyData := .int 30
def cv_MOST_KEYS : PyData := .int 4
def cv_MOST_COLUMNS : PyData := .int 5
structure Tx [LabW] (LT : List (Addr × Str)) (K : PySem.W.Frag) (mg : Str → Option Value) (base : Heap) (w : World) where
  hw : LabW.w = some w
  A : Nat → Addr
  FD : Nat → FuncData
  D__law_cell : Fun K "_law_cell" "_law_cell" (topS 31) (A 0) (FD 0)
  g__law_cell : mg "_law_cell" = some (.ref (A 0))
  D__law_pool : Fun K "_law_pool" "_law_pool" (topS 32) (A 1) (FD 1)
  g__law_pool : mg "_law_pool" = some (.ref (A 1))
  D__law_draw : Fun K "_law_draw" "_law_draw" (topS 33) (A 2) (FD 2)
  g__law_draw : mg "_law_draw" = some (.ref (A 2))
  D__law_kind : Fun K "_law_kind" "_law_kind" (topS 34) (A 3) (FD 3)
  g__law_kind : mg "_law_kind" = some (.ref (A 3))
  D__law_first : Fun K "_law_first" "_law_first" (topS 35) (A 4) (FD 4)
  g__law_first : mg "_law_first" = some (.ref (A 4))
  D__law_second : Fun K "_law_second" "_law_second" (topS 36) (A 5) (FD 5)
  g__law_second : mg "_law_second" = some (.ref (A 5))
  D__law_third : Fun K "_law_third" "_law_third" (topS 37) (A 6) (FD 6)
  g__law_third : mg "_law_third" = some (.ref (A 6))
  D__law_right : Fun K "_law_right" "_law_right" (topS 38) (A 7) (FD 7)
  g__law_right : mg "_law_right" = some (.ref (A 7))
  D_law : Fun K "law" "law" (topS 39) (A 8) (FD 8)
  g_law : mg "law" = some (.ref (A 8))
  n_ArithmeticError : mg "ArithmeticError" = none
  n_IndexError : mg "IndexError" = none
  n_KeyError : mg "KeyError" = none
  n_LookupError : mg "LookupError" = none
  n_OverflowError : mg "OverflowError" = none
  n_ValueError : mg "ValueError" = none
  n_ZeroDivisionError : mg "ZeroDivisionError" = none
  n_abs : mg "abs" = none
  n_all : mg "all" = none
  n_any : mg "any" = none
  n_divmod : mg "divmod" = none
  n_isinstance : mg "isinstance" = none
  n_len : mg "len" = none
  n_list : mg "list" = none
  n_max : mg "max" = none
  n_min : mg "min" = none
  n_range : mg "range" = none
  n_repr : mg "repr" = none
  c_MOST_EDITS : ∃ uv : Value × V, mg "MOST_EDITS" = some uv.1 ∧ RelV uv.2 uv.1 ∧ ∀ Z, DD K Z uv.2 cv_MOST_EDITS
  c_MOST_TIMES : ∃ uv : Value × V, mg "MOST_TIMES" = some uv.1 ∧ RelV uv.2 uv.1 ∧ ∀ Z, DD K Z uv.2 cv_MOST_TIMES
  c_MOST_COMMANDS : ∃ uv : Value × V, mg "MOST_COMMANDS" = some uv.1 ∧ RelV uv.2 uv.1 ∧ ∀ Z, DD K Z uv.2 cv_MOST_COMMANDS
  c_MOST_SIZE : ∃ uv : Value × V, mg "MOST_SIZE" = some uv.1 ∧ RelV uv.2 uv.1 ∧ ∀ Z, DD K Z uv.2 cv_MOST_SIZE
  c_LEAST_SIZE : ∃ uv : Value × V, mg "LEAST_SIZE" = some uv.1 ∧ RelV uv.2 uv.1 ∧ ∀ Z, DD K Z uv.2 cv_LEAST_SIZE
  c_MOST_RECORDS : ∃ uv : Value × V, mg "MOST_RECORDS" = some uv.1 ∧ RelV uv.2 uv.1 ∧ ∀ Z, DD K Z uv.2 cv_MOST_RECORDS
  c_MOST_KEYS : ∃ uv : Value × V, mg "MOST_KEYS" = some uv.1 ∧ RelV uv.2 uv.1 ∧ ∀ Z, DD K Z uv.2 cv_MOST_KEYS
  c_MOST_COLUMNS : ∃ uv : Value × V, mg "MOST_COLUMNS" = some uv.1 ∧ RelV uv.2 uv.1 ∧ ∀ Z, DD K Z uv.2 cv_MOST_COLUMNS
  C : Str → Addr
  FI : Str → Addr
  FDI : Str → FuncData
  hC : C = LabW.C
  xm_InvalidPlaces : mg "InvalidPlaces" = some (.ref (C "InvalidPlaces"))
  xm_InvalidNumber : mg "InvalidNumber" = some (.ref (C "InvalidNumber"))
  xm_InvalidProgram : mg "InvalidProgram" = some (.ref (C "InvalidProgram"))
  xm_InvalidOrder : mg "InvalidOrder" = some (.ref (C "InvalidOrder"))
  xm_InvalidColumns : mg "InvalidColumns" = some (.ref (C "InvalidColumns"))
  xm_InvalidTable : mg "InvalidTable" = some (.ref (C "InvalidTable"))
  xm_InvalidCommand : mg "InvalidCommand" = some (.ref (C "InvalidCommand"))
  xm_InvalidEdit : mg "InvalidEdit" = some (.ref (C "InvalidEdit"))
  xm_InvalidValue : mg "InvalidValue" = some (.ref (C "InvalidValue"))
  xm_InvalidRecord : mg "InvalidRecord" = some (.ref (C "InvalidRecord"))
  xm_InvalidLimit : mg "InvalidLimit" = some (.ref (C "InvalidLimit"))
  xm_InvalidText : mg "InvalidText" = some (.ref (C "InvalidText"))
  xm_TooManyEdits : mg "TooManyEdits" = some (.ref (C "TooManyEdits"))
  xm_TooManyRecords : mg "TooManyRecords" = some (.ref (C "TooManyRecords"))
  xm_NoPlace : mg "NoPlace" = some (.ref (C "NoPlace"))
  xm_MissingColumn : mg "MissingColumn" = some (.ref (C "MissingColumn"))
  xm_LastRecord : mg "LastRecord" = some (.ref (C "LastRecord"))
  xm_NothingToUndo : mg "NothingToUndo" = some (.ref (C "NothingToUndo"))
  xm_LimitError : mg "LimitError" = some (.ref (C "LimitError"))
  xm_FindError : mg "FindError" = some (.ref (C "FindError"))
  xm_TableError : mg "TableError" = some (.ref (C "TableError"))
  x_InvalidPlaces : OexC K (C "InvalidPlaces")
  xi_InvalidPlaces : PySem.W.findIn K (.ref (C "InvalidPlaces")) "__init__" = some (some (.ref (FI "InvalidPlaces")))
  xt_InvalidPlaces : PySem.W.typeIn K (.ref (FI "InvalidPlaces")) = some (.type "function")
  xn_InvalidPlaces : PySem.W.findIn K (.ref (C "InvalidPlaces")) "index" = some none
  xD_InvalidPlaces : Fun K "__init__" "InvalidPlaces.__init__" (inS 7 0) (FI "InvalidPlaces") (FDI "InvalidPlaces")
  x_InvalidNumber : OexC K (C "InvalidNumber")
  xi_InvalidNumber : PySem.W.findIn K (.ref (C "InvalidNumber")) "__init__" = some (some (.ref (FI "InvalidNumber")))
  xt_InvalidNumber : PySem.W.typeIn K (.ref (FI "InvalidNumber")) = some (.type "function")
  xn_InvalidNumber : PySem.W.findIn K (.ref (C "InvalidNumber")) "number" = some none
  xD_InvalidNumber : Fun K "__init__" "InvalidNumber.__init__" (inS 6 0) (FI "InvalidNumber") (FDI "InvalidNumber")
  x_InvalidProgram : OexC K (C "InvalidProgram")
  xi_InvalidProgram : PySem.W.findIn K (.ref (C "InvalidProgram")) "__init__" = some (some (.ref (FI "InvalidProgram")))
  xt_InvalidProgram : PySem.W.typeIn K (.ref (FI "InvalidProgram")) = some (.type "function")
  xn_InvalidProgram : PySem.W.findIn K (.ref (C "InvalidProgram")) "index" = some none
  xD_InvalidProgram : Fun K "__init__" "InvalidProgram.__init__" (inS 5 0) (FI "InvalidProgram") (FDI "InvalidProgram")
  x_InvalidOrder : OexC K (C "InvalidOrder")
  xi_InvalidOrder : PySem.W.findIn K (.ref (C "InvalidOrder")) "__init__" = some (some (.ref (FI "InvalidOrder")))
  xt_InvalidOrder : PySem.W.typeIn K (.ref (FI "InvalidOrder")) = some (.type "function")
  xn_InvalidOrder : PySem.W.findIn K (.ref (C "InvalidOrder")) "index" = some none
  xD_InvalidOrder : Fun K "__init__" "InvalidOrder.__init__" (inS 4 0) (FI "InvalidOrder") (FDI "InvalidOrder")
  x_InvalidColumns : OexC K (C "InvalidColumns")
  xi_InvalidColumns : PySem.W.findIn K (.ref (C "InvalidColumns")) "__init__" = some (some (.ref (FI "InvalidColumns")))
  xt_InvalidColumns : PySem.W.typeIn K (.ref (FI "InvalidColumns")) = some (.type "function")
  xn_InvalidColumns : PySem.W.findIn K (.ref (C "InvalidColumns")) "columns" = some none
  xD_InvalidColumns : Fun K "__init__" "InvalidColumns.__init__" (inS 3 0) (FI "InvalidColumns") (FDI "InvalidColumns")
  x_InvalidTable : OexC K (C "InvalidTable")
  xi_InvalidTable : PySem.W.findIn K (.ref (C "InvalidTable")) "__init__" = some (some (.ref (FI "InvalidTable")))
  xt_InvalidTable : PySem.W.typeIn K (.ref (FI "InvalidTable")) = some (.type "function")
  xn_InvalidTable : PySem.W.findIn K (.ref (C "InvalidTable")) "index" = some none
  xD_InvalidTable : Fun K "__init__" "InvalidTable.__init__" (inS 2 0) (FI "InvalidTable") (FDI "InvalidTable")
  x_InvalidCommand : OexC K (C "InvalidCommand")
  xi_InvalidCommand : PySem.W.findIn K (.ref (C "InvalidCommand")) "__init__" = some (some (.ref (FI "InvalidCommand")))
  xt_InvalidCommand : PySem.W.typeIn K (.ref (FI "InvalidCommand")) = some (.type "function")
  xn_InvalidCommand : PySem.W.findIn K (.ref (C "InvalidCommand")) "line" = some none
  xD_InvalidCommand : Fun K "__init__" "InvalidCommand.__init__" (inS 13 0) (FI "InvalidCommand") (FDI "InvalidCommand")
  x_InvalidEdit : OexC K (C "InvalidEdit")
  xi_InvalidEdit : PySem.W.findIn K (.ref (C "InvalidEdit")) "__init__" = some (some (.ref (FI "InvalidEdit")))
  xt_InvalidEdit : PySem.W.typeIn K (.ref (FI "InvalidEdit")) = some (.type "function")
  xn_InvalidEdit : PySem.W.findIn K (.ref (C "InvalidEdit")) "index" = some none
  xD_InvalidEdit : Fun K "__init__" "InvalidEdit.__init__" (inS 12 0) (FI "InvalidEdit") (FDI "InvalidEdit")
  x_InvalidValue : OexC K (C "InvalidValue")
  xi_InvalidValue : PySem.W.findIn K (.ref (C "InvalidValue")) "__init__" = some (some (.ref (FI "InvalidValue")))
  xt_InvalidValue : PySem.W.typeIn K (.ref (FI "InvalidValue")) = some (.type "function")
  xn_InvalidValue : PySem.W.findIn K (.ref (C "InvalidValue")) "value" = some none
  xD_InvalidValue : Fun K "__init__" "InvalidValue.__init__" (inS 11 0) (FI "InvalidValue") (FDI "InvalidValue")
  x_InvalidRecord : OexC K (C "InvalidRecord")
  xi_InvalidRecord : PySem.W.findIn K (.ref (C "InvalidRecord")) "__init__" = some (some (.ref (FI "InvalidRecord")))
  xt_InvalidRecord : PySem.W.typeIn K (.ref (FI "InvalidRecord")) = some (.type "function")
  xn_InvalidRecord : PySem.W.findIn K (.ref (C "InvalidRecord")) "record" = some none
  xD_InvalidRecord : Fun K "__init__" "InvalidRecord.__init__" (inS 10 0) (FI "InvalidRecord") (FDI "InvalidRecord")
  x_InvalidLimit : OexC K (C "InvalidLimit")
  xi_InvalidLimit : PySem.W.findIn K (.ref (C "InvalidLimit")) "__init__" = some (some (.ref (FI "InvalidLimit")))
  xt_InvalidLimit : PySem.W.typeIn K (.ref (FI "InvalidLimit")) = some (.type "function")
  xn_InvalidLimit : PySem.W.findIn K (.ref (C "InvalidLimit")) "value" = some none
  xD_InvalidLimit : Fun K "__init__" "InvalidLimit.__init__" (inS 9 0) (FI "InvalidLimit") (FDI "InvalidLimit")
  x_InvalidText : OexC K (C "InvalidText")
  xi_InvalidText : PySem.W.findIn K (.ref (C "InvalidText")) "__init__" = some (some (.ref (FI "InvalidText")))
  xt_InvalidText : PySem.W.typeIn K (.ref (FI "InvalidText")) = some (.type "function")
  xn_InvalidText : PySem.W.findIn K (.ref (C "InvalidText")) "text" = some none
  xD_InvalidText : Fun K "__init__" "InvalidText.__init__" (inS 8 0) (FI "InvalidText") (FDI "InvalidText")
  x_TooManyEdits : OexA K (C "TooManyEdits")
  xi_TooManyEdits : PySem.W.findIn K (.ref (C "TooManyEdits")) "__init__" = some (some (.ref (FI "TooManyEdits")))
  xt_TooManyEdits : PySem.W.typeIn K (.ref (FI "TooManyEdits")) = some (.type "function")
  xn_TooManyEdits : PySem.W.findIn K (.ref (C "TooManyEdits")) "count" = some none
  xD_TooManyEdits : Fun K "__init__" "TooManyEdits.__init__" (inS 20 0) (FI "TooManyEdits") (FDI "TooManyEdits")
  x_TooManyRecords : OexA K (C "TooManyRecords")
  xi_TooManyRecords : PySem.W.findIn K (.ref (C "TooManyRecords")) "__init__" = some (some (.ref (FI "TooManyRecords")))
  xt_TooManyRecords : PySem.W.typeIn K (.ref (FI "TooManyRecords")) = some (.type "function")
  xn_TooManyRecords : PySem.W.findIn K (.ref (C "TooManyRecords")) "count" = some none
  xD_TooManyRecords : Fun K "__init__" "TooManyRecords.__init__" (inS 19 0) (FI "TooManyRecords") (FDI "TooManyRecords")
  x_NoPlace : OexL K (C "NoPlace")
  xi_NoPlace : PySem.W.findIn K (.ref (C "NoPlace")) "__init__" = some (some (.ref (FI "NoPlace")))
  xt_NoPlace : PySem.W.typeIn K (.ref (FI "NoPlace")) = some (.type "function")
  xn_NoPlace : PySem.W.findIn K (.ref (C "NoPlace")) "place" = some none
  xD_NoPlace : Fun K "__init__" "NoPlace.__init__" (inS 16 0) (FI "NoPlace") (FDI "NoPlace")
  x_MissingColumn : OexL K (C "MissingColumn")
  xi_MissingColumn : PySem.W.findIn K (.ref (C "MissingColumn")) "__init__" = some (some (.ref (FI "MissingColumn")))
  xt_MissingColumn : PySem.W.typeIn K (.ref (FI "MissingColumn")) = some (.type "function")
  xn_MissingColumn : PySem.W.findIn K (.ref (C "MissingColumn")) "column" = some none
  xD_MissingColumn : Fun K "__init__" "MissingColumn.__init__" (inS 15 0) (FI "MissingColumn") (FDI "MissingColumn")
  kx_InvalidPlaces : kexB K (C "InvalidPlaces") = true
  kx_InvalidNumber : kexB K (C "InvalidNumber") = true
  kx_InvalidProgram : kexB K (C "InvalidProgram") = true
  kx_InvalidOrder : kexB K (C "InvalidOrder") = true
  kx_InvalidColumns : kexB K (C "InvalidColumns") = true
  kx_InvalidTable : kexB K (C "InvalidTable") = true
  kx_InvalidCommand : kexB K (C "InvalidCommand") = true
  kx_InvalidEdit : kexB K (C "InvalidEdit") = true
  kx_InvalidValue : kexB K (C "InvalidValue") = true
  kx_InvalidRecord : kexB K (C "InvalidRecord") = true
  kx_InvalidLimit : kexB K (C "InvalidLimit") = true
  kx_InvalidText : kexB K (C "InvalidText") = true
  kx_TooManyEdits : kexB K (C "TooManyEdits") = true
  kx_TooManyRecords : kexB K (C "TooManyRecords") = true
  kx_NoPlace : kexB K (C "NoPlace") = true
  kx_MissingColumn : kexB K (C "MissingColumn") = true
  kx_LastRecord : kexB K (C "LastRecord") = true
  kx_NothingToUndo : kexB K (C "NothingToUndo") = true
  kt_ArithmeticError : kitTab K [(C "InvalidPlaces", .type "ArithmeticError", false), (C "InvalidNumber", .type "ArithmeticError", false), (C "InvalidProgram", .type "ArithmeticError", false), (C "InvalidOrder", .type "ArithmeticError", false), (C "InvalidColumns", .type "ArithmeticError", false), (C "InvalidTable", .type "ArithmeticError", false), (C "InvalidCommand", .type "ArithmeticError", false), (C "InvalidEdit", .type "ArithmeticError", false), (C "InvalidValue", .type "ArithmeticError", false), (C "InvalidRecord", .type "ArithmeticError", false), (C "InvalidLimit", .type "ArithmeticError", false), (C "InvalidText", .type "ArithmeticError", false), (C "TooManyEdits", .type "ArithmeticError", true), (C "TooManyRecords", .type "ArithmeticError", true), (C "NoPlace", .type "ArithmeticError", false), (C "MissingColumn", .type "ArithmeticError", false), (C "LastRecord", .type "ArithmeticError", true), (C "NothingToUndo", .type "ArithmeticError", false)] = true
  kt_LookupError : kitTab K [(C "InvalidPlaces", .type "LookupError", false), (C "InvalidNumber", .type "LookupError", false), (C "InvalidProgram", .type "LookupError", false), (C "InvalidOrder", .type "LookupError", false), (C "InvalidColumns", .type "LookupError", false), (C "InvalidTable", .type "LookupError", false), (C "InvalidCommand", .type "LookupError", false), (C "InvalidEdit", .type "LookupError", false), (C "InvalidValue", .type "LookupError", false), (C "InvalidRecord", .type "LookupError", false), (C "InvalidLimit", .type "LookupError", false), (C "InvalidText", .type "LookupError", false), (C "TooManyEdits", .type "LookupError", false), (C "TooManyRecords", .type "LookupError", false), (C "NoPlace", .type "LookupError", true), (C "MissingColumn", .type "LookupError", true), (C "LastRecord", .type "LookupError", false), (C "NothingToUndo", .type "LookupError", true)] = true
  kt_ValueError : kitTab K [(C "InvalidPlaces", .type "ValueError", true), (C "InvalidNumber", .type "ValueError", true), (C "InvalidProgram", .type "ValueError", true), (C "InvalidOrder", .type "ValueError", true), (C "InvalidColumns", .type "ValueError", true), (C "InvalidTable", .type "ValueError", true), (C "InvalidCommand", .type "ValueError", true), (C "InvalidEdit", .type "ValueError", true), (C "InvalidValue", .type "ValueError", true), (C "InvalidRecord", .type "ValueError", true), (C "InvalidLimit", .type "ValueError", true), (C "InvalidText", .type "ValueError", true), (C "TooManyEdits", .type "ValueError", false), (C "TooManyRecords", .type "ValueError", false), (C "NoPlace", .type "ValueError", false), (C "MissingColumn", .type "ValueError", false), (C "LastRecord", .type "ValueError", false), (C "NothingToUndo", .type "ValueError", false)] = true
  kt_LimitError : kitTab K [(C "InvalidPlaces", .ref (C "LimitError"), false), (C "InvalidNumber", .ref (C "LimitError"), false), (C "InvalidProgram", .ref (C "LimitError"), false), (C "InvalidOrder", .ref (C "LimitError"), false), (C "InvalidColumns", .ref (C "LimitError"), false), (C "InvalidTable", .ref (C "LimitError"), false), (C "InvalidCommand", .ref (C "LimitError"), false), (C "InvalidEdit", .ref (C "LimitError"), false), (C "InvalidValue", .ref (C "LimitError"), false), (C "InvalidRecord", .ref (C "LimitError"), false), (C "InvalidLimit", .ref (C "LimitError"), false), (C "InvalidText", .ref (C "LimitError"), false), (C "TooManyEdits", .ref (C "LimitError"), true), (C "TooManyRecords", .ref (C "LimitError"), true), (C "NoPlace", .ref (C "LimitError"), false), (C "MissingColumn", .ref (C "LimitError"), false), (C "LastRecord", .ref (C "LimitError"), true), (C "NothingToUndo", .ref (C "LimitError"), false)] = true
  kt_FindError : kitTab K [(C "InvalidPlaces", .ref (C "FindError"), false), (C "InvalidNumber", .ref (C "FindError"), false), (C "InvalidProgram", .ref (C "FindError"), false), (C "InvalidOrder", .ref (C "FindError"), false), (C "InvalidColumns", .ref (C "FindError"), false), (C "InvalidTable", .ref (C "FindError"), false), (C "InvalidCommand", .ref (C "FindError"), false), (C "InvalidEdit", .ref (C "FindError"), false), (C "InvalidValue", .ref (C "FindError"), false), (C "InvalidRecord", .ref (C "FindError"), false), (C "InvalidLimit", .ref (C "FindError"), false), (C "InvalidText", .ref (C "FindError"), false), (C "TooManyEdits", .ref (C "FindError"), false), (C "TooManyRecords", .ref (C "FindError"), false), (C "NoPlace", .ref (C "FindError"), true), (C "MissingColumn", .ref (C "FindError"), true), (C "LastRecord", .ref (C "FindError"), false), (C "NothingToUndo", .ref (C "FindError"), true)] = true
  kt_TableError : kitTab K [(C "InvalidPlaces", .ref (C "TableError"), true), (C "InvalidNumber", .ref (C "TableError"), true), (C "InvalidProgram", .ref (C "TableError"), true), (C "InvalidOrder", .ref (C "TableError"), true), (C "InvalidColumns", .ref (C "TableError"), true), (C "InvalidTable", .ref (C "TableError"), true), (C "InvalidCommand", .ref (C "TableError"), true), (C "InvalidEdit", .ref (C "TableError"), true), (C "InvalidValue", .ref (C "TableError"), true), (C "InvalidRecord", .ref (C "TableError"), true), (C "InvalidLimit", .ref (C "TableError"), true), (C "InvalidText", .ref (C "TableError"), true), (C "TooManyEdits", .ref (C "TableError"), false), (C "TooManyRecords", .ref (C "TableError"), false), (C "NoPlace", .ref (C "TableError"), false), (C "MissingColumn", .ref (C "TableError"), false), (C "LastRecord", .ref (C "TableError"), false), (C "NothingToUndo", .ref (C "TableError"), false)] = true
  kt_LastRecord : kitTab K [(C "InvalidPlaces", .ref (C "LastRecord"), false), (C "InvalidNumber", .ref (C "LastRecord"), false), (C "InvalidProgram", .ref (C "LastRecord"), false), (C "InvalidOrder", .ref (C "LastRecord"), false), (C "InvalidColumns", .ref (C "LastRecord"), false), (C "InvalidTable", .ref (C "LastRecord"), false), (C "InvalidCommand", .ref (C "LastRecord"), false), (C "InvalidEdit", .ref (C "LastRecord"), false), (C "InvalidValue", .ref (C "LastRecord"), false), (C "InvalidRecord", .ref (C "LastRecord"), false), (C "InvalidLimit", .ref (C "LastRecord"), false), (C "InvalidText", .ref (C "LastRecord"), false), (C "TooManyEdits", .ref (C "LastRecord"), false), (C "TooManyRecords", .ref (C "LastRecord"), false), (C "NoPlace", .ref (C "LastRecord"), false), (C "MissingColumn", .ref (C "LastRecord"), false), (C "LastRecord", .ref (C "LastRecord"), true), (C "NothingToUndo", .ref (C "LastRecord"), false)] = true
  kt_TooManyEdits : kitTab K [(C "InvalidPlaces", .ref (C "TooManyEdits"), false), (C "InvalidNumber", .ref (C "TooManyEdits"), false), (C "InvalidProgram", .ref (C "TooManyEdits"), false), (C "InvalidOrder", .ref (C "TooManyEdits"), false), (C "InvalidColumns", .ref (C "TooManyEdits"), false), (C "InvalidTable", .ref (C "TooManyEdits"), false), (C "InvalidCommand", .ref (C "TooManyEdits"), false), (C "InvalidEdit", .ref (C "TooManyEdits"), false), (C "InvalidValue", .ref (C "TooManyEdits"), false), (C "InvalidRecord", .ref (C "TooManyEdits"), false), (C "InvalidLimit", .ref (C "TooManyEdits"), false), (C "InvalidText", .ref (C "TooManyEdits"), false), (C "TooManyEdits", .ref (C "TooManyEdits"), true), (C "TooManyRecords", .ref (C "TooManyEdits"), false), (C "NoPlace", .ref (C "TooManyEdits"), false), (C "MissingColumn", .ref (C "TooManyEdits"), false), (C "LastRecord", .ref (C "TooManyEdits"), false), (C "NothingToUndo", .ref (C "TooManyEdits"), false)] = true
  kt_TooManyRecords : kitTab K [(C "InvalidPlaces", .ref (C "TooManyRecords"), false), (C "InvalidNumber", .ref (C "TooManyRecords"), false), (C "InvalidProgram", .ref (C "TooManyRecords"), false), (C "InvalidOrder", .ref (C "TooManyRecords"), false), (C "InvalidColumns", .ref (C "TooManyRecords"), false), (C "InvalidTable", .ref (C "TooManyRecords"), false), (C "InvalidCommand", .ref (C "TooManyRecords"), false), (C "InvalidEdit", .ref (C "TooManyRecords"), false), (C "InvalidValue", .ref (C "TooManyRecords"), false), (C "InvalidRecord", .ref (C "TooManyRecords"), false), (C "InvalidLimit", .ref (C "TooManyRecords"), false), (C "InvalidText", .ref (C "TooManyRecords"), false), (C "TooManyEdits", .ref (C "TooManyRecords"), false), (C "TooManyRecords", .ref (C "TooManyRecords"), true), (C "NoPlace", .ref (C "TooManyRecords"), false), (C "MissingColumn", .ref (C "TooManyRecords"), false), (C "LastRecord", .ref (C "TooManyRecords"), false), (C "NothingToUndo", .ref (C "TooManyRecords"), false)] = true
  kt_NothingToUndo : kitTab K [(C "InvalidPlaces", .ref (C "NothingToUndo"), false), (C "InvalidNumber", .ref (C "NothingToUndo"), false), (C "InvalidProgram", .ref (C "NothingToUndo"), false), (C "InvalidOrder", .ref (C "NothingToUndo"), false), (C "InvalidColumns", .ref (C "NothingToUndo"), false), (C "InvalidTable", .ref (C "NothingToUndo"), false), (C "InvalidCommand", .ref (C "NothingToUndo"), false), (C "InvalidEdit", .ref (C "NothingToUndo"), false), (C "InvalidValue", .ref (C "NothingToUndo"), false), (C "InvalidRecord", .ref (C "NothingToUndo"), false), (C "InvalidLimit", .ref (C "NothingToUndo"), false), (C "InvalidText", .ref (C "NothingToUndo"), false), (C "TooManyEdits", .ref (C "NothingToUndo"), false), (C "TooManyRecords", .ref (C "NothingToUndo"), false), (C "NoPlace", .ref (C "NothingToUndo"), false), (C "MissingColumn", .ref (C "NothingToUndo"), false), (C "LastRecord", .ref (C "NothingToUndo"), false), (C "NothingToUndo", .ref (C "NothingToUndo"), true)] = true
  kt_NoPlace : kitTab K [(C "InvalidPlaces", .ref (C "NoPlace"), false), (C "InvalidNumber", .ref (C "NoPlace"), false), (C "InvalidProgram", .ref (C "NoPlace"), false), (C "InvalidOrder", .ref (C "NoPlace"), false), (C "InvalidColumns", .ref (C "NoPlace"), false), (C "InvalidTable", .ref (C "NoPlace"), false), (C "InvalidCommand", .ref (C "NoPlace"), false), (C "InvalidEdit", .ref (C "NoPlace"), false), (C "InvalidValue", .ref (C "NoPlace"), false), (C "InvalidRecord", .ref (C "NoPlace"), false), (C "InvalidLimit", .ref (C "NoPlace"), false), (C "InvalidText", .ref (C "NoPlace"), false), (C "TooManyEdits", .ref (C "NoPlace"), false), (C "TooManyRecords", .ref (C "NoPlace"), false), (C "NoPlace", .ref (C "NoPlace"), true), (C "MissingColumn", .ref (C "NoPlace"), false), (C "LastRecord", .ref (C "NoPlace"), false), (C "NothingToUndo", .ref (C "NoPlace"), false)] = true
  kt_MissingColumn : kitTab K [(C "InvalidPlaces", .ref (C "MissingColumn"), false), (C "InvalidNumber", .ref (C "MissingColumn"), false), (C "InvalidProgram", .ref (C "MissingColumn"), false), (C "InvalidOrder", .ref (C "MissingColumn"), false), (C "InvalidColumns", .ref (C "MissingColumn"), false), (C "InvalidTable", .ref (C "MissingColumn"), false), (C "InvalidCommand", .ref (C "MissingColumn"), false), (C "InvalidEdit", .ref (C "MissingColumn"), false), (C "InvalidValue", .ref (C "MissingColumn"), false), (C "InvalidRecord", .ref (C "MissingColumn"), false), (C "InvalidLimit", .ref (C "MissingColumn"), false), (C "InvalidText", .ref (C "MissingColumn"), false), (C "TooManyEdits", .ref (C "MissingColumn"), false), (C "TooManyRecords", .ref (C "MissingColumn"), false), (C "NoPlace", .ref (C "MissingColumn"), false), (C "MissingColumn", .ref (C "MissingColumn"), true), (C "LastRecord", .ref (C "MissingColumn"), false), (C "NothingToUndo", .ref (C "MissingColumn"), false)] = true
  kt_InvalidCommand : kitTab K [(C "InvalidPlaces", .ref (C "InvalidCommand"), false), (C "InvalidNumber", .ref (C "InvalidCommand"), false), (C "InvalidProgram", .ref (C "InvalidCommand"), false), (C "InvalidOrder", .ref (C "InvalidCommand"), false), (C "InvalidColumns", .ref (C "InvalidCommand"), false), (C "InvalidTable", .ref (C "InvalidCommand"), false), (C "InvalidCommand", .ref (C "InvalidCommand"), true), (C "InvalidEdit", .ref (C "InvalidCommand"), false), (C "InvalidValue", .ref (C "InvalidCommand"), false), (C "InvalidRecord", .ref (C "InvalidCommand"), false), (C "InvalidLimit", .ref (C "InvalidCommand"), false), (C "InvalidText", .ref (C "InvalidCommand"), false), (C "TooManyEdits", .ref (C "InvalidCommand"), false), (C "TooManyRecords", .ref (C "InvalidCommand"), false), (C "NoPlace", .ref (C "InvalidCommand"), false), (C "MissingColumn", .ref (C "InvalidCommand"), false), (C "LastRecord", .ref (C "InvalidCommand"), false), (C "NothingToUndo", .ref (C "InvalidCommand"), false)] = true
  kt_InvalidEdit : kitTab K [(C "InvalidPlaces", .ref (C "InvalidEdit"), false), (C "InvalidNumber", .ref (C "InvalidEdit"), false), (C "InvalidProgram", .ref (C "InvalidEdit"), false), (C "InvalidOrder", .ref (C "InvalidEdit"), false), (C "InvalidColumns", .ref (C "InvalidEdit"), false), (C "InvalidTable", .ref (C "InvalidEdit"), false), (C "InvalidCommand", .ref (C "InvalidEdit"), false), (C "InvalidEdit", .ref (C "InvalidEdit"), true), (C "InvalidValue", .ref (C "InvalidEdit"), false), (C "InvalidRecord", .ref (C "InvalidEdit"), false), (C "InvalidLimit", .ref (C "InvalidEdit"), false), (C "InvalidText", .ref (C "InvalidEdit"), false), (C "TooManyEdits", .ref (C "InvalidEdit"), false), (C "TooManyRecords", .ref (C "InvalidEdit"), false), (C "NoPlace", .ref (C "InvalidEdit"), false), (C "MissingColumn", .ref (C "InvalidEdit"), false), (C "LastRecord", .ref (C "InvalidEdit"), false), (C "NothingToUndo", .ref (C "InvalidEdit"), false)] = true
  kt_InvalidValue : kitTab K [(C "InvalidPlaces", .ref (C "InvalidValue"), false), (C "InvalidNumber", .ref (C "InvalidValue"), false), (C "InvalidProgram", .ref (C "InvalidValue"), false), (C "InvalidOrder", .ref (C "InvalidValue"), false), (C "InvalidColumns", .ref (C "InvalidValue"), false), (C "InvalidTable", .ref (C "InvalidValue"), false), (C "InvalidCommand", .ref (C "InvalidValue"), false), (C "InvalidEdit", .ref (C "InvalidValue"), false), (C "InvalidValue", .ref (C "InvalidValue"), true), (C "InvalidRecord", .ref (C "InvalidValue"), false), (C "InvalidLimit", .ref (C "InvalidValue"), false), (C "InvalidText", .ref (C "InvalidValue"), false), (C "TooManyEdits", .ref (C "InvalidValue"), false), (C "TooManyRecords", .ref (C "InvalidValue"), false), (C "NoPlace", .ref (C "InvalidValue"), false), (C "MissingColumn", .ref (C "InvalidValue"), false), (C "LastRecord", .ref (C "InvalidValue"), false), (C "NothingToUndo", .ref (C "InvalidValue"), false)] = true
  kt_InvalidRecord : kitTab K [(C "InvalidPlaces", .ref (C "InvalidRecord"), false), (C "InvalidNumber", .ref (C "InvalidRecord"), false), (C "InvalidProgram", .ref (C "InvalidRecord"), false), (C "InvalidOrder", .ref (C "InvalidRecord"), false), (C "InvalidColumns", .ref (C "InvalidRecord"), false), (C "InvalidTable", .ref (C "InvalidRecord"), false), (C "InvalidCommand", .ref (C "InvalidRecord"), false), (C "InvalidEdit", .ref (C "InvalidRecord"), false), (C "InvalidValue", .ref (C "InvalidRecord"), false), (C "InvalidRecord", .ref (C "InvalidRecord"), true), (C "InvalidLimit", .ref (C "InvalidRecord"), false), (C "InvalidText", .ref (C "InvalidRecord"), false), (C "TooManyEdits", .ref (C "InvalidRecord"), false), (C "TooManyRecords", .ref (C "InvalidRecord"), false), (C "NoPlace", .ref (C "InvalidRecord"), false), (C "MissingColumn", .ref (C "InvalidRecord"), false), (C "LastRecord", .ref (C "InvalidRecord"), false), (C "NothingToUndo", .ref (C "InvalidRecord"), false)] = true
  kt_InvalidLimit : kitTab K [(C "InvalidPlaces", .ref (C "InvalidLimit"), false), (C "InvalidNumber", .ref (C "InvalidLimit"), false), (C "InvalidProgram", .ref (C "InvalidLimit"), false), (C "InvalidOrder", .ref (C "InvalidLimit"), false), (C "InvalidColumns", .ref (C "InvalidLimit"), false), (C "InvalidTable", .ref (C "InvalidLimit"), false), (C "InvalidCommand", .ref (C "InvalidLimit"), false), (C "InvalidEdit", .ref (C "InvalidLimit"), false), (C "InvalidValue", .ref (C "InvalidLimit"), false), (C "InvalidRecord", .ref (C "InvalidLimit"), false), (C "InvalidLimit", .ref (C "InvalidLimit"), true), (C "InvalidText", .ref (C "InvalidLimit"), false), (C "TooManyEdits", .ref (C "InvalidLimit"), false), (C "TooManyRecords", .ref (C "InvalidLimit"), false), (C "NoPlace", .ref (C "InvalidLimit"), false), (C "MissingColumn", .ref (C "InvalidLimit"), false), (C "LastRecord", .ref (C "InvalidLimit"), false), (C "NothingToUndo", .ref (C "InvalidLimit"), false)] = true
  kt_InvalidText : kitTab K [(C "InvalidPlaces", .ref (C "InvalidText"), false), (C "InvalidNumber", .ref (C "InvalidText"), false), (C "InvalidProgram", .ref (C "InvalidText"), false), (C "InvalidOrder", .ref (C "InvalidText"), false), (C "InvalidColumns", .ref (C "InvalidText"), false), (C "InvalidTable", .ref (C "InvalidText"), false), (C "InvalidCommand", .ref (C "InvalidText"), false), (C "InvalidEdit", .ref (C "InvalidText"), false), (C "InvalidValue", .ref (C "InvalidText"), false), (C "InvalidRecord", .ref (C "InvalidText"), false), (C "InvalidLimit", .ref (C "InvalidText"), false), (C "InvalidText", .ref (C "InvalidText"), true), (C "TooManyEdits", .ref (C "InvalidText"), false), (C "TooManyRecords", .ref (C "InvalidText"), false), (C "NoPlace", .ref (C "InvalidText"), false), (C "MissingColumn", .ref (C "InvalidText"), false), (C "LastRecord", .ref (C "InvalidText"), false), (C "NothingToUndo", .ref (C "InvalidText"), false)] = true
  kt_InvalidPlaces : kitTab K [(C "InvalidPlaces", .ref (C "InvalidPlaces"), true), (C "InvalidNumber", .ref (C "InvalidPlaces"), false), (C "InvalidProgram", .ref (C "InvalidPlaces"), false), (C "InvalidOrder", .ref (C "InvalidPlaces"), false), (C "InvalidColumns", .ref (C "InvalidPlaces"), false), (C "InvalidTable", .ref (C "InvalidPlaces"), false), (C "InvalidCommand", .ref (C "InvalidPlaces"), false), (C "InvalidEdit", .ref (C "InvalidPlaces"), false), (C "InvalidValue", .ref (C "InvalidPlaces"), false), (C "InvalidRecord", .ref (C "InvalidPlaces"), false), (C "InvalidLimit", .ref (C "InvalidPlaces"), false), (C "InvalidText", .ref (C "InvalidPlaces"), false), (C "TooManyEdits", .ref (C "InvalidPlaces"), false), (C "TooManyRecords", .ref (C "InvalidPlaces"), false), (C "NoPlace", .ref (C "InvalidPlaces"), false), (C "MissingColumn", .ref (C "InvalidPlaces"), false), (C "LastRecord", .ref (C "InvalidPlaces"), false), (C "NothingToUndo", .ref (C "InvalidPlaces"), false)] = true
  kt_InvalidNumber : kitTab K [(C "InvalidPlaces", .ref (C "InvalidNumber"), false), (C "InvalidNumber", .ref (C "InvalidNumber"), true), (C "InvalidProgram", .ref (C "InvalidNumber"), false), (C "InvalidOrder", .ref (C "InvalidNumber"), false), (C "InvalidColumns", .ref (C "InvalidNumber"), false), (C "InvalidTable", .ref (C "InvalidNumber"), false), (C "InvalidCommand", .ref (C "InvalidNumber"), false), (C "InvalidEdit", .ref (C "InvalidNumber"), false), (C "InvalidValue", .ref (C "InvalidNumber"), false), (C "InvalidRecord", .ref (C "InvalidNumber"), false), (C "InvalidLimit", .ref (C "InvalidNumber"), false), (C "InvalidText", .ref (C "InvalidNumber"), false), (C "TooManyEdits", .ref (C "InvalidNumber"), false), (C "TooManyRecords", .ref (C "InvalidNumber"), false), (C "NoPlace", .ref (C "InvalidNumber"), false), (C "MissingColumn", .ref (C "InvalidNumber"), false), (C "LastRecord", .ref (C "InvalidNumber"), false), (C "NothingToUndo", .ref (C "InvalidNumber"), false)] = true
  kt_InvalidProgram : kitTab K [(C "InvalidPlaces", .ref (C "InvalidProgram"), false), (C "InvalidNumber", .ref (C "InvalidProgram"), false), (C "InvalidProgram", .ref (C "InvalidProgram"), true), (C "InvalidOrder", .ref (C "InvalidProgram"), false), (C "InvalidColumns", .ref (C "InvalidProgram"), false), (C "InvalidTable", .ref (C "InvalidProgram"), false), (C "InvalidCommand", .ref (C "InvalidProgram"), false), (C "InvalidEdit", .ref (C "InvalidProgram"), false), (C "InvalidValue", .ref (C "InvalidProgram"), false), (C "InvalidRecord", .ref (C "InvalidProgram"), false), (C "InvalidLimit", .ref (C "InvalidProgram"), false), (C "InvalidText", .ref (C "InvalidProgram"), false), (C "TooManyEdits", .ref (C "InvalidProgram"), false), (C "TooManyRecords", .ref (C "InvalidProgram"), false), (C "NoPlace", .ref (C "InvalidProgram"), false), (C "MissingColumn", .ref (C "InvalidProgram"), false), (C "LastRecord", .ref (C "InvalidProgram"), false), (C "NothingToUndo", .ref (C "InvalidProgram"), false)] = true
  kt_InvalidOrder : kitTab K [(C "InvalidPlaces", .ref (C "InvalidOrder"), false), (C "InvalidNumber", .ref (C "InvalidOrder"), false), (C "InvalidProgram", .ref (C "InvalidOrder"), false), (C "InvalidOrder", .ref (C "InvalidOrder"), true), (C "InvalidColumns", .ref (C "InvalidOrder"), false), (C "InvalidTable", .ref (C "InvalidOrder"), false), (C "InvalidCommand", .ref (C "InvalidOrder"), false), (C "InvalidEdit", .ref (C "InvalidOrder"), false), (C "InvalidValue", .ref (C "InvalidOrder"), false), (C "InvalidRecord", .ref (C "InvalidOrder"), false), (C "InvalidLimit", .ref (C "InvalidOrder"), false), (C "InvalidText", .ref (C "InvalidOrder"), false), (C "TooManyEdits", .ref (C "InvalidOrder"), false), (C "TooManyRecords", .ref (C "InvalidOrder"), false), (C "NoPlace", .ref (C "InvalidOrder"), false), (C "MissingColumn", .ref (C "InvalidOrder"), false), (C "LastRecord", .ref (C "InvalidOrder"), false), (C "NothingToUndo", .ref (C "InvalidOrder"), false)] = true
  kt_InvalidColumns : kitTab K [(C "InvalidPlaces", .ref (C "InvalidColumns"), false), (C "InvalidNumber", .ref (C "InvalidColumns"), false), (C "InvalidProgram", .ref (C "InvalidColumns"), false), (C "InvalidOrder", .ref (C "InvalidColumns"), false), (C "InvalidColumns", .ref (C "InvalidColumns"), true), (C "InvalidTable", .ref (C "InvalidColumns"), false), (C "InvalidCommand", .ref (C "InvalidColumns"), false), (C "InvalidEdit", .ref (C "InvalidColumns"), false), (C "InvalidValue", .ref (C "InvalidColumns"), false), (C "InvalidRecord", .ref (C "InvalidColumns"), false), (C "InvalidLimit", .ref (C "InvalidColumns"), false), (C "InvalidText", .ref (C "InvalidColumns"), false), (C "TooManyEdits", .ref (C "InvalidColumns"), false), (C "TooManyRecords", .ref (C "InvalidColumns"), false), (C "NoPlace", .ref (C "InvalidColumns"), false), (C "MissingColumn", .ref (C "InvalidColumns"), false), (C "LastRecord", .ref (C "InvalidColumns"), false), (C "NothingToUndo", .ref (C "InvalidColumns"), false)] = true
  kt_InvalidTable : kitTab K [(C "InvalidPlaces", .ref (C "InvalidTable"), false), (C "InvalidNumber", .ref (C "InvalidTable"), false), (C "InvalidProgram", .ref (C "InvalidTable"), false), (C "InvalidOrder", .ref (C "InvalidTable"), false), (C "InvalidColumns", .ref (C "InvalidTable"), false), (C "InvalidTable", .ref (C "InvalidTable"), true), (C "InvalidCommand", .ref (C "InvalidTable"), false), (C "InvalidEdit", .ref (C "InvalidTable"), false), (C "InvalidValue", .ref (C "InvalidTable"), false), (C "InvalidRecord", .ref (C "InvalidTable"), false), (C "InvalidLimit", .ref (C "InvalidTable"), false), (C "InvalidText", .ref (C "InvalidTable"), false), (C "TooManyEdits", .ref (C "InvalidTable"), false), (C "TooManyRecords", .ref (C "InvalidTable"), false), (C "NoPlace", .ref (C "InvalidTable"), false), (C "MissingColumn", .ref (C "InvalidTable"), false), (C "LastRecord", .ref (C "InvalidTable"), false), (C "NothingToUndo", .ref (C "InvalidTable"), false)] = true
  kt_OverflowError : kitTab K [(C "InvalidPlaces", .type "OverflowError", false), (C "InvalidNumber", .type "OverflowError", false), (C "InvalidProgram", .type "OverflowError", false), (C "InvalidOrder", .type "OverflowError", false), (C "InvalidColumns", .type "OverflowError", false), (C "InvalidTable", .type "OverflowError", false), (C "InvalidCommand", .type "OverflowError", false), (C "InvalidEdit", .type "OverflowError", false), (C "InvalidValue", .type "OverflowError", false), (C "InvalidRecord", .type "OverflowError", false), (C "InvalidLimit", .type "OverflowError", false), (C "InvalidText", .type "OverflowError", false), (C "TooManyEdits", .type "OverflowError", false), (C "TooManyRecords", .type "OverflowError", false), (C "NoPlace", .type "OverflowError", false), (C "MissingColumn", .type "OverflowError", false), (C "LastRecord", .type "OverflowError", false), (C "NothingToUndo", .type "OverflowError", false)] = true
  kt_ZeroDivisionError : kitTab K [(C "InvalidPlaces", .type "ZeroDivisionError", false), (C "InvalidNumber", .type "ZeroDivisionError", false), (C "InvalidProgram", .type "ZeroDivisionError", false), (C "InvalidOrder", .type "ZeroDivisionError", false), (C "InvalidColumns", .type "ZeroDivisionError", false), (C "InvalidTable", .type "ZeroDivisionError", false), (C "InvalidCommand", .type "ZeroDivisionError", false), (C "InvalidEdit", .type "ZeroDivisionError", false), (C "InvalidValue", .type "ZeroDivisionError", false), (C "InvalidRecord", .type "ZeroDivisionError", false), (C "InvalidLimit", .type "ZeroDivisionError", false), (C "InvalidText", .type "ZeroDivisionError", false), (C "TooManyEdits", .type "ZeroDivisionError", false), (C "TooManyRecords", .type "ZeroDivisionError", false), (C "NoPlace", .type "ZeroDivisionError", false), (C "MissingColumn", .type "ZeroDivisionError", false), (C "LastRecord", .type "ZeroDivisionError", false), (C "NothingToUndo", .type "ZeroDivisionError", false)] = true
  kt_KeyError : kitTab K [(C "InvalidPlaces", .type "KeyError", false), (C "InvalidNumber", .type "KeyError", false), (C "InvalidProgram", .type "KeyError", false), (C "InvalidOrder", .type "KeyError", false), (C "InvalidColumns", .type "KeyError", false), (C "InvalidTable", .type "KeyError", false), (C "InvalidCommand", .type "KeyError", false), (C "InvalidEdit", .type "KeyError", false), (C "InvalidValue", .type "KeyError", false), (C "InvalidRecord", .type "KeyError", false), (C "InvalidLimit", .type "KeyError", false), (C "InvalidText", .type "KeyError", false), (C "TooManyEdits", .type "KeyError", false), (C "TooManyRecords", .type "KeyError", false), (C "NoPlace", .type "KeyError", false), (C "MissingColumn", .type "KeyError", false), (C "LastRecord", .type "KeyError", false), (C "NothingToUndo", .type "KeyError", false)] = true
  kt_IndexError : kitTab K [(C "InvalidPlaces", .type "IndexError", false), (C "InvalidNumber", .type "IndexError", false), (C "InvalidProgram", .type "IndexError", false), (C "InvalidOrder", .type "IndexError", false), (C "InvalidColumns", .type "IndexError", false), (C "InvalidTable", .type "IndexError", false), (C "InvalidCommand", .type "IndexError", false), (C "InvalidEdit", .type "IndexError", false), (C "InvalidValue", .type "IndexError", false), (C "InvalidRecord", .type "IndexError", false), (C "InvalidLimit", .type "IndexError", false), (C "InvalidText", .type "IndexError", false), (C "TooManyEdits", .type "IndexError", false), (C "TooManyRecords", .type "IndexError", false), (C "NoPlace", .type "IndexError", false), (C "MissingColumn", .type "IndexError", false), (C "LastRecord", .type "IndexError", false), (C "NothingToUndo", .type "IndexError", false)] = true
  x0_LastRecord : PySem.W.excIn K (C "LastRecord") [.type "ArithmeticError", .type "Exception", .type "BaseException", .type "object"] "ArithmeticError.__new__" = true
  xk0_LastRecord : PySem.W.keepIn K (.ref (C "LastRecord")) = true
  xe0_LastRecord : PySem.W.subIn K (.ref (C "LastRecord")) (.type "BaseException") = some true
  xy0_LastRecord : PySem.W.typeIn K (.ref (C "LastRecord")) = some (.type "type")
  x0_NothingToUndo : PySem.W.excIn K (C "NothingToUndo") [.type "LookupError", .type "Exception", .type "BaseException", .type "object"] "LookupError.__new__" = true
  xk0_NothingToUndo : PySem.W.keepIn K (.ref (C "NothingToUndo")) = true
  xe0_NothingToUndo : PySem.W.subIn K (.ref (C "NothingToUndo")) (.type "BaseException") = some true
  xy0_NothingToUndo : PySem.W.typeIn K (.ref (C "NothingToUndo")) = some (.type "type")
section
variable {P : Program} {w : World} {K : PySem.W.Frag} {mg : Str → Option Value} {base : Heap}
theorem xsc_InvalidPlaces : FnScope ["self", "index"] ["self", "index"] (defScope (inS 7 0)) := ⟨rfl, rfl, rfl, by decide +kernel, rfl, by decide +kernel, by decide +kernel⟩
theorem xo_InvalidPlaces (T : Tx Lab.T K mg base w) : FnOk P w K mg base CX0 1 (T.FI "InvalidPlaces") (T.FDI "InvalidPlaces") ["self", "index"] (spI (T.C "InvalidPlaces") "index") := init_ok T.xD_InvalidPlaces xsc_InvalidPlaces T.x_InvalidPlaces T.xn_InvalidPlaces rfl (Or.inl rfl) (Or.inl rfl) (by decide) (by decide)
theorem xb_InvalidPlaces (T : Tx Lab.T K mg base w) : Binds K (T.FDI "InvalidPlaces") ["self", "index"] [] := T.xD_InvalidPlaces.binds fun _ _ _ _ _ _ us hl => match us, hl with | [_, _], _ => rfl
theorem xsc_InvalidNumber : FnScope ["self", "number"] ["self", "number"] (defScope (inS 6 0)) := ⟨rfl, rfl, rfl, by decide +kernel, rfl, by decide +kernel, by decide +kernel⟩
theorem xo_InvalidNumber (T : Tx Lab.T K mg base w) : FnOk P w K mg base CX0 1 (T.FI "InvalidNumber") (T.FDI "InvalidNumber") ["self", "number"] (spI (T.C "InvalidNumber") "number") := init_ok T.xD_InvalidNumber xsc_InvalidNumber T.x_InvalidNumber T.xn_InvalidNumber rfl (Or.inl rfl) (Or.inl rfl) (by decide) (by decide)
theorem xb_InvalidNumber (T : Tx Lab.T K mg base w) : Binds K (T.FDI "InvalidNumber") ["self", "number"] [] := T.xD_InvalidNumber.binds fun _ _ _ _ _ _ us hl => match us, hl with | [_, _], _ => rfl
theorem xsc_InvalidProgram : FnScope ["self", "index"] ["self", "index"] (defScope (inS 5 0)) := ⟨rfl, rfl, rfl, by decide +kernel, rfl, by decide +kernel, by decide +kernel⟩
theorem xo_InvalidProgram (T : Tx Lab.T K mg base w) : FnOk P w K mg base CX0 1 (T.FI "InvalidProgram") (T.FDI "InvalidProgram") ["self", "index"] (spI (T.C "InvalidProgram") "index") := init_ok T.xD_InvalidProgram xsc_InvalidProgram T.x_InvalidProgram T.xn_InvalidProgram rfl (Or.inl rfl) (Or.inl rfl) (by decide) (by decide)
theorem xb_InvalidProgram (T : Tx Lab.T K mg base w) : Binds K (T.FDI "InvalidProgram") ["self", "index"] [] := T.xD_InvalidProgram.binds fun _ _ _ _ _ _ us hl => match us, hl with | [_, _], _ => rfl
theorem xsc_InvalidOrder : FnScope ["self", "index"] ["self", "index"] (defScope (inS 4 0)) := ⟨rfl, rfl, rfl, by decide +kernel, rfl, by decide +kernel, by decide +kernel⟩
theorem xo_InvalidOrder (T : Tx Lab.T K mg base w) : FnOk P w K mg base CX0 1 (T.FI "InvalidOrder") (T.FDI "InvalidOrder") ["self", "index"] (spI (T.C "InvalidOrder") "index") := init_ok T.xD_InvalidOrder xsc_InvalidOrder T.x_InvalidOrder T.xn_InvalidOrder rfl (Or.inl rfl) (Or.inl rfl) (by decide) (by decide)
theorem xb_InvalidOrder (T : Tx Lab.T K mg base w) : Binds K (T.FDI "InvalidOrder") ["self", "index"] [] := T.xD_InvalidOrder.binds fun _ _ _ _ _ _ us hl => match us, hl with | [_, _], _ => rfl
theorem xsc_InvalidColumns : FnScope ["self", "columns"] ["self", "columns"] (defScope (inS 3 0)) := ⟨rfl, rfl, rfl, by decide +kernel, rfl, by decide +kernel, by decide +kernel⟩
theorem xo_InvalidColumns (T : Tx Lab.T K mg base w) : FnOk P w K mg base CX0 1 (T.FI "InvalidColumns") (T.FDI "InvalidColumns") ["self", "columns"] (spI (T.C "InvalidColumns") "columns") := init_ok T.xD_InvalidColumns xsc_InvalidColumns T.x_InvalidColumns T.xn_InvalidColumns rfl (Or.inl rfl) (Or.inl rfl) (by decide) (by decide)
theorem xb_InvalidColumns (T : Tx Lab.T K mg base w) : Binds K (T.FDI "InvalidColumns") ["self", "columns"] [] := T.xD_InvalidColumns.binds fun _ _ _ _ _ _ us hl => match us, hl with | [_, _], _ => rfl
theorem xsc_InvalidTable : FnScope ["self", "index"] ["self", "index"] (defScope (inS 2 0)) := ⟨rfl, rfl, rfl, by decide +kernel, rfl, by decide +kernel, by decide +kernel⟩
theorem xo_InvalidTable (T : Tx Lab.T K mg base w) : FnOk P w K mg base CX0 1 (T.FI "InvalidTable") (T.FDI "InvalidTable") ["self", "index"] (spI (T.C "InvalidTable") "index") := init_ok T.xD_InvalidTable xsc_InvalidTable T.x_InvalidTable T.xn_InvalidTable rfl (Or.inl rfl) (Or.inl rfl) (by decide) (by decide)
theorem xb_InvalidTable (T : Tx Lab.T K mg base w) : Binds K (T.FDI "InvalidTable") ["self", "index"] [] := T.xD_InvalidTable.binds fun _ _ _ _ _ _ us hl => match us, hl with | [_, _], _ => rfl
theorem xsc_InvalidCommand : FnScope ["self", "line"] ["self", "line"] (defScope (inS 13 0)) := ⟨rfl, rfl, rfl, by decide +kernel, rfl, by decide +kernel, by decide +kernel⟩
theorem xo_InvalidCommand (T : Tx Lab.T K mg base w) : FnOk P w K mg base CX0 1 (T.FI "InvalidCommand") (T.FDI "InvalidCommand") ["self", "line"] (spI (T.C "InvalidCommand") "line") := init_ok T.xD_InvalidCommand xsc_InvalidCommand T.x_InvalidCommand T.xn_InvalidCommand rfl (Or.inl rfl) (Or.inl rfl) (by decide) (by decide)
theorem xb_InvalidCommand (T : Tx Lab.T K mg base w) : Binds K (T.FDI "InvalidCommand") ["self", "line"] [] := T.xD_InvalidCommand.binds fun _ _ _ _ _ _ us hl => match us, hl with | [_, _], _ => rfl
theorem xsc_InvalidEdit : FnScope ["self", "index"] ["self", "index"] (defScope (inS 12 0)) := ⟨rfl, rfl, rfl, by decide +kernel, rfl, by decide +kernel, by decide +kernel⟩
theorem xo_InvalidEdit (T : Tx Lab.T K mg base w) : FnOk P w K mg base CX0 1 (T.FI "InvalidEdit") (T.FDI "InvalidEdit") ["self", "index"] (spI (T.C "InvalidEdit") "index") := init_ok T.xD_InvalidEdit xsc_InvalidEdit T.x_InvalidEdit T.xn_InvalidEdit rfl (Or.inl rfl) (Or.inl rfl) (by decide) (by decide)
theorem xb_InvalidEdit (T : Tx Lab.T K mg base w) : Binds K (T.FDI "InvalidEdit") ["self", "index"] [] := T.xD_InvalidEdit.binds fun _ _ _ _ _ _ us hl => match us, hl with | [_, _], _ => rfl
theorem xsc_InvalidValue : FnScope ["self", "value"] ["self", "value"] (defScope (inS 11 0)) := ⟨rfl, rfl, rfl, by decide +kernel, rfl, by decide +kernel, by decide +kernel⟩
theorem xo_InvalidValue (T : Tx Lab.T K mg base w) : FnOk P w K mg base CX0 1 (T.FI "InvalidValue") (T.FDI "InvalidValue") ["self", "value"] (spI (T.C "InvalidValue") "value") := init_ok T.xD_InvalidValue xsc_InvalidValue T.x_InvalidValue T.xn_InvalidValue rfl (Or.inl rfl) (Or.inl rfl) (by decide) (by decide)
theorem xb_InvalidValue (T : Tx Lab.T K mg base w) : Binds K (T.FDI "InvalidValue") ["self", "value"] [] := T.xD_InvalidValue.binds fun _ _ _ _ _ _ us hl => match us, hl with | [_, _], _ => rfl
theorem xsc_InvalidRecord : FnScope ["self", "record"] ["self", "record"] (defScope (inS 10 0)) := ⟨rfl, rfl, rfl, by decide +kernel, rfl, by decide +kernel, by decide +kernel⟩
theorem xo_InvalidRecord (T : Tx Lab.T K mg base w) : FnOk P w K mg base CX0 1 (T.FI "InvalidRecord") (T.FDI "InvalidRecord") ["self", "record"] (spI (T.C "InvalidRecord") "record") := init_ok T.xD_InvalidRecord xsc_InvalidRecord T.x_InvalidRecord T.xn_InvalidRecord rfl (Or.inl rfl) (Or.inl rfl) (by decide) (by decide)
theorem xb_InvalidRecord (T : Tx Lab.T K mg base w) : Binds K (T.FDI "InvalidRecord") ["self", "record"] [] := T.xD_InvalidRecord.binds fun _ _ _ _ _ _ us hl => match us, hl with | [_, _], _ => rfl
theorem xsc_InvalidLimit : FnScope ["self", "value"] ["self", "value"] (defScope (inS 9 0)) := ⟨rfl, rfl, rfl, by decide +kernel, rfl, by decide +kernel, by decide +kernel⟩
theorem xo_InvalidLimit (T : Tx Lab.T K mg base w) : FnOk P w K mg base CX0 1 (T.FI "InvalidLimit") (T.FDI "InvalidLimit") ["self", "value"] (spI (T.C "InvalidLimit") "value") := init_ok T.xD_InvalidLimit xsc_InvalidLimit T.x_InvalidLimit T.xn_InvalidLimit rfl (Or.inl rfl) (Or.inl rfl) (by decide) (by decide)
theorem xb_InvalidLimit (T : Tx Lab.T K mg base w) : Binds K (T.FDI "InvalidLimit") ["self", "value"] [] := T.xD_InvalidLimit.binds fun _ _ _ _ _ _ us hl => match us, hl with | [_, _], _ => rfl
theorem xsc_InvalidText : FnScope ["self", "text"] ["self", "text"] (defScope (inS 8 0)) := ⟨rfl, rfl, rfl, by decide +kernel, rfl, by decide +kernel, by decide +kernel⟩
theorem xo_InvalidText (T : Tx Lab.T K mg base w) : FnOk P w K mg base CX0 1 (T.FI "InvalidText") (T.FDI "InvalidText") ["self", "text"] (spI (T.C "InvalidText") "text") := init_ok T.xD_InvalidText xsc_InvalidText T.x_InvalidText T.xn_InvalidText rfl (Or.inl rfl) (Or.inl rfl) (by decide) (by decide)
theorem xb_InvalidText (T : Tx Lab.T K mg base w) : Binds K (T.FDI "InvalidText") ["self", "text"] [] := T.xD_InvalidText.binds fun _ _ _ _ _ _ us hl => match us, hl with | [_, _], _ => rfl
theorem xsc_TooManyEdits : FnScope ["self", "count"] ["self", "count"] (defScope (inS 20 0)) := ⟨rfl, rfl, rfl, by decide +kernel, rfl, by decide +kernel, by decide +kernel⟩
theorem xo_TooManyEdits (T : Tx Lab.T K mg base w) : FnOk P w K mg base CX0 1 (T.FI "TooManyEdits") (T.FDI "TooManyEdits") ["self", "count"] (spI (T.C "TooManyEdits") "count") := init_okA T.xD_TooManyEdits xsc_TooManyEdits T.x_TooManyEdits T.xn_TooManyEdits rfl (Or.inl rfl) (Or.inl rfl) (by decide) (by decide)
theorem xb_TooManyEdits (T : Tx Lab.T K mg base w) : Binds K (T.FDI "TooManyEdits") ["self", "count"] [] := T.xD_TooManyEdits.binds fun _ _ _ _ _ _ us hl => match us, hl with | [_, _], _ => rfl
theorem xsc_TooManyRecords : FnScope ["self", "count"] ["self", "count"] (defScope (inS 19 0)) := ⟨rfl, rfl, rfl, by decide +kernel, rfl, by decide +kernel, by decide +kernel⟩
theorem xo_TooManyRecords (T : Tx Lab.T K mg base w) : FnOk P w K mg base CX0 1 (T.FI "TooManyRecords") (T.FDI "TooManyRecords") ["self", "count"] (spI (T.C "TooManyRecords") "count") := init_okA T.xD_TooManyRecords xsc_TooManyRecords T.x_TooManyRecords T.xn_TooManyRecords rfl (Or.inl rfl) (Or.inl rfl) (by decide) (by decide)
theorem xb_TooManyRecords (T : Tx Lab.T K mg base w) : Binds K (T.FDI "TooManyRecords") ["self", "count"] [] := T.xD_TooManyRecords.binds fun _ _ _ _ _ _ us hl => match us, hl with | [_, _], _ => rfl
theorem xsc_NoPlace : FnScope ["self", "place"] ["self", "place"] (defScope (inS 16 0)) := ⟨rfl, rfl, rfl, by decide +kernel, rfl, by decide +kernel, by decide +kernel⟩
theorem xo_NoPlace (T : Tx Lab.T K mg base w) : FnOk P w K mg base CX0 1 (T.FI "NoPlace") (T.FDI "NoPlace") ["self", "place"] (spI (T.C "NoPlace") "place") := init_okL T.xD_NoPlace xsc_NoPlace T.x_NoPlace T.xn_NoPlace rfl (Or.inl rfl) (Or.inl rfl) (by decide) (by decide)
theorem xb_NoPlace (T : Tx Lab.T K mg base w) : Binds K (T.FDI "NoPlace") ["self", "place"] [] := T.xD_NoPlace.binds fun _ _ _ _ _ _ us hl => match us, hl with | [_, _], _ => rfl
theorem xsc_MissingColumn : FnScope ["self", "column"] ["self", "column"] (defScope (inS 15 0)) := ⟨rfl, rfl, rfl, by decide +kernel, rfl, by decide +kernel, by decide +kernel⟩
theorem xo_MissingColumn (T : Tx Lab.T K mg base w) : FnOk P w K mg base CX0 1 (T.FI "MissingColumn") (T.FDI "MissingColumn") ["self", "column"] (spI (T.C "MissingColumn") "column") := init_okL T.xD_MissingColumn xsc_MissingColumn T.x_MissingColumn T.xn_MissingColumn rfl (Or.inl rfl) (Or.inl rfl) (by decide) (by decide)
theorem xb_MissingColumn (T : Tx Lab.T K mg base w) : Binds K (T.FDI "MissingColumn") ["self", "column"] [] := T.xD_MissingColumn.binds fun _ _ _ _ _ _ us hl => match us, hl with | [_, _], _ => rfl
theorem xkx_InvalidPlaces (T : Tx Lab.T K mg base w) : KEx K (LabW.C "InvalidPlaces") := by rw [← T.hC]; exact kexB_ok T.kx_InvalidPlaces
theorem xkx_InvalidNumber (T : Tx Lab.T K mg base w) : KEx K (LabW.C "InvalidNumber") := by rw [← T.hC]; exact kexB_ok T.kx_InvalidNumber
theorem xkx_InvalidProgram (T : Tx Lab.T K mg base w) : KEx K (LabW.C "InvalidProgram") := by rw [← T.hC]; exact kexB_ok T.kx_InvalidProgram
theorem xkx_InvalidOrder (T : Tx Lab.T K mg base w) : KEx K (LabW.C "InvalidOrder") := by rw [← T.hC]; exact kexB_ok T.kx_InvalidOrder
theorem xkx_InvalidColumns (T : Tx Lab.T K mg base w) : KEx K (LabW.C "InvalidColumns") := by rw [← T.hC]; exact kexB_ok T.kx_InvalidColumns
theorem xkx_InvalidTable (T : Tx Lab.T K mg base w) : KEx K (LabW.C "InvalidTable") := by rw [← T.hC]; exact kexB_ok T.kx_InvalidTable
theorem xkx_InvalidCommand (T : Tx Lab.T K mg base w) : KEx K (LabW.C "InvalidCommand") := by rw [← T.hC]; exact kexB_ok T.kx_InvalidCommand
theorem xkx_InvalidEdit (T : Tx Lab.T K mg base w) : KEx K (LabW.C "InvalidEdit") := by rw [← T.hC]; exact kexB_ok T.kx_InvalidEdit
theorem xkx_InvalidValue (T : Tx Lab.T K mg base w) : KEx K (LabW.C "InvalidValue") := by rw [← T.hC]; exact kexB_ok T.kx_InvalidValue
theorem xkx_InvalidRecord (T : Tx Lab.T K mg base w) : KEx K (LabW.C "InvalidRecord") := by rw [← T.hC]; exact kexB_ok T.kx_InvalidRecord
theorem xkx_InvalidLimit (T : Tx Lab.T K mg base w) : KEx K (LabW.C "InvalidLimit") := by rw [← T.hC]; exact kexB_ok T.kx_InvalidLimit
theorem xkx_InvalidText (T : Tx Lab.T K mg base w) : KEx K (LabW.C "InvalidText") := by rw [← T.hC]; exact kexB_ok T.kx_InvalidText
theorem xkx_TooManyEdits (T : Tx Lab.T K mg base w) : KEx K (LabW.C "TooManyEdits") := by rw [← T.hC]; exact kexB_ok T.kx_TooManyEdits
theorem xkx_TooManyRecords (T : Tx Lab.T K mg base w) : KEx K (LabW.C "TooManyRecords") := by rw [← T.hC]; exact kexB_ok T.kx_TooManyRecords
theorem xkx_NoPlace (T : Tx Lab.T K mg base w) : KEx K (LabW.C "NoPlace") := by rw [← T.hC]; exact kexB_ok T.kx_NoPlace
theorem xkx_MissingColumn (T : Tx Lab.T K mg base w) : KEx K (LabW.C "MissingColumn") := by rw [← T.hC]; exact kexB_ok T.kx_MissingColumn
theorem xkx_LastRecord (T : Tx Lab.T K mg base w) : KEx K (LabW.C "LastRecord") := by rw [← T.hC]; exact kexB_ok T.kx_LastRecord
theorem xkx_NothingToUndo (T : Tx Lab.T K mg base w) : KEx K (LabW.C "NothingToUndo") := by rw [← T.hC]; exact kexB_ok T.kx_NothingToUndo
theorem xhn_InvalidPlaces (T : Tx Lab.T K mg base w) : PySem.W.findIn K (.ref (LabW.C "InvalidPlaces")) "index" = some none := by rw [← T.hC]; exact T.xn_InvalidPlaces
theorem xbk_InvalidPlaces (T : Tx Lab.T K mg base w) (s : Shared) (a w : Value) : BindsTo s (T.FDI "InvalidPlaces") ⟨[a], [("index", w)]⟩ [("self", a), ("index", w)] := by
  obtain ⟨oc, od, kV, doc, pm, an, cdv, ct, osl, e, _, _⟩ := T.xD_InvalidPlaces.ex
  rw [e]
  exact .of_eq rfl
theorem xhn_InvalidNumber (T : Tx Lab.T K mg base w) : PySem.W.findIn K (.ref (LabW.C "InvalidNumber")) "number" = some none := by rw [← T.hC]; exact T.xn_InvalidNumber
theorem xbk_InvalidNumber (T : Tx Lab.T K mg base w) (s : Shared) (a w : Value) : BindsTo s (T.FDI "InvalidNumber") ⟨[a], [("number", w)]⟩ [("self", a), ("number", w)] := by
  obtain ⟨oc, od, kV, doc, pm, an, cdv, ct, osl, e, _, _⟩ := T.xD_InvalidNumber.ex
  rw [e]
  exact .of_eq rfl
theorem xhn_InvalidProgram (T : Tx Lab.T K mg base w) : PySem.W.findIn K (.ref (LabW.C "InvalidProgram")) "index" = some none := by rw [← T.hC]; exact T.xn_InvalidProgram
theorem xbk_InvalidProgram (T : Tx Lab.T K mg base w) (s : Shared) (a w : Value) : BindsTo s (T.FDI "InvalidProgram") ⟨[a], [("index", w)]⟩ [("self", a), ("index", w)] := by
  obtain ⟨oc, od, kV, doc, pm, an, cdv, ct, osl, e, _, _⟩ := T.xD_InvalidProgram.ex
  rw [e]
  exact .of_eq rfl
theorem xhn_InvalidOrder (T : Tx Lab.T K mg base w) : PySem.W.findIn K (.ref (LabW.C "InvalidOrder")) "index" = some none := by rw [← T.hC]; exact T.xn_InvalidOrder
theorem xbk_InvalidOrder (T : Tx Lab.T K mg base w) (s : Shared) (a w : Value) : BindsTo s (T.FDI "InvalidOrder") ⟨[a], [("index", w)]⟩ [("self", a), ("index", w)] := by
  obtain ⟨oc, od, kV, doc, pm, an, cdv, ct, osl, e, _, _⟩ := T.xD_InvalidOrder.ex
  rw [e]
  exact .of_eq rfl
theorem xhn_InvalidColumns (T : Tx Lab.T K mg base w) : PySem.W.findIn K (.ref (LabW.C "InvalidColumns")) "columns" = some none := by rw [← T.hC]; exact T.xn_InvalidColumns
theorem xbk_InvalidColumns (T : Tx Lab.T K mg base w) (s : Shared) (a w : Value) : BindsTo s (T.FDI "InvalidColumns") ⟨[a], [("columns", w)]⟩ [("self", a), ("columns", w)] := by
  obtain ⟨oc, od, kV, doc, pm, an, cdv, ct, osl, e, _, _⟩ := T.xD_InvalidColumns.ex
  rw [e]
  exact .of_eq rfl
theorem xhn_InvalidTable (T : Tx Lab.T K mg base w) : PySem.W.findIn K (.ref (LabW.C "InvalidTable")) "index" = some none := by rw [← T.hC]; exact T.xn_InvalidTable
theorem xbk_InvalidTable (T : Tx Lab.T K mg base w) (s : Shared) (a w : Value) : BindsTo s (T.FDI "InvalidTable") ⟨[a], [("index", w)]⟩ [("self", a), ("index", w)] := by
  obtain ⟨oc, od, kV, doc, pm, an, cdv, ct, osl, e, _, _⟩ := T.xD_InvalidTable.ex
  rw [e]
  exact .of_eq rfl
theorem xhn_InvalidCommand (T : Tx Lab.T K mg base w) : PySem.W.findIn K (.ref (LabW.C "InvalidCommand")) "line" = some none := by rw [← T.hC]; exact T.xn_InvalidCommand
theorem xbk_InvalidCommand (T : Tx Lab.T K mg base w) (s : Shared) (a w : Value) : BindsTo s (T.FDI "InvalidCommand") ⟨[a], [("line", w)]⟩ [("self", a), ("line", w)] := by
  obtain ⟨oc, od, kV, doc, pm, an, cdv, ct, osl, e, _, _⟩ := T.xD_InvalidCommand.ex
  rw [e]
  exact .of_eq rfl
theorem xhn_InvalidEdit (T : Tx Lab.T K mg base w) : PySem.W.findIn K (.ref (LabW.C "InvalidEdit")) "index" = some none := by rw [← T.hC]; exact T.xn_InvalidEdit
theorem xbk_InvalidEdit (T : Tx Lab.T K mg base w) (s : Shared) (a w : Value) : BindsTo s (T.FDI "InvalidEdit") ⟨[a], [("index", w)]⟩ [("self", a), ("index", w)] := by
  obtain ⟨oc, od, kV, doc, pm, an, cdv, ct, osl, e, _, _⟩ := T.xD_InvalidEdit.ex
  rw [e]
  exact .of_eq rfl
theorem xhn_InvalidValue (T : Tx Lab.T K mg base w) : PySem.W.findIn K (.ref (LabW.C "InvalidValue")) "value" = some none := by rw [← T.hC]; exact T.xn_InvalidValue
theorem xbk_InvalidValue (T : Tx Lab.T K mg base w) (s : Shared) (a w : Value) : BindsTo s (T.FDI "InvalidValue") ⟨[a], [("value", w)]⟩ [("self", a), ("value", w)] := by
  obtain ⟨oc, od, kV, doc, pm, an, cdv, ct, osl, e, _, _⟩ := T.xD_InvalidValue.ex
  rw [e]
  exact .of_eq rfl
theorem xhn_InvalidRecord (T : Tx Lab.T K mg base w) : PySem.W.findIn K (.ref (LabW.C "InvalidRecord")) "record" = some none := by rw [← T.hC]; exact T.xn_InvalidRecord
theorem xbk_InvalidRecord (T : Tx Lab.T K mg base w) (s : Shared) (a w : Value) : BindsTo s (T.FDI "InvalidRecord") ⟨[a], [("record", w)]⟩ [("self", a), ("record", w)] := by
  obtain ⟨oc, od, kV, doc, pm, an, cdv, ct, osl, e, _, _⟩ := T.xD_InvalidRecord.ex
  rw [e]
  exact .of_eq rfl
theorem xhn_InvalidLimit (T : Tx Lab.T K mg base w) : PySem.W.findIn K (.ref (LabW.C "InvalidLimit")) "value" = some none := by rw [← T.hC]; exact T.xn_InvalidLimit
theorem xbk_InvalidLimit (T : Tx Lab.T K mg base w) (s : Shared) (a w : Value) : BindsTo s (T.FDI "InvalidLimit") ⟨[a], [("value", w)]⟩ [("self", a), ("value", w)] := by
  obtain ⟨oc, od, kV, doc, pm, an, cdv, ct, osl, e, _, _⟩ := T.xD_InvalidLimit.ex
  rw [e]
  exact .of_eq rfl
theorem xhn_InvalidText (T : Tx Lab.T K mg base w) : PySem.W.findIn K (.ref (LabW.C "InvalidText")) "text" = some none := by rw [← T.hC]; exact T.xn_InvalidText
theorem xbk_InvalidText (T : Tx Lab.T K mg base w) (s : Shared) (a w : Value) : BindsTo s (T.FDI "InvalidText") ⟨[a], [("text", w)]⟩ [("self", a), ("text", w)] := by
  obtain ⟨oc, od, kV, doc, pm, an, cdv, ct, osl, e, _, _⟩ := T.xD_InvalidText.ex
  rw [e]
  exact .of_eq rfl
theorem xhn_TooManyEdits (T : Tx Lab.T K mg base w) : PySem.W.findIn K (.ref (LabW.C "TooManyEdits")) "count" = some none := by rw [← T.hC]; exact T.xn_TooManyEdits
theorem xbk_TooManyEdits (T : Tx Lab.T K mg base w) (s : Shared) (a w : Value) : BindsTo s (T.FDI "TooManyEdits") ⟨[a], [("count", w)]⟩ [("self", a), ("count", w)] := by
  obtain ⟨oc, od, kV, doc, pm, an, cdv, ct, osl, e, _, _⟩ := T.xD_TooManyEdits.ex
  rw [e]
  exact .of_eq rfl
theorem xhn_TooManyRecords (T : Tx Lab.T K mg base w) : PySem.W.findIn K (.ref (LabW.C "TooManyRecords")) "count" = some none := by rw [← T.hC]; exact T.xn_TooManyRecords
theorem xbk_TooManyRecords (T : Tx Lab.T K mg base w) (s : Shared) (a w : Value) : BindsTo s (T.FDI "TooManyRecords") ⟨[a], [("count", w)]⟩ [("self", a), ("count", w)] := by
  obtain ⟨oc, od, kV, doc, pm, an, cdv, ct, osl, e, _, _⟩ := T.xD_TooManyRecords.ex
  rw [e]
  exact .of_eq rfl
theorem xhn_NoPlace (T : Tx Lab.T K mg base w) : PySem.W.findIn K (.ref (LabW.C "NoPlace")) "place" = some none := by rw [← T.hC]; exact T.xn_NoPlace
theorem xbk_NoPlace (T : Tx Lab.T K mg base w) (s : Shared) (a w : Value) : BindsTo s (T.FDI "NoPlace") ⟨[a], [("place", w)]⟩ [("self", a), ("place", w)] := by
  obtain ⟨oc, od, kV, doc, pm, an, cdv, ct, osl, e, _, _⟩ := T.xD_NoPlace.ex
  rw [e]
  exact .of_eq rfl
theorem xhn_MissingColumn (T : Tx Lab.T K mg base w) : PySem.W.findIn K (.ref (LabW.C "MissingColumn")) "column" = some none := by rw [← T.hC]; exact T.xn_MissingColumn
theorem xbk_MissingColumn (T : Tx Lab.T K mg base w) (s : Shared) (a w : Value) : BindsTo s (T.FDI "MissingColumn") ⟨[a], [("column", w)]⟩ [("self", a), ("column", w)] := by
  obtain ⟨oc, od, kV, doc, pm, an, cdv, ct, osl, e, _, _⟩ := T.xD_MissingColumn.ex
  rw [e]
  exact .of_eq rfl
def mi_ArithmeticError (c : Str) : Option Bool := tabI [("InvalidPlaces", false), ("InvalidNumber", false), ("InvalidProgram", false), ("InvalidOrder", false), ("InvalidColumns", false), ("InvalidTable", false), ("InvalidCommand", false), ("InvalidEdit", false), ("InvalidValue", false), ("InvalidRecord", false), ("InvalidLimit", false), ("InvalidText", false), ("TooManyEdits", true), ("TooManyRecords", true), ("NoPlace", false), ("MissingColumn", false), ("LastRecord", true), ("NothingToUndo", false)] c
theorem mik_ArithmeticError (T : Tx Lab.T K mg base w) : ∀ c b, mi_ArithmeticError c = some b → PySem.W.kitOne K (.ref (LabW.C c)) (.type "ArithmeticError") = some b := by rw [← T.hC]; exact tabI_ok (l := [("InvalidPlaces", false), ("InvalidNumber", false), ("InvalidProgram", false), ("InvalidOrder", false), ("InvalidColumns", false), ("InvalidTable", false), ("InvalidCommand", false), ("InvalidEdit", false), ("InvalidValue", false), ("InvalidRecord", false), ("InvalidLimit", false), ("InvalidText", false), ("TooManyEdits", true), ("TooManyRecords", true), ("NoPlace", false), ("MissingColumn", false), ("LastRecord", true), ("NothingToUndo", false)]) T.kt_ArithmeticError
def mi_LookupError (c : Str) : Option Bool := tabI [("InvalidPlaces", false), ("InvalidNumber", false), ("InvalidProgram", false), ("InvalidOrder", false), ("InvalidColumns", false), ("InvalidTable", false), ("InvalidCommand", false), ("InvalidEdit", false), ("InvalidValue", false), ("InvalidRecord", false), ("InvalidLimit", false), ("InvalidText", false), ("TooManyEdits", false), ("TooManyRecords", false), ("NoPlace", true), ("MissingColumn", true), ("LastRecord", false), ("NothingToUndo", true)] c
theorem mik_LookupError (T : Tx Lab.T K mg base w) : ∀ c b, mi_LookupError c = some b → PySem.W.kitOne K (.ref (LabW.C c)) (.type "LookupError") = some b := by rw [← T.hC]; exact tabI_ok (l := [("InvalidPlaces", false), ("InvalidNumber", false), ("InvalidProgram", false), ("InvalidOrder", false), ("InvalidColumns", false), ("InvalidTable", false), ("InvalidCommand", false), ("InvalidEdit", false), ("InvalidValue", false), ("InvalidRecord", false), ("InvalidLimit", false), ("InvalidText", false), ("TooManyEdits", false), ("TooManyRecords", false), ("NoPlace", true), ("MissingColumn", true), ("LastRecord", false), ("NothingToUndo", true)]) T.kt_LookupError
def mi_ValueError (c : Str) : Option Bool := tabI [("InvalidPlaces", true), ("InvalidNumber", true), ("InvalidProgram", true), ("InvalidOrder", true), ("InvalidColumns", true), ("InvalidTable", true), ("InvalidCommand", true), ("InvalidEdit", true), ("InvalidValue", true), ("InvalidRecord", true), ("InvalidLimit", true), ("InvalidText", true), ("TooManyEdits", false), ("TooManyRecords", false), ("NoPlace", false), ("MissingColumn", false), ("LastRecord", false), ("NothingToUndo", false)] c
theorem mik_ValueError (T : Tx Lab.T K mg base w) : ∀ c b, mi_ValueError c = some b → PySem.W.kitOne K (.ref (LabW.C c)) (.type "ValueError") = some b := by rw [← T.hC]; exact tabI_ok (l := [("InvalidPlaces", true), ("InvalidNumber", true), ("InvalidProgram", true), ("InvalidOrder", true), ("InvalidColumns", true), ("InvalidTable", true), ("InvalidCommand", true), ("InvalidEdit", true), ("InvalidValue", true), ("InvalidRecord", true), ("InvalidLimit", true), ("InvalidText", true), ("TooManyEdits", false), ("TooManyRecords", false), ("NoPlace", false), ("MissingColumn", false), ("LastRecord", false), ("NothingToUndo", false)]) T.kt_ValueError
def mi_LimitError (c : Str) : Option Bool := tabI [("InvalidPlaces", false), ("InvalidNumber", false), ("InvalidProgram", false), ("InvalidOrder", false), ("InvalidColumns", false), ("InvalidTable", false), ("InvalidCommand", false), ("InvalidEdit", false), ("InvalidValue", false), ("InvalidRecord", false), ("InvalidLimit", false), ("InvalidText", false), ("TooManyEdits", true), ("TooManyRecords", true), ("NoPlace", false), ("MissingColumn", false), ("LastRecord", true), ("NothingToUndo", false)] c
theorem mik_LimitError (T : Tx Lab.T K mg base w) : ∀ c b, mi_LimitError c = some b → PySem.W.kitOne K (.ref (LabW.C c)) (.ref (T.C "LimitError")) = some b := by rw [← T.hC]; exact tabI_ok (l := [("InvalidPlaces", false), ("InvalidNumber", false), ("InvalidProgram", false), ("InvalidOrder", false), ("InvalidColumns", false), ("InvalidTable", false), ("InvalidCommand", false), ("InvalidEdit", false), ("InvalidValue", false), ("InvalidRecord", false), ("InvalidLimit", false), ("InvalidText", false), ("TooManyEdits", true), ("TooManyRecords", true), ("NoPlace", false), ("MissingColumn", false), ("LastRecord", true), ("NothingToUndo", false)]) T.kt_LimitError
def mi_FindError (c : Str) : Option Bool := tabI [("InvalidPlaces", false), ("InvalidNumber", false), ("InvalidProgram", false), ("InvalidOrder", false), ("InvalidColumns", false), ("InvalidTable", false), ("InvalidCommand", false), ("InvalidEdit", false), ("InvalidValue", false), ("InvalidRecord", false), ("InvalidLimit", false), ("InvalidText", false), ("TooManyEdits", false), ("TooManyRecords", false), ("NoPlace", true), ("MissingColumn", true), ("LastRecord", false), ("NothingToUndo", true)] c
theorem mik_FindError (T : Tx Lab.T K mg base w) : ∀ c b, mi_FindError c = some b → PySem.W.kitOne K (.ref (LabW.C c)) (.ref (T.C "FindError")) = some b := by rw [← T.hC]; exact tabI_ok (l := [("InvalidPlaces", false), ("InvalidNumber", false), ("InvalidProgram", false), ("InvalidOrder", false), ("InvalidColumns", false), ("InvalidTable", false), ("InvalidCommand", false), ("InvalidEdit", false), ("InvalidValue", false), ("InvalidRecord", false), ("InvalidLimit", false), ("InvalidText", false), ("TooManyEdits", false), ("TooManyRecords", false), ("NoPlace", true), ("MissingColumn", true), ("LastRecord", false), ("NothingToUndo", true)]) T.kt_FindError
def mi_TableError (c : Str) : Option Bool := tabI [("InvalidPlaces", true), ("InvalidNumber", true), ("InvalidProgram", true), ("InvalidOrder", true), ("InvalidColumns", true), ("InvalidTable", true), ("InvalidCommand", true), ("InvalidEdit", true), ("InvalidValue", true), ("InvalidRecord", true), ("InvalidLimit", true), ("InvalidText", true), ("TooManyEdits", false), ("TooManyRecords", false), ("NoPlace", false), ("MissingColumn", false), ("LastRecord", false), ("NothingToUndo", false)] c
theorem mik_TableError (T : Tx Lab.T K mg base w) : ∀ c b, mi_TableError c = some b → PySem.W.kitOne K (.ref (LabW.C c)) (.ref (T.C "TableError")) = some b := by rw [← T.hC]; exact tabI_ok (l := [("InvalidPlaces", true), ("InvalidNumber", true), ("InvalidProgram", true), ("InvalidOrder", true), ("InvalidColumns", true), ("InvalidTable", true), ("InvalidCommand", true), ("InvalidEdit", true), ("InvalidValue", true), ("InvalidRecord", true), ("InvalidLimit", true), ("InvalidText", true), ("TooManyEdits", false), ("TooManyRecords", false), ("NoPlace", false), ("MissingColumn", false), ("LastRecord", false), ("NothingToUndo", false)]) T.kt_TableError
def mi_LastRecord (c : Str) : Option Bool := tabI [("InvalidPlaces", false), ("InvalidNumber", false), ("InvalidProgram", false), ("InvalidOrder", false), ("InvalidColumns", false), ("InvalidTable", false), ("InvalidCommand", false), ("InvalidEdit", false), ("InvalidValue", false), ("InvalidRecord", false), ("InvalidLimit", false), ("InvalidText", false), ("TooManyEdits", false), ("TooManyRecords", false), ("NoPlace", false), ("MissingColumn", false), ("LastRecord", true), ("NothingToUndo", false)] c
theorem mik_LastRecord (T : Tx Lab.T K mg base w) : ∀ c b, mi_LastRecord c = some b → PySem.W.kitOne K (.ref (LabW.C c)) (.ref (T.C "LastRecord")) = some b := by rw [← T.hC]; exact tabI_ok (l := [("InvalidPlaces", false), ("InvalidNumber", false), ("InvalidProgram", false), ("InvalidOrder", false), ("InvalidColumns", false), ("InvalidTable", false), ("InvalidCommand", false), ("InvalidEdit", false), ("InvalidValue", false), ("InvalidRecord", false), ("InvalidLimit", false), ("InvalidText", false), ("TooManyEdits", false), ("TooManyRecords", false), ("NoPlace", false), ("MissingColumn", false), ("LastRecord", true), ("NothingToUndo", false)]) T.kt_LastRecord
def mi_TooManyEdits (c : Str) : Option Bool := tabI [("InvalidPlaces", false), ("InvalidNumber", false), ("InvalidProgram", false), ("InvalidOrder", false), ("InvalidColumns", false), ("InvalidTable", false), ("InvalidCommand", false), ("InvalidEdit", false), ("InvalidValue", false), ("InvalidRecord", false), ("InvalidLimit", false), ("InvalidText", false), ("TooManyEdits", true), ("TooManyRecords", false), ("NoPlace", false), ("MissingColumn", false), ("LastRecord", false), ("NothingToUndo", false)] c
theorem mik_TooManyEdits (T : Tx Lab.T K mg base w) : ∀ c b, mi_TooManyEdits c = some b → PySem.W.kitOne K (.ref (LabW.C c)) (.ref (T.C "TooManyEdits")) = some b := by rw [← T.hC]; exact tabI_ok (l := [("InvalidPlaces", false), ("InvalidNumber", false), ("InvalidProgram", false), ("InvalidOrder", false), ("InvalidColumns", false), ("InvalidTable", false), ("InvalidCommand", false), ("InvalidEdit", false), ("InvalidValue", false), ("InvalidRecord", false), ("InvalidLimit", false), ("InvalidText", false), ("TooManyEdits", true), ("TooManyRecords", false), ("NoPlace", false), ("MissingColumn", false), ("LastRecord", false), ("NothingToUndo", false)]) T.kt_TooManyEdits
def mi_TooManyRecords (c : Str) : Option Bool := tabI [("InvalidPlaces", false), ("InvalidNumber", false), ("InvalidProgram", false), ("InvalidOrder", false), ("InvalidColumns", false), ("InvalidTable", false), ("InvalidCommand", false), ("InvalidEdit", false), ("InvalidValue", false), ("InvalidRecord", false), ("InvalidLimit", false), ("InvalidText", false), ("TooManyEdits", false), ("TooManyRecords", true), ("NoPlace", false), ("MissingColumn", false), ("LastRecord", false), ("NothingToUndo", false)] c
theorem mik_TooManyRecords (T : Tx Lab.T K mg base w) : ∀ c b, mi_TooManyRecords c = some b → PySem.W.kitOne K (.ref (LabW.C c)) (.ref (T.C "TooManyRecords")) = some b := by rw [← T.hC]; exact tabI_ok (l := [("InvalidPlaces", false), ("InvalidNumber", false), ("InvalidProgram", false), ("InvalidOrder", false), ("InvalidColumns", false), ("InvalidTable", false), ("InvalidCommand", false), ("InvalidEdit", false), ("InvalidValue", false), ("InvalidRecord", false), ("InvalidLimit", false), ("InvalidText", false), ("TooManyEdits", false), ("TooManyRecords", true), ("NoPlace", false), ("MissingColumn", false), ("LastRecord", false), ("NothingToUndo", false)]) T.kt_TooManyRecords
def mi_NothingToUndo (c : Str) : Option Bool := tabI [("InvalidPlaces", false), ("InvalidNumber", false), ("InvalidProgram", false), ("InvalidOrder", false), ("InvalidColumns", false), ("InvalidTable", false), ("InvalidCommand", false), ("InvalidEdit", false), ("InvalidValue", false), ("InvalidRecord", false), ("InvalidLimit", false), ("InvalidText", false), ("TooManyEdits", false), ("TooManyRecords", false), ("NoPlace", false), ("MissingColumn", false), ("LastRecord", false), ("NothingToUndo", true)] c
theorem mik_NothingToUndo (T : Tx Lab.T K mg base w) : ∀ c b, mi_NothingToUndo c = some b → PySem.W.kitOne K (.ref (LabW.C c)) (.ref (T.C "NothingToUndo")) = some b := by rw [← T.hC]; exact tabI_ok (l := [("InvalidPlaces", false), ("InvalidNumber", false), ("InvalidProgram", false), ("InvalidOrder", false), ("InvalidColumns", false), ("InvalidTable", false), ("InvalidCommand", false), ("InvalidEdit", false), ("InvalidValue", false), ("InvalidRecord", false), ("InvalidLimit", false), ("InvalidText", false), ("TooManyEdits", false), ("TooManyRecords", false), ("NoPlace", false), ("MissingColumn", false), ("LastRecord", false), ("NothingToUndo", true)]) T.kt_NothingToUndo
def mi_NoPlace (c : Str) : Option Bool := tabI [("InvalidPlaces", false), ("InvalidNumber", false), ("InvalidProgram", false), ("InvalidOrder", false), ("InvalidColumns", false), ("InvalidTable", false), ("InvalidCommand", false), ("InvalidEdit", false), ("InvalidValue", false), ("InvalidRecord", false), ("InvalidLimit", false), ("InvalidText", false), ("TooManyEdits", false), ("TooManyRecords", false), ("NoPlace", true), ("MissingColumn", false), ("LastRecord", false), ("NothingToUndo", false)] c
theorem mik_NoPlace (T : Tx Lab.T K mg base w) : ∀ c b, mi_NoPlace c = some b → PySem.W.kitOne K (.ref (LabW.C c)) (.ref (T.C "NoPlace")) = some b := by rw [← T.hC]; exact tabI_ok (l := [("InvalidPlaces", false), ("InvalidNumber", false), ("InvalidProgram", false), ("InvalidOrder", false), ("InvalidColumns", false), ("InvalidTable", false), ("InvalidCommand", false), ("InvalidEdit", false), ("InvalidValue", false), ("InvalidRecord", false), ("InvalidLimit", false), ("InvalidText", false), ("TooManyEdits", false), ("TooManyRecords", false), ("NoPlace", true), ("MissingColumn", false), ("LastRecord", false), ("NothingToUndo", false)]) T.kt_NoPlace
def mi_MissingColumn (c : Str) : Option Bool := tabI [("InvalidPlaces", false), ("InvalidNumber", false), ("InvalidProgram", false), ("InvalidOrder", false), ("InvalidColumns", false), ("InvalidTable", false), ("InvalidCommand", false), ("InvalidEdit", false), ("InvalidValue", false), ("InvalidRecord", false), ("InvalidLimit", false), ("InvalidText", false), ("TooManyEdits", false), ("TooManyRecords", false), ("NoPlace", false), ("MissingColumn", true), ("LastRecord", false), ("NothingToUndo", false)] c
theorem mik_MissingColumn (T : Tx Lab.T K mg base w) : ∀ c b, mi_MissingColumn c = some b → PySem.W.kitOne K (.ref (LabW.C c)) (.ref (T.C "MissingColumn")) = some b := by rw [← T.hC]; exact tabI_ok (l := [("InvalidPlaces", false), ("InvalidNumber", false), ("InvalidProgram", false), ("InvalidOrder", false), ("InvalidColumns", false), ("InvalidTable", false), ("InvalidCommand", false), ("InvalidEdit", false), ("InvalidValue", false), ("InvalidRecord", false), ("InvalidLimit", false), ("InvalidText", false), ("TooManyEdits", false), ("TooManyRecords", false), ("NoPlace", false), ("MissingColumn", true), ("LastRecord", false), ("NothingToUndo", false)]) T.kt_MissingColumn
def mi_InvalidCommand (c : Str) : Option Bool := tabI [("InvalidPlaces", false), ("InvalidNumber", false), ("InvalidProgram", false), ("InvalidOrder", false), ("InvalidColumns", false), ("InvalidTable", false), ("InvalidCommand", true), ("InvalidEdit", false), ("InvalidValue", false), ("InvalidRecord", false), ("InvalidLimit", false), ("InvalidText", false), ("TooManyEdits", false), ("TooManyRecords", false), ("NoPlace", false), ("MissingColumn", false), ("LastRecord", false), ("NothingToUndo", false)] c
theorem mik_InvalidCommand (T : Tx Lab.T K mg base w) : ∀ c b, mi_InvalidCommand c = some b → PySem.W.kitOne K (.ref (LabW.C c)) (.ref (T.C "InvalidCommand")) = some b := by rw [← T.hC]; exact tabI_ok (l := [("InvalidPlaces", false), ("InvalidNumber", false), ("InvalidProgram", false), ("InvalidOrder", false), ("InvalidColumns", false), ("InvalidTable", false), ("InvalidCommand", true), ("InvalidEdit", false), ("InvalidValue", false), ("InvalidRecord", false), ("InvalidLimit", false), ("InvalidText", false), ("TooManyEdits", false), ("TooManyRecords", false), ("NoPlace", false), ("MissingColumn", false), ("LastRecord", false), ("NothingToUndo", false)]) T.kt_InvalidCommand
def mi_InvalidEdit (c : Str) : Option Bool := tabI [("InvalidPlaces", false), ("InvalidNumber", false), ("InvalidProgram", false), ("InvalidOrder", false), ("InvalidColumns", false), ("InvalidTable", false), ("InvalidCommand", false), ("InvalidEdit", true), ("InvalidValue", false), ("InvalidRecord", false), ("InvalidLimit", false), ("InvalidText", false), ("TooManyEdits", false), ("TooManyRecords", false), ("NoPlace", false), ("MissingColumn", false), ("LastRecord", false), ("NothingToUndo", false)] c
theorem mik_InvalidEdit (T : Tx Lab.T K mg base w) : ∀ c b, mi_InvalidEdit c = some b → PySem.W.kitOne K (.ref (LabW.C c)) (.ref (T.C "InvalidEdit")) = some b := by rw [← T.hC]; exact tabI_ok (l := [("InvalidPlaces", false), ("InvalidNumber", false), ("InvalidProgram", false), ("InvalidOrder", false), ("InvalidColumns", false), ("InvalidTable", false), ("InvalidCommand", false), ("InvalidEdit", true), ("InvalidValue", false), ("InvalidRecord", false), ("InvalidLimit", false), ("InvalidText", false), ("TooManyEdits", false), ("TooManyRecords", false), ("NoPlace", false), ("MissingColumn", false), ("LastRecord", false), ("NothingToUndo", false)]) T.kt_InvalidEdit
def mi_InvalidValue (c : Str) : Option Bool := tabI [("InvalidPlaces", false), ("InvalidNumber", false), ("InvalidProgram", false), ("InvalidOrder", false), ("InvalidColumns", false), ("InvalidTable", false), ("InvalidCommand", false), ("InvalidEdit", false), ("InvalidValue", true), ("InvalidRecord", false), ("InvalidLimit", false), ("InvalidText", false), ("TooManyEdits", false), ("TooManyRecords", false), ("NoPlace", false), ("MissingColumn", false), ("LastRecord", false), ("NothingToUndo", false)] c
theorem mik_InvalidValue (T : Tx Lab.T K mg base w) : ∀ c b, mi_InvalidValue c = some b → PySem.W.kitOne K (.ref (LabW.C c)) (.ref (T.C "InvalidValue")) = some b := by rw [← T.hC]; exact tabI_ok (l := [("InvalidPlaces", false), ("InvalidNumber", false), ("InvalidProgram", false), ("InvalidOrder", false), ("InvalidColumns", false), ("InvalidTable", false), ("InvalidCommand", false), ("InvalidEdit", false), ("InvalidValue", true), ("InvalidRecord", false), ("InvalidLimit", false), ("InvalidText", false), ("TooManyEdits", false), ("TooManyRecords", false), ("NoPlace", false), ("MissingColumn", false), ("LastRecord", false), ("NothingToUndo", false)]) T.kt_InvalidValue
def mi_InvalidRecord (c : Str) : Option Bool := tabI [("InvalidPlaces", false), ("InvalidNumber", false), ("InvalidProgram", false), ("InvalidOrder", false), ("InvalidColumns", false), ("InvalidTable", false), ("InvalidCommand", false), ("InvalidEdit", false), ("InvalidValue", false), ("InvalidRecord", true), ("InvalidLimit", false), ("InvalidText", false), ("TooManyEdits", false), ("TooManyRecords", false), ("NoPlace", false), ("MissingColumn", false), ("LastRecord", false), ("NothingToUndo", false)] c
theorem mik_InvalidRecord (T : Tx Lab.T K mg base w) : ∀ c b, mi_InvalidRecord c = some b → PySem.W.kitOne K (.ref (LabW.C c)) (.ref (T.C "InvalidRecord")) = some b := by rw [← T.hC]; exact tabI_ok (l := [("InvalidPlaces", false), ("InvalidNumber", false), ("InvalidProgram", false), ("InvalidOrder", false), ("InvalidColumns", false), ("InvalidTable", false), ("InvalidCommand", false), ("InvalidEdit", false), ("InvalidValue", false), ("InvalidRecord", true), ("InvalidLimit", false), ("InvalidText", false), ("TooManyEdits", false), ("TooManyRecords", false), ("NoPlace", false), ("MissingColumn", false), ("LastRecord", false), ("NothingToUndo", false)]) T.kt_InvalidRecord
def mi_InvalidLimit (c : Str) : Option Bool := tabI [("InvalidPlaces", false), ("InvalidNumber", false), ("InvalidProgram", false), ("InvalidOrder", false), ("InvalidColumns", false), ("InvalidTable", false), ("InvalidCommand", false), ("InvalidEdit", false), ("InvalidValue", false), ("InvalidRecord", false), ("InvalidLimit", true), ("InvalidText", false), ("TooManyEdits", false), ("TooManyRecords", false), ("NoPlace", false), ("MissingColumn", false), ("LastRecord", false), ("NothingToUndo", false)] c
theorem mik_InvalidLimit (T : Tx Lab.T K mg base w) : ∀ c b, mi_InvalidLimit c = some b → PySem.W.kitOne K (.ref (LabW.C c)) (.ref (T.C "InvalidLimit")) = some b := by rw [← T.hC]; exact tabI_ok (l := [("InvalidPlaces", false), ("InvalidNumber", false), ("InvalidProgram", false), ("InvalidOrder", false), ("InvalidColumns", false), ("InvalidTable", false), ("InvalidCommand", false), ("InvalidEdit", false), ("InvalidValue", false), ("InvalidRecord", false), ("InvalidLimit", true), ("InvalidText", false), ("TooManyEdits", false), ("TooManyRecords", false), ("NoPlace", false), ("MissingColumn", false), ("LastRecord", false), ("NothingToUndo", false)]) T.kt_InvalidLimit
def mi_InvalidText (c : Str) : Option Bool := tabI [("InvalidPlaces", false), ("InvalidNumber", false), ("InvalidProgram", false), ("InvalidOrder", false), ("InvalidColumns", false), ("InvalidTable", false), ("InvalidCommand", false), ("InvalidEdit", false), ("InvalidValue", false), ("InvalidRecord", false), ("InvalidLimit", false), ("InvalidText", true), ("TooManyEdits", false), ("TooManyRecords", false), ("NoPlace", false), ("MissingColumn", false), ("LastRecord", false), ("NothingToUndo", false)] c
theorem mik_InvalidText (T : Tx Lab.T K mg base w) : ∀ c b, mi_InvalidText c = some b → PySem.W.kitOne K (.ref (LabW.C c)) (.ref (T.C "InvalidText")) = some b := by rw [← T.hC]; exact tabI_ok (l := [("InvalidPlaces", false), ("InvalidNumber", false), ("InvalidProgram", false), ("InvalidOrder", false), ("InvalidColumns", false), ("InvalidTable", false), ("InvalidCommand", false), ("InvalidEdit", false), ("InvalidValue", false), ("InvalidRecord", false), ("InvalidLimit", false), ("InvalidText", true), ("TooManyEdits", false), ("TooManyRecords", false), ("NoPlace", false), ("MissingColumn", false), ("LastRecord", false), ("NothingToUndo", false)]) T.kt_InvalidText
def mi_InvalidPlaces (c : Str) : Option Bool := tabI [("InvalidPlaces", true), ("InvalidNumber", false), ("InvalidProgram", false), ("InvalidOrder", false), ("InvalidColumns", false), ("InvalidTable", false), ("InvalidCommand", false), ("InvalidEdit", false), ("InvalidValue", false), ("InvalidRecord", false), ("InvalidLimit", false), ("InvalidText", false), ("TooManyEdits", false), ("TooManyRecords", false), ("NoPlace", false), ("MissingColumn", false), ("LastRecord", false), ("NothingToUndo", false)] c
theorem mik_InvalidPlaces (T : Tx Lab.T K mg base w) : ∀ c b, mi_InvalidPlaces c = some b → PySem.W.kitOne K (.ref (LabW.C c)) (.ref (T.C "InvalidPlaces")) = some b := by rw [← T.hC]; exact tabI_ok (l := [("InvalidPlaces", true), ("InvalidNumber", false), ("InvalidProgram", false), ("InvalidOrder", false), ("InvalidColumns", false), ("InvalidTable", false), ("InvalidCommand", false), ("InvalidEdit", false), ("InvalidValue", false), ("InvalidRecord", false), ("InvalidLimit", false), ("InvalidText", false), ("TooManyEdits", false), ("TooManyRecords", false), ("NoPlace", false), ("MissingColumn", false), ("LastRecord", false), ("NothingToUndo", false)]) T.kt_InvalidPlaces
def mi_InvalidNumber (c : Str) : Option Bool := tabI [("InvalidPlaces", false), ("InvalidNumber", true), ("InvalidProgram", false), ("InvalidOrder", false), ("InvalidColumns", false), ("InvalidTable", false), ("InvalidCommand", false), ("InvalidEdit", false), ("InvalidValue", false), ("InvalidRecord", false), ("InvalidLimit", false), ("InvalidText", false), ("TooManyEdits", false), ("TooManyRecords", false), ("NoPlace", false), ("MissingColumn", false), ("LastRecord", false), ("NothingToUndo", false)] c
theorem mik_InvalidNumber (T : Tx Lab.T K mg base w) : ∀ c b, mi_InvalidNumber c = some b → PySem.W.kitOne K (.ref (LabW.C c)) (.ref (T.C "InvalidNumber")) = some b := by rw [← T.hC]; exact tabI_ok (l := [("InvalidPlaces", false), ("InvalidNumber", true), ("InvalidProgram", false), ("InvalidOrder", false), ("InvalidColumns", false), ("InvalidTable", false), ("InvalidCommand", false), ("InvalidEdit", false), ("InvalidValue", false), ("InvalidRecord", false), ("InvalidLimit", false), ("InvalidText", false), ("TooManyEdits", false), ("TooManyRecords", false), ("NoPlace", false), ("MissingColumn", false), ("LastRecord", false), ("NothingToUndo", false)]) T.kt_InvalidNumber
def mi_InvalidProgram (c : Str) : Option Bool := tabI [("InvalidPlaces", false), ("InvalidNumber", false), ("InvalidProgram", true), ("InvalidOrder", false), ("InvalidColumns", false), ("InvalidTable", false), ("InvalidCommand", false), ("InvalidEdit", false), ("InvalidValue", false), ("InvalidRecord", false), ("InvalidLimit", false), ("InvalidText", false), ("TooManyEdits", false), ("TooManyRecords", false), ("NoPlace", false), ("MissingColumn", false), ("LastRecord", false), ("NothingToUndo", false)] c
theorem mik_InvalidProgram (T : Tx Lab.T K mg base w) : ∀ c b, mi_InvalidProgram c = some b → PySem.W.kitOne K (.ref (LabW.C c)) (.ref (T.C "InvalidProgram")) = some b := by rw [← T.hC]; exact tabI_ok (l := [("InvalidPlaces", false), ("InvalidNumber", false), ("InvalidProgram", true), ("InvalidOrder", false), ("InvalidColumns", false), ("InvalidTable", false), ("InvalidCommand", false), ("InvalidEdit", false), ("InvalidValue", false), ("InvalidRecord", false), ("InvalidLimit", false), ("InvalidText", false), ("TooManyEdits", false), ("TooManyRecords", false), ("NoPlace", false), ("MissingColumn", false), ("LastRecord", false), ("NothingToUndo", false)]) T.kt_InvalidProgram
def mi_InvalidOrder (c : Str) : Option Bool := tabI [("InvalidPlaces", false), ("InvalidNumber", false), ("InvalidProgram", false), ("InvalidOrder", true), ("InvalidColumns", false), ("InvalidTable", false), ("InvalidCommand", false), ("InvalidEdit", false), ("InvalidValue", false), ("InvalidRecord", false), ("InvalidLimit", false), ("InvalidText", false), ("TooManyEdits", false), ("TooManyRecords", false), ("NoPlace", false), ("MissingColumn", false), ("LastRecord", false), ("NothingToUndo", false)] c
theorem mik_InvalidOrder (T : Tx Lab.T K mg base w) : ∀ c b, mi_InvalidOrder c = some b → PySem.W.kitOne K (.ref (LabW.C c)) (.ref (T.C "InvalidOrder")) = some b := by rw [← T.hC]; exact tabI_ok (l := [("InvalidPlaces", false), ("InvalidNumber", false), ("InvalidProgram", false), ("InvalidOrder", true), ("InvalidColumns", false), ("InvalidTable", false), ("InvalidCommand", false), ("InvalidEdit", false), ("InvalidValue", false), ("InvalidRecord", false), ("InvalidLimit", false), ("InvalidText", false), ("TooManyEdits", false), ("TooManyRecords", false), ("NoPlace", false), ("MissingColumn", false), ("LastRecord", false), ("NothingToUndo", false)]) T.kt_InvalidOrder
def mi_InvalidColumns (c : Str) : Option Bool := tabI [("InvalidPlaces", false), ("InvalidNumber", false), ("InvalidProgram", false), ("InvalidOrder", false), ("InvalidColumns", true), ("InvalidTable", false), ("InvalidCommand", false), ("InvalidEdit", false), ("InvalidValue", false), ("InvalidRecord", false), ("InvalidLimit", false), ("InvalidText", false), ("TooManyEdits", false), ("TooManyRecords", false), ("NoPlace", false), ("MissingColumn", false), ("LastRecord", false), ("NothingToUndo", false)] c
theorem mik_InvalidColumns (T : Tx Lab.T K mg base w) : ∀ c b, mi_InvalidColumns c = some b → PySem.W.kitOne K (.ref (LabW.C c)) (.ref (T.C "InvalidColumns")) = some b := by rw [← T.hC]; exact tabI_ok (l := [("InvalidPlaces", false), ("InvalidNumber", false), ("InvalidProgram", false), ("InvalidOrder", false), ("InvalidColumns", true), ("InvalidTable", false), ("InvalidCommand", false), ("InvalidEdit", false), ("InvalidValue", false), ("InvalidRecord", false), ("InvalidLimit", false), ("InvalidText", false), ("TooManyEdits", false), ("TooManyRecords", false), ("NoPlace", false), ("MissingColumn", false), ("LastRecord", false), ("NothingToUndo", false)]) T.kt_InvalidColumns
def mi_InvalidTable (c : Str) : Option Bool := tabI [("InvalidPlaces", false), ("InvalidNumber", false), ("InvalidProgram", false), ("InvalidOrder", false), ("InvalidColumns", false), ("InvalidTable", true), ("InvalidCommand", false), ("InvalidEdit", false), ("InvalidValue", false), ("InvalidRecord", false), ("InvalidLimit", false), ("InvalidText", false), ("TooManyEdits", false), ("TooManyRecords", false), ("NoPlace", false), ("MissingColumn", false), ("LastRecord", false), ("NothingToUndo", false)] c
theorem mik_InvalidTable (T : Tx Lab.T K mg base w) : ∀ c b, mi_InvalidTable c = some b → PySem.W.kitOne K (.ref (LabW.C c)) (.ref (T.C "InvalidTable")) = some b := by rw [← T.hC]; exact tabI_ok (l := [("InvalidPlaces", false), ("InvalidNumber", false), ("InvalidProgram", false), ("InvalidOrder", false), ("InvalidColumns", false), ("InvalidTable", true), ("InvalidCommand", false), ("InvalidEdit", false), ("InvalidValue", false), ("InvalidRecord", false), ("InvalidLimit", false), ("InvalidText", false), ("TooManyEdits", false), ("TooManyRecords", false), ("NoPlace", false), ("MissingColumn", false), ("LastRecord", false), ("NothingToUndo", false)]) T.kt_InvalidTable
def mi_OverflowError (c : Str) : Option Bool := tabI [("InvalidPlaces", false), ("InvalidNumber", false), ("InvalidProgram", false), ("InvalidOrder", false), ("InvalidColumns", false), ("InvalidTable", false), ("InvalidCommand", false), ("InvalidEdit", false), ("InvalidValue", false), ("InvalidRecord", false), ("InvalidLimit", false), ("InvalidText", false), ("TooManyEdits", false), ("TooManyRecords", false), ("NoPlace", false), ("MissingColumn", false), ("LastRecord", false), ("NothingToUndo", false)] c
theorem mik_OverflowError (T : Tx Lab.T K mg base w) : ∀ c b, mi_OverflowError c = some b → PySem.W.kitOne K (.ref (LabW.C c)) (.type "OverflowError") = some b := by rw [← T.hC]; exact tabI_ok (l := [("InvalidPlaces", false), ("InvalidNumber", false), ("InvalidProgram", false), ("InvalidOrder", false), ("InvalidColumns", false), ("InvalidTable", false), ("InvalidCommand", false), ("InvalidEdit", false), ("InvalidValue", false), ("InvalidRecord", false), ("InvalidLimit", false), ("InvalidText", false), ("TooManyEdits", false), ("TooManyRecords", false), ("NoPlace", false), ("MissingColumn", false), ("LastRecord", false), ("NothingToUndo", false)]) T.kt_OverflowError
def mi_ZeroDivisionError (c : Str) : Option Bool := tabI [("InvalidPlaces", false), ("InvalidNumber", false), ("InvalidProgram", false), ("InvalidOrder", false), ("InvalidColumns", false), ("InvalidTable", false), ("InvalidCommand", false), ("InvalidEdit", false), ("InvalidValue", false), ("InvalidRecord", false), ("InvalidLimit", false), ("InvalidText", false), ("TooManyEdits", false), ("TooManyRecords", false), ("NoPlace", false), ("MissingColumn", false), ("LastRecord", false), ("NothingToUndo", false)] c
theorem mik_ZeroDivisionError (T : Tx Lab.T K mg base w) : ∀ c b, mi_ZeroDivisionError c = some b → PySem.W.kitOne K (.ref (LabW.C c)) (.type "ZeroDivisionError") = some b := by rw [← T.hC]; exact tabI_ok (l := [("InvalidPlaces", false), ("InvalidNumber", false), ("InvalidProgram", false), ("InvalidOrder", false), ("InvalidColumns", false), ("InvalidTable", false), ("InvalidCommand", false), ("InvalidEdit", false), ("InvalidValue", false), ("InvalidRecord", false), ("InvalidLimit", false), ("InvalidText", false), ("TooManyEdits", false), ("TooManyRecords", false), ("NoPlace", false), ("MissingColumn", false), ("LastRecord", false), ("NothingToUndo", false)]) T.kt_ZeroDivisionError
def mi_KeyError (c : Str) : Option Bool := tabI [("InvalidPlaces", false), ("InvalidNumber", false), ("InvalidProgram", false), ("InvalidOrder", false), ("InvalidColumns", false), ("InvalidTable", false), ("InvalidCommand", false), ("InvalidEdit", false), ("InvalidValue", false), ("InvalidRecord", false), ("InvalidLimit", false), ("InvalidText", false), ("TooManyEdits", false), ("TooManyRecords", false), ("NoPlace", false), ("MissingColumn", false), ("LastRecord", false), ("NothingToUndo", false)] c
theorem mik_KeyError (T : Tx Lab.T K mg base w) : ∀ c b, mi_KeyError c = some b → PySem.W.kitOne K (.ref (LabW.C c)) (.type "KeyError") = some b := by rw [← T.hC]; exact tabI_ok (l := [("InvalidPlaces", false), ("InvalidNumber", false), ("InvalidProgram", false), ("InvalidOrder", false), ("InvalidColumns", false), ("InvalidTable", false), ("InvalidCommand", false), ("InvalidEdit", false), ("InvalidValue", false), ("InvalidRecord", false), ("InvalidLimit", false), ("InvalidText", false), ("TooManyEdits", false), ("TooManyRecords", false), ("NoPlace", false), ("MissingColumn", false), ("LastRecord", false), ("NothingToUndo", false)]) T.kt_KeyError
def mi_IndexError (c : Str) : Option Bool := tabI [("InvalidPlaces", false), ("InvalidNumber", false), ("InvalidProgram", false), ("InvalidOrder", false), ("InvalidColumns", false), ("InvalidTable", false), ("InvalidCommand", false), ("InvalidEdit", false), ("InvalidValue", false), ("InvalidRecord", false), ("InvalidLimit", false), ("InvalidText", false), ("TooManyEdits", false), ("TooManyRecords", false), ("NoPlace", false), ("MissingColumn", false), ("LastRecord", false), ("NothingToUndo", false)] c
theorem mik_IndexError (T : Tx Lab.T K mg base w) : ∀ c b, mi_IndexError c = some b → PySem.W.kitOne K (.ref (LabW.C c)) (.type "IndexError") = some b := by rw [← T.hC]; exact tabI_ok (l := [("InvalidPlaces", false), ("InvalidNumber", false), ("InvalidProgram", false), ("InvalidOrder", false), ("InvalidColumns", false), ("InvalidTable", false), ("InvalidCommand", false), ("InvalidEdit", false), ("InvalidValue", false), ("InvalidRecord", false), ("InvalidLimit", false), ("InvalidText", false), ("TooManyEdits", false), ("TooManyRecords", false), ("NoPlace", false), ("MissingColumn", false), ("LastRecord", false), ("NothingToUndo", false)]) T.kt_IndexError
variable [LabR]
def mb__law_cell : DEnv → Option DFlow := (sSeq (sIf (fTst (fBin ltD (rdF 1) (fLenN 0))) (sRet (fIxN 0 (rdF 1))) sNil) (sSeq (sSet 2 (fBin modD (fBin mulD (fC (.int 60013)) (fBin addD (fBin addD (fBin mulD (rdF 1) (rdF 1)) (fBin mulD (fC (.int 5)) (rdF 1))) (fC (.int 3)))) (fC (.int 2147483249)))) (sSeq (sFor (iSeq (fSl (rdF 0) oNone (oSome (fC (.int 3))))) (gSet 3) (sSet 2 (fBin modD (fBin addD (fBin mulD (rdF 2) (fC (.int 41221))) (rdF 3)) (fC (.int 2147483249))))) (sRet (rdF 2)))))
def m__law_cell := runF 2 4 mb__law_cell
theorem sc__law_cell : FnScope ["_law_script", "_law_k", "_law_state", "_law_figure"] ["_law_script", "_law_k"] (defScope (topS 31)) := ⟨rfl, rfl, rfl, by decide +kernel, rfl, by decide +kernel, by decide +kernel⟩
theorem bd__law_cell (T : Tx Lab.T K mg base w) : BodyOk P w K mg base ["_law_script", "_law_k", "_law_state", "_law_figure"] "_law_cell" (topS 31) (T.A 0) (T.FD 0).code 0 mb__law_cell := by
  have sc := sc__law_cell
  intro cdv A outer s H E F hcv hW hgd hr
  exact (dss_cons (ds_if (pdt_cmp od_lt intD_b (pd_name 1) (pd_lenN 0 T.n_len)) (dss_one (ds_ret (pd_ixN 0 (pd_name 1)))) dss_nil)
    (dss_cons (ds_set 2 (pd_bin od_mod (pd_bin od_mul pd_int (pd_bin od_add (pd_bin od_add (pd_bin od_mul (pd_name 1) (pd_name 1)) (pd_bin od_mul pd_int (pd_name 1))) pd_int)) pd_int) sc.nd)
    (dss_cons (ds_for (di_seq (pd_slice (pd_name 0) do_none (do_some pd_int))) (dg_name 3 sc.nd) (dss_one (ds_set 2 (pd_bin od_mod (pd_bin od_add (pd_bin od_mul (pd_name 2) pd_int) (pd_name 3)) pd_int) sc.nd)))
    (dss_one (ds_ret (pd_name 2))))))
theorem ok__law_cell (T : Tx Lab.T K mg base w) : FnG P w K mg base 1 (T.A 0) (T.FD 0) ["_law_script", "_law_k"] (spF K 2 m__law_cell) :=
  fn_F T.D__law_cell sc__law_cell rfl rfl (bd__law_cell T)
theorem b__law_cell (T : Tx Lab.T K mg base w) : Binds K (T.FD 0) ["_law_script", "_law_k"] [] := T.D__law_cell.binds fun _ _ _ _ _ _ us hl => match us, hl with | [_, _], _ => rfl
def mb__law_pool : DEnv → Option DFlow := (sSeq (sSet 1 (fIf (fOr (fTst (fBin ltD (rdF 0) (fC (.int 0)))) (fTst (fBin geD (rdF 0) (fBin powD (fC (.int 10)) (fC (.int 18)))))) (fCB absD (fCons (rdF 0) fNil)) (fC (.int 0)))) (sRetN (fLst (fCons (fBin modD (rdF 0) (fC (.int 2147483249))) (fCons (rdF 1) (fCons (fC (.int 0)) fNil))))))
def m__law_pool := runN 1 2 mb__law_pool
theorem sc__law_pool : FnScope ["_law_figure", "_law_digits"] ["_law_figure"] (defScope (topS 32)) := ⟨rfl, rfl, rfl, by decide +kernel, rfl, by decide +kernel, by decide +kernel⟩
theorem bd__law_pool (T : Tx Lab.T K mg base w) : BodyOk P w K mg base ["_law_figure", "_law_digits"] "_law_pool" (topS 32) (T.A 1) (T.FD 1).code 0 mb__law_pool := by
  have sc := sc__law_pool
  intro cdv A outer s H E F hcv hW hgd hr
  exact (dss_cons (ds_set 1 (pd_if (pdt_w (pdw_or (pdt_cmp od_lt intD_b (pd_name 0) pd_int) (pdw_or1 (pdt_cmp od_ge intD_b (pd_name 0) (pd_bin od_pow pd_int pd_int))))) (pd_callB (cd_abs) T.n_abs (by decide +kernel) (pda_cons (pd_name 0) pda_nil)) pd_int) sc.nd)
    (dss_one (ds_retN (pn_lst (pda_cons (pd_bin od_mod (pd_name 0) pd_int) (pda_cons (pd_name 1) (pda_cons pd_int pda_nil)))))))
theorem ok__law_pool (T : Tx Lab.T K mg base w) : FnG P w K mg base 1 (T.A 1) (T.FD 1) ["_law_figure"] (spN K 1 m__law_pool) :=
  fn_N T.D__law_pool sc__law_pool rfl rfl (bd__law_pool T)
theorem b__law_pool (T : Tx Lab.T K mg base w) : Binds K (T.FD 1) ["_law_figure"] [] := T.D__law_pool.binds fun _ _ _ _ _ _ us hl => match us, hl with | [_], _ => rfl
def mb__law_draw : DEnv → Option DFlow := (sSeq (sAsg (fBin addD (fIxN 0 (fC (.int 2))) (fC (.int 1))) (gSubD 0 (fC (.int 2)))) (sSeq (sSet 2 (fIxN 0 (fC (.int 0)))) (sSeq (sAsg (fBin modD (fBin addD (fBin mulD (rdF 2) (fBin addD (fBin modD (rdF 2) (fC (.int 50021))) (fC (.int 30011)))) (fBin mulD (fC (.int 80021)) (fIxN 0 (fC (.int 2))))) (fC (.int 2147483249))) (gSubD 0 (fC (.int 0)))) (sSeq (sIf (fTst (fBin gtD (fIxN 0 (fC (.int 1))) (fC (.int 0)))) (sSeq (sAsg (fCB divmodB (fCons (fIxN 0 (fC (.int 1))) (fCons (rdF 1) fNil))) (gTupD 2 (gsCons (gSubD 0 (fC (.int 1))) (gsCons (gSet 3) gsNil)))) (sRet (rdF 3))) sNil) (sRet (fBin modD (fBin fdivD (fIxN 0 (fC (.int 0))) (fC (.int 64))) (rdF 1)))))))
def m__law_draw := runR 2 4 mb__law_draw
theorem sc__law_draw : FnScope ["_law_pool_here", "_law_most", "_law_state", "_law_digit"] ["_law_pool_here", "_law_most"] (defScope (topS 33)) := ⟨rfl, rfl, rfl, by decide +kernel, rfl, by decide +kernel, by decide +kernel⟩
theorem bd__law_draw (T : Tx Lab.T K mg base w) : BodyOk P w K mg base ["_law_pool_here", "_law_most", "_law_state", "_law_digit"] "_law_draw" (topS 33) (T.A 2) (T.FD 2).code 0 mb__law_draw := by
  have sc := sc__law_draw
  intro cdv A outer s H E F hcv hW hgd hr
  exact (dss_cons (ds_asg (pd_bin od_add (pd_ixN 0 pd_int) pd_int) (dg_sub 0 pd_int))
    (dss_cons (ds_set 2 (pd_ixN 0 pd_int) sc.nd)
    (dss_cons (ds_asg (pd_bin od_mod (pd_bin od_add (pd_bin od_mul (pd_name 2) (pd_bin od_add (pd_bin od_mod (pd_name 2) pd_int) pd_int)) (pd_bin od_mul pd_int (pd_ixN 0 pd_int))) pd_int) (dg_sub 0 pd_int))
    (dss_cons (ds_if (pdt_cmp od_gt intD_b (pd_ixN 0 pd_int) pd_int) (dss_cons (ds_asg (pd_callB cd_divmodB T.n_divmod (by decide +kernel) (pda_cons (pd_ixN 0 pd_int) (pda_cons (pd_name 1) pda_nil))) (dg_tup (dgs_cons (dg_sub 0 pd_int) (dgs_cons (dg_name 3 sc.nd) dgs_nil))))
      (dss_one (ds_ret (pd_name 3)))) dss_nil)
    (dss_one (ds_ret (pd_bin od_mod (pd_bin od_fdiv (pd_ixN 0 pd_int) pd_int) (pd_name 1))))))))
theorem ok__law_draw (T : Tx Lab.T K mg base w) : FnG P w K mg base 1 (T.A 2) (T.FD 2) ["_law_pool_here", "_law_most"] (spR K 2 m__law_draw) :=
  fn_R T.D__law_draw sc__law_draw rfl rfl (bd__law_draw T)
theorem b__law_draw (T : Tx Lab.T K mg base w) : Binds K (T.FD 2) ["_law_pool_here", "_law_most"] [] := T.D__law_draw.binds fun _ _ _ _ _ _ us hl => match us, hl with | [_, _], _ => rfl
def mb__law_kind : DEnv → Option DFlow := (sSeq (sSetN 1 (fLst (fCons (fIsC mi_InvalidTable (rdF 0)) (fCons (fIsC mi_InvalidColumns (rdF 0)) (fCons (fIsC mi_InvalidOrder (rdF 0)) fNil))))) (sSeq (sSetN 1 (nAdd (rdF 1) (fFrz (fLst (fCons (fIsC mi_InvalidProgram (rdF 0)) (fCons (fIsC mi_InvalidNumber (rdF 0)) (fCons (fIsC mi_InvalidPlaces (rdF 0)) fNil))))))) (sSeq (sSetN 1 (nAdd (rdF 1) (fFrz (fLst (fCons (fIsC mi_InvalidText (rdF 0)) (fCons (fIsC mi_InvalidLimit (rdF 0)) (fCons (fIsC mi_InvalidRecord (rdF 0)) fNil))))))) (sSeq (sSetN 1 (nAdd (rdF 1) (fFrz (fLst (fCons (fIsC mi_InvalidValue (rdF 0)) (fCons (fIsC mi_InvalidEdit (rdF 0)) (fCons (fIsC mi_InvalidCommand (rdF 0)) fNil))))))) (sSeq (sSetN 1 (nAdd (rdF 1) (fFrz (fLst (fCons (fIsC mi_MissingColumn (rdF 0)) (fCons (fIsC mi_NoPlace (rdF 0)) (fCons (fIsC mi_NothingToUndo (rdF 0)) fNil))))))) (sSeq (sSetN 1 (nAdd (rdF 1) (fFrz (fLst (fCons (fIsC mi_TooManyRecords (rdF 0)) (fCons (fIsC mi_TooManyEdits (rdF 0)) (fCons (fIsC mi_LastRecord (rdF 0)) fNil))))))) (sSeq (sSetN 2 (fLst (fCons (fIsC mi_TableError (rdF 0)) (fCons (fIsC mi_FindError (rdF 0)) (fCons (fIsC mi_LimitError (rdF 0)) fNil))))) (sSeq (sSetN 3 (fLst (fCons (fIsC mi_ValueError (rdF 0)) (fCons (fIsC mi_LookupError (rdF 0)) (fCons (fIsC mi_ArithmeticError (rdF 0)) fNil))))) (sSeq (sIf (fOr (fTst (fBin neD (fCntD 1 (fC (.bool true))) (fC (.int 1)))) (fTst (fCmpN neD (rdF 3) 2))) (sRet (fBin subD (fC (.int 0)) (fC (.int 1)))) sNil) (sSeq (sSet 4 (fIdxD 1 (fC (.bool true)))) (sRet (fIf (fTst (fCmpL eqD 2 (fFrz (fLst (fCons (fBin ltD (rdF 4) (fC (.int 12))) (fCons (fChain ltD ltD (fC (.int 11)) (rdF 4) (fC (.int 15))) (fCons (fBin gtD (rdF 4) (fC (.int 14))) fNil))))))) (rdF 4) (fBin subD (fC (.int 0)) (fC (.int 1)))))))))))))))
def m__law_kind := runF 1 5 mb__law_kind
theorem sc__law_kind : FnScope ["_law_e", "_law_found", "_law_bases", "_law_own", "_law_at"] ["_law_e"] (defScope (topS 34)) := ⟨rfl, rfl, rfl, by decide +kernel, rfl, by decide +kernel, by decide +kernel⟩
theorem bd__law_kind (T : Tx Lab.T K mg base w) : BodyOk P w K mg base ["_law_e", "_law_found", "_law_bases", "_law_own", "_law_at"] "_law_kind" (topS 34) (T.A 3) (T.FD 3).code 0 mb__law_kind := by
  have sc := sc__law_kind
  intro cdv A outer s H E F hcv hW hgd hr
  exact (dss_cons (ds_setN 1 (pn_lst (pda_cons (pd_isC (.own _) (mik_InvalidTable T) (pe_glob rfl T.xm_InvalidTable rfl) T.n_isinstance (pd_name 0)) (pda_cons (pd_isC (.own _) (mik_InvalidColumns T) (pe_glob rfl T.xm_InvalidColumns rfl) T.n_isinstance (pd_name 0)) (pda_cons (pd_isC (.own _) (mik_InvalidOrder T) (pe_glob rfl T.xm_InvalidOrder rfl) T.n_isinstance (pd_name 0)) pda_nil)))) sc.nd)
    (dss_cons (ds_setN 1 (pn_addL (pd_name 1) (pn_pd (pn_lst (pda_cons (pd_isC (.own _) (mik_InvalidProgram T) (pe_glob rfl T.xm_InvalidProgram rfl) T.n_isinstance (pd_name 0)) (pda_cons (pd_isC (.own _) (mik_InvalidNumber T) (pe_glob rfl T.xm_InvalidNumber rfl) T.n_isinstance (pd_name 0)) (pda_cons (pd_isC (.own _) (mik_InvalidPlaces T) (pe_glob rfl T.xm_InvalidPlaces rfl) T.n_isinstance (pd_name 0)) pda_nil)))))) sc.nd)
    (dss_cons (ds_setN 1 (pn_addL (pd_name 1) (pn_pd (pn_lst (pda_cons (pd_isC (.own _) (mik_InvalidText T) (pe_glob rfl T.xm_InvalidText rfl) T.n_isinstance (pd_name 0)) (pda_cons (pd_isC (.own _) (mik_InvalidLimit T) (pe_glob rfl T.xm_InvalidLimit rfl) T.n_isinstance (pd_name 0)) (pda_cons (pd_isC (.own _) (mik_InvalidRecord T) (pe_glob rfl T.xm_InvalidRecord rfl) T.n_isinstance (pd_name 0)) pda_nil)))))) sc.nd)
    (dss_cons (ds_setN 1 (pn_addL (pd_name 1) (pn_pd (pn_lst (pda_cons (pd_isC (.own _) (mik_InvalidValue T) (pe_glob rfl T.xm_InvalidValue rfl) T.n_isinstance (pd_name 0)) (pda_cons (pd_isC (.own _) (mik_InvalidEdit T) (pe_glob rfl T.xm_InvalidEdit rfl) T.n_isinstance (pd_name 0)) (pda_cons (pd_isC (.own _) (mik_InvalidCommand T) (pe_glob rfl T.xm_InvalidCommand rfl) T.n_isinstance (pd_name 0)) pda_nil)))))) sc.nd)
    (dss_cons (ds_setN 1 (pn_addL (pd_name 1) (pn_pd (pn_lst (pda_cons (pd_isC (.own _) (mik_MissingColumn T) (pe_glob rfl T.xm_MissingColumn rfl) T.n_isinstance (pd_name 0)) (pda_cons (pd_isC (.own _) (mik_NoPlace T) (pe_glob rfl T.xm_NoPlace rfl) T.n_isinstance (pd_name 0)) (pda_cons (pd_isC (.own _) (mik_NothingToUndo T) (pe_glob rfl T.xm_NothingToUndo rfl) T.n_isinstance (pd_name 0)) pda_nil)))))) sc.nd)
    (dss_cons (ds_setN 1 (pn_addL (pd_name 1) (pn_pd (pn_lst (pda_cons (pd_isC (.own _) (mik_TooManyRecords T) (pe_glob rfl T.xm_TooManyRecords rfl) T.n_isinstance (pd_name 0)) (pda_cons (pd_isC (.own _) (mik_TooManyEdits T) (pe_glob rfl T.xm_TooManyEdits rfl) T.n_isinstance (pd_name 0)) (pda_cons (pd_isC (.own _) (mik_LastRecord T) (pe_glob rfl T.xm_LastRecord rfl) T.n_isinstance (pd_name 0)) pda_nil)))))) sc.nd)
    (dss_cons (ds_setN 2 (pn_lst (pda_cons (pd_isC (.own _) (mik_TableError T) (pe_glob rfl T.xm_TableError rfl) T.n_isinstance (pd_name 0)) (pda_cons (pd_isC (.own _) (mik_FindError T) (pe_glob rfl T.xm_FindError rfl) T.n_isinstance (pd_name 0)) (pda_cons (pd_isC (.own _) (mik_LimitError T) (pe_glob rfl T.xm_LimitError rfl) T.n_isinstance (pd_name 0)) pda_nil)))) sc.nd)
    (dss_cons (ds_setN 3 (pn_lst (pda_cons (pd_isC (.ty "ValueError") (mik_ValueError T) (pe_bltn rfl T.n_ValueError (by decide +kernel) rfl) T.n_isinstance (pd_name 0)) (pda_cons (pd_isC (.ty "LookupError") (mik_LookupError T) (pe_bltn rfl T.n_LookupError (by decide +kernel) rfl) T.n_isinstance (pd_name 0)) (pda_cons (pd_isC (.ty "ArithmeticError") (mik_ArithmeticError T) (pe_bltn rfl T.n_ArithmeticError (by decide +kernel) rfl) T.n_isinstance (pd_name 0)) pda_nil)))) sc.nd)
    (dss_cons (ds_if (pdt_w (pdw_or (pdt_cmp (od_ne hr) neD_b (pd_cntD hr 1 pd_bl) pd_int) (pdw_or1 (pdt_cmpN (od_ne hr) neD_scal neD_b (pd_name 3) 2)))) (dss_one (ds_ret (pd_bin od_sub pd_int pd_int))) dss_nil)
    (dss_cons (ds_set 4 (pd_idxD hr 1 pd_bl) sc.nd)
    (dss_one (ds_ret (pd_if (pdt_cmpL (od_eq hr) eqD_scal eqD_b 2 (pn_pd (pn_lst (pda_cons (pd_cmp od_lt (pd_name 4) pd_int) (pda_cons (pd_chain od_lt od_lt pd_int (pd_name 4) pd_int) (pda_cons (pd_cmp od_gt (pd_name 4) pd_int) pda_nil)))))) (pd_name 4) (pd_bin od_sub pd_int pd_int))))))))))))))
theorem ok__law_kind (T : Tx Lab.T K mg base w) : FnG P w K mg base 1 (T.A 3) (T.FD 3) ["_law_e"] (spF K 1 m__law_kind) :=
  fn_F T.D__law_kind sc__law_kind rfl rfl (bd__law_kind T)
theorem b__law_kind (T : Tx Lab.T K mg base w) : Binds K (T.FD 3) ["_law_e"] [] := T.D__law_kind.binds fun _ _ _ _ _ _ us hl => match us, hl with | [_], _ => rfl
def mb__law_first : DEnv → Option DFlow := (sSeq (sSetN 1 (fLst (fCons (fExN "InvalidTable" "index" (rdF 0)) (fCons (fExK "InvalidTable" "index" (fCons (rdF 0) fNil)) (fCons (fExN "InvalidColumns" "columns" (rdF 0)) (fCons (fExK "InvalidColumns" "columns" (fCons (rdF 0) fNil)) fNil)))))) (sSeq (sSetN 1 (nAdd (rdF 1) (fFrz (fLst (fCons (fExN "InvalidOrder" "index" (rdF 0)) (fCons (fExK "InvalidOrder" "index" (fCons (rdF 0) fNil)) (fCons (fExN "InvalidProgram" "index" (rdF 0)) (fCons (fExK "InvalidProgram" "index" (fCons (rdF 0) fNil)) fNil)))))))) (sSeq (sSetN 1 (nAdd (rdF 1) (fFrz (fLst (fCons (fExN "InvalidNumber" "number" (rdF 0)) (fCons (fExK "InvalidNumber" "number" (fCons (rdF 0) fNil)) (fCons (fExN "InvalidPlaces" "index" (rdF 0)) (fCons (fExK "InvalidPlaces" "index" (fCons (rdF 0) fNil)) fNil)))))))) (sSeq (sSetN 2 (nAdd (fFrz (nLc (iSeq (fSl (rdF 1) oNone (oSome (fC (.int 2))))) (gSet 3) fYes (fExA "index" (rdF 3)) [3])) (fFrz (nLc (iSeq (fSl (rdF 1) (oSome (fC (.int 2))) (oSome (fC (.int 4))))) (gSet 3) fYes (fExA "columns" (rdF 3)) [3])))) (sSeq (sSetN 2 (nAdd (fFrz (nAdd (rdF 2) (fFrz (nLc (iSeq (fSl (rdF 1) (oSome (fC (.int 4))) (oSome (fC (.int 8))))) (gSet 3) fYes (fExA "index" (rdF 3)) [3])))) (fFrz (nLc (iSeq (fSl (rdF 1) (oSome (fC (.int 8))) (oSome (fC (.int 10))))) (gSet 3) fYes (fExA "number" (rdF 3)) [3])))) (sRet (fFrz (fLst (fCons (rdF 1) (fCons (fFrz (nAdd (rdF 2) (fFrz (nLc (iSeq (fSl (rdF 1) (oSome (fC (.int 10))) oNone)) (gSet 3) fYes (fExA "index" (rdF 3)) [3])))) fNil))))))))))
def m__law_first := runF 1 4 mb__law_first
theorem sc__law_first : FnScope ["_law_thing", "_law_made", "_law_shown", "_law_one"] ["_law_thing"] (defScope (topS 35)) := ⟨rfl, rfl, rfl, by decide +kernel, rfl, by decide +kernel, by decide +kernel⟩
theorem bd__law_first (T : Tx Lab.T K mg base w) : BodyOk P w K mg base ["_law_thing", "_law_made", "_law_shown", "_law_one"] "_law_first" (topS 35) (T.A 4) (T.FD 4).code 2 mb__law_first := by
  have sc := sc__law_first
  intro cdv A outer s H E F hcv hW hgd hr
  exact (dss_cons (ds_setN 1 (pn_lst (pda_cons (pd_newC T.hC (xkx_InvalidTable T) (xhn_InvalidTable T) T.x_InvalidTable T.xi_InvalidTable T.xt_InvalidTable (xo_InvalidTable T) (hr.mono (by decide)) (xb_InvalidTable T) T.xm_InvalidTable (pd_name 0)) (pda_cons (pd_newKC T.hC (xkx_InvalidTable T) (xhn_InvalidTable T) T.x_InvalidTable T.xi_InvalidTable T.xt_InvalidTable (xo_InvalidTable T) (hr.mono (by decide)) (xbk_InvalidTable T) T.xm_InvalidTable (pdk_cons (pd_name 0) pdk_nil)) (pda_cons (pd_newC T.hC (xkx_InvalidColumns T) (xhn_InvalidColumns T) T.x_InvalidColumns T.xi_InvalidColumns T.xt_InvalidColumns (xo_InvalidColumns T) (hr.mono (by decide)) (xb_InvalidColumns T) T.xm_InvalidColumns (pd_name 0)) (pda_cons (pd_newKC T.hC (xkx_InvalidColumns T) (xhn_InvalidColumns T) T.x_InvalidColumns T.xi_InvalidColumns T.xt_InvalidColumns (xo_InvalidColumns T) (hr.mono (by decide)) (xbk_InvalidColumns T) T.xm_InvalidColumns (pdk_cons (pd_name 0) pdk_nil)) pda_nil))))) sc.nd)
    (dss_cons (ds_setN 1 (pn_addL (pd_name 1) (pn_pd (pn_lst (pda_cons (pd_newC T.hC (xkx_InvalidOrder T) (xhn_InvalidOrder T) T.x_InvalidOrder T.xi_InvalidOrder T.xt_InvalidOrder (xo_InvalidOrder T) (hr.mono (by decide)) (xb_InvalidOrder T) T.xm_InvalidOrder (pd_name 0)) (pda_cons (pd_newKC T.hC (xkx_InvalidOrder T) (xhn_InvalidOrder T) T.x_InvalidOrder T.xi_InvalidOrder T.xt_InvalidOrder (xo_InvalidOrder T) (hr.mono (by decide)) (xbk_InvalidOrder T) T.xm_InvalidOrder (pdk_cons (pd_name 0) pdk_nil)) (pda_cons (pd_newC T.hC (xkx_InvalidProgram T) (xhn_InvalidProgram T) T.x_InvalidProgram T.xi_InvalidProgram T.xt_InvalidProgram (xo_InvalidProgram T) (hr.mono (by decide)) (xb_InvalidProgram T) T.xm_InvalidProgram (pd_name 0)) (pda_cons (pd_newKC T.hC (xkx_InvalidProgram T) (xhn_InvalidProgram T) T.x_InvalidProgram T.xi_InvalidProgram T.xt_InvalidProgram (xo_InvalidProgram T) (hr.mono (by decide)) (xbk_InvalidProgram T) T.xm_InvalidProgram (pdk_cons (pd_name 0) pdk_nil)) pda_nil))))))) sc.nd)
    (dss_cons (ds_setN 1 (pn_addL (pd_name 1) (pn_pd (pn_lst (pda_cons (pd_newC T.hC (xkx_InvalidNumber T) (xhn_InvalidNumber T) T.x_InvalidNumber T.xi_InvalidNumber T.xt_InvalidNumber (xo_InvalidNumber T) (hr.mono (by decide)) (xb_InvalidNumber T) T.xm_InvalidNumber (pd_name 0)) (pda_cons (pd_newKC T.hC (xkx_InvalidNumber T) (xhn_InvalidNumber T) T.x_InvalidNumber T.xi_InvalidNumber T.xt_InvalidNumber (xo_InvalidNumber T) (hr.mono (by decide)) (xbk_InvalidNumber T) T.xm_InvalidNumber (pdk_cons (pd_name 0) pdk_nil)) (pda_cons (pd_newC T.hC (xkx_InvalidPlaces T) (xhn_InvalidPlaces T) T.x_InvalidPlaces T.xi_InvalidPlaces T.xt_InvalidPlaces (xo_InvalidPlaces T) (hr.mono (by decide)) (xb_InvalidPlaces T) T.xm_InvalidPlaces (pd_name 0)) (pda_cons (pd_newKC T.hC (xkx_InvalidPlaces T) (xhn_InvalidPlaces T) T.x_InvalidPlaces T.xi_InvalidPlaces T.xt_InvalidPlaces (xo_InvalidPlaces T) (hr.mono (by decide)) (xbk_InvalidPlaces T) T.xm_InvalidPlaces (pdk_cons (pd_name 0) pdk_nil)) pda_nil))))))) sc.nd)
    (dss_cons (ds_setN 2 (pn_addL (pn_pd (pn_lc [("_law_one", 3)] sc.nd (di_seq (pd_slice (pd_name 1) do_none (do_some pd_int))) (blkOk_by (own := [("_law_one", 3)]) (by kernel_rfl)) (fun _ _ _ _ _ => (gn_name 3 sc.nd)) (fun _ _ _ _ _ => dts_nil) (fun _ _ _ _ _ => (pd_exA (pd_name 3))))) (pn_pd (pn_lc [("_law_one", 3)] sc.nd (di_seq (pd_slice (pd_name 1) (do_some pd_int) (do_some pd_int))) (blkOk_by (own := [("_law_one", 3)]) (by kernel_rfl)) (fun _ _ _ _ _ => (gn_name 3 sc.nd)) (fun _ _ _ _ _ => dts_nil) (fun _ _ _ _ _ => (pd_exA (pd_name 3)))))) sc.nd)
    (dss_cons (ds_setN 2 (pn_addL (pn_pd (pn_addL (pd_name 2) (pn_pd (pn_lc [("_law_one", 3)] sc.nd (di_seq (pd_slice (pd_name 1) (do_some pd_int) (do_some pd_int))) (blkOk_by (own := [("_law_one", 3)]) (by kernel_rfl)) (fun _ _ _ _ _ => (gn_name 3 sc.nd)) (fun _ _ _ _ _ => dts_nil) (fun _ _ _ _ _ => (pd_exA (pd_name 3))))))) (pn_pd (pn_lc [("_law_one", 3)] sc.nd (di_seq (pd_slice (pd_name 1) (do_some pd_int) (do_some pd_int))) (blkOk_by (own := [("_law_one", 3)]) (by kernel_rfl)) (fun _ _ _ _ _ => (gn_name 3 sc.nd)) (fun _ _ _ _ _ => dts_nil) (fun _ _ _ _ _ => (pd_exA (pd_name 3)))))) sc.nd)
    (dss_one (ds_ret (pn_pd (pn_lst (pda_cons (pd_name 1) (pda_cons (pn_pd (pn_addL (pd_name 2) (pn_pd (pn_lc [("_law_one", 3)] sc.nd (di_seq (pd_slice (pd_name 1) (do_some pd_int) do_none)) (blkOk_by (own := [("_law_one", 3)]) (by kernel_rfl)) (fun _ _ _ _ _ => (gn_name 3 sc.nd)) (fun _ _ _ _ _ => dts_nil) (fun _ _ _ _ _ => (pd_exA (pd_name 3))))))) pda_nil)))))))))))
theorem ok__law_first (T : Tx Lab.T K mg base w) : FnG P w K mg base 3 (T.A 4) (T.FD 4) ["_law_thing"] (spF K 1 m__law_first) :=
  fn_F T.D__law_first sc__law_first rfl rfl (bd__law_first T)
theorem b__law_first (T : Tx Lab.T K mg base w) : Binds K (T.FD 4) ["_law_thing"] [] := T.D__law_first.binds fun _ _ _ _ _ _ us hl => match us, hl with | [_], _ => rfl
def mb__law_second : DEnv → Option DFlow := (sSeq (sSetN 1 (fLst (fCons (fExN "InvalidText" "text" (rdF 0)) (fCons (fExK "InvalidText" "text" (fCons (rdF 0) fNil)) (fCons (fExN "InvalidLimit" "value" (rdF 0)) (fCons (fExK "InvalidLimit" "value" (fCons (rdF 0) fNil)) fNil)))))) (sSeq (sSetN 1 (nAdd (rdF 1) (fFrz (fLst (fCons (fExN "InvalidRecord" "record" (rdF 0)) (fCons (fExK "InvalidRecord" "record" (fCons (rdF 0) fNil)) (fCons (fExN "InvalidValue" "value" (rdF 0)) (fCons (fExK "InvalidValue" "value" (fCons (rdF 0) fNil)) fNil)))))))) (sSeq (sSetN 1 (nAdd (rdF 1) (fFrz (fLst (fCons (fExN "InvalidEdit" "index" (rdF 0)) (fCons (fExK "InvalidEdit" "index" (fCons (rdF 0) fNil)) (fCons (fExN "InvalidCommand" "line" (rdF 0)) (fCons (fExK "InvalidCommand" "line" (fCons (rdF 0) fNil)) fNil)))))))) (sSeq (sSetN 2 (nAdd (fFrz (nLc (iSeq (fSl (rdF 1) oNone (oSome (fC (.int 2))))) (gSet 3) fYes (fExA "text" (rdF 3)) [3])) (fFrz (nLc (iSeq (fSl (rdF 1) (oSome (fC (.int 2))) (oSome (fC (.int 4))))) (gSet 3) fYes (fExA "value" (rdF 3)) [3])))) (sSeq (sSetN 2 (nAdd (fFrz (nAdd (rdF 2) (fFrz (nLc (iSeq (fSl (rdF 1) (oSome (fC (.int 4))) (oSome (fC (.int 6))))) (gSet 3) fYes (fExA "record" (rdF 3)) [3])))) (fFrz (nLc (iSeq (fSl (rdF 1) (oSome (fC (.int 6))) (oSome (fC (.int 8))))) (gSet 3) fYes (fExA "value" (rdF 3)) [3])))) (sRet (fFrz (fLst (fCons (rdF 1) (fCons (fFrz (nAdd (fFrz (nAdd (rdF 2) (fFrz (nLc (iSeq (fSl (rdF 1) (oSome (fC (.int 8))) (oSome (fC (.int 10))))) (gSet 3) fYes (fExA "index" (rdF 3)) [3])))) (fFrz (nLc (iSeq (fSl (rdF 1) (oSome (fC (.int 10))) oNone)) (gSet 3) fYes (fExA "line" (rdF 3)) [3])))) fNil))))))))))
def m__law_second := runF 1 4 mb__law_second
theorem sc__law_second : FnScope ["_law_thing", "_law_made", "_law_shown", "_law_one"] ["_law_thing"] (defScope (topS 36)) := ⟨rfl, rfl, rfl, by decide +kernel, rfl, by decide +kernel, by decide +kernel⟩
theorem bd__law_second (T : Tx Lab.T K mg base w) : BodyOk P w K mg base ["_law_thing", "_law_made", "_law_shown", "_law_one"] "_law_second" (topS 36) (T.A 5) (T.FD 5).code 2 mb__law_second := by
  have sc := sc__law_second
  intro cdv A outer s H E F hcv hW hgd hr
  exact (dss_cons (ds_setN 1 (pn_lst (pda_cons (pd_newC T.hC (xkx_InvalidText T) (xhn_InvalidText T) T.x_InvalidText T.xi_InvalidText T.xt_InvalidText (xo_InvalidText T) (hr.mono (by decide)) (xb_InvalidText T) T.xm_InvalidText (pd_name 0)) (pda_cons (pd_newKC T.hC (xkx_InvalidText T) (xhn_InvalidText T) T.x_InvalidText T.xi_InvalidText T.xt_InvalidText (xo_InvalidText T) (hr.mono (by decide)) (xbk_InvalidText T) T.xm_InvalidText (pdk_cons (pd_name 0) pdk_nil)) (pda_cons (pd_newC T.hC (xkx_InvalidLimit T) (xhn_InvalidLimit T) T.x_InvalidLimit T.xi_InvalidLimit T.xt_InvalidLimit (xo_InvalidLimit T) (hr.mono (by decide)) (xb_InvalidLimit T) T.xm_InvalidLimit (pd_name 0)) (pda_cons (pd_newKC T.hC (xkx_InvalidLimit T) (xhn_InvalidLimit T) T.x_InvalidLimit T.xi_InvalidLimit T.xt_InvalidLimit (xo_InvalidLimit T) (hr.mono (by decide)) (xbk_InvalidLimit T) T.xm_InvalidLimit (pdk_cons (pd_name 0) pdk_nil)) pda_nil))))) sc.nd)
    (dss_cons (ds_setN 1 (pn_addL (pd_name 1) (pn_pd (pn_lst (pda_cons (pd_newC T.hC (xkx_InvalidRecord T) (xhn_InvalidRecord T) T.x_InvalidRecord T.xi_InvalidRecord T.xt_InvalidRecord (xo_InvalidRecord T) (hr.mono (by decide)) (xb_InvalidRecord T) T.xm_InvalidRecord (pd_name 0)) (pda_cons (pd_newKC T.hC (xkx_InvalidRecord T) (xhn_InvalidRecord T) T.x_InvalidRecord T.xi_InvalidRecord T.xt_InvalidRecord (xo_InvalidRecord T) (hr.mono (by decide)) (xbk_InvalidRecord T) T.xm_InvalidRecord (pdk_cons (pd_name 0) pdk_nil)) (pda_cons (pd_newC T.hC (xkx_InvalidValue T) (xhn_InvalidValue T) T.x_InvalidValue T.xi_InvalidValue T.xt_InvalidValue (xo_InvalidValue T) (hr.mono (by decide)) (xb_InvalidValue T) T.xm_InvalidValue (pd_name 0)) (pda_cons (pd_newKC T.hC (xkx_InvalidValue T) (xhn_InvalidValue T) T.x_InvalidValue T.xi_InvalidValue T.xt_InvalidValue (xo_InvalidValue T) (hr.mono (by decide)) (xbk_InvalidValue T) T.xm_InvalidValue (pdk_cons (pd_name 0) pdk_nil)) pda_nil))))))) sc.nd)
    (dss_cons (ds_setN 1 (pn_addL (pd_name 1) (pn_pd (pn_lst (pda_cons (pd_newC T.hC (xkx_InvalidEdit T) (xhn_InvalidEdit T) T.x_InvalidEdit T.xi_InvalidEdit T.xt_InvalidEdit (xo_InvalidEdit T) (hr.mono (by decide)) (xb_InvalidEdit T) T.xm_InvalidEdit (pd_name 0)) (pda_cons (pd_newKC T.hC (xkx_InvalidEdit T) (xhn_InvalidEdit T) T.x_InvalidEdit T.xi_InvalidEdit T.xt_InvalidEdit (xo_InvalidEdit T) (hr.mono (by decide)) (xbk_InvalidEdit T) T.xm_InvalidEdit (pdk_cons (pd_name 0) pdk_nil)) (pda_cons (pd_newC T.hC (xkx_InvalidCommand T) (xhn_InvalidCommand T) T.x_InvalidCommand T.xi_InvalidCommand T.xt_InvalidCommand (xo_InvalidCommand T) (hr.mono (by decide)) (xb_InvalidCommand T) T.xm_InvalidCommand (pd_name 0)) (pda_cons (pd_newKC T.hC (xkx_InvalidCommand T) (xhn_InvalidCommand T) T.x_InvalidCommand T.xi_InvalidCommand T.xt_InvalidCommand (xo_InvalidCommand T) (hr.mono (by decide)) (xbk_InvalidCommand T) T.xm_InvalidCommand (pdk_cons (pd_name 0) pdk_nil)) pda_nil))))))) sc.nd)
    (dss_cons (ds_setN 2 (pn_addL (pn_pd (pn_lc [("_law_one", 3)] sc.nd (di_seq (pd_slice (pd_name 1) do_none (do_some pd_int))) (blkOk_by (own := [("_law_one", 3)]) (by kernel_rfl)) (fun _ _ _ _ _ => (gn_name 3 sc.nd)) (fun _ _ _ _ _ => dts_nil) (fun _ _ _ _ _ => (pd_exA (pd_name 3))))) (pn_pd (pn_lc [("_law_one", 3)] sc.nd (di_seq (pd_slice (pd_name 1) (do_some pd_int) (do_some pd_int))) (blkOk_by (own := [("_law_one", 3)]) (by kernel_rfl)) (fun _ _ _ _ _ => (gn_name 3 sc.nd)) (fun _ _ _ _ _ => dts_nil) (fun _ _ _ _ _ => (pd_exA (pd_name 3)))))) sc.nd)
    (dss_cons (ds_setN 2 (pn_addL (pn_pd (pn_addL (pd_name 2) (pn_pd (pn_lc [("_law_one", 3)] sc.nd (di_seq (pd_slice (pd_name 1) (do_some pd_int) (do_some pd_int))) (blkOk_by (own := [("_law_one", 3)]) (by kernel_rfl)) (fun _ _ _ _ _ => (gn_name 3 sc.nd)) (fun _ _ _ _ _ => dts_nil) (fun _ _ _ _ _ => (pd_exA (pd_name 3))))))) (pn_pd (pn_lc [("_law_one", 3)] sc.nd (di_seq (pd_slice (pd_name 1) (do_some pd_int) (do_some pd_int))) (blkOk_by (own := [("_law_one", 3)]) (by kernel_rfl)) (fun _ _ _ _ _ => (gn_name 3 sc.nd)) (fun _ _ _ _ _ => dts_nil) (fun _ _ _ _ _ => (pd_exA (pd_name 3)))))) sc.nd)
    (dss_one (ds_ret (pn_pd (pn_lst (pda_cons (pd_name 1) (pda_cons (pn_pd (pn_addL (pn_pd (pn_addL (pd_name 2) (pn_pd (pn_lc [("_law_one", 3)] sc.nd (di_seq (pd_slice (pd_name 1) (do_some pd_int) (do_some pd_int))) (blkOk_by (own := [("_law_one", 3)]) (by kernel_rfl)) (fun _ _ _ _ _ => (gn_name 3 sc.nd)) (fun _ _ _ _ _ => dts_nil) (fun _ _ _ _ _ => (pd_exA (pd_name 3))))))) (pn_pd (pn_lc [("_law_one", 3)] sc.nd (di_seq (pd_slice (pd_name 1) (do_some pd_int) do_none)) (blkOk_by (own := [("_law_one", 3)]) (by kernel_rfl)) (fun _ _ _ _ _ => (gn_name 3 sc.nd)) (fun _ _ _ _ _ => dts_nil) (fun _ _ _ _ _ => (pd_exA (pd_name 3))))))) pda_nil)))))))))))
theorem ok__law_second (T : Tx Lab.T K mg base w) : FnG P w K mg base 3 (T.A 5) (T.FD 5) ["_law_thing"] (spF K 1 m__law_second) :=
  fn_F T.D__law_second sc__law_second rfl rfl (bd__law_second T)
theorem b__law_second (T : Tx Lab.T K mg base w) : Binds K (T.FD 5) ["_law_thing"] [] := T.D__law_second.binds fun _ _ _ _ _ _ us hl => match us, hl with | [_], _ => rfl
def mb__law_third : DEnv → Option DFlow := (sSeq (sSetN 1 (fLst (fCons (fExN "MissingColumn" "column" (rdF 0)) (fCons (fExK "MissingColumn" "column" (fCons (rdF 0) fNil)) (fCons (fExN "NoPlace" "place" (rdF 0)) (fCons (fExK "NoPlace" "place" (fCons (rdF 0) fNil)) fNil)))))) (sSeq (sSetN 1 (nAdd (rdF 1) (fFrz (fLst (fCons (fExN "TooManyRecords" "count" (rdF 0)) (fCons (fExK "TooManyRecords" "count" (fCons (rdF 0) fNil)) (fCons (fExN "TooManyEdits" "count" (rdF 0)) (fCons (fExK "TooManyEdits" "count" (fCons (rdF 0) fNil)) fNil)))))))) (sSeq (sSetN 2 (nAdd (fFrz (nLc (iSeq (fSl (rdF 1) oNone (oSome (fC (.int 2))))) (gSet 3) fYes (fExA "column" (rdF 3)) [3])) (fFrz (nLc (iSeq (fSl (rdF 1) (oSome (fC (.int 2))) (oSome (fC (.int 4))))) (gSet 3) fYes (fExA "place" (rdF 3)) [3])))) (sRet (fFrz (fLst (fCons (rdF 1) (fCons (fFrz (nAdd (rdF 2) (fFrz (nLc (iSeq (fSl (rdF 1) (oSome (fC (.int 4))) oNone)) (gSet 3) fYes (fExA "count" (rdF 3)) [3])))) fNil))))))))
def m__law_third := runF 1 4 mb__law_third
theorem sc__law_third : FnScope ["_law_thing", "_law_made", "_law_shown", "_law_one"] ["_law_thing"] (defScope (topS 37)) := ⟨rfl, rfl, rfl, by decide +kernel, rfl, by decide +kernel, by decide +kernel⟩
theorem bd__law_third (T : Tx Lab.T K mg base w) : BodyOk P w K mg base ["_law_thing", "_law_made", "_law_shown", "_law_one"] "_law_third" (topS 37) (T.A 6) (T.FD 6).code 2 mb__law_third := by
  have sc := sc__law_third
  intro cdv A outer s H E F hcv hW hgd hr
  exact (dss_cons (ds_setN 1 (pn_lst (pda_cons (pd_newL T.hC (xkx_MissingColumn T) (xhn_MissingColumn T) T.x_MissingColumn T.xi_MissingColumn T.xt_MissingColumn (xo_MissingColumn T) (hr.mono (by decide)) (xb_MissingColumn T) T.xm_MissingColumn (pd_name 0)) (pda_cons (pd_newKL T.hC (xkx_MissingColumn T) (xhn_MissingColumn T) T.x_MissingColumn T.xi_MissingColumn T.xt_MissingColumn (xo_MissingColumn T) (hr.mono (by decide)) (xbk_MissingColumn T) T.xm_MissingColumn (pdk_cons (pd_name 0) pdk_nil)) (pda_cons (pd_newL T.hC (xkx_NoPlace T) (xhn_NoPlace T) T.x_NoPlace T.xi_NoPlace T.xt_NoPlace (xo_NoPlace T) (hr.mono (by decide)) (xb_NoPlace T) T.xm_NoPlace (pd_name 0)) (pda_cons (pd_newKL T.hC (xkx_NoPlace T) (xhn_NoPlace T) T.x_NoPlace T.xi_NoPlace T.xt_NoPlace (xo_NoPlace T) (hr.mono (by decide)) (xbk_NoPlace T) T.xm_NoPlace (pdk_cons (pd_name 0) pdk_nil)) pda_nil))))) sc.nd)
    (dss_cons (ds_setN 1 (pn_addL (pd_name 1) (pn_pd (pn_lst (pda_cons (pd_newA T.hC (xkx_TooManyRecords T) (xhn_TooManyRecords T) T.x_TooManyRecords T.xi_TooManyRecords T.xt_TooManyRecords (xo_TooManyRecords T) (hr.mono (by decide)) (xb_TooManyRecords T) T.xm_TooManyRecords (pd_name 0)) (pda_cons (pd_newKA T.hC (xkx_TooManyRecords T) (xhn_TooManyRecords T) T.x_TooManyRecords T.xi_TooManyRecords T.xt_TooManyRecords (xo_TooManyRecords T) (hr.mono (by decide)) (xbk_TooManyRecords T) T.xm_TooManyRecords (pdk_cons (pd_name 0) pdk_nil)) (pda_cons (pd_newA T.hC (xkx_TooManyEdits T) (xhn_TooManyEdits T) T.x_TooManyEdits T.xi_TooManyEdits T.xt_TooManyEdits (xo_TooManyEdits T) (hr.mono (by decide)) (xb_TooManyEdits T) T.xm_TooManyEdits (pd_name 0)) (pda_cons (pd_newKA T.hC (xkx_TooManyEdits T) (xhn_TooManyEdits T) T.x_TooManyEdits T.xi_TooManyEdits T.xt_TooManyEdits (xo_TooManyEdits T) (hr.mono (by decide)) (xbk_TooManyEdits T) T.xm_TooManyEdits (pdk_cons (pd_name 0) pdk_nil)) pda_nil))))))) sc.nd)
    (dss_cons (ds_setN 2 (pn_addL (pn_pd (pn_lc [("_law_one", 3)] sc.nd (di_seq (pd_slice (pd_name 1) do_none (do_some pd_int))) (blkOk_by (own := [("_law_one", 3)]) (by kernel_rfl)) (fun _ _ _ _ _ => (gn_name 3 sc.nd)) (fun _ _ _ _ _ => dts_nil) (fun _ _ _ _ _ => (pd_exA (pd_name 3))))) (pn_pd (pn_lc [("_law_one", 3)] sc.nd (di_seq (pd_slice (pd_name 1) (do_some pd_int) (do_some pd_int))) (blkOk_by (own := [("_law_one", 3)]) (by kernel_rfl)) (fun _ _ _ _ _ => (gn_name 3 sc.nd)) (fun _ _ _ _ _ => dts_nil) (fun _ _ _ _ _ => (pd_exA (pd_name 3)))))) sc.nd)
    (dss_one (ds_ret (pn_pd (pn_lst (pda_cons (pd_name 1) (pda_cons (pn_pd (pn_addL (pd_name 2) (pn_pd (pn_lc [("_law_one", 3)] sc.nd (di_seq (pd_slice (pd_name 1) (do_some pd_int) do_none)) (blkOk_by (own := [("_law_one", 3)]) (by kernel_rfl)) (fun _ _ _ _ _ => (gn_name 3 sc.nd)) (fun _ _ _ _ _ => dts_nil) (fun _ _ _ _ _ => (pd_exA (pd_name 3))))))) pda_nil)))))))))
theorem ok__law_third (T : Tx Lab.T K mg base w) : FnG P w K mg base 3 (T.A 6) (T.FD 6) ["_law_thing"] (spF K 1 m__law_third) :=
  fn_F T.D__law_third sc__law_third rfl rfl (bd__law_third T)
theorem b__law_third (T : Tx Lab.T K mg base w) : Binds K (T.FD 6) ["_law_thing"] [] := T.D__law_third.binds fun _ _ _ _ _ _ us hl => match us, hl with | [_], _ => rfl
def mb__law_right : DEnv → Option DFlow := (sSeq (sSetN 1 (fLst (fCons (fC .none) (fCons (fC (.int 0)) (fCons (fC (.bool true)) (fCons (fC (.str "index")) (fCons (fTup (fCons (fC (.int 1)) (fCons (fC (.int 2)) fNil))) (fCons (fFrz (fLst (fCons (fC (.int 3)) fNil))) (fCons (fC (.dict [])) (fCons (fBin powD (fC (.int 10)) (fC (.int 30))) (fCons (fBin subD (fC (.int 0)) (fC (.int 5))) (fCons (fTup (fCons (fC (.str "up")) fNil)) fNil)))))))))))) (sSeq (sSet 2 (fIxN 1 (fCR 0 m__law_draw (fCons (fC (.int 10)) fNil)))) (sSeq (sPar 3 4 (fCons (fCB m__law_first (fCons (rdF 2) fNil)) (fCons (fCB m__law_second (fCons (rdF 2) fNil)) fNil))) (sSeq (sSet 5 (fCB m__law_third (fCons (rdF 2) fNil))) (sSeq (sFor (iSeq (fFrz (fLst (fCons (rdF 3) (fCons (rdF 4) (fCons (rdF 5) fNil)))))) (gLstD 2 (gsCons (gSet 6) (gsCons (gSet 7) gsNil))) (sSeq (sIf (fTst (fBin neD (fLenN 6) (fLenN 7))) (sRet (fC (.bool false))) sNil) (sIf (fNot (fTst (fCB allD (fCons (fFrz (nLc (iSeq (rdF 7)) (gSet 11) fYes (fBin eqD (fCB reprE (fCons (rdF 11) fNil)) (fCB reprE (fCons (rdF 2) fNil))) [11])) fNil)))) (sRet (fC (.bool false))) sNil))) (sSeq (sSetN 8 (nAdd (fBin addD (fBin addD (fIxN 3 (fC (.int 0))) (fIxN 4 (fC (.int 0)))) (fIxN 5 (fC (.int 0)))) (fFrz (fLst (fCons (fC (exnD "NothingToUndo")) (fCons (fC (exnD "LastRecord")) fNil)))))) (sSeq (sIf (fTst (fCB anyD (fCons (fFrz (nLcH 8 (gSet 11) fYes (fOrV (fIsC mi_KeyError (rdF 11)) (fIsC mi_IndexError (rdF 11))) [11])) fNil))) (sRet (fC (.bool false))) sNil) (sSeq (sIf (fTst (fCB anyD (fCons (fFrz (nLcH 8 (gSet 11) fYes (fOrV (fIsC mi_OverflowError (rdF 11)) (fIsC mi_ZeroDivisionError (rdF 11))) [11])) fNil))) (sRet (fC (.bool false))) sNil) (sSeq (sSetN 9 (fLst fNil)) (sSeq (sFor (iSeq (fFrz (nAdd (fFrz (nListRg (fC (.int 14)))) (fFrz (fLst (fCons (fC (.int 15)) (fCons (fC (.int 16)) fNil))))))) (gSet 10) (sSetN 9 (nAdd (rdF 9) (fFrz (fLst (fCons (rdF 10) (fCons (rdF 10) fNil))))))) (sRet (fBin eqD (fFrz (nLcH 8 (gSet 11) fYes (fCB m__law_kind (fCons (rdF 11) fNil)) [11])) (fFrz (nAdd (rdF 9) (fFrz (fLst (fCons (fC (.int 14)) (fCons (fC (.int 17)) fNil))))))))))))))))))
def m__law_right := runR 1 12 mb__law_right
theorem sc__law_right : FnScope ["_law_pool_here", "_law_things", "_law_thing", "_law_first_here", "_law_second_here", "_law_third_here", "_law_made", "_law_shown", "_law_whole", "_law_due", "_law_at", "_law_one"] ["_law_pool_here"] (defScope (topS 38)) := ⟨rfl, rfl, rfl, by decide +kernel, rfl, by decide +kernel, by decide +kernel⟩
theorem bd__law_right (T : Tx Lab.T K mg base w) : BodyOk P w K mg base ["_law_pool_here", "_law_things", "_law_thing", "_law_first_here", "_law_second_here", "_law_third_here", "_law_made", "_law_shown", "_law_whole", "_law_due", "_law_at", "_law_one"] "_law_right" (topS 38) (T.A 7) (T.FD 7).code 3 mb__law_right := by
  have sc := sc__law_right
  intro cdv A outer s H E F hcv hW hgd hr
  exact (dss_cons (ds_setN 1 (pn_lst (pda_cons pd_non (pda_cons pd_int (pda_cons pd_bl (pda_cons pd_str (pda_cons (pd_tup (pda_cons pd_int (pda_cons pd_int pda_nil))) (pda_cons (pn_pd (pn_lst (pda_cons pd_int pda_nil))) (pda_cons pd_dict0 (pda_cons (pd_bin od_pow pd_int pd_int) (pda_cons (pd_bin od_sub pd_int pd_int) (pda_cons (pd_tup (pda_cons pd_str pda_nil)) pda_nil))))))))))) sc.nd)
    (dss_cons (ds_set 2 (pd_ixN 1 (pd_callR 0 ((ok__law_draw T).mono (by decide)) runR_len hgd hr T.g__law_draw T.D__law_draw.kp (b__law_draw T) (pda_cons pd_int pda_nil))) sc.nd)
    (dss_cons (ds_par 3 4 (ps_par (i := 3) (j := 4) rfl sc.nd rfl rfl (by decide) rfl rfl (pda_cons (pd_call ((ok__law_first T).mono (by decide)) runF_len hgd hr T.g__law_first T.D__law_first.kp (b__law_first T) (pda_cons (pd_name 2) pda_nil)) (pda_cons (pd_call ((ok__law_second T).mono (by decide)) runF_len hgd hr T.g__law_second T.D__law_second.kp (b__law_second T) (pda_cons (pd_name 2) pda_nil)) pda_nil)) (by rfl)))
    (dss_cons (ds_set 5 (pd_call ((ok__law_third T).mono (by decide)) runF_len hgd hr T.g__law_third T.D__law_third.kp (b__law_third T) (pda_cons (pd_name 2) pda_nil)) sc.nd)
    (dss_cons (ds_for (di_seq (pn_pd (pn_lst (pda_cons (pd_name 3) (pda_cons (pd_name 4) (pda_cons (pd_name 5) pda_nil)))))) (dg_lst (dgs_cons (dg_name 6 sc.nd) (dgs_cons (dg_name 7 sc.nd) dgs_nil))) (dss_cons (ds_if (pdt_cmp (od_ne hr) neD_b (pd_lenN 6 T.n_len) (pd_lenN 7 T.n_len)) (dss_one (ds_ret pd_bl)) dss_nil)
      (dss_one (ds_if (pdt_not (pdt_val (pd_callB (cd_all rfl) T.n_all (by decide +kernel) (pda_cons (pn_pd (pn_lc [("_law_one", 11)] sc.nd (di_seq (pd_name 7)) (blkOk_by (own := [("_law_one", 11)]) (by kernel_rfl)) (fun _ _ _ _ _ => (gn_name 11 sc.nd)) (fun _ _ _ _ _ => dts_nil) (fun _ _ _ _ _ => (pd_cmp (od_eq hr) (pd_callB (cd_reprE hr hgd LabR.on) T.n_repr (by decide +kernel) (pda_cons (pd_name 11) pda_nil)) (pd_callB (cd_reprE hr hgd LabR.on) T.n_repr (by decide +kernel) (pda_cons (pd_name 2) pda_nil)))))) pda_nil)))) (dss_one (ds_ret pd_bl)) dss_nil))))
    (dss_cons (ds_setN 8 (pn_addL (pd_bin od_add (pd_bin od_add (pd_ixN 3 pd_int) (pd_ixN 4 pd_int)) (pd_ixN 5 pd_int)) (pn_pd (pn_lst (pda_cons (pd_new0 T.hC (xkx_NothingToUndo T) PySem.F.excBase_LookupError T.x0_NothingToUndo T.xk0_NothingToUndo T.xe0_NothingToUndo T.xy0_NothingToUndo T.xm_NothingToUndo) (pda_cons (pd_new0 T.hC (xkx_LastRecord T) PySem.F.excBase_ArithmeticError T.x0_LastRecord T.xk0_LastRecord T.xe0_LastRecord T.xy0_LastRecord T.xm_LastRecord) pda_nil))))) sc.nd)
    (dss_cons (ds_if (pdt_val (pd_callB (cd_any rfl) T.n_any (by decide +kernel) (pda_cons (pn_pd (pn_lcH 8 [("_law_one", 11)] sc.nd (blkOk_by (own := [("_law_one", 11)]) (by kernel_rfl)) (fun _ _ _ _ _ => (gn_name 11 sc.nd)) (fun _ _ _ _ _ => dts_nil) (fun _ _ _ _ _ => (pd_or (pd_isC (.ty "KeyError") (mik_KeyError T) (pe_bltn rfl T.n_KeyError (by decide +kernel) rfl) T.n_isinstance (pd_name 11)) (pd_one (pd_isC (.ty "IndexError") (mik_IndexError T) (pe_bltn rfl T.n_IndexError (by decide +kernel) rfl) T.n_isinstance (pd_name 11))))))) pda_nil))) (dss_one (ds_ret pd_bl)) dss_nil)
    (dss_cons (ds_if (pdt_val (pd_callB (cd_any rfl) T.n_any (by decide +kernel) (pda_cons (pn_pd (pn_lcH 8 [("_law_one", 11)] sc.nd (blkOk_by (own := [("_law_one", 11)]) (by kernel_rfl)) (fun _ _ _ _ _ => (gn_name 11 sc.nd)) (fun _ _ _ _ _ => dts_nil) (fun _ _ _ _ _ => (pd_or (pd_isC (.ty "OverflowError") (mik_OverflowError T) (pe_bltn rfl T.n_OverflowError (by decide +kernel) rfl) T.n_isinstance (pd_name 11)) (pd_one (pd_isC (.ty "ZeroDivisionError") (mik_ZeroDivisionError T) (pe_bltn rfl T.n_ZeroDivisionError (by decide +kernel) rfl) T.n_isinstance (pd_name 11))))))) pda_nil))) (dss_one (ds_ret pd_bl)) dss_nil)
    (dss_cons (ds_setN 9 (pn_lst pda_nil) sc.nd)
    (dss_cons (ds_for (di_seq (pn_pd (pn_addL (pn_pd (pn_listRg T.n_list T.n_range pd_int)) (pn_pd (pn_lst (pda_cons pd_int (pda_cons pd_int pda_nil))))))) (dg_name 10 sc.nd) (dss_one (ds_setN 9 (pn_addL (pd_name 9) (pn_pd (pn_lst (pda_cons (pd_name 10) (pda_cons (pd_name 10) pda_nil))))) sc.nd)))
    (dss_one (ds_ret (pd_cmp (od_eq hr) (pn_pd (pn_lcH 8 [("_law_one", 11)] sc.nd (blkOk_by (own := [("_law_one", 11)]) (by kernel_rfl)) (fun _ _ _ _ _ => (gn_name 11 sc.nd)) (fun _ _ _ _ _ => dts_nil) (fun _ _ _ _ _ => (pd_call ((ok__law_kind T).mono (by decide)) runF_len hgd hr T.g__law_kind T.D__law_kind.kp (b__law_kind T) (pda_cons (pd_name 11) pda_nil))))) (pn_pd (pn_addL (pd_name 9) (pn_pd (pn_lst (pda_cons pd_int (pda_cons pd_int pda_nil)))))))))))))))))))
theorem ok__law_right (T : Tx Lab.T K mg base w) : FnG P w K mg base 4 (T.A 7) (T.FD 7) ["_law_pool_here"] (spR K 1 m__law_right) :=
  fn_R T.D__law_right sc__law_right rfl rfl (bd__law_right T)
theorem b__law_right (T : Tx Lab.T K mg base w) : Binds K (T.FD 7) ["_law_pool_here"] [] := T.D__law_right.binds fun _ _ _ _ _ _ us hl => match us, hl with | [_], _ => rfl
def mb_law : DEnv → Option DFlow := (sSeq (sIf (fTst (fBin neD (fFrz (fLst (fCons (fC cv_MOST_COLUMNS) (fCons (fC cv_MOST_KEYS) (fCons (fC cv_MOST_RECORDS) (fCons (fC cv_LEAST_SIZE) (fCons (fC cv_MOST_SIZE) fNil))))))) (fFrz (fLst (fCons (fC (.int 5)) (fCons (fC (.int 4)) (fCons (fC (.int 30)) (fCons (fC (.int 2)) (fCons (fC (.int 29)) fNil))))))))) (sRet (fC (.bool false))) sNil) (sSeq (sIf (fTst (fBin neD (fFrz (fLst (fCons (fC cv_MOST_COMMANDS) (fCons (fC cv_MOST_TIMES) (fCons (fC cv_MOST_EDITS) fNil))))) (fFrz (fLst (fCons (fC (.int 400)) (fCons (fBin powD (fC (.int 10)) (fC (.int 30))) (fCons (fC (.int 500)) fNil))))))) (sRet (fC (.bool false))) sNil) (sRet (fCB allD (fCons (fFrz (nLc (iArg rng1 (fCons (fCB maxD (fCons (fC (.int 2)) (fCons (fCB minD (fCons (fLenN 0) (fCons (fC (.int 4)) fNil))) fNil))) fNil)) (gSet 1) fYes (fCRT m__law_right (fCN m__law_pool (fCons (fCB m__law_cell (fCons (rdF 0) (fCons (rdF 1) fNil))) fNil))) [1])) fNil)))))
def m_law := runF 1 2 mb_law
theorem sc_law : FnScope ["_law_script", "_law_k"] ["_law_script"] (defScope (topS 39)) := ⟨rfl, rfl, rfl, by decide +kernel, rfl, by decide +kernel, by decide +kernel⟩
theorem bd_law (T : Tx Lab.T K mg base w) : BodyOk P w K mg base ["_law_script", "_law_k"] "law" (topS 39) (T.A 8) (T.FD 8).code 4 mb_law := by
  have sc := sc_law
  intro cdv A outer s H E F hcv hW hgd hr
  exact (dss_cons (ds_if (pdt_cmp (od_ne hr) neD_b (pn_pd (pn_lst (pda_cons (pd_glob (T.c_MOST_COLUMNS).choose_spec.1 (T.c_MOST_COLUMNS).choose_spec.2.1 (T.c_MOST_COLUMNS).choose_spec.2.2) (pda_cons (pd_glob (T.c_MOST_KEYS).choose_spec.1 (T.c_MOST_KEYS).choose_spec.2.1 (T.c_MOST_KEYS).choose_spec.2.2) (pda_cons (pd_glob (T.c_MOST_RECORDS).choose_spec.1 (T.c_MOST_RECORDS).choose_spec.2.1 (T.c_MOST_RECORDS).choose_spec.2.2) (pda_cons (pd_glob (T.c_LEAST_SIZE).choose_spec.1 (T.c_LEAST_SIZE).choose_spec.2.1 (T.c_LEAST_SIZE).choose_spec.2.2) (pda_cons (pd_glob (T.c_MOST_SIZE).choose_spec.1 (T.c_MOST_SIZE).choose_spec.2.1 (T.c_MOST_SIZE).choose_spec.2.2) pda_nil))))))) (pn_pd (pn_lst (pda_cons pd_int (pda_cons pd_int (pda_cons pd_int (pda_cons pd_int (pda_cons pd_int pda_nil)))))))) (dss_one (ds_ret pd_bl)) dss_nil)
    (dss_cons (ds_if (pdt_cmp (od_ne hr) neD_b (pn_pd (pn_lst (pda_cons (pd_glob (T.c_MOST_COMMANDS).choose_spec.1 (T.c_MOST_COMMANDS).choose_spec.2.1 (T.c_MOST_COMMANDS).choose_spec.2.2) (pda_cons (pd_glob (T.c_MOST_TIMES).choose_spec.1 (T.c_MOST_TIMES).choose_spec.2.1 (T.c_MOST_TIMES).choose_spec.2.2) (pda_cons (pd_glob (T.c_MOST_EDITS).choose_spec.1 (T.c_MOST_EDITS).choose_spec.2.1 (T.c_MOST_EDITS).choose_spec.2.2) pda_nil))))) (pn_pd (pn_lst (pda_cons pd_int (pda_cons (pd_bin od_pow pd_int pd_int) (pda_cons pd_int pda_nil)))))) (dss_one (ds_ret pd_bl)) dss_nil)
    (dss_one (ds_ret (pd_callB (cd_all rfl) T.n_all (by decide +kernel) (pda_cons (pn_pd (pn_lc [("_law_k", 1)] sc.nd (di_range1 T.n_range (pda_cons (pd_callB (cd_max rfl) T.n_max (by decide +kernel) (pda_cons pd_int (pda_cons (pd_callB (cd_min rfl) T.n_min (by decide +kernel) (pda_cons (pd_lenN 0 T.n_len) (pda_cons pd_int pda_nil))) pda_nil))) pda_nil)) (blkOk_by (own := [("_law_k", 1)]) (by kernel_rfl)) (fun _ _ _ _ _ => (gn_name 1 sc.nd)) (fun _ _ _ _ _ => dts_nil) (fun _ _ _ _ _ => (pd_callRT ((ok__law_right T).mono (by decide)) runR_len hgd hr T.g__law_right T.D__law_right.kp (b__law_right T) (pn_call ((ok__law_pool T).mono (by decide)) runN_len hgd hr T.g__law_pool T.D__law_pool.kp (b__law_pool T) (pda_cons (pd_call ((ok__law_cell T).mono (by decide)) runF_len hgd hr T.g__law_cell T.D__law_cell.kp (b__law_cell T) (pda_cons (pd_name 0) (pda_cons (pd_name 1) pda_nil))) pda_nil)))))) pda_nil))))))
theorem ok_law (T : Tx Lab.T K mg base w) : FnG P w K mg base 5 (T.A 8) (T.FD 8) ["_law_script"] (spF K 1 m_law) :=
  fn_F T.D_law sc_law rfl rfl (bd_law T)
end
end DL
end L2


set_option Elab.async false
set_option maxRecDepth 100000
set_option maxHeartbeats 4000000
set_option autoImplicit false
namespace L2
namespace DL
open PySem PySem.Spec PyProof.Rows
local instance labNone_K82P : Lab := { w := none, T := [], gd := True }
def PoolOk (es : List PyData) : Prop := ∃ a b n : Int, es = [.int a, .int b, .int n] ∧ 0 ≤ a ∧ a < 2147483249 ∧ 0 ≤ b
theorem draw_spec {es : List PyData} (h : PoolOk es) {m : Int} (h0 : 0 < m) (h1 : m < 10000000000000000000000000000000000000000) : ∃ r es', m__law_draw es [.int m] = some (.int r, es') ∧ PoolOk es' ∧ 0 ≤ r ∧ r < m := by
  obtain ⟨a, b, n, rfl, ha, ha', hb⟩ := h
  have c1 : a.natAbs < 18446744073709551616 := by omega
  have hM : (0 : Int) < 2147483249 := by decide
  have e1 := Int.emod_nonneg ((a * (a % 50021 + 30011) + 80021 * (n + 1))) (show (2147483249 : Int) ≠ 0 by decide)
  have e2 := Int.emod_lt_of_pos ((a * (a % 50021 + 30011) + 80021 * (n + 1))) hM
  by_cases hpos : 0 < b
  · refine ⟨b % m, [.int ((a * (a % 50021 + 30011) + 80021 * (n + 1)) % 2147483249), .int (b / m), .int (n + 1)], ?_, ⟨_, _, _, rfl, e1, e2, Int.ediv_nonneg hb (by omega)⟩, Int.emod_nonneg _ (by omega), Int.emod_lt_of_pos _ h0⟩
    simp [m__law_draw, runR, mb__law_draw, sSeq, sAsg, sSet, sIf, sRet, sNil, fBin, fIxN, fC, fTst, fCB, fCons, fNil, rdB, rdF, rdO, wrO, gSubD, gSet, gTupD, gsCons, gsNil, addD, modD, mulD, gtD, divmodB, intD, ixD, atI, ixN, startE, rf0, truthD, c1, hpos, h0, h1]
  · have hb0 : b = 0 := by omega
    subst hb0
    refine ⟨(a * (a % 50021 + 30011) + 80021 * (n + 1)) % 2147483249 / 64 % m, [.int ((a * (a % 50021 + 30011) + 80021 * (n + 1)) % 2147483249), .int 0, .int (n + 1)], ?_, ⟨_, _, _, rfl, e1, e2, by omega⟩, Int.emod_nonneg _ (by omega), Int.emod_lt_of_pos _ h0⟩
    simp [m__law_draw, runR, mb__law_draw, sSeq, sAsg, sSet, sIf, sRet, sNil, fBin, fIxN, fC, fTst, fCB, fCons, fNil, rdB, rdF, rdO, wrO, gSubD, gSet, gTupD, gsCons, gsNil, addD, modD, mulD, fdivD, gtD, divmodB, intD, ixD, atI, ixN, startE, rf0, truthD, c1, h0, h1]
theorem pool_spec (c : Int) : ∃ es, m__law_pool [.int c] = some es ∧ PoolOk es := by
  have hM : (0 : Int) < 2147483249 := by decide
  have e1 := Int.emod_nonneg c (show (2147483249 : Int) ≠ 0 by decide)
  have e2 := Int.emod_lt_of_pos c hM
  by_cases h1 : c < 0
  · refine ⟨[.int (c % 2147483249), .int (-c), .int 0], ?_, _, _, _, rfl, e1, e2, by omega⟩
    simp [m__law_pool, runN, mb__law_pool, sSeq, sSet, sRetN, fIf, fOr, fBin, fC, fTst, fCB, fCons, fNil, fLst, rdF, modD, powD, ltD, geD, absD, intD, startE, truthD, h1, lim]
  · by_cases h2 : (1000000000000000000 : Int) ≤ c
    · refine ⟨[.int (c % 2147483249), .int c, .int 0], ?_, _, _, _, rfl, e1, e2, by omega⟩
      simp [m__law_pool, runN, mb__law_pool, sSeq, sSet, sRetN, fIf, fOr, fBin, fC, fTst, fCB, fCons, fNil, fLst, rdF, modD, powD, ltD, geD, absD, intD, startE, truthD, h1, h2, lim]
    · refine ⟨[.int (c % 2147483249), .int 0, .int 0], ?_, _, _, _, rfl, e1, e2, by omega⟩
      simp [m__law_pool, runN, mb__law_pool, sSeq, sSet, sRetN, fIf, fOr, fBin, fC, fTst, fCB, fCons, fNil, fLst, rdF, modD, powD, ltD, geD, absD, intD, startE, truthD, h1, h2, lim]
theorem cell_loop (a b : Option DV) : ∀ (xs : List Int) (s : Int) (z : Option DV), ∃ s' z', forD (gSet 3) (sSet 2 (fBin modD (fBin addD (fBin mulD (rdF 2) (fC (.int 41221))) (rdF 3)) (fC (.int 2147483249)))) (xs.map .int) [a, b, some (.fr (.int s)), z] = some (.nx [a, b, some (.fr (.int s')), z'])
  | [], s, z => ⟨s, z, rfl⟩
  | x :: xs, s, z => by
    obtain ⟨s', z', h⟩ := cell_loop a b xs ((s * 41221 + x) % 2147483249) (some (.fr (.int x)))
    refine ⟨s', z', ?_⟩
    rw [List.map_cons, forD]
    simp [gSet, sSet, fBin, rdF, fC, modD, addD, mulD, intD]
    exact h
theorem map_drop_take (ns : List Int) (i k : Nat) : ((ns.map PyData.int).drop i).take k = ((ns.drop i).take k).map PyData.int := by
  rw [List.map_take, List.map_drop]
theorem cell_spec (ns : List Int) {k : Int} (h0 : 0 ≤ k) (h1 : k ≤ 1000) : ∃ c, m__law_cell [.list (ns.map .int), .int k] = some (.int c) := by
  by_cases hk : k < (ns.length : Int)
  · refine ⟨ns.getD k.toNat 0, ?_⟩
    have hk2 : k.toNat < ns.length := by omega
    simp [m__law_cell, runF, mb__law_cell, sSeq, sIf, sRet, fTst, fBin, rdF, rdB, fLenN, lenD, ltD, intD, truthD, startE, hk, fIxN, ixD, atI, ixN, h0, hk2]
  · have c1 : k.natAbs < 18446744073709551616 := by omega
    obtain ⟨s', z', h⟩ := cell_loop (some (.fr (.list (ns.map .int)))) (some (.fr (.int k))) ((ns.drop 0).take (HT.sIx ns.length ns.length (some 3) - 0)) (60013 * (k * k + 5 * k + 3) % 2147483249) none
    refine ⟨s', ?_⟩
    rw [← map_drop_take] at h
    simp [m__law_cell, runF, mb__law_cell, sSeq, sIf, sRet, sNil, sSet, sFor, iSeq, fSl, slD, cutD, seqD, oNone, oSome, fTst, fBin, rdF, rdB, fLenN, lenD, ltD, mulD, addD, modD, fC, intD, truthD, startE, hk, c1]
    simp [HT.sIx] at h ⊢
    rw [h]
    rfl
end DL
end L2


set_option Elab.async false
set_option maxRecDepth 100000
set_option maxHeartbeats 4000000
set_option autoImplicit false
namespace L2
namespace DL
open PySem PySem.Spec PyProof.Rows
local instance labNone_K82R : Lab := { w := none, T := [], gd := True }
def oddT : List PyData := [.none, .int 0, .bool true, .str "index", .tuple [.int 1, .int 2], .list [.int 3], .dict [], .int 1000000000000000000000000000000, .int (-5), .tuple [.str "up"]]
abbrev rrRest := (sSeq (sPar 3 4 (fCons (fCB m__law_first (fCons (rdF 2) fNil)) (fCons (fCB m__law_second (fCons (rdF 2) fNil)) fNil))) (sSeq (sSet 5 (fCB m__law_third (fCons (rdF 2) fNil))) (sSeq (sFor (iSeq (fFrz (fLst (fCons (rdF 3) (fCons (rdF 4) (fCons (rdF 5) fNil)))))) (gLstD 2 (gsCons (gSet 6) (gsCons (gSet 7) gsNil))) (sSeq (sIf (fTst (fBin neD (fLenN 6) (fLenN 7))) (sRet (fC (.bool false))) sNil) (sIf (fNot (fTst (fCB allD (fCons (fFrz (nLc (iSeq (rdF 7)) (gSet 11) fYes (fBin eqD (fCB reprE (fCons (rdF 11) fNil)) (fCB reprE (fCons (rdF 2) fNil))) [11])) fNil)))) (sRet (fC (.bool false))) sNil))) (sSeq (sSetN 8 (nAdd (fBin addD (fBin addD (fIxN 3 (fC (.int 0))) (fIxN 4 (fC (.int 0)))) (fIxN 5 (fC (.int 0)))) (fFrz (fLst (fCons (fC (exnD "NothingToUndo")) (fCons (fC (exnD "LastRecord")) fNil)))))) (sSeq (sIf (fTst (fCB anyD (fCons (fFrz (nLcH 8 (gSet 11) fYes (fOrV (fIsC mi_KeyError (rdF 11)) (fIsC mi_IndexError (rdF 11))) [11])) fNil))) (sRet (fC (.bool false))) sNil) (sSeq (sIf (fTst (fCB anyD (fCons (fFrz (nLcH 8 (gSet 11) fYes (fOrV (fIsC mi_OverflowError (rdF 11)) (fIsC mi_ZeroDivisionError (rdF 11))) [11])) fNil))) (sRet (fC (.bool false))) sNil) (sSeq (sSetN 9 (fLst fNil)) (sSeq (sFor (iSeq (fFrz (nAdd (fFrz (nListRg (fC (.int 14)))) (fFrz (fLst (fCons (fC (.int 15)) (fCons (fC (.int 16)) fNil))))))) (gSet 10) (sSetN 9 (nAdd (rdF 9) (fFrz (fLst (fCons (rdF 10) (fCons (rdF 10) fNil))))))) (sRet (fBin eqD (fFrz (nLcH 8 (gSet 11) fYes (fCB m__law_kind (fCons (rdF 11) fNil)) [11])) (fFrz (nAdd (rdF 9) (fFrz (fLst (fCons (fC (.int 14)) (fCons (fC (.int 17)) fNil))))))))))))))))
def finR (o : Option DFlow) : Option (PyData × Option DV) := match o with
  | some (.rt d (h :: _)) => some (d, h)
  | _ => none
theorem finR_ok {o : Option DFlow} {d : PyData} {h : Option DV} (e : finR o = some (d, h)) : ∃ env, o = some (.rt d (h :: env)) := by
  match o, e with
  | some (.rt d (h :: t)), e => cases e; exact ⟨t, rfl⟩
abbrev rrE (es : List PyData) (a : Option DV) : DEnv := [some (.rf es), some (.ow oddT), a, none, none, none, none, none, none, none, none, none]
theorem rr_0 (es : List PyData) : finR (rrRest (rrE es (some (.fr (.none))))) = some (.bool true, some (.rf es)) := by kernel_rfl
theorem rr_1 (es : List PyData) : finR (rrRest (rrE es (some (.fr (.int 0))))) = some (.bool true, some (.rf es)) := by kernel_rfl
theorem rr_2 (es : List PyData) : finR (rrRest (rrE es (some (.fr (.bool true))))) = some (.bool true, some (.rf es)) := by kernel_rfl
theorem rr_3 (es : List PyData) : finR (rrRest (rrE es (some (.fr (.str "index"))))) = some (.bool true, some (.rf es)) := by kernel_rfl
theorem rr_4 (es : List PyData) : finR (rrRest (rrE es (some (.fr (.tuple [.int 1, .int 2]))))) = some (.bool true, some (.rf es)) := by kernel_rfl
theorem rr_5 (es : List PyData) : finR (rrRest (rrE es (some (.fr (.list [.int 3]))))) = some (.bool true, some (.rf es)) := by kernel_rfl
theorem rr_6 (es : List PyData) : finR (rrRest (rrE es (some (.fr (.dict []))))) = some (.bool true, some (.rf es)) := by kernel_rfl
theorem rr_7 (es : List PyData) : finR (rrRest (rrE es (some (.fr (.int 1000000000000000000000000000000))))) = some (.bool true, some (.rf es)) := by kernel_rfl
theorem rr_8 (es : List PyData) : finR (rrRest (rrE es (some (.fr (.int (-5)))))) = some (.bool true, some (.rf es)) := by kernel_rfl
theorem rr_9 (es : List PyData) : finR (rrRest (rrE es (some (.fr (.tuple [.str "up"]))))) = some (.bool true, some (.rf es)) := by kernel_rfl
theorem rr_all (es : List PyData) : ∀ d ∈ oddT, finR (rrRest (rrE es (some (.fr d)))) = some (.bool true, some (.rf es)) := List.forall_mem_cons.mpr ⟨rr_0 es, List.forall_mem_cons.mpr ⟨rr_1 es, List.forall_mem_cons.mpr ⟨rr_2 es, List.forall_mem_cons.mpr ⟨rr_3 es, List.forall_mem_cons.mpr ⟨rr_4 es, List.forall_mem_cons.mpr ⟨rr_5 es, List.forall_mem_cons.mpr ⟨rr_6 es, List.forall_mem_cons.mpr ⟨rr_7 es, List.forall_mem_cons.mpr ⟨rr_8 es, List.forall_mem_cons.mpr ⟨rr_9 es, fun _ h => absurd h (by simp)⟩⟩⟩⟩⟩⟩⟩⟩⟩⟩
theorem atI_ex {ds : List PyData} {r : Int} (h0 : 0 ≤ r) (h1 : r < ds.length) : ∃ d, atI ds r = some d ∧ d ∈ ds := by
  have h2 : r.toNat < ds.length := by omega
  exact ⟨ds[r.toNat], by simp [atI, ixN, h0, h1, h2], List.getElem_mem h2⟩
theorem right_spec {es : List PyData} (hp : PoolOk es) : ∃ es', m__law_right es [] = some (.bool true, es') := by
  obtain ⟨r, es', e1, p1, a, b⟩ := draw_spec hp (m := 10) (by decide) (by decide)
  obtain ⟨d, hd, hm⟩ := atI_ex (ds := oddT) a b
  obtain ⟨env, e2⟩ := finR_ok (rr_all es' d hm)
  exact ⟨es', ev_runR rfl (ev_seq (e1 := rrE es none) (by kernel_rfl) (ev_seq (e1 := rrE es' (some (.fr d))) (ev_setE (ev_ixN (d := .list oddT) rfl (ev_crE rfl (ev_cons rfl ev_nil) rfl e1 rfl) rfl hd) rfl) e2))⟩
theorem law_spec (ns : List Int) : m_law [.list (ns.map .int)] = some (.bool true) := by
  let E : DEnv := [some (.fr (.list (ns.map .int))), none]
  refine ev_runF rfl (env := E) (ev_seq (e1 := E) (by kernel_rfl) (ev_seq (e1 := E) (by kernel_rfl)
    (law_fin (PO := PoolOk) (fun k h0 h1 => cell_spec ns h0 h1) pool_spec (fun es h => right_spec h) (v := 1) ?_ rfl (fun _ => rfl) (fun _ => rfl))))
  obtain ⟨m, e, m1, m2⟩ := mm_b (a := 4) (by decide) (env := E) (n := ns.length) (by
    refine ev_lenN (d := .list (ns.map .int)) rfl ?_
    show some (PyData.int ((ns.map PyData.int).length : Nat)) = _
    rw [List.length_map])
  exact ⟨m, e, m1, by omega⟩
end DL
end L2


set_option Elab.async false
set_option maxRecDepth 100000
set_option maxHeartbeats 4000000
set_option autoImplicit false
namespace L2
namespace DL
open PySem PySem.Spec PyProof.Rows
def mkTx [Lab] {w : World} (hw : LabW.w = some w) {K : PySem.W.Frag} {h base : Heap} {mg : Str → Option Value} (X : K.In h) (G : h.Ns mainGlobals mg)
    {f0 : Addr} {od0 an0 : Option Addr} {sl0 : Array (Option Value)} {oc0 kV0 dc0 pm0 cd0 ct0 : Value}
    {f1 : Addr} {od1 an1 : Option Addr} {sl1 : Array (Option Value)} {oc1 kV1 dc1 pm1 cd1 ct1 : Value}
    {f2 : Addr} {od2 an2 : Option Addr} {sl2 : Array (Option Value)} {oc2 kV2 dc2 pm2 cd2 ct2 : Value}
    {f3 : Addr} {od3 an3 : Option Addr} {sl3 : Array (Option Value)} {oc3 kV3 dc3 pm3 cd3 ct3 : Value}
    {f4 : Addr} {od4 an4 : Option Addr} {sl4 : Array (Option Value)} {oc4 kV4 dc4 pm4 cd4 ct4 : Value}
    {f5 : Addr} {od5 an5 : Option Addr} {sl5 : Array (Option Value)} {oc5 kV5 dc5 pm5 cd5 ct5 : Value}
    {f6 : Addr} {od6 an6 : Option Addr} {sl6 : Array (Option Value)} {oc6 kV6 dc6 pm6 cd6 ct6 : Value}
    {f7 : Addr} {od7 an7 : Option Addr} {sl7 : Array (Option Value)} {oc7 kV7 dc7 pm7 cd7 ct7 : Value}
    {f8 : Addr} {od8 an8 : Option Addr} {sl8 : Array (Option Value)} {oc8 kV8 dc8 pm8 cd8 ct8 : Value}
    {C_InvalidPlaces : Addr}
    {C_InvalidNumber : Addr}
    {C_InvalidProgram : Addr}
    {C_InvalidOrder : Addr}
    {C_InvalidColumns : Addr}
    {C_InvalidTable : Addr}
    {C_InvalidCommand : Addr}
    {C_InvalidEdit : Addr}
    {C_InvalidValue : Addr}
    {C_InvalidRecord : Addr}
    {C_InvalidLimit : Addr}
    {C_InvalidText : Addr}
    {C_TooManyEdits : Addr}
    {C_TooManyRecords : Addr}
    {C_NoPlace : Addr}
    {C_MissingColumn : Addr}
    {C_LastRecord : Addr}
    {C_NothingToUndo : Addr}
    {C_LimitError : Addr}
    {C_FindError : Addr}
    {C_TableError : Addr}
    {FI_InvalidPlaces : Addr} {xod_InvalidPlaces xan_InvalidPlaces : Option Addr} {xsl_InvalidPlaces : Array (Option Value)} {xoc_InvalidPlaces xkV_InvalidPlaces xdc_InvalidPlaces xpm_InvalidPlaces xcd_InvalidPlaces xct_InvalidPlaces : Value}
    {FI_InvalidNumber : Addr} {xod_InvalidNumber xan_InvalidNumber : Option Addr} {xsl_InvalidNumber : Array (Option Value)} {xoc_InvalidNumber xkV_InvalidNumber xdc_InvalidNumber xpm_InvalidNumber xcd_InvalidNumber xct_InvalidNumber : Value}
    {FI_InvalidProgram : Addr} {xod_InvalidProgram xan_InvalidProgram : Option Addr} {xsl_InvalidProgram : Array (Option Value)} {xoc_InvalidProgram xkV_InvalidProgram xdc_InvalidProgram xpm_InvalidProgram xcd_InvalidProgram xct_InvalidProgram : Value}
    {FI_InvalidOrder : Addr} {xod_InvalidOrder xan_InvalidOrder : Option Addr} {xsl_InvalidOrder : Array (Option Value)} {xoc_InvalidOrder xkV_InvalidOrder xdc_InvalidOrder xpm_InvalidOrder xcd_InvalidOrder xct_InvalidOrder : Value}
    {FI_InvalidColumns : Addr} {xod_InvalidColumns xan_InvalidColumns : Option Addr} {xsl_InvalidColumns : Array (Option Value)} {xoc_InvalidColumns xkV_InvalidColumns xdc_InvalidColumns xpm_InvalidColumns xcd_InvalidColumns xct_InvalidColumns : Value}
    {FI_InvalidTable : Addr} {xod_InvalidTable xan_InvalidTable : Option Addr} {xsl_InvalidTable : Array (Option Value)} {xoc_InvalidTable xkV_InvalidTable xdc_InvalidTable xpm_InvalidTable xcd_InvalidTable xct_InvalidTable : Value}
    {FI_InvalidCommand : Addr} {xod_InvalidCommand xan_InvalidCommand : Option Addr} {xsl_InvalidCommand : Array (Option Value)} {xoc_InvalidCommand xkV_InvalidCommand xdc_InvalidCommand xpm_InvalidCommand xcd_InvalidCommand xct_InvalidCommand : Value}
    {FI_InvalidEdit : Addr} {xod_InvalidEdit xan_InvalidEdit : Option Addr} {xsl_InvalidEdit : Array (Option Value)} {xoc_InvalidEdit xkV_InvalidEdit xdc_InvalidEdit xpm_InvalidEdit xcd_InvalidEdit xct_InvalidEdit : Value}
    {FI_InvalidValue : Addr} {xod_InvalidValue xan_InvalidValue : Option Addr} {xsl_InvalidValue : Array (Option Value)} {xoc_InvalidValue xkV_InvalidValue xdc_InvalidValue xpm_InvalidValue xcd_InvalidValue xct_InvalidValue : Value}
    {FI_InvalidRecord : Addr} {xod_InvalidRecord xan_InvalidRecord : Option Addr} {xsl_InvalidRecord : Array (Option Value)} {xoc_InvalidRecord xkV_InvalidRecord xdc_InvalidRecord xpm_InvalidRecord xcd_InvalidRecord xct_InvalidRecord : Value}
    {FI_InvalidLimit : Addr} {xod_InvalidLimit xan_InvalidLimit : Option Addr} {xsl_InvalidLimit : Array (Option Value)} {xoc_InvalidLimit xkV_InvalidLimit xdc_InvalidLimit xpm_InvalidLimit xcd_InvalidLimit xct_InvalidLimit : Value}
    {FI_InvalidText : Addr} {xod_InvalidText xan_InvalidText : Option Addr} {xsl_InvalidText : Array (Option Value)} {xoc_InvalidText xkV_InvalidText xdc_InvalidText xpm_InvalidText xcd_InvalidText xct_InvalidText : Value}
    {FI_TooManyEdits : Addr} {xod_TooManyEdits xan_TooManyEdits : Option Addr} {xsl_TooManyEdits : Array (Option Value)} {xoc_TooManyEdits xkV_TooManyEdits xdc_TooManyEdits xpm_TooManyEdits xcd_TooManyEdits xct_TooManyEdits : Value}
    {FI_TooManyRecords : Addr} {xod_TooManyRecords xan_TooManyRecords : Option Addr} {xsl_TooManyRecords : Array (Option Value)} {xoc_TooManyRecords xkV_TooManyRecords xdc_TooManyRecords xpm_TooManyRecords xcd_TooManyRecords xct_TooManyRecords : Value}
    {FI_NoPlace : Addr} {xod_NoPlace xan_NoPlace : Option Addr} {xsl_NoPlace : Array (Option Value)} {xoc_NoPlace xkV_NoPlace xdc_NoPlace xpm_NoPlace xcd_NoPlace xct_NoPlace : Value}
    {FI_MissingColumn : Addr} {xod_MissingColumn xan_MissingColumn : Option Addr} {xsl_MissingColumn : Array (Option Value)} {xoc_MissingColumn xkV_MissingColumn xdc_MissingColumn xpm_MissingColumn xcd_MissingColumn xct_MissingColumn : Value}
    (a0 : PySem.W.nsIn K mainGlobals "_law_cell" = some (some (.ref f0))) (l0 : K.lookup f0 = some ⟨oc0, od0, .func (PySem.W.fnOf "_law_cell" "_law_cell" (defArgs (topS 31)) (defBody (topS 31)) (defScope (topS 31)) .none kV0 dc0 pm0 an0 cd0 ct0), sl0⟩) (c0 : PySem.W.codeIn K cd0 "_law_cell" = true) (k0 : PySem.W.keepIn K (.ref f0) = true)
    (a1 : PySem.W.nsIn K mainGlobals "_law_pool" = some (some (.ref f1))) (l1 : K.lookup f1 = some ⟨oc1, od1, .func (PySem.W.fnOf "_law_pool" "_law_pool" (defArgs (topS 32)) (defBody (topS 32)) (defScope (topS 32)) .none kV1 dc1 pm1 an1 cd1 ct1), sl1⟩) (c1 : PySem.W.codeIn K cd1 "_law_pool" = true) (k1 : PySem.W.keepIn K (.ref f1) = true)
    (a2 : PySem.W.nsIn K mainGlobals "_law_draw" = some (some (.ref f2))) (l2 : K.lookup f2 = some ⟨oc2, od2, .func (PySem.W.fnOf "_law_draw" "_law_draw" (defArgs (topS 33)) (defBody (topS 33)) (defScope (topS 33)) .none kV2 dc2 pm2 an2 cd2 ct2), sl2⟩) (c2 : PySem.W.codeIn K cd2 "_law_draw" = true) (k2 : PySem.W.keepIn K (.ref f2) = true)
    (a3 : PySem.W.nsIn K mainGlobals "_law_kind" = some (some (.ref f3))) (l3 : K.lookup f3 = some ⟨oc3, od3, .func (PySem.W.fnOf "_law_kind" "_law_kind" (defArgs (topS 34)) (defBody (topS 34)) (defScope (topS 34)) .none kV3 dc3 pm3 an3 cd3 ct3), sl3⟩) (c3 : PySem.W.codeIn K cd3 "_law_kind" = true) (k3 : PySem.W.keepIn K (.ref f3) = true)
    (a4 : PySem.W.nsIn K mainGlobals "_law_first" = some (some (.ref f4))) (l4 : K.lookup f4 = some ⟨oc4, od4, .func (PySem.W.fnOf "_law_first" "_law_first" (defArgs (topS 35)) (defBody (topS 35)) (defScope (topS 35)) .none kV4 dc4 pm4 an4 cd4 ct4), sl4⟩) (c4 : PySem.W.codeIn K cd4 "_law_first" = true) (k4 : PySem.W.keepIn K (.ref f4) = true)
    (a5 : PySem.W.nsIn K mainGlobals "_law_second" = some (some (.ref f5))) (l5 : K.lookup f5 = some ⟨oc5, od5, .func (PySem.W.fnOf "_law_second" "_law_second" (defArgs (topS 36)) (defBody (topS 36)) (defScope (topS 36)) .none kV5 dc5 pm5 an5 cd5 ct5), sl5⟩) (c5 : PySem.W.codeIn K cd5 "_law_second" = true) (k5 : PySem.W.keepIn K (.ref f5) = true)
    (a6 : PySem.W.nsIn K mainGlobals "_law_third" = some (some (.ref f6))) (l6 : K.lookup f6 = some ⟨oc6, od6, .func (PySem.W.fnOf "_law_third" "_law_third" (defArgs (topS 37)) (defBody (topS 37)) (defScope (topS 37)) .none kV6 dc6 pm6 an6 cd6 ct6), sl6⟩) (c6 : PySem.W.codeIn K cd6 "_law_third" = true) (k6 : PySem.W.keepIn K (.ref f6) = true)
    (a7 : PySem.W.nsIn K mainGlobals "_law_right" = some (some (.ref f7))) (l7 : K.lookup f7 = some ⟨oc7, od7, .func (PySem.W.fnOf "_law_right" "_law_right" (defArgs (topS 38)) (defBody (topS 38)) (defScope (topS 38)) .none kV7 dc7 pm7 an7 cd7 ct7), sl7⟩) (c7 : PySem.W.codeIn K cd7 "_law_right" = true) (k7 : PySem.W.keepIn K (.ref f7) = true)
    (a8 : PySem.W.nsIn K mainGlobals "law" = some (some (.ref f8))) (l8 : K.lookup f8 = some ⟨oc8, od8, .func (PySem.W.fnOf "law" "law" (defArgs (topS 39)) (defBody (topS 39)) (defScope (topS 39)) .none kV8 dc8 pm8 an8 cd8 ct8), sl8⟩) (c8 : PySem.W.codeIn K cd8 "law" = true) (k8 : PySem.W.keepIn K (.ref f8) = true)
    (n_ArithmeticError : PySem.W.nsIn K mainGlobals "ArithmeticError" = some none)
    (n_IndexError : PySem.W.nsIn K mainGlobals "IndexError" = some none)
    (n_KeyError : PySem.W.nsIn K mainGlobals "KeyError" = some none)
    (n_LookupError : PySem.W.nsIn K mainGlobals "LookupError" = some none)
    (n_OverflowError : PySem.W.nsIn K mainGlobals "OverflowError" = some none)
    (n_ValueError : PySem.W.nsIn K mainGlobals "ValueError" = some none)
    (n_ZeroDivisionError : PySem.W.nsIn K mainGlobals "ZeroDivisionError" = some none)
    (n_abs : PySem.W.nsIn K mainGlobals "abs" = some none)
    (n_all : PySem.W.nsIn K mainGlobals "all" = some none)
    (n_any : PySem.W.nsIn K mainGlobals "any" = some none)
    (n_divmod : PySem.W.nsIn K mainGlobals "divmod" = some none)
    (n_isinstance : PySem.W.nsIn K mainGlobals "isinstance" = some none)
    (n_len : PySem.W.nsIn K mainGlobals "len" = some none)
    (n_list : PySem.W.nsIn K mainGlobals "list" = some none)
    (n_max : PySem.W.nsIn K mainGlobals "max" = some none)
    (n_min : PySem.W.nsIn K mainGlobals "min" = some none)
    (n_range : PySem.W.nsIn K mainGlobals "range" = some none)
    (n_repr : PySem.W.nsIn K mainGlobals "repr" = some none)
    (c_MOST_EDITS : ∀ [LabW], ∃ uv : Value × V, mg "MOST_EDITS" = some uv.1 ∧ RelV uv.2 uv.1 ∧ ∀ Z, DD K Z uv.2 cv_MOST_EDITS)
    (c_MOST_TIMES : ∀ [LabW], ∃ uv : Value × V, mg "MOST_TIMES" = some uv.1 ∧ RelV uv.2 uv.1 ∧ ∀ Z, DD K Z uv.2 cv_MOST_TIMES)
    (c_MOST_COMMANDS : ∀ [LabW], ∃ uv : Value × V, mg "MOST_COMMANDS" = some uv.1 ∧ RelV uv.2 uv.1 ∧ ∀ Z, DD K Z uv.2 cv_MOST_COMMANDS)
    (c_MOST_SIZE : ∀ [LabW], ∃ uv : Value × V, mg "MOST_SIZE" = some uv.1 ∧ RelV uv.2 uv.1 ∧ ∀ Z, DD K Z uv.2 cv_MOST_SIZE)
    (c_LEAST_SIZE : ∀ [LabW], ∃ uv : Value × V, mg "LEAST_SIZE" = some uv.1 ∧ RelV uv.2 uv.1 ∧ ∀ Z, DD K Z uv.2 cv_LEAST_SIZE)
    (c_MOST_RECORDS : ∀ [LabW], ∃ uv : Value × V, mg "MOST_RECORDS" = some uv.1 ∧ RelV uv.2 uv.1 ∧ ∀ Z, DD K Z uv.2 cv_MOST_RECORDS)
    (c_MOST_KEYS : ∀ [LabW], ∃ uv : Value × V, mg "MOST_KEYS" = some uv.1 ∧ RelV uv.2 uv.1 ∧ ∀ Z, DD K Z uv.2 cv_MOST_KEYS)
    (c_MOST_COLUMNS : ∀ [LabW], ∃ uv : Value × V, mg "MOST_COLUMNS" = some uv.1 ∧ RelV uv.2 uv.1 ∧ ∀ Z, DD K Z uv.2 cv_MOST_COLUMNS)
    (xa_InvalidPlaces : PySem.W.nsIn K mainGlobals "InvalidPlaces" = some (some (.ref C_InvalidPlaces)))
    (xa_InvalidNumber : PySem.W.nsIn K mainGlobals "InvalidNumber" = some (some (.ref C_InvalidNumber)))
    (xa_InvalidProgram : PySem.W.nsIn K mainGlobals "InvalidProgram" = some (some (.ref C_InvalidProgram)))
    (xa_InvalidOrder : PySem.W.nsIn K mainGlobals "InvalidOrder" = some (some (.ref C_InvalidOrder)))
    (xa_InvalidColumns : PySem.W.nsIn K mainGlobals "InvalidColumns" = some (some (.ref C_InvalidColumns)))
    (xa_InvalidTable : PySem.W.nsIn K mainGlobals "InvalidTable" = some (some (.ref C_InvalidTable)))
    (xa_InvalidCommand : PySem.W.nsIn K mainGlobals "InvalidCommand" = some (some (.ref C_InvalidCommand)))
    (xa_InvalidEdit : PySem.W.nsIn K mainGlobals "InvalidEdit" = some (some (.ref C_InvalidEdit)))
    (xa_InvalidValue : PySem.W.nsIn K mainGlobals "InvalidValue" = some (some (.ref C_InvalidValue)))
    (xa_InvalidRecord : PySem.W.nsIn K mainGlobals "InvalidRecord" = some (some (.ref C_InvalidRecord)))
    (xa_InvalidLimit : PySem.W.nsIn K mainGlobals "InvalidLimit" = some (some (.ref C_InvalidLimit)))
    (xa_InvalidText : PySem.W.nsIn K mainGlobals "InvalidText" = some (some (.ref C_InvalidText)))
    (xa_TooManyEdits : PySem.W.nsIn K mainGlobals "TooManyEdits" = some (some (.ref C_TooManyEdits)))
    (xa_TooManyRecords : PySem.W.nsIn K mainGlobals "TooManyRecords" = some (some (.ref C_TooManyRecords)))
    (xa_NoPlace : PySem.W.nsIn K mainGlobals "NoPlace" = some (some (.ref C_NoPlace)))
    (xa_MissingColumn : PySem.W.nsIn K mainGlobals "MissingColumn" = some (some (.ref C_MissingColumn)))
    (xa_LastRecord : PySem.W.nsIn K mainGlobals "LastRecord" = some (some (.ref C_LastRecord)))
    (xa_NothingToUndo : PySem.W.nsIn K mainGlobals "NothingToUndo" = some (some (.ref C_NothingToUndo)))
    (xa_LimitError : PySem.W.nsIn K mainGlobals "LimitError" = some (some (.ref C_LimitError)))
    (xa_FindError : PySem.W.nsIn K mainGlobals "FindError" = some (some (.ref C_FindError)))
    (xa_TableError : PySem.W.nsIn K mainGlobals "TableError" = some (some (.ref C_TableError)))
    (xi_InvalidPlaces : PySem.W.findIn K (.ref C_InvalidPlaces) "__init__" = some (some (.ref FI_InvalidPlaces))) (xt_InvalidPlaces : PySem.W.typeIn K (.ref FI_InvalidPlaces) = some (.type "function")) (xn_InvalidPlaces : PySem.W.findIn K (.ref C_InvalidPlaces) "index" = some none) (xl_InvalidPlaces : K.lookup FI_InvalidPlaces = some ⟨xoc_InvalidPlaces, xod_InvalidPlaces, .func (PySem.W.fnOf "__init__" "InvalidPlaces.__init__" (defArgs (inS 7 0)) (defBody (inS 7 0)) (defScope (inS 7 0)) .none xkV_InvalidPlaces xdc_InvalidPlaces xpm_InvalidPlaces xan_InvalidPlaces xcd_InvalidPlaces xct_InvalidPlaces), xsl_InvalidPlaces⟩) (xc_InvalidPlaces : PySem.W.codeIn K xcd_InvalidPlaces "InvalidPlaces.__init__" = true) (xk_InvalidPlaces : PySem.W.keepIn K (.ref FI_InvalidPlaces) = true) (x_InvalidPlaces : OexC K C_InvalidPlaces)
    (xi_InvalidNumber : PySem.W.findIn K (.ref C_InvalidNumber) "__init__" = some (some (.ref FI_InvalidNumber))) (xt_InvalidNumber : PySem.W.typeIn K (.ref FI_InvalidNumber) = some (.type "function")) (xn_InvalidNumber : PySem.W.findIn K (.ref C_InvalidNumber) "number" = some none) (xl_InvalidNumber : K.lookup FI_InvalidNumber = some ⟨xoc_InvalidNumber, xod_InvalidNumber, .func (PySem.W.fnOf "__init__" "InvalidNumber.__init__" (defArgs (inS 6 0)) (defBody (inS 6 0)) (defScope (inS 6 0)) .none xkV_InvalidNumber xdc_InvalidNumber xpm_InvalidNumber xan_InvalidNumber xcd_InvalidNumber xct_InvalidNumber), xsl_InvalidNumber⟩) (xc_InvalidNumber : PySem.W.codeIn K xcd_InvalidNumber "InvalidNumber.__init__" = true) (xk_InvalidNumber : PySem.W.keepIn K (.ref FI_InvalidNumber) = true) (x_InvalidNumber : OexC K C_InvalidNumber)
    (xi_InvalidProgram : PySem.W.findIn K (.ref C_InvalidProgram) "__init__" = some (some (.ref FI_InvalidProgram))) (xt_InvalidProgram : PySem.W.typeIn K (.ref FI_InvalidProgram) = some (.type "function")) (xn_InvalidProgram : PySem.W.findIn K (.ref C_InvalidProgram) "index" = some none) (xl_InvalidProgram : K.lookup FI_InvalidProgram = some ⟨xoc_InvalidProgram, xod_InvalidProgram, .func (PySem.W.fnOf "__init__" "InvalidProgram.__init__" (defArgs (inS 5 0)) (defBody (inS 5 0)) (defScope (inS 5 0)) .none xkV_InvalidProgram xdc_InvalidProgram xpm_InvalidProgram xan_InvalidProgram xcd_InvalidProgram xct_InvalidProgram), xsl_InvalidProgram⟩) (xc_InvalidProgram : PySem.W.codeIn K xcd_InvalidProgram "InvalidProgram.__init__" = true) (xk_InvalidProgram : PySem.W.keepIn K (.ref FI_InvalidProgram) = true) (x_InvalidProgram : OexC K C_InvalidProgram)
    (xi_InvalidOrder : PySem.W.findIn K (.ref C_InvalidOrder) "__init__" = some (some (.ref FI_InvalidOrder))) (xt_InvalidOrder : PySem.W.typeIn K (.ref FI_InvalidOrder) = some (.type "function")) (xn_InvalidOrder : PySem.W.findIn K (.ref C_InvalidOrder) "index" = some none) (xl_InvalidOrder : K.lookup FI_InvalidOrder = some ⟨xoc_InvalidOrder, xod_InvalidOrder, .func (PySem.W.fnOf "__init__" "InvalidOrder.__init__" (defArgs (inS 4 0)) (defBody (inS 4 0)) (defScope (inS 4 0)) .none xkV_InvalidOrder xdc_InvalidOrder xpm_InvalidOrder xan_InvalidOrder xcd_InvalidOrder xct_InvalidOrder), xsl_InvalidOrder⟩) (xc_InvalidOrder : PySem.W.codeIn K xcd_InvalidOrder "InvalidOrder.__init__" = true) (xk_InvalidOrder : PySem.W.keepIn K (.ref FI_InvalidOrder) = true) (x_InvalidOrder : OexC K C_InvalidOrder)
    (xi_InvalidColumns : PySem.W.findIn K (.ref C_InvalidColumns) "__init__" = some (some (.ref FI_InvalidColumns))) (xt_InvalidColumns : PySem.W.typeIn K (.ref FI_InvalidColumns) = some (.type "function")) (xn_InvalidColumns : PySem.W.findIn K (.ref C_InvalidColumns) "columns" = some none) (xl_InvalidColumns : K.lookup FI_InvalidColumns = some ⟨xoc_InvalidColumns, xod_InvalidColumns, .func (PySem.W.fnOf "__init__" "InvalidColumns.__init__" (defArgs (inS 3 0)) (defBody (inS 3 0)) (defScope (inS 3 0)) .none xkV_InvalidColumns xdc_InvalidColumns xpm_InvalidColumns xan_InvalidColumns xcd_InvalidColumns xct_InvalidColumns), xsl_InvalidColumns⟩) (xc_InvalidColumns : PySem.W.codeIn K xcd_InvalidColumns "InvalidColumns.__init__" = true) (xk_InvalidColumns : PySem.W.keepIn K (.ref FI_InvalidColumns) = true) (x_InvalidColumns : OexC K C_InvalidColumns)
    (xi_InvalidTable : PySem.W.findIn K (.ref C_InvalidTable) "__init__" = some (some (.ref FI_InvalidTable))) (xt_InvalidTable : PySem.W.typeIn K (.ref FI_InvalidTable) = some (.type "function")) (xn_InvalidTable : PySem.W.findIn K (.ref C_InvalidTable) "index" = some none) (xl_InvalidTable : K.lookup FI_InvalidTable = some ⟨xoc_InvalidTable, xod_InvalidTable, .func (PySem.W.fnOf "__init__" "InvalidTable.__init__" (defArgs (inS 2 0)) (defBody (inS 2 0)) (defScope (inS 2 0)) .none xkV_InvalidTable xdc_InvalidTable xpm_InvalidTable xan_InvalidTable xcd_InvalidTable xct_InvalidTable), xsl_InvalidTable⟩) (xc_InvalidTable : PySem.W.codeIn K xcd_InvalidTable "InvalidTable.__init__" = true) (xk_InvalidTable : PySem.W.keepIn K (.ref FI_InvalidTable) = true) (x_InvalidTable : OexC K C_InvalidTable)
    (xi_InvalidCommand : PySem.W.findIn K (.ref C_InvalidCommand) "__init__" = some (some (.ref FI_InvalidCommand))) (xt_InvalidCommand : PySem.W.typeIn K (.ref FI_InvalidCommand) = some (.type "function")) (xn_InvalidCommand : PySem.W.findIn K (.ref C_InvalidCommand) "line" = some none) (xl_InvalidCommand : K.lookup FI_InvalidCommand = some ⟨xoc_InvalidCommand, xod_InvalidCommand, .func (PySem.W.fnOf "__init__" "InvalidCommand.__init__" (defArgs (inS 13 0)) (defBody (inS 13 0)) (defScope (inS 13 0)) .none xkV_InvalidCommand xdc_InvalidCommand xpm_InvalidCommand xan_InvalidCommand xcd_InvalidCommand xct_InvalidCommand), xsl_InvalidCommand⟩) (xc_InvalidCommand : PySem.W.codeIn K xcd_InvalidCommand "InvalidCommand.__init__" = true) (xk_InvalidCommand : PySem.W.keepIn K (.ref FI_InvalidCommand) = true) (x_InvalidCommand : OexC K C_InvalidCommand)
    (xi_InvalidEdit : PySem.W.findIn K (.ref C_InvalidEdit) "__init__" = some (some (.ref FI_InvalidEdit))) (xt_InvalidEdit : PySem.W.typeIn K (.ref FI_InvalidEdit) = some (.type "function")) (xn_InvalidEdit : PySem.W.findIn K (.ref C_InvalidEdit) "index" = some none) (xl_InvalidEdit : K.lookup FI_InvalidEdit = some ⟨xoc_InvalidEdit, xod_InvalidEdit, .func (PySem.W.fnOf "__init__" "InvalidEdit.__init__" (defArgs (inS 12 0)) (defBody (inS 12 0)) (defScope (inS 12 0)) .none xkV_InvalidEdit xdc_InvalidEdit xpm_InvalidEdit xan_InvalidEdit xcd_InvalidEdit xct_InvalidEdit), xsl_InvalidEdit⟩) (xc_InvalidEdit : PySem.W.codeIn K xcd_InvalidEdit "InvalidEdit.__init__" = true) (xk_InvalidEdit : PySem.W.keepIn K (.ref FI_InvalidEdit) = true) (x_InvalidEdit : OexC K C_InvalidEdit)
    (xi_InvalidValue : PySem.W.findIn K (.ref C_InvalidValue) "__init__" = some (some (.ref FI_InvalidValue))) (xt_InvalidValue : PySem.W.typeIn K (.ref FI_InvalidValue) = some (.type "function")) (xn_InvalidValue : PySem.W.findIn K (.ref C_InvalidValue) "value" = some none) (xl_InvalidValue : K.lookup FI_InvalidValue = some ⟨xoc_InvalidValue, xod_InvalidValue, .func (PySem.W.fnOf "__init__" "InvalidValue.__init__" (defArgs (inS 11 0)) (defBody (inS 11 0)) (defScope (inS 11 0)) .none xkV_InvalidValue xdc_InvalidValue xpm_InvalidValue xan_InvalidValue xcd_InvalidValue xct_InvalidValue), xsl_InvalidValue⟩) (xc_InvalidValue : PySem.W.codeIn K xcd_InvalidValue "InvalidValue.__init__" = true) (xk_InvalidValue : PySem.W.keepIn K (.ref FI_InvalidValue) = true) (x_InvalidValue : OexC K C_InvalidValue)
    (xi_InvalidRecord : PySem.W.findIn K (.ref C_InvalidRecord) "__init__" = some (some (.ref FI_InvalidRecord))) (xt_InvalidRecord : PySem.W.typeIn K (.ref FI_InvalidRecord) = some (.type "function")) (xn_InvalidRecord : PySem.W.findIn K (.ref C_InvalidRecord) "record" = some none) (xl_InvalidRecord : K.lookup FI_InvalidRecord = some ⟨xoc_InvalidRecord, xod_InvalidRecord, .func (PySem.W.fnOf "__init__" "InvalidRecord.__init__" (defArgs (inS 10 0)) (defBody (inS 10 0)) (defScope (inS 10 0)) .none xkV_InvalidRecord xdc_InvalidRecord xpm_InvalidRecord xan_InvalidRecord xcd_InvalidRecord xct_InvalidRecord), xsl_InvalidRecord⟩) (xc_InvalidRecord : PySem.W.codeIn K xcd_InvalidRecord "InvalidRecord.__init__" = true) (xk_InvalidRecord : PySem.W.keepIn K (.ref FI_InvalidRecord) = true) (x_InvalidRecord : OexC K C_InvalidRecord)
    (xi_InvalidLimit : PySem.W.findIn K (.ref C_InvalidLimit) "__init__" = some (some (.ref FI_InvalidLimit))) (xt_InvalidLimit : PySem.W.typeIn K (.ref FI_InvalidLimit) = some (.type "function")) (xn_InvalidLimit : PySem.W.findIn K (.ref C_InvalidLimit) "value" = some none) (xl_InvalidLimit : K.lookup FI_InvalidLimit = some ⟨xoc_InvalidLimit, xod_InvalidLimit, .func (PySem.W.fnOf "__init__" "InvalidLimit.__init__" (defArgs (inS 9 0)) (defBody (inS 9 0)) (defScope (inS 9 0)) .none xkV_InvalidLimit xdc_InvalidLimit xpm_InvalidLimit xan_InvalidLimit xcd_InvalidLimit xct_InvalidLimit), xsl_InvalidLimit⟩) (xc_InvalidLimit : PySem.W.codeIn K xcd_InvalidLimit "InvalidLimit.__init__" = true) (xk_InvalidLimit : PySem.W.keepIn K (.ref FI_InvalidLimit) = true) (x_InvalidLimit : OexC K C_InvalidLimit)
    (xi_InvalidText : PySem.W.findIn K (.ref C_InvalidText) "__init__" = some (some (.ref FI_InvalidText))) (xt_InvalidText : PySem.W.typeIn K (.ref FI_InvalidText) = some (.type "function")) (xn_InvalidText : PySem.W.findIn K (.ref C_InvalidText) "text" = some none) (xl_InvalidText : K.lookup FI_InvalidText = some ⟨xoc_InvalidText, xod_InvalidText, .func (PySem.W.fnOf "__init__" "InvalidText.__init__" (defArgs (inS 8 0)) (defBody (inS 8 0)) (defScope (inS 8 0)) .none xkV_InvalidText xdc_InvalidText xpm_InvalidText xan_InvalidText xcd_InvalidText xct_InvalidText), xsl_InvalidText⟩) (xc_InvalidText : PySem.W.codeIn K xcd_InvalidText "InvalidText.__init__" = true) (xk_InvalidText : PySem.W.keepIn K (.ref FI_InvalidText) = true) (x_InvalidText : OexC K C_InvalidText)
    (xi_TooManyEdits : PySem.W.findIn K (.ref C_TooManyEdits) "__init__" = some (some (.ref FI_TooManyEdits))) (xt_TooManyEdits : PySem.W.typeIn K (.ref FI_TooManyEdits) = some (.type "function")) (xn_TooManyEdits : PySem.W.findIn K (.ref C_TooManyEdits) "count" = some none) (xl_TooManyEdits : K.lookup FI_TooManyEdits = some ⟨xoc_TooManyEdits, xod_TooManyEdits, .func (PySem.W.fnOf "__init__" "TooManyEdits.__init__" (defArgs (inS 20 0)) (defBody (inS 20 0)) (defScope (inS 20 0)) .none xkV_TooManyEdits xdc_TooManyEdits xpm_TooManyEdits xan_TooManyEdits xcd_TooManyEdits xct_TooManyEdits), xsl_TooManyEdits⟩) (xc_TooManyEdits : PySem.W.codeIn K xcd_TooManyEdits "TooManyEdits.__init__" = true) (xk_TooManyEdits : PySem.W.keepIn K (.ref FI_TooManyEdits) = true) (x_TooManyEdits : OexA K C_TooManyEdits)
    (xi_TooManyRecords : PySem.W.findIn K (.ref C_TooManyRecords) "__init__" = some (some (.ref FI_TooManyRecords))) (xt_TooManyRecords : PySem.W.typeIn K (.ref FI_TooManyRecords) = some (.type "function")) (xn_TooManyRecords : PySem.W.findIn K (.ref C_TooManyRecords) "count" = some none) (xl_TooManyRecords : K.lookup FI_TooManyRecords = some ⟨xoc_TooManyRecords, xod_TooManyRecords, .func (PySem.W.fnOf "__init__" "TooManyRecords.__init__" (defArgs (inS 19 0)) (defBody (inS 19 0)) (defScope (inS 19 0)) .none xkV_TooManyRecords xdc_TooManyRecords xpm_TooManyRecords xan_TooManyRecords xcd_TooManyRecords xct_TooManyRecords), xsl_TooManyRecords⟩) (xc_TooManyRecords : PySem.W.codeIn K xcd_TooManyRecords "TooManyRecords.__init__" = true) (xk_TooManyRecords : PySem.W.keepIn K (.ref FI_TooManyRecords) = true) (x_TooManyRecords : OexA K C_TooManyRecords)
    (xi_NoPlace : PySem.W.findIn K (.ref C_NoPlace) "__init__" = some (some (.ref FI_NoPlace))) (xt_NoPlace : PySem.W.typeIn K (.ref FI_NoPlace) = some (.type "function")) (xn_NoPlace : PySem.W.findIn K (.ref C_NoPlace) "place" = some none) (xl_NoPlace : K.lookup FI_NoPlace = some ⟨xoc_NoPlace, xod_NoPlace, .func (PySem.W.fnOf "__init__" "NoPlace.__init__" (defArgs (inS 16 0)) (defBody (inS 16 0)) (defScope (inS 16 0)) .none xkV_NoPlace xdc_NoPlace xpm_NoPlace xan_NoPlace xcd_NoPlace xct_NoPlace), xsl_NoPlace⟩) (xc_NoPlace : PySem.W.codeIn K xcd_NoPlace "NoPlace.__init__" = true) (xk_NoPlace : PySem.W.keepIn K (.ref FI_NoPlace) = true) (x_NoPlace : OexL K C_NoPlace)
    (xi_MissingColumn : PySem.W.findIn K (.ref C_MissingColumn) "__init__" = some (some (.ref FI_MissingColumn))) (xt_MissingColumn : PySem.W.typeIn K (.ref FI_MissingColumn) = some (.type "function")) (xn_MissingColumn : PySem.W.findIn K (.ref C_MissingColumn) "column" = some none) (xl_MissingColumn : K.lookup FI_MissingColumn = some ⟨xoc_MissingColumn, xod_MissingColumn, .func (PySem.W.fnOf "__init__" "MissingColumn.__init__" (defArgs (inS 15 0)) (defBody (inS 15 0)) (defScope (inS 15 0)) .none xkV_MissingColumn xdc_MissingColumn xpm_MissingColumn xan_MissingColumn xcd_MissingColumn xct_MissingColumn), xsl_MissingColumn⟩) (xc_MissingColumn : PySem.W.codeIn K xcd_MissingColumn "MissingColumn.__init__" = true) (xk_MissingColumn : PySem.W.keepIn K (.ref FI_MissingColumn) = true) (x_MissingColumn : OexL K C_MissingColumn)
    (x0_LastRecord : PySem.W.excIn K C_LastRecord [.type "ArithmeticError", .type "Exception", .type "BaseException", .type "object"] "ArithmeticError.__new__" = true) (xk0_LastRecord : PySem.W.keepIn K (.ref C_LastRecord) = true) (xe0_LastRecord : PySem.W.subIn K (.ref C_LastRecord) (.type "BaseException") = some true) (xy0_LastRecord : PySem.W.typeIn K (.ref C_LastRecord) = some (.type "type"))
    (x0_NothingToUndo : PySem.W.excIn K C_NothingToUndo [.type "LookupError", .type "Exception", .type "BaseException", .type "object"] "LookupError.__new__" = true) (xk0_NothingToUndo : PySem.W.keepIn K (.ref C_NothingToUndo) = true) (xe0_NothingToUndo : PySem.W.subIn K (.ref C_NothingToUndo) (.type "BaseException") = some true) (xy0_NothingToUndo : PySem.W.typeIn K (.ref C_NothingToUndo) = some (.type "type"))
    (kx_InvalidPlaces : kexB K C_InvalidPlaces = true)
    (kx_InvalidNumber : kexB K C_InvalidNumber = true)
    (kx_InvalidProgram : kexB K C_InvalidProgram = true)
    (kx_InvalidOrder : kexB K C_InvalidOrder = true)
    (kx_InvalidColumns : kexB K C_InvalidColumns = true)
    (kx_InvalidTable : kexB K C_InvalidTable = true)
    (kx_InvalidCommand : kexB K C_InvalidCommand = true)
    (kx_InvalidEdit : kexB K C_InvalidEdit = true)
    (kx_InvalidValue : kexB K C_InvalidValue = true)
    (kx_InvalidRecord : kexB K C_InvalidRecord = true)
    (kx_InvalidLimit : kexB K C_InvalidLimit = true)
    (kx_InvalidText : kexB K C_InvalidText = true)
    (kx_TooManyEdits : kexB K C_TooManyEdits = true)
    (kx_TooManyRecords : kexB K C_TooManyRecords = true)
    (kx_NoPlace : kexB K C_NoPlace = true)
    (kx_MissingColumn : kexB K C_MissingColumn = true)
    (kx_LastRecord : kexB K C_LastRecord = true)
    (kx_NothingToUndo : kexB K C_NothingToUndo = true)
    (kt_ArithmeticError : kitTab K [(C_InvalidPlaces, .type "ArithmeticError", false), (C_InvalidNumber, .type "ArithmeticError", false), (C_InvalidProgram, .type "ArithmeticError", false), (C_InvalidOrder, .type "ArithmeticError", false), (C_InvalidColumns, .type "ArithmeticError", false), (C_InvalidTable, .type "ArithmeticError", false), (C_InvalidCommand, .type "ArithmeticError", false), (C_InvalidEdit, .type "ArithmeticError", false), (C_InvalidValue, .type "ArithmeticError", false), (C_InvalidRecord, .type "ArithmeticError", false), (C_InvalidLimit, .type "ArithmeticError", false), (C_InvalidText, .type "ArithmeticError", false), (C_TooManyEdits, .type "ArithmeticError", true), (C_TooManyRecords, .type "ArithmeticError", true), (C_NoPlace, .type "ArithmeticError", false), (C_MissingColumn, .type "ArithmeticError", false), (C_LastRecord, .type "ArithmeticError", true), (C_NothingToUndo, .type "ArithmeticError", false)] = true)
    (kt_LookupError : kitTab K [(C_InvalidPlaces, .type "LookupError", false), (C_InvalidNumber, .type "LookupError", false), (C_InvalidProgram, .type "LookupError", false), (C_InvalidOrder, .type "LookupError", false), (C_InvalidColumns, .type "LookupError", false), (C_InvalidTable, .type "LookupError", false), (C_InvalidCommand, .type "LookupError", false), (C_InvalidEdit, .type "LookupError", false), (C_InvalidValue, .type "LookupError", false), (C_InvalidRecord, .type "LookupError", false), (C_InvalidLimit, .type "LookupError", false), (C_InvalidText, .type "LookupError", false), (C_TooManyEdits, .type "LookupError", false), (C_TooManyRecords, .type "LookupError", false), (C_NoPlace, .type "LookupError", true), (C_MissingColumn, .type "LookupError", true), (C_LastRecord, .type "LookupError", false), (C_NothingToUndo, .type "LookupError", true)] = true)
    (kt_ValueError : kitTab K [(C_InvalidPlaces, .type "ValueError", true), (C_InvalidNumber, .type "ValueError", true), (C_InvalidProgram, .type "ValueError", true), (C_InvalidOrder, .type "ValueError", true), (C_InvalidColumns, .type "ValueError", true), (C_InvalidTable, .type "ValueError", true), (C_InvalidCommand, .type "ValueError", true), (C_InvalidEdit, .type "ValueError", true), (C_InvalidValue, .type "ValueError", true), (C_InvalidRecord, .type "ValueError", true), (C_InvalidLimit, .type "ValueError", true), (C_InvalidText, .type "ValueError", true), (C_TooManyEdits, .type "ValueError", false), (C_TooManyRecords, .type "ValueError", false), (C_NoPlace, .type "ValueError", false), (C_MissingColumn, .type "ValueError", false), (C_LastRecord, .type "ValueError", false), (C_NothingToUndo, .type "ValueError", false)] = true)
    (kt_LimitError : kitTab K [(C_InvalidPlaces, .ref C_LimitError, false), (C_InvalidNumber, .ref C_LimitError, false), (C_InvalidProgram, .ref C_LimitError, false), (C_InvalidOrder, .ref C_LimitError, false), (C_InvalidColumns, .ref C_LimitError, false), (C_InvalidTable, .ref C_LimitError, false), (C_InvalidCommand, .ref C_LimitError, false), (C_InvalidEdit, .ref C_LimitError, false), (C_InvalidValue, .ref C_LimitError, false), (C_InvalidRecord, .ref C_LimitError, false), (C_InvalidLimit, .ref C_LimitError, false), (C_InvalidText, .ref C_LimitError, false), (C_TooManyEdits, .ref C_LimitError, true), (C_TooManyRecords, .ref C_LimitError, true), (C_NoPlace, .ref C_LimitError, false), (C_MissingColumn, .ref C_LimitError, false), (C_LastRecord, .ref C_LimitError, true), (C_NothingToUndo, .ref C_LimitError, false)] = true)
    (kt_FindError : kitTab K [(C_InvalidPlaces, .ref C_FindError, false), (C_InvalidNumber, .ref C_FindError, false), (C_InvalidProgram, .ref C_FindError, false), (C_InvalidOrder, .ref C_FindError, false), (C_InvalidColumns, .ref C_FindError, false), (C_InvalidTable, .ref C_FindError, false), (C_InvalidCommand, .ref C_FindError, false), (C_InvalidEdit, .ref C_FindError, false), (C_InvalidValue, .ref C_FindError, false), (C_InvalidRecord, .ref C_FindError, false), (C_InvalidLimit, .ref C_FindError, false), (C_InvalidText, .ref C_FindError, false), (C_TooManyEdits, .ref C_FindError, false), (C_TooManyRecords, .ref C_FindError, false), (C_NoPlace, .ref C_FindError, true), (C_MissingColumn, .ref C_FindError, true), (C_LastRecord, .ref C_FindError, false), (C_NothingToUndo, .ref C_FindError, true)] = true)
    (kt_TableError : kitTab K [(C_InvalidPlaces, .ref C_TableError, true), (C_InvalidNumber, .ref C_TableError, true), (C_InvalidProgram, .ref C_TableError, true), (C_InvalidOrder, .ref C_TableError, true), (C_InvalidColumns, .ref C_TableError, true), (C_InvalidTable, .ref C_TableError, true), (C_InvalidCommand, .ref C_TableError, true), (C_InvalidEdit, .ref C_TableError, true), (C_InvalidValue, .ref C_TableError, true), (C_InvalidRecord, .ref C_TableError, true), (C_InvalidLimit, .ref C_TableError, true), (C_InvalidText, .ref C_TableError, true), (C_TooManyEdits, .ref C_TableError, false), (C_TooManyRecords, .ref C_TableError, false), (C_NoPlace, .ref C_TableError, false), (C_MissingColumn, .ref C_TableError, false), (C_LastRecord, .ref C_TableError, false), (C_NothingToUndo, .ref C_TableError, false)] = true)
    (kt_LastRecord : kitTab K [(C_InvalidPlaces, .ref C_LastRecord, false), (C_InvalidNumber, .ref C_LastRecord, false), (C_InvalidProgram, .ref C_LastRecord, false), (C_InvalidOrder, .ref C_LastRecord, false), (C_InvalidColumns, .ref C_LastRecord, false), (C_InvalidTable, .ref C_LastRecord, false), (C_InvalidCommand, .ref C_LastRecord, false), (C_InvalidEdit, .ref C_LastRecord, false), (C_InvalidValue, .ref C_LastRecord, false), (C_InvalidRecord, .ref C_LastRecord, false), (C_InvalidLimit, .ref C_LastRecord, false), (C_InvalidText, .ref C_LastRecord, false), (C_TooManyEdits, .ref C_LastRecord, false), (C_TooManyRecords, .ref C_LastRecord, false), (C_NoPlace, .ref C_LastRecord, false), (C_MissingColumn, .ref C_LastRecord, false), (C_LastRecord, .ref C_LastRecord, true), (C_NothingToUndo, .ref C_LastRecord, false)] = true)
    (kt_TooManyEdits : kitTab K [(C_InvalidPlaces, .ref C_TooManyEdits, false), (C_InvalidNumber, .ref C_TooManyEdits, false), (C_InvalidProgram, .ref C_TooManyEdits, false), (C_InvalidOrder, .ref C_TooManyEdits, false), (C_InvalidColumns, .ref C_TooManyEdits, false), (C_InvalidTable, .ref C_TooManyEdits, false), (C_InvalidCommand, .ref C_TooManyEdits, false), (C_InvalidEdit, .ref C_TooManyEdits, false), (C_InvalidValue, .ref C_TooManyEdits, false), (C_InvalidRecord, .ref C_TooManyEdits, false), (C_InvalidLimit, .ref C_TooManyEdits, false), (C_InvalidText, .ref C_TooManyEdits, false), (C_TooManyEdits, .ref C_TooManyEdits, true), (C_TooManyRecords, .ref C_TooManyEdits, false), (C_NoPlace, .ref C_TooManyEdits, false), (C_MissingColumn, .ref C_TooManyEdits, false), (C_LastRecord, .ref C_TooManyEdits, false), (C_NothingToUndo, .ref C_TooManyEdits, false)] = true)
    (kt_TooManyRecords : kitTab K [(C_InvalidPlaces, .ref C_TooManyRecords, false), (C_InvalidNumber, .ref C_TooManyRecords, false), (C_InvalidProgram, .ref C_TooManyRecords, false), (C_InvalidOrder, .ref C_TooManyRecords, false), (C_InvalidColumns, .ref C_TooManyRecords, false), (C_InvalidTable, .ref C_TooManyRecords, false), (C_InvalidCommand, .ref C_TooManyRecords, false), (C_InvalidEdit, .ref C_TooManyRecords, false), (C_InvalidValue, .ref C_TooManyRecords, false), (C_InvalidRecord, .ref C_TooManyRecords, false), (C_InvalidLimit, .ref C_TooManyRecords, false), (C_InvalidText, .ref C_TooManyRecords, false), (C_TooManyEdits, .ref C_TooManyRecords, false), (C_TooManyRecords, .ref C_TooManyRecords, true), (C_NoPlace, .ref C_TooManyRecords, false), (C_MissingColumn, .ref C_TooManyRecords, false), (C_LastRecord, .ref C_TooManyRecords, false), (C_NothingToUndo, .ref C_TooManyRecords, false)] = true)
    (kt_NothingToUndo : kitTab K [(C_InvalidPlaces, .ref C_NothingToUndo, false), (C_InvalidNumber, .ref C_NothingToUndo, false), (C_InvalidProgram, .ref C_NothingToUndo, false), (C_InvalidOrder, .ref C_NothingToUndo, false), (C_InvalidColumns, .ref C_NothingToUndo, false), (C_InvalidTable, .ref C_NothingToUndo, false), (C_InvalidCommand, .ref C_NothingToUndo, false), (C_InvalidEdit, .ref C_NothingToUndo, false), (C_InvalidValue, .ref C_NothingToUndo, false), (C_InvalidRecord, .ref C_NothingToUndo, false), (C_InvalidLimit, .ref C_NothingToUndo, false), (C_InvalidText, .ref C_NothingToUndo, false), (C_TooManyEdits, .ref C_NothingToUndo, false), (C_TooManyRecords, .ref C_NothingToUndo, false), (C_NoPlace, .ref C_NothingToUndo, false), (C_MissingColumn, .ref C_NothingToUndo, false), (C_LastRecord, .ref C_NothingToUndo, false), (C_NothingToUndo, .ref C_NothingToUndo, true)] = true)
    (kt_NoPlace : kitTab K [(C_InvalidPlaces, .ref C_NoPlace, false), (C_InvalidNumber, .ref C_NoPlace, false), (C_InvalidProgram, .ref C_NoPlace, false), (C_InvalidOrder, .ref C_NoPlace, false), (C_InvalidColumns, .ref C_NoPlace, false), (C_InvalidTable, .ref C_NoPlace, false), (C_InvalidCommand, .ref C_NoPlace, false), (C_InvalidEdit, .ref C_NoPlace, false), (C_InvalidValue, .ref C_NoPlace, false), (C_InvalidRecord, .ref C_NoPlace, false), (C_InvalidLimit, .ref C_NoPlace, false), (C_InvalidText, .ref C_NoPlace, false), (C_TooManyEdits, .ref C_NoPlace, false), (C_TooManyRecords, .ref C_NoPlace, false), (C_NoPlace, .ref C_NoPlace, true), (C_MissingColumn, .ref C_NoPlace, false), (C_LastRecord, .ref C_NoPlace, false), (C_NothingToUndo, .ref C_NoPlace, false)] = true)
    (kt_MissingColumn : kitTab K [(C_InvalidPlaces, .ref C_MissingColumn, false), (C_InvalidNumber, .ref C_MissingColumn, false), (C_InvalidProgram, .ref C_MissingColumn, false), (C_InvalidOrder, .ref C_MissingColumn, false), (C_InvalidColumns, .ref C_MissingColumn, false), (C_InvalidTable, .ref C_MissingColumn, false), (C_InvalidCommand, .ref C_MissingColumn, false), (C_InvalidEdit, .ref C_MissingColumn, false), (C_InvalidValue, .ref C_MissingColumn, false), (C_InvalidRecord, .ref C_MissingColumn, false), (C_InvalidLimit, .ref C_MissingColumn, false), (C_InvalidText, .ref C_MissingColumn, false), (C_TooManyEdits, .ref C_MissingColumn, false), (C_TooManyRecords, .ref C_MissingColumn, false), (C_NoPlace, .ref C_MissingColumn, false), (C_MissingColumn, .ref C_MissingColumn, true), (C_LastRecord, .ref C_MissingColumn, false), (C_NothingToUndo, .ref C_MissingColumn, false)] = true)
    (kt_InvalidCommand : kitTab K [(C_InvalidPlaces, .ref C_InvalidCommand, false), (C_InvalidNumber, .ref C_InvalidCommand, false), (C_InvalidProgram, .ref C_InvalidCommand, false), (C_InvalidOrder, .ref C_InvalidCommand, false), (C_InvalidColumns, .ref C_InvalidCommand, false), (C_InvalidTable, .ref C_InvalidCommand, false), (C_InvalidCommand, .ref C_InvalidCommand, true), (C_InvalidEdit, .ref C_InvalidCommand, false), (C_InvalidValue, .ref C_InvalidCommand, false), (C_InvalidRecord, .ref C_InvalidCommand, false), (C_InvalidLimit, .ref C_InvalidCommand, false), (C_InvalidText, .ref C_InvalidCommand, false), (C_TooManyEdits, .ref C_InvalidCommand, false), (C_TooManyRecords, .ref C_InvalidCommand, false), (C_NoPlace, .ref C_InvalidCommand, false), (C_MissingColumn, .ref C_InvalidCommand, false), (C_LastRecord, .ref C_InvalidCommand, false), (C_NothingToUndo, .ref C_InvalidCommand, false)] = true)
    (kt_InvalidEdit : kitTab K [(C_InvalidPlaces, .ref C_InvalidEdit, false), (C_InvalidNumber, .ref C_InvalidEdit, false), (C_InvalidProgram, .ref C_InvalidEdit, false), (C_InvalidOrder, .ref C_InvalidEdit, false), (C_InvalidColumns, .ref C_InvalidEdit, false), (C_InvalidTable, .ref C_InvalidEdit, false), (C_InvalidCommand, .ref C_InvalidEdit, false), (C_InvalidEdit, .ref C_InvalidEdit, true), (C_InvalidValue, .ref C_InvalidEdit, false), (C_InvalidRecord, .ref C_InvalidEdit, false), (C_InvalidLimit, .ref C_InvalidEdit, false), (C_InvalidText, .ref C_InvalidEdit, false), (C_TooManyEdits, .ref C_InvalidEdit, false), (C_TooManyRecords, .ref C_InvalidEdit, false), (C_NoPlace, .ref C_InvalidEdit, false), (C_MissingColumn, .ref C_InvalidEdit, false), (C_LastRecord, .ref C_InvalidEdit, false), (C_NothingToUndo, .ref C_InvalidEdit, false)] = true)
    (kt_InvalidValue : kitTab K [(C_InvalidPlaces, .ref C_InvalidValue, false), (C_InvalidNumber, .ref C_InvalidValue, false), (C_InvalidProgram, .ref C_InvalidValue, false), (C_InvalidOrder, .ref C_InvalidValue, false), (C_InvalidColumns, .ref C_InvalidValue, false), (C_InvalidTable, .ref C_InvalidValue, false), (C_InvalidCommand, .ref C_InvalidValue, false), (C_InvalidEdit, .ref C_InvalidValue, false), (C_InvalidValue, .ref C_InvalidValue, true), (C_InvalidRecord, .ref C_InvalidValue, false), (C_InvalidLimit, .ref C_InvalidValue, false), (C_InvalidText, .ref C_InvalidValue, false), (C_TooManyEdits, .ref C_InvalidValue, false), (C_TooManyRecords, .ref C_InvalidValue, false), (C_NoPlace, .ref C_InvalidValue, false), (C_MissingColumn, .ref C_InvalidValue, false), (C_LastRecord, .ref C_InvalidValue, false), (C_NothingToUndo, .ref C_InvalidValue, false)] = true)
    (kt_InvalidRecord : kitTab K [(C_InvalidPlaces, .ref C_InvalidRecord, false), (C_InvalidNumber, .ref C_InvalidRecord, false), (C_InvalidProgram, .ref C_InvalidRecord, false), (C_InvalidOrder, .ref C_InvalidRecord, false), (C_InvalidColumns, .ref C_InvalidRecord, false), (C_InvalidTable, .ref C_InvalidRecord, false), (C_InvalidCommand, .ref C_InvalidRecord, false), (C_InvalidEdit, .ref C_InvalidRecord, false), (C_InvalidValue, .ref C_InvalidRecord, false), (C_InvalidRecord, .ref C_InvalidRecord, true), (C_InvalidLimit, .ref C_InvalidRecord, false), (C_InvalidText, .ref C_InvalidRecord, false), (C_TooManyEdits, .ref C_InvalidRecord, false), (C_TooManyRecords, .ref C_InvalidRecord, false), (C_NoPlace, .ref C_InvalidRecord, false), (C_MissingColumn, .ref C_InvalidRecord, false), (C_LastRecord, .ref C_InvalidRecord, false), (C_NothingToUndo, .ref C_InvalidRecord, false)] = true)
    (kt_InvalidLimit : kitTab K [(C_InvalidPlaces, .ref C_InvalidLimit, false), (C_InvalidNumber, .ref C_InvalidLimit, false), (C_InvalidProgram, .ref C_InvalidLimit, false), (C_InvalidOrder, .ref C_InvalidLimit, false), (C_InvalidColumns, .ref C_InvalidLimit, false), (C_InvalidTable, .ref C_InvalidLimit, false), (C_InvalidCommand, .ref C_InvalidLimit, false), (C_InvalidEdit, .ref C_InvalidLimit, false), (C_InvalidValue, .ref C_InvalidLimit, false), (C_InvalidRecord, .ref C_InvalidLimit, false), (C_InvalidLimit, .ref C_InvalidLimit, true), (C_InvalidText, .ref C_InvalidLimit, false), (C_TooManyEdits, .ref C_InvalidLimit, false), (C_TooManyRecords, .ref C_InvalidLimit, false), (C_NoPlace, .ref C_InvalidLimit, false), (C_MissingColumn, .ref C_InvalidLimit, false), (C_LastRecord, .ref C_InvalidLimit, false), (C_NothingToUndo, .ref C_InvalidLimit, false)] = true)
    (kt_InvalidText : kitTab K [(C_InvalidPlaces, .ref C_InvalidText, false), (C_InvalidNumber, .ref C_InvalidText, false), (C_InvalidProgram, .ref C_InvalidText, false), (C_InvalidOrder, .ref C_InvalidText, false), (C_InvalidColumns, .ref C_InvalidText, false), (C_InvalidTable, .ref C_InvalidText, false), (C_InvalidCommand, .ref C_InvalidText, false), (C_InvalidEdit, .ref C_InvalidText, false), (C_InvalidValue, .ref C_InvalidText, false), (C_InvalidRecord, .ref C_InvalidText, false), (C_InvalidLimit, .ref C_InvalidText, false), (C_InvalidText, .ref C_InvalidText, true), (C_TooManyEdits, .ref C_InvalidText, false), (C_TooManyRecords, .ref C_InvalidText, false), (C_NoPlace, .ref C_InvalidText, false), (C_MissingColumn, .ref C_InvalidText, false), (C_LastRecord, .ref C_InvalidText, false), (C_NothingToUndo, .ref C_InvalidText, false)] = true)
    (kt_InvalidPlaces : kitTab K [(C_InvalidPlaces, .ref C_InvalidPlaces, true), (C_InvalidNumber, .ref C_InvalidPlaces, false), (C_InvalidProgram, .ref C_InvalidPlaces, false), (C_InvalidOrder, .ref C_InvalidPlaces, false), (C_InvalidColumns, .ref C_InvalidPlaces, false), (C_InvalidTable, .ref C_InvalidPlaces, false), (C_InvalidCommand, .ref C_InvalidPlaces, false), (C_InvalidEdit, .ref C_InvalidPlaces, false), (C_InvalidValue, .ref C_InvalidPlaces, false), (C_InvalidRecord, .ref C_InvalidPlaces, false), (C_InvalidLimit, .ref C_InvalidPlaces, false), (C_InvalidText, .ref C_InvalidPlaces, false), (C_TooManyEdits, .ref C_InvalidPlaces, false), (C_TooManyRecords, .ref C_InvalidPlaces, false), (C_NoPlace, .ref C_InvalidPlaces, false), (C_MissingColumn, .ref C_InvalidPlaces, false), (C_LastRecord, .ref C_InvalidPlaces, false), (C_NothingToUndo, .ref C_InvalidPlaces, false)] = true)
    (kt_InvalidNumber : kitTab K [(C_InvalidPlaces, .ref C_InvalidNumber, false), (C_InvalidNumber, .ref C_InvalidNumber, true), (C_InvalidProgram, .ref C_InvalidNumber, false), (C_InvalidOrder, .ref C_InvalidNumber, false), (C_InvalidColumns, .ref C_InvalidNumber, false), (C_InvalidTable, .ref C_InvalidNumber, false), (C_InvalidCommand, .ref C_InvalidNumber, false), (C_InvalidEdit, .ref C_InvalidNumber, false), (C_InvalidValue, .ref C_InvalidNumber, false), (C_InvalidRecord, .ref C_InvalidNumber, false), (C_InvalidLimit, .ref C_InvalidNumber, false), (C_InvalidText, .ref C_InvalidNumber, false), (C_TooManyEdits, .ref C_InvalidNumber, false), (C_TooManyRecords, .ref C_InvalidNumber, false), (C_NoPlace, .ref C_InvalidNumber, false), (C_MissingColumn, .ref C_InvalidNumber, false), (C_LastRecord, .ref C_InvalidNumber, false), (C_NothingToUndo, .ref C_InvalidNumber, false)] = true)
    (kt_InvalidProgram : kitTab K [(C_InvalidPlaces, .ref C_InvalidProgram, false), (C_InvalidNumber, .ref C_InvalidProgram, false), (C_InvalidProgram, .ref C_InvalidProgram, true), (C_InvalidOrder, .ref C_InvalidProgram, false), (C_InvalidColumns, .ref C_InvalidProgram, false), (C_InvalidTable, .ref C_InvalidProgram, false), (C_InvalidCommand, .ref C_InvalidProgram, false), (C_InvalidEdit, .ref C_InvalidProgram, false), (C_InvalidValue, .ref C_InvalidProgram, false), (C_InvalidRecord, .ref C_InvalidProgram, false), (C_InvalidLimit, .ref C_InvalidProgram, false), (C_InvalidText, .ref C_InvalidProgram, false), (C_TooManyEdits, .ref C_InvalidProgram, false), (C_TooManyRecords, .ref C_InvalidProgram, false), (C_NoPlace, .ref C_InvalidProgram, false), (C_MissingColumn, .ref C_InvalidProgram, false), (C_LastRecord, .ref C_InvalidProgram, false), (C_NothingToUndo, .ref C_InvalidProgram, false)] = true)
    (kt_InvalidOrder : kitTab K [(C_InvalidPlaces, .ref C_InvalidOrder, false), (C_InvalidNumber, .ref C_InvalidOrder, false), (C_InvalidProgram, .ref C_InvalidOrder, false), (C_InvalidOrder, .ref C_InvalidOrder, true), (C_InvalidColumns, .ref C_InvalidOrder, false), (C_InvalidTable, .ref C_InvalidOrder, false), (C_InvalidCommand, .ref C_InvalidOrder, false), (C_InvalidEdit, .ref C_InvalidOrder, false), (C_InvalidValue, .ref C_InvalidOrder, false), (C_InvalidRecord, .ref C_InvalidOrder, false), (C_InvalidLimit, .ref C_InvalidOrder, false), (C_InvalidText, .ref C_InvalidOrder, false), (C_TooManyEdits, .ref C_InvalidOrder, false), (C_TooManyRecords, .ref C_InvalidOrder, false), (C_NoPlace, .ref C_InvalidOrder, false), (C_MissingColumn, .ref C_InvalidOrder, false), (C_LastRecord, .ref C_InvalidOrder, false), (C_NothingToUndo, .ref C_InvalidOrder, false)] = true)
    (kt_InvalidColumns : kitTab K [(C_InvalidPlaces, .ref C_InvalidColumns, false), (C_InvalidNumber, .ref C_InvalidColumns, false), (C_InvalidProgram, .ref C_InvalidColumns, false), (C_InvalidOrder, .ref C_InvalidColumns, false), (C_InvalidColumns, .ref C_InvalidColumns, true), (C_InvalidTable, .ref C_InvalidColumns, false), (C_InvalidCommand, .ref C_InvalidColumns, false), (C_InvalidEdit, .ref C_InvalidColumns, false), (C_InvalidValue, .ref C_InvalidColumns, false), (C_InvalidRecord, .ref C_InvalidColumns, false), (C_InvalidLimit, .ref C_InvalidColumns, false), (C_InvalidText, .ref C_InvalidColumns, false), (C_TooManyEdits, .ref C_InvalidColumns, false), (C_TooManyRecords, .ref C_InvalidColumns, false), (C_NoPlace, .ref C_InvalidColumns, false), (C_MissingColumn, .ref C_InvalidColumns, false), (C_LastRecord, .ref C_InvalidColumns, false), (C_NothingToUndo, .ref C_InvalidColumns, false)] = true)
    (kt_InvalidTable : kitTab K [(C_InvalidPlaces, .ref C_InvalidTable, false), (C_InvalidNumber, .ref C_InvalidTable, false), (C_InvalidProgram, .ref C_InvalidTable, false), (C_InvalidOrder, .ref C_InvalidTable, false), (C_InvalidColumns, .ref C_InvalidTable, false), (C_InvalidTable, .ref C_InvalidTable, true), (C_InvalidCommand, .ref C_InvalidTable, false), (C_InvalidEdit, .ref C_InvalidTable, false), (C_InvalidValue, .ref C_InvalidTable, false), (C_InvalidRecord, .ref C_InvalidTable, false), (C_InvalidLimit, .ref C_InvalidTable, false), (C_InvalidText, .ref C_InvalidTable, false), (C_TooManyEdits, .ref C_InvalidTable, false), (C_TooManyRecords, .ref C_InvalidTable, false), (C_NoPlace, .ref C_InvalidTable, false), (C_MissingColumn, .ref C_InvalidTable, false), (C_LastRecord, .ref C_InvalidTable, false), (C_NothingToUndo, .ref C_InvalidTable, false)] = true)
    (kt_OverflowError : kitTab K [(C_InvalidPlaces, .type "OverflowError", false), (C_InvalidNumber, .type "OverflowError", false), (C_InvalidProgram, .type "OverflowError", false), (C_InvalidOrder, .type "OverflowError", false), (C_InvalidColumns, .type "OverflowError", false), (C_InvalidTable, .type "OverflowError", false), (C_InvalidCommand, .type "OverflowError", false), (C_InvalidEdit, .type "OverflowError", false), (C_InvalidValue, .type "OverflowError", false), (C_InvalidRecord, .type "OverflowError", false), (C_InvalidLimit, .type "OverflowError", false), (C_InvalidText, .type "OverflowError", false), (C_TooManyEdits, .type "OverflowError", false), (C_TooManyRecords, .type "OverflowError", false), (C_NoPlace, .type "OverflowError", false), (C_MissingColumn, .type "OverflowError", false), (C_LastRecord, .type "OverflowError", false), (C_NothingToUndo, .type "OverflowError", false)] = true)
    (kt_ZeroDivisionError : kitTab K [(C_InvalidPlaces, .type "ZeroDivisionError", false), (C_InvalidNumber, .type "ZeroDivisionError", false), (C_InvalidProgram, .type "ZeroDivisionError", false), (C_InvalidOrder, .type "ZeroDivisionError", false), (C_InvalidColumns, .type "ZeroDivisionError", false), (C_InvalidTable, .type "ZeroDivisionError", false), (C_InvalidCommand, .type "ZeroDivisionError", false), (C_InvalidEdit, .type "ZeroDivisionError", false), (C_InvalidValue, .type "ZeroDivisionError", false), (C_InvalidRecord, .type "ZeroDivisionError", false), (C_InvalidLimit, .type "ZeroDivisionError", false), (C_InvalidText, .type "ZeroDivisionError", false), (C_TooManyEdits, .type "ZeroDivisionError", false), (C_TooManyRecords, .type "ZeroDivisionError", false), (C_NoPlace, .type "ZeroDivisionError", false), (C_MissingColumn, .type "ZeroDivisionError", false), (C_LastRecord, .type "ZeroDivisionError", false), (C_NothingToUndo, .type "ZeroDivisionError", false)] = true)
    (kt_KeyError : kitTab K [(C_InvalidPlaces, .type "KeyError", false), (C_InvalidNumber, .type "KeyError", false), (C_InvalidProgram, .type "KeyError", false), (C_InvalidOrder, .type "KeyError", false), (C_InvalidColumns, .type "KeyError", false), (C_InvalidTable, .type "KeyError", false), (C_InvalidCommand, .type "KeyError", false), (C_InvalidEdit, .type "KeyError", false), (C_InvalidValue, .type "KeyError", false), (C_InvalidRecord, .type "KeyError", false), (C_InvalidLimit, .type "KeyError", false), (C_InvalidText, .type "KeyError", false), (C_TooManyEdits, .type "KeyError", false), (C_TooManyRecords, .type "KeyError", false), (C_NoPlace, .type "KeyError", false), (C_MissingColumn, .type "KeyError", false), (C_LastRecord, .type "KeyError", false), (C_NothingToUndo, .type "KeyError", false)] = true)
    (kt_IndexError : kitTab K [(C_InvalidPlaces, .type "IndexError", false), (C_InvalidNumber, .type "IndexError", false), (C_InvalidProgram, .type "IndexError", false), (C_InvalidOrder, .type "IndexError", false), (C_InvalidColumns, .type "IndexError", false), (C_InvalidTable, .type "IndexError", false), (C_InvalidCommand, .type "IndexError", false), (C_InvalidEdit, .type "IndexError", false), (C_InvalidValue, .type "IndexError", false), (C_InvalidRecord, .type "IndexError", false), (C_InvalidLimit, .type "IndexError", false), (C_InvalidText, .type "IndexError", false), (C_TooManyEdits, .type "IndexError", false), (C_TooManyRecords, .type "IndexError", false), (C_NoPlace, .type "IndexError", false), (C_MissingColumn, .type "IndexError", false), (C_LastRecord, .type "IndexError", false), (C_NothingToUndo, .type "IndexError", false)] = true)
    (hCC : LabW.C = clsOf [("InvalidPlaces", C_InvalidPlaces), ("InvalidNumber", C_InvalidNumber), ("InvalidProgram", C_InvalidProgram), ("InvalidOrder", C_InvalidOrder), ("InvalidColumns", C_InvalidColumns), ("InvalidTable", C_InvalidTable), ("InvalidCommand", C_InvalidCommand), ("InvalidEdit", C_InvalidEdit), ("InvalidValue", C_InvalidValue), ("InvalidRecord", C_InvalidRecord), ("InvalidLimit", C_InvalidLimit), ("InvalidText", C_InvalidText), ("TooManyEdits", C_TooManyEdits), ("TooManyRecords", C_TooManyRecords), ("NoPlace", C_NoPlace), ("MissingColumn", C_MissingColumn), ("LastRecord", C_LastRecord), ("NothingToUndo", C_NothingToUndo), ("LimitError", C_LimitError), ("FindError", C_FindError), ("TableError", C_TableError)] 0) : Tx Lab.T K mg base w where
  hw := hw
  A := fun i => match i with
    | 0 => f0
    | 1 => f1
    | 2 => f2
    | 3 => f3
    | 4 => f4
    | 5 => f5
    | 6 => f6
    | 7 => f7
    | 8 => f8
    | _ => f0
  FD := fun i => match i with
    | 0 => (PySem.W.fnOf "_law_cell" "_law_cell" (defArgs (topS 31)) (defBody (topS 31)) (defScope (topS 31)) .none kV0 dc0 pm0 an0 cd0 ct0)
    | 1 => (PySem.W.fnOf "_law_pool" "_law_pool" (defArgs (topS 32)) (defBody (topS 32)) (defScope (topS 32)) .none kV1 dc1 pm1 an1 cd1 ct1)
    | 2 => (PySem.W.fnOf "_law_draw" "_law_draw" (defArgs (topS 33)) (defBody (topS 33)) (defScope (topS 33)) .none kV2 dc2 pm2 an2 cd2 ct2)
    | 3 => (PySem.W.fnOf "_law_kind" "_law_kind" (defArgs (topS 34)) (defBody (topS 34)) (defScope (topS 34)) .none kV3 dc3 pm3 an3 cd3 ct3)
    | 4 => (PySem.W.fnOf "_law_first" "_law_first" (defArgs (topS 35)) (defBody (topS 35)) (defScope (topS 35)) .none kV4 dc4 pm4 an4 cd4 ct4)
    | 5 => (PySem.W.fnOf "_law_second" "_law_second" (defArgs (topS 36)) (defBody (topS 36)) (defScope (topS 36)) .none kV5 dc5 pm5 an5 cd5 ct5)
    | 6 => (PySem.W.fnOf "_law_third" "_law_third" (defArgs (topS 37)) (defBody (topS 37)) (defScope (topS 37)) .none kV6 dc6 pm6 an6 cd6 ct6)
    | 7 => (PySem.W.fnOf "_law_right" "_law_right" (defArgs (topS 38)) (defBody (topS 38)) (defScope (topS 38)) .none kV7 dc7 pm7 an7 cd7 ct7)
    | 8 => (PySem.W.fnOf "law" "law" (defArgs (topS 39)) (defBody (topS 39)) (defScope (topS 39)) .none kV8 dc8 pm8 an8 cd8 ct8)
    | _ => (PySem.W.fnOf "_law_cell" "_law_cell" (defArgs (topS 31)) (defBody (topS 31)) (defScope (topS 31)) .none kV0 dc0 pm0 an0 cd0 ct0)
  D__law_cell := fun_mk (st := (topS 31)) l0 c0 k0
  g__law_cell := PySem.W.mg_of X G a0
  D__law_pool := fun_mk (st := (topS 32)) l1 c1 k1
  g__law_pool := PySem.W.mg_of X G a1
  D__law_draw := fun_mk (st := (topS 33)) l2 c2 k2
  g__law_draw := PySem.W.mg_of X G a2
  D__law_kind := fun_mk (st := (topS 34)) l3 c3 k3
  g__law_kind := PySem.W.mg_of X G a3
  D__law_first := fun_mk (st := (topS 35)) l4 c4 k4
  g__law_first := PySem.W.mg_of X G a4
  D__law_second := fun_mk (st := (topS 36)) l5 c5 k5
  g__law_second := PySem.W.mg_of X G a5
  D__law_third := fun_mk (st := (topS 37)) l6 c6 k6
  g__law_third := PySem.W.mg_of X G a6
  D__law_right := fun_mk (st := (topS 38)) l7 c7 k7
  g__law_right := PySem.W.mg_of X G a7
  D_law := fun_mk (st := (topS 39)) l8 c8 k8
  g_law := PySem.W.mg_of X G a8
  n_ArithmeticError := PySem.W.mg_none_of X G n_ArithmeticError
  n_IndexError := PySem.W.mg_none_of X G n_IndexError
  n_KeyError := PySem.W.mg_none_of X G n_KeyError
  n_LookupError := PySem.W.mg_none_of X G n_LookupError
  n_OverflowError := PySem.W.mg_none_of X G n_OverflowError
  n_ValueError := PySem.W.mg_none_of X G n_ValueError
  n_ZeroDivisionError := PySem.W.mg_none_of X G n_ZeroDivisionError
  n_abs := PySem.W.mg_none_of X G n_abs
  n_all := PySem.W.mg_none_of X G n_all
  n_any := PySem.W.mg_none_of X G n_any
  n_divmod := PySem.W.mg_none_of X G n_divmod
  n_isinstance := PySem.W.mg_none_of X G n_isinstance
  n_len := PySem.W.mg_none_of X G n_len
  n_list := PySem.W.mg_none_of X G n_list
  n_max := PySem.W.mg_none_of X G n_max
  n_min := PySem.W.mg_none_of X G n_min
  n_range := PySem.W.mg_none_of X G n_range
  n_repr := PySem.W.mg_none_of X G n_repr
  c_MOST_EDITS := c_MOST_EDITS
  c_MOST_TIMES := c_MOST_TIMES
  c_MOST_COMMANDS := c_MOST_COMMANDS
  c_MOST_SIZE := c_MOST_SIZE
  c_LEAST_SIZE := c_LEAST_SIZE
  c_MOST_RECORDS := c_MOST_RECORDS
  c_MOST_KEYS := c_MOST_KEYS
  c_MOST_COLUMNS := c_MOST_COLUMNS
  xm_InvalidPlaces := PySem.W.mg_of X G xa_InvalidPlaces
  xm_InvalidNumber := PySem.W.mg_of X G xa_InvalidNumber
  xm_InvalidProgram := PySem.W.mg_of X G xa_InvalidProgram
  xm_InvalidOrder := PySem.W.mg_of X G xa_InvalidOrder
  xm_InvalidColumns := PySem.W.mg_of X G xa_InvalidColumns
  xm_InvalidTable := PySem.W.mg_of X G xa_InvalidTable
  xm_InvalidCommand := PySem.W.mg_of X G xa_InvalidCommand
  xm_InvalidEdit := PySem.W.mg_of X G xa_InvalidEdit
  xm_InvalidValue := PySem.W.mg_of X G xa_InvalidValue
  xm_InvalidRecord := PySem.W.mg_of X G xa_InvalidRecord
  xm_InvalidLimit := PySem.W.mg_of X G xa_InvalidLimit
  xm_InvalidText := PySem.W.mg_of X G xa_InvalidText
  xm_TooManyEdits := PySem.W.mg_of X G xa_TooManyEdits
  xm_TooManyRecords := PySem.W.mg_of X G xa_TooManyRecords
  xm_NoPlace := PySem.W.mg_of X G xa_NoPlace
  xm_MissingColumn := PySem.W.mg_of X G xa_MissingColumn
  xm_LastRecord := PySem.W.mg_of X G xa_LastRecord
  xm_NothingToUndo := PySem.W.mg_of X G xa_NothingToUndo
  xm_LimitError := PySem.W.mg_of X G xa_LimitError
  xm_FindError := PySem.W.mg_of X G xa_FindError
  xm_TableError := PySem.W.mg_of X G xa_TableError
  xi_InvalidPlaces := xi_InvalidPlaces
  xt_InvalidPlaces := xt_InvalidPlaces
  xn_InvalidPlaces := xn_InvalidPlaces
  xD_InvalidPlaces := fun_mk (st := (inS 7 0)) xl_InvalidPlaces xc_InvalidPlaces xk_InvalidPlaces
  x_InvalidPlaces := x_InvalidPlaces
  xi_InvalidNumber := xi_InvalidNumber
  xt_InvalidNumber := xt_InvalidNumber
  xn_InvalidNumber := xn_InvalidNumber
  xD_InvalidNumber := fun_mk (st := (inS 6 0)) xl_InvalidNumber xc_InvalidNumber xk_InvalidNumber
  x_InvalidNumber := x_InvalidNumber
  xi_InvalidProgram := xi_InvalidProgram
  xt_InvalidProgram := xt_InvalidProgram
  xn_InvalidProgram := xn_InvalidProgram
  xD_InvalidProgram := fun_mk (st := (inS 5 0)) xl_InvalidProgram xc_InvalidProgram xk_InvalidProgram
  x_InvalidProgram := x_InvalidProgram
  xi_InvalidOrder := xi_InvalidOrder
  xt_InvalidOrder := xt_InvalidOrder
  xn_InvalidOrder := xn_InvalidOrder
  xD_InvalidOrder := fun_mk (st := (inS 4 0)) xl_InvalidOrder xc_InvalidOrder xk_InvalidOrder
  x_InvalidOrder := x_InvalidOrder
  xi_InvalidColumns := xi_InvalidColumns
  xt_InvalidColumns := xt_InvalidColumns
  xn_InvalidColumns := xn_InvalidColumns
  xD_InvalidColumns := fun_mk (st := (inS 3 0)) xl_InvalidColumns xc_InvalidColumns xk_InvalidColumns
  x_InvalidColumns := x_InvalidColumns
  xi_InvalidTable := xi_InvalidTable
  xt_InvalidTable := xt_InvalidTable
  xn_InvalidTable := xn_InvalidTable
  xD_InvalidTable := fun_mk (st := (inS 2 0)) xl_InvalidTable xc_InvalidTable xk_InvalidTable
  x_InvalidTable := x_InvalidTable
  xi_InvalidCommand := xi_InvalidCommand
  xt_InvalidCommand := xt_InvalidCommand
  xn_InvalidCommand := xn_InvalidCommand
  xD_InvalidCommand := fun_mk (st := (inS 13 0)) xl_InvalidCommand xc_InvalidCommand xk_InvalidCommand
  x_InvalidCommand := x_InvalidCommand
  xi_InvalidEdit := xi_InvalidEdit
  xt_InvalidEdit := xt_InvalidEdit
  xn_InvalidEdit := xn_InvalidEdit
  xD_InvalidEdit := fun_mk (st := (inS 12 0)) xl_InvalidEdit xc_InvalidEdit xk_InvalidEdit
  x_InvalidEdit := x_InvalidEdit
  xi_InvalidValue := xi_InvalidValue
  xt_InvalidValue := xt_InvalidValue
  xn_InvalidValue := xn_InvalidValue
  xD_InvalidValue := fun_mk (st := (inS 11 0)) xl_InvalidValue xc_InvalidValue xk_InvalidValue
  x_InvalidValue := x_InvalidValue
  xi_InvalidRecord := xi_InvalidRecord
  xt_InvalidRecord := xt_InvalidRecord
  xn_InvalidRecord := xn_InvalidRecord
  xD_InvalidRecord := fun_mk (st := (inS 10 0)) xl_InvalidRecord xc_InvalidRecord xk_InvalidRecord
  x_InvalidRecord := x_InvalidRecord
  xi_InvalidLimit := xi_InvalidLimit
  xt_InvalidLimit := xt_InvalidLimit
  xn_InvalidLimit := xn_InvalidLimit
  xD_InvalidLimit := fun_mk (st := (inS 9 0)) xl_InvalidLimit xc_InvalidLimit xk_InvalidLimit
  x_InvalidLimit := x_InvalidLimit
  xi_InvalidText := xi_InvalidText
  xt_InvalidText := xt_InvalidText
  xn_InvalidText := xn_InvalidText
  xD_InvalidText := fun_mk (st := (inS 8 0)) xl_InvalidText xc_InvalidText xk_InvalidText
  x_InvalidText := x_InvalidText
  xi_TooManyEdits := xi_TooManyEdits
  xt_TooManyEdits := xt_TooManyEdits
  xn_TooManyEdits := xn_TooManyEdits
  xD_TooManyEdits := fun_mk (st := (inS 20 0)) xl_TooManyEdits xc_TooManyEdits xk_TooManyEdits
  x_TooManyEdits := x_TooManyEdits
  xi_TooManyRecords := xi_TooManyRecords
  xt_TooManyRecords := xt_TooManyRecords
  xn_TooManyRecords := xn_TooManyRecords
  xD_TooManyRecords := fun_mk (st := (inS 19 0)) xl_TooManyRecords xc_TooManyRecords xk_TooManyRecords
  x_TooManyRecords := x_TooManyRecords
  xi_NoPlace := xi_NoPlace
  xt_NoPlace := xt_NoPlace
  xn_NoPlace := xn_NoPlace
  xD_NoPlace := fun_mk (st := (inS 16 0)) xl_NoPlace xc_NoPlace xk_NoPlace
  x_NoPlace := x_NoPlace
  xi_MissingColumn := xi_MissingColumn
  xt_MissingColumn := xt_MissingColumn
  xn_MissingColumn := xn_MissingColumn
  xD_MissingColumn := fun_mk (st := (inS 15 0)) xl_MissingColumn xc_MissingColumn xk_MissingColumn
  x_MissingColumn := x_MissingColumn
  x0_LastRecord := x0_LastRecord
  xk0_LastRecord := xk0_LastRecord
  xe0_LastRecord := xe0_LastRecord
  xy0_LastRecord := xy0_LastRecord
  x0_NothingToUndo := x0_NothingToUndo
  xk0_NothingToUndo := xk0_NothingToUndo
  xe0_NothingToUndo := xe0_NothingToUndo
  xy0_NothingToUndo := xy0_NothingToUndo
  hC := hCC.symm
  kx_InvalidPlaces := kx_InvalidPlaces
  kx_InvalidNumber := kx_InvalidNumber
  kx_InvalidProgram := kx_InvalidProgram
  kx_InvalidOrder := kx_InvalidOrder
  kx_InvalidColumns := kx_InvalidColumns
  kx_InvalidTable := kx_InvalidTable
  kx_InvalidCommand := kx_InvalidCommand
  kx_InvalidEdit := kx_InvalidEdit
  kx_InvalidValue := kx_InvalidValue
  kx_InvalidRecord := kx_InvalidRecord
  kx_InvalidLimit := kx_InvalidLimit
  kx_InvalidText := kx_InvalidText
  kx_TooManyEdits := kx_TooManyEdits
  kx_TooManyRecords := kx_TooManyRecords
  kx_NoPlace := kx_NoPlace
  kx_MissingColumn := kx_MissingColumn
  kx_LastRecord := kx_LastRecord
  kx_NothingToUndo := kx_NothingToUndo
  kt_ArithmeticError := kt_ArithmeticError
  kt_LookupError := kt_LookupError
  kt_ValueError := kt_ValueError
  kt_LimitError := kt_LimitError
  kt_FindError := kt_FindError
  kt_TableError := kt_TableError
  kt_LastRecord := kt_LastRecord
  kt_TooManyEdits := kt_TooManyEdits
  kt_TooManyRecords := kt_TooManyRecords
  kt_NothingToUndo := kt_NothingToUndo
  kt_NoPlace := kt_NoPlace
  kt_MissingColumn := kt_MissingColumn
  kt_InvalidCommand := kt_InvalidCommand
  kt_InvalidEdit := kt_InvalidEdit
  kt_InvalidValue := kt_InvalidValue
  kt_InvalidRecord := kt_InvalidRecord
  kt_InvalidLimit := kt_InvalidLimit
  kt_InvalidText := kt_InvalidText
  kt_InvalidPlaces := kt_InvalidPlaces
  kt_InvalidNumber := kt_InvalidNumber
  kt_InvalidProgram := kt_InvalidProgram
  kt_InvalidOrder := kt_InvalidOrder
  kt_InvalidColumns := kt_InvalidColumns
  kt_InvalidTable := kt_InvalidTable
  kt_OverflowError := kt_OverflowError
  kt_ZeroDivisionError := kt_ZeroDivisionError
  kt_KeyError := kt_KeyError
  kt_IndexError := kt_IndexError
  C := clsOf [("InvalidPlaces", C_InvalidPlaces), ("InvalidNumber", C_InvalidNumber), ("InvalidProgram", C_InvalidProgram), ("InvalidOrder", C_InvalidOrder), ("InvalidColumns", C_InvalidColumns), ("InvalidTable", C_InvalidTable), ("InvalidCommand", C_InvalidCommand), ("InvalidEdit", C_InvalidEdit), ("InvalidValue", C_InvalidValue), ("InvalidRecord", C_InvalidRecord), ("InvalidLimit", C_InvalidLimit), ("InvalidText", C_InvalidText), ("TooManyEdits", C_TooManyEdits), ("TooManyRecords", C_TooManyRecords), ("NoPlace", C_NoPlace), ("MissingColumn", C_MissingColumn), ("LastRecord", C_LastRecord), ("NothingToUndo", C_NothingToUndo), ("LimitError", C_LimitError), ("FindError", C_FindError), ("TableError", C_TableError)] 0
  FI := clsOf [("InvalidPlaces", FI_InvalidPlaces), ("InvalidNumber", FI_InvalidNumber), ("InvalidProgram", FI_InvalidProgram), ("InvalidOrder", FI_InvalidOrder), ("InvalidColumns", FI_InvalidColumns), ("InvalidTable", FI_InvalidTable), ("InvalidCommand", FI_InvalidCommand), ("InvalidEdit", FI_InvalidEdit), ("InvalidValue", FI_InvalidValue), ("InvalidRecord", FI_InvalidRecord), ("InvalidLimit", FI_InvalidLimit), ("InvalidText", FI_InvalidText), ("TooManyEdits", FI_TooManyEdits), ("TooManyRecords", FI_TooManyRecords), ("NoPlace", FI_NoPlace), ("MissingColumn", FI_MissingColumn)] 0
  FDI := clsOf [("InvalidPlaces", (PySem.W.fnOf "__init__" "InvalidPlaces.__init__" (defArgs (inS 7 0)) (defBody (inS 7 0)) (defScope (inS 7 0)) .none xkV_InvalidPlaces xdc_InvalidPlaces xpm_InvalidPlaces xan_InvalidPlaces xcd_InvalidPlaces xct_InvalidPlaces)), ("InvalidNumber", (PySem.W.fnOf "__init__" "InvalidNumber.__init__" (defArgs (inS 6 0)) (defBody (inS 6 0)) (defScope (inS 6 0)) .none xkV_InvalidNumber xdc_InvalidNumber xpm_InvalidNumber xan_InvalidNumber xcd_InvalidNumber xct_InvalidNumber)), ("InvalidProgram", (PySem.W.fnOf "__init__" "InvalidProgram.__init__" (defArgs (inS 5 0)) (defBody (inS 5 0)) (defScope (inS 5 0)) .none xkV_InvalidProgram xdc_InvalidProgram xpm_InvalidProgram xan_InvalidProgram xcd_InvalidProgram xct_InvalidProgram)), ("InvalidOrder", (PySem.W.fnOf "__init__" "InvalidOrder.__init__" (defArgs (inS 4 0)) (defBody (inS 4 0)) (defScope (inS 4 0)) .none xkV_InvalidOrder xdc_InvalidOrder xpm_InvalidOrder xan_InvalidOrder xcd_InvalidOrder xct_InvalidOrder)), ("InvalidColumns", (PySem.W.fnOf "__init__" "InvalidColumns.__init__" (defArgs (inS 3 0)) (defBody (inS 3 0)) (defScope (inS 3 0)) .none xkV_InvalidColumns xdc_InvalidColumns xpm_InvalidColumns xan_InvalidColumns xcd_InvalidColumns xct_InvalidColumns)), ("InvalidTable", (PySem.W.fnOf "__init__" "InvalidTable.__init__" (defArgs (inS 2 0)) (defBody (inS 2 0)) (defScope (inS 2 0)) .none xkV_InvalidTable xdc_InvalidTable xpm_InvalidTable xan_InvalidTable xcd_InvalidTable xct_InvalidTable)), ("InvalidCommand", (PySem.W.fnOf "__init__" "InvalidCommand.__init__" (defArgs (inS 13 0)) (defBody (inS 13 0)) (defScope (inS 13 0)) .none xkV_InvalidCommand xdc_InvalidCommand xpm_InvalidCommand xan_InvalidCommand xcd_InvalidCommand xct_InvalidCommand)), ("InvalidEdit", (PySem.W.fnOf "__init__" "InvalidEdit.__init__" (defArgs (inS 12 0)) (defBody (inS 12 0)) (defScope (inS 12 0)) .none xkV_InvalidEdit xdc_InvalidEdit xpm_InvalidEdit xan_InvalidEdit xcd_InvalidEdit xct_InvalidEdit)), ("InvalidValue", (PySem.W.fnOf "__init__" "InvalidValue.__init__" (defArgs (inS 11 0)) (defBody (inS 11 0)) (defScope (inS 11 0)) .none xkV_InvalidValue xdc_InvalidValue xpm_InvalidValue xan_InvalidValue xcd_InvalidValue xct_InvalidValue)), ("InvalidRecord", (PySem.W.fnOf "__init__" "InvalidRecord.__init__" (defArgs (inS 10 0)) (defBody (inS 10 0)) (defScope (inS 10 0)) .none xkV_InvalidRecord xdc_InvalidRecord xpm_InvalidRecord xan_InvalidRecord xcd_InvalidRecord xct_InvalidRecord)), ("InvalidLimit", (PySem.W.fnOf "__init__" "InvalidLimit.__init__" (defArgs (inS 9 0)) (defBody (inS 9 0)) (defScope (inS 9 0)) .none xkV_InvalidLimit xdc_InvalidLimit xpm_InvalidLimit xan_InvalidLimit xcd_InvalidLimit xct_InvalidLimit)), ("InvalidText", (PySem.W.fnOf "__init__" "InvalidText.__init__" (defArgs (inS 8 0)) (defBody (inS 8 0)) (defScope (inS 8 0)) .none xkV_InvalidText xdc_InvalidText xpm_InvalidText xan_InvalidText xcd_InvalidText xct_InvalidText)), ("TooManyEdits", (PySem.W.fnOf "__init__" "TooManyEdits.__init__" (defArgs (inS 20 0)) (defBody (inS 20 0)) (defScope (inS 20 0)) .none xkV_TooManyEdits xdc_TooManyEdits xpm_TooManyEdits xan_TooManyEdits xcd_TooManyEdits xct_TooManyEdits)), ("TooManyRecords", (PySem.W.fnOf "__init__" "TooManyRecords.__init__" (defArgs (inS 19 0)) (defBody (inS 19 0)) (defScope (inS 19 0)) .none xkV_TooManyRecords xdc_TooManyRecords xpm_TooManyRecords xan_TooManyRecords xcd_TooManyRecords xct_TooManyRecords)), ("NoPlace", (PySem.W.fnOf "__init__" "NoPlace.__init__" (defArgs (inS 16 0)) (defBody (inS 16 0)) (defScope (inS 16 0)) .none xkV_NoPlace xdc_NoPlace xpm_NoPlace xan_NoPlace xcd_NoPlace xct_NoPlace)), ("MissingColumn", (PySem.W.fnOf "__init__" "MissingColumn.__init__" (defArgs (inS 15 0)) (defBody (inS 15 0)) (defScope (inS 15 0)) .none xkV_MissingColumn xdc_MissingColumn xpm_MissingColumn xan_MissingColumn xcd_MissingColumn xct_MissingColumn))] (PySem.W.fnOf "__init__" "InvalidPlaces.__init__" (defArgs (inS 7 0)) (defBody (inS 7 0)) (defScope (inS 7 0)) .none xkV_InvalidPlaces xdc_InvalidPlaces xpm_InvalidPlaces xan_InvalidPlaces xcd_InvalidPlaces xct_InvalidPlaces)
theorem all_mk {l : PySem.W.OpenLaw} {w : World} {K : PySem.W.Frag} {h : Heap} {mg : Str → Option Value} {fa : Addr} (X : K.In h) (G : h.Ns mainGlobals mg) (hfa : mg "law" = some (.ref fa))
    {f0 : Addr} {od0 an0 : Option Addr} {sl0 : Array (Option Value)} {oc0 kV0 dc0 pm0 cd0 ct0 : Value}
    {f1 : Addr} {od1 an1 : Option Addr} {sl1 : Array (Option Value)} {oc1 kV1 dc1 pm1 cd1 ct1 : Value}
    {f2 : Addr} {od2 an2 : Option Addr} {sl2 : Array (Option Value)} {oc2 kV2 dc2 pm2 cd2 ct2 : Value}
    {f3 : Addr} {od3 an3 : Option Addr} {sl3 : Array (Option Value)} {oc3 kV3 dc3 pm3 cd3 ct3 : Value}
    {f4 : Addr} {od4 an4 : Option Addr} {sl4 : Array (Option Value)} {oc4 kV4 dc4 pm4 cd4 ct4 : Value}
    {f5 : Addr} {od5 an5 : Option Addr} {sl5 : Array (Option Value)} {oc5 kV5 dc5 pm5 cd5 ct5 : Value}
    {f6 : Addr} {od6 an6 : Option Addr} {sl6 : Array (Option Value)} {oc6 kV6 dc6 pm6 cd6 ct6 : Value}
    {f7 : Addr} {od7 an7 : Option Addr} {sl7 : Array (Option Value)} {oc7 kV7 dc7 pm7 cd7 ct7 : Value}
    {f8 : Addr} {od8 an8 : Option Addr} {sl8 : Array (Option Value)} {oc8 kV8 dc8 pm8 cd8 ct8 : Value}
    {C_InvalidPlaces : Addr}
    {C_InvalidNumber : Addr}
    {C_InvalidProgram : Addr}
    {C_InvalidOrder : Addr}
    {C_InvalidColumns : Addr}
    {C_InvalidTable : Addr}
    {C_InvalidCommand : Addr}
    {C_InvalidEdit : Addr}
    {C_InvalidValue : Addr}
    {C_InvalidRecord : Addr}
    {C_InvalidLimit : Addr}
    {C_InvalidText : Addr}
    {C_TooManyEdits : Addr}
    {C_TooManyRecords : Addr}
    {C_NoPlace : Addr}
    {C_MissingColumn : Addr}
    {C_LastRecord : Addr}
    {C_NothingToUndo : Addr}
    {C_LimitError : Addr}
    {C_FindError : Addr}
    {C_TableError : Addr}
    {FI_InvalidPlaces : Addr} {xod_InvalidPlaces xan_InvalidPlaces : Option Addr} {xsl_InvalidPlaces : Array (Option Value)} {xoc_InvalidPlaces xkV_InvalidPlaces xdc_InvalidPlaces xpm_InvalidPlaces xcd_InvalidPlaces xct_InvalidPlaces : Value}
    {FI_InvalidNumber : Addr} {xod_InvalidNumber xan_InvalidNumber : Option Addr} {xsl_InvalidNumber : Array (Option Value)} {xoc_InvalidNumber xkV_InvalidNumber xdc_InvalidNumber xpm_InvalidNumber xcd_InvalidNumber xct_InvalidNumber : Value}
    {FI_InvalidProgram : Addr} {xod_InvalidProgram xan_InvalidProgram : Option Addr} {xsl_InvalidProgram : Array (Option Value)} {xoc_InvalidProgram xkV_InvalidProgram xdc_InvalidProgram xpm_InvalidProgram xcd_InvalidProgram xct_InvalidProgram : Value}
    {FI_InvalidOrder : Addr} {xod_InvalidOrder xan_InvalidOrder : Option Addr} {xsl_InvalidOrder : Array (Option Value)} {xoc_InvalidOrder xkV_InvalidOrder xdc_InvalidOrder xpm_InvalidOrder xcd_InvalidOrder xct_InvalidOrder : Value}
    {FI_InvalidColumns : Addr} {xod_InvalidColumns xan_InvalidColumns : Option Addr} {xsl_InvalidColumns : Array (Option Value)} {xoc_InvalidColumns xkV_InvalidColumns xdc_InvalidColumns xpm_InvalidColumns xcd_InvalidColumns xct_InvalidColumns : Value}
    {FI_InvalidTable : Addr} {xod_InvalidTable xan_InvalidTable : Option Addr} {xsl_InvalidTable : Array (Option Value)} {xoc_InvalidTable xkV_InvalidTable xdc_InvalidTable xpm_InvalidTable xcd_InvalidTable xct_InvalidTable : Value}
    {FI_InvalidCommand : Addr} {xod_InvalidCommand xan_InvalidCommand : Option Addr} {xsl_InvalidCommand : Array (Option Value)} {xoc_InvalidCommand xkV_InvalidCommand xdc_InvalidCommand xpm_InvalidCommand xcd_InvalidCommand xct_InvalidCommand : Value}
    {FI_InvalidEdit : Addr} {xod_InvalidEdit xan_InvalidEdit : Option Addr} {xsl_InvalidEdit : Array (Option Value)} {xoc_InvalidEdit xkV_InvalidEdit xdc_InvalidEdit xpm_InvalidEdit xcd_InvalidEdit xct_InvalidEdit : Value}
    {FI_InvalidValue : Addr} {xod_InvalidValue xan_InvalidValue : Option Addr} {xsl_InvalidValue : Array (Option Value)} {xoc_InvalidValue xkV_InvalidValue xdc_InvalidValue xpm_InvalidValue xcd_InvalidValue xct_InvalidValue : Value}
    {FI_InvalidRecord : Addr} {xod_InvalidRecord xan_InvalidRecord : Option Addr} {xsl_InvalidRecord : Array (Option Value)} {xoc_InvalidRecord xkV_InvalidRecord xdc_InvalidRecord xpm_InvalidRecord xcd_InvalidRecord xct_InvalidRecord : Value}
    {FI_InvalidLimit : Addr} {xod_InvalidLimit xan_InvalidLimit : Option Addr} {xsl_InvalidLimit : Array (Option Value)} {xoc_InvalidLimit xkV_InvalidLimit xdc_InvalidLimit xpm_InvalidLimit xcd_InvalidLimit xct_InvalidLimit : Value}
    {FI_InvalidText : Addr} {xod_InvalidText xan_InvalidText : Option Addr} {xsl_InvalidText : Array (Option Value)} {xoc_InvalidText xkV_InvalidText xdc_InvalidText xpm_InvalidText xcd_InvalidText xct_InvalidText : Value}
    {FI_TooManyEdits : Addr} {xod_TooManyEdits xan_TooManyEdits : Option Addr} {xsl_TooManyEdits : Array (Option Value)} {xoc_TooManyEdits xkV_TooManyEdits xdc_TooManyEdits xpm_TooManyEdits xcd_TooManyEdits xct_TooManyEdits : Value}
    {FI_TooManyRecords : Addr} {xod_TooManyRecords xan_TooManyRecords : Option Addr} {xsl_TooManyRecords : Array (Option Value)} {xoc_TooManyRecords xkV_TooManyRecords xdc_TooManyRecords xpm_TooManyRecords xcd_TooManyRecords xct_TooManyRecords : Value}
    {FI_NoPlace : Addr} {xod_NoPlace xan_NoPlace : Option Addr} {xsl_NoPlace : Array (Option Value)} {xoc_NoPlace xkV_NoPlace xdc_NoPlace xpm_NoPlace xcd_NoPlace xct_NoPlace : Value}
    {FI_MissingColumn : Addr} {xod_MissingColumn xan_MissingColumn : Option Addr} {xsl_MissingColumn : Array (Option Value)} {xoc_MissingColumn xkV_MissingColumn xdc_MissingColumn xpm_MissingColumn xcd_MissingColumn xct_MissingColumn : Value}
    (a0 : PySem.W.nsIn K mainGlobals "_law_cell" = some (some (.ref f0))) (l0 : K.lookup f0 = some ⟨oc0, od0, .func (PySem.W.fnOf "_law_cell" "_law_cell" (defArgs (topS 31)) (defBody (topS 31)) (defScope (topS 31)) .none kV0 dc0 pm0 an0 cd0 ct0), sl0⟩) (c0 : PySem.W.codeIn K cd0 "_law_cell" = true) (k0 : PySem.W.keepIn K (.ref f0) = true)
    (a1 : PySem.W.nsIn K mainGlobals "_law_pool" = some (some (.ref f1))) (l1 : K.lookup f1 = some ⟨oc1, od1, .func (PySem.W.fnOf "_law_pool" "_law_pool" (defArgs (topS 32)) (defBody (topS 32)) (defScope (topS 32)) .none kV1 dc1 pm1 an1 cd1 ct1), sl1⟩) (c1 : PySem.W.codeIn K cd1 "_law_pool" = true) (k1 : PySem.W.keepIn K (.ref f1) = true)
    (a2 : PySem.W.nsIn K mainGlobals "_law_draw" = some (some (.ref f2))) (l2 : K.lookup f2 = some ⟨oc2, od2, .func (PySem.W.fnOf "_law_draw" "_law_draw" (defArgs (topS 33)) (defBody (topS 33)) (defScope (topS 33)) .none kV2 dc2 pm2 an2 cd2 ct2), sl2⟩) (c2 : PySem.W.codeIn K cd2 "_law_draw" = true) (k2 : PySem.W.keepIn K (.ref f2) = true)
    (a3 : PySem.W.nsIn K mainGlobals "_law_kind" = some (some (.ref f3))) (l3 : K.lookup f3 = some ⟨oc3, od3, .func (PySem.W.fnOf "_law_kind" "_law_kind" (defArgs (topS 34)) (defBody (topS 34)) (defScope (topS 34)) .none kV3 dc3 pm3 an3 cd3 ct3), sl3⟩) (c3 : PySem.W.codeIn K cd3 "_law_kind" = true) (k3 : PySem.W.keepIn K (.ref f3) = true)
    (a4 : PySem.W.nsIn K mainGlobals "_law_first" = some (some (.ref f4))) (l4 : K.lookup f4 = some ⟨oc4, od4, .func (PySem.W.fnOf "_law_first" "_law_first" (defArgs (topS 35)) (defBody (topS 35)) (defScope (topS 35)) .none kV4 dc4 pm4 an4 cd4 ct4), sl4⟩) (c4 : PySem.W.codeIn K cd4 "_law_first" = true) (k4 : PySem.W.keepIn K (.ref f4) = true)
    (a5 : PySem.W.nsIn K mainGlobals "_law_second" = some (some (.ref f5))) (l5 : K.lookup f5 = some ⟨oc5, od5, .func (PySem.W.fnOf "_law_second" "_law_second" (defArgs (topS 36)) (defBody (topS 36)) (defScope (topS 36)) .none kV5 dc5 pm5 an5 cd5 ct5), sl5⟩) (c5 : PySem.W.codeIn K cd5 "_law_second" = true) (k5 : PySem.W.keepIn K (.ref f5) = true)
    (a6 : PySem.W.nsIn K mainGlobals "_law_third" = some (some (.ref f6))) (l6 : K.lookup f6 = some ⟨oc6, od6, .func (PySem.W.fnOf "_law_third" "_law_third" (defArgs (topS 37)) (defBody (topS 37)) (defScope (topS 37)) .none kV6 dc6 pm6 an6 cd6 ct6), sl6⟩) (c6 : PySem.W.codeIn K cd6 "_law_third" = true) (k6 : PySem.W.keepIn K (.ref f6) = true)
    (a7 : PySem.W.nsIn K mainGlobals "_law_right" = some (some (.ref f7))) (l7 : K.lookup f7 = some ⟨oc7, od7, .func (PySem.W.fnOf "_law_right" "_law_right" (defArgs (topS 38)) (defBody (topS 38)) (defScope (topS 38)) .none kV7 dc7 pm7 an7 cd7 ct7), sl7⟩) (c7 : PySem.W.codeIn K cd7 "_law_right" = true) (k7 : PySem.W.keepIn K (.ref f7) = true)
    (a8 : PySem.W.nsIn K mainGlobals "law" = some (some (.ref f8))) (l8 : K.lookup f8 = some ⟨oc8, od8, .func (PySem.W.fnOf "law" "law" (defArgs (topS 39)) (defBody (topS 39)) (defScope (topS 39)) .none kV8 dc8 pm8 an8 cd8 ct8), sl8⟩) (c8 : PySem.W.codeIn K cd8 "law" = true) (k8 : PySem.W.keepIn K (.ref f8) = true)
    (n_ArithmeticError : PySem.W.nsIn K mainGlobals "ArithmeticError" = some none)
    (n_IndexError : PySem.W.nsIn K mainGlobals "IndexError" = some none)
    (n_KeyError : PySem.W.nsIn K mainGlobals "KeyError" = some none)
    (n_LookupError : PySem.W.nsIn K mainGlobals "LookupError" = some none)
    (n_OverflowError : PySem.W.nsIn K mainGlobals "OverflowError" = some none)
    (n_ValueError : PySem.W.nsIn K mainGlobals "ValueError" = some none)
    (n_ZeroDivisionError : PySem.W.nsIn K mainGlobals "ZeroDivisionError" = some none)
    (n_abs : PySem.W.nsIn K mainGlobals "abs" = some none)
    (n_all : PySem.W.nsIn K mainGlobals "all" = some none)
    (n_any : PySem.W.nsIn K mainGlobals "any" = some none)
    (n_divmod : PySem.W.nsIn K mainGlobals "divmod" = some none)
    (n_isinstance : PySem.W.nsIn K mainGlobals "isinstance" = some none)
    (n_len : PySem.W.nsIn K mainGlobals "len" = some none)
    (n_list : PySem.W.nsIn K mainGlobals "list" = some none)
    (n_max : PySem.W.nsIn K mainGlobals "max" = some none)
    (n_min : PySem.W.nsIn K mainGlobals "min" = some none)
    (n_range : PySem.W.nsIn K mainGlobals "range" = some none)
    (n_repr : PySem.W.nsIn K mainGlobals "repr" = some none)
    (c_MOST_EDITS : ∀ [LabW], ∃ uv : Value × V, mg "MOST_EDITS" = some uv.1 ∧ RelV uv.2 uv.1 ∧ ∀ Z, DD K Z uv.2 cv_MOST_EDITS)
    (c_MOST_TIMES : ∀ [LabW], ∃ uv : Value × V, mg "MOST_TIMES" = some uv.1 ∧ RelV uv.2 uv.1 ∧ ∀ Z, DD K Z uv.2 cv_MOST_TIMES)
    (c_MOST_COMMANDS : ∀ [LabW], ∃ uv : Value × V, mg "MOST_COMMANDS" = some uv.1 ∧ RelV uv.2 uv.1 ∧ ∀ Z, DD K Z uv.2 cv_MOST_COMMANDS)
    (c_MOST_SIZE : ∀ [LabW], ∃ uv : Value × V, mg "MOST_SIZE" = some uv.1 ∧ RelV uv.2 uv.1 ∧ ∀ Z, DD K Z uv.2 cv_MOST_SIZE)
    (c_LEAST_SIZE : ∀ [LabW], ∃ uv : Value × V, mg "LEAST_SIZE" = some uv.1 ∧ RelV uv.2 uv.1 ∧ ∀ Z, DD K Z uv.2 cv_LEAST_SIZE)
    (c_MOST_RECORDS : ∀ [LabW], ∃ uv : Value × V, mg "MOST_RECORDS" = some uv.1 ∧ RelV uv.2 uv.1 ∧ ∀ Z, DD K Z uv.2 cv_MOST_RECORDS)
    (c_MOST_KEYS : ∀ [LabW], ∃ uv : Value × V, mg "MOST_KEYS" = some uv.1 ∧ RelV uv.2 uv.1 ∧ ∀ Z, DD K Z uv.2 cv_MOST_KEYS)
    (c_MOST_COLUMNS : ∀ [LabW], ∃ uv : Value × V, mg "MOST_COLUMNS" = some uv.1 ∧ RelV uv.2 uv.1 ∧ ∀ Z, DD K Z uv.2 cv_MOST_COLUMNS)
    (xa_InvalidPlaces : PySem.W.nsIn K mainGlobals "InvalidPlaces" = some (some (.ref C_InvalidPlaces)))
    (xa_InvalidNumber : PySem.W.nsIn K mainGlobals "InvalidNumber" = some (some (.ref C_InvalidNumber)))
    (xa_InvalidProgram : PySem.W.nsIn K mainGlobals "InvalidProgram" = some (some (.ref C_InvalidProgram)))
    (xa_InvalidOrder : PySem.W.nsIn K mainGlobals "InvalidOrder" = some (some (.ref C_InvalidOrder)))
    (xa_InvalidColumns : PySem.W.nsIn K mainGlobals "InvalidColumns" = some (some (.ref C_InvalidColumns)))
    (xa_InvalidTable : PySem.W.nsIn K mainGlobals "InvalidTable" = some (some (.ref C_InvalidTable)))
    (xa_InvalidCommand : PySem.W.nsIn K mainGlobals "InvalidCommand" = some (some (.ref C_InvalidCommand)))
    (xa_InvalidEdit : PySem.W.nsIn K mainGlobals "InvalidEdit" = some (some (.ref C_InvalidEdit)))
    (xa_InvalidValue : PySem.W.nsIn K mainGlobals "InvalidValue" = some (some (.ref C_InvalidValue)))
    (xa_InvalidRecord : PySem.W.nsIn K mainGlobals "InvalidRecord" = some (some (.ref C_InvalidRecord)))
    (xa_InvalidLimit : PySem.W.nsIn K mainGlobals "InvalidLimit" = some (some (.ref C_InvalidLimit)))
    (xa_InvalidText : PySem.W.nsIn K mainGlobals "InvalidText" = some (some (.ref C_InvalidText)))
    (xa_TooManyEdits : PySem.W.nsIn K mainGlobals "TooManyEdits" = some (some (.ref C_TooManyEdits)))
    (xa_TooManyRecords : PySem.W.nsIn K mainGlobals "TooManyRecords" = some (some (.ref C_TooManyRecords)))
    (xa_NoPlace : PySem.W.nsIn K mainGlobals "NoPlace" = some (some (.ref C_NoPlace)))
    (xa_MissingColumn : PySem.W.nsIn K mainGlobals "MissingColumn" = some (some (.ref C_MissingColumn)))
    (xa_LastRecord : PySem.W.nsIn K mainGlobals "LastRecord" = some (some (.ref C_LastRecord)))
    (xa_NothingToUndo : PySem.W.nsIn K mainGlobals "NothingToUndo" = some (some (.ref C_NothingToUndo)))
    (xa_LimitError : PySem.W.nsIn K mainGlobals "LimitError" = some (some (.ref C_LimitError)))
    (xa_FindError : PySem.W.nsIn K mainGlobals "FindError" = some (some (.ref C_FindError)))
    (xa_TableError : PySem.W.nsIn K mainGlobals "TableError" = some (some (.ref C_TableError)))
    (xi_InvalidPlaces : PySem.W.findIn K (.ref C_InvalidPlaces) "__init__" = some (some (.ref FI_InvalidPlaces))) (xt_InvalidPlaces : PySem.W.typeIn K (.ref FI_InvalidPlaces) = some (.type "function")) (xn_InvalidPlaces : PySem.W.findIn K (.ref C_InvalidPlaces) "index" = some none) (xl_InvalidPlaces : K.lookup FI_InvalidPlaces = some ⟨xoc_InvalidPlaces, xod_InvalidPlaces, .func (PySem.W.fnOf "__init__" "InvalidPlaces.__init__" (defArgs (inS 7 0)) (defBody (inS 7 0)) (defScope (inS 7 0)) .none xkV_InvalidPlaces xdc_InvalidPlaces xpm_InvalidPlaces xan_InvalidPlaces xcd_InvalidPlaces xct_InvalidPlaces), xsl_InvalidPlaces⟩) (xc_InvalidPlaces : PySem.W.codeIn K xcd_InvalidPlaces "InvalidPlaces.__init__" = true) (xk_InvalidPlaces : PySem.W.keepIn K (.ref FI_InvalidPlaces) = true) (x_InvalidPlaces : OexC K C_InvalidPlaces)
    (xi_InvalidNumber : PySem.W.findIn K (.ref C_InvalidNumber) "__init__" = some (some (.ref FI_InvalidNumber))) (xt_InvalidNumber : PySem.W.typeIn K (.ref FI_InvalidNumber) = some (.type "function")) (xn_InvalidNumber : PySem.W.findIn K (.ref C_InvalidNumber) "number" = some none) (xl_InvalidNumber : K.lookup FI_InvalidNumber = some ⟨xoc_InvalidNumber, xod_InvalidNumber, .func (PySem.W.fnOf "__init__" "InvalidNumber.__init__" (defArgs (inS 6 0)) (defBody (inS 6 0)) (defScope (inS 6 0)) .none xkV_InvalidNumber xdc_InvalidNumber xpm_InvalidNumber xan_InvalidNumber xcd_InvalidNumber xct_InvalidNumber), xsl_InvalidNumber⟩) (xc_InvalidNumber : PySem.W.codeIn K xcd_InvalidNumber "InvalidNumber.__init__" = true) (xk_InvalidNumber : PySem.W.keepIn K (.ref FI_InvalidNumber) = true) (x_InvalidNumber : OexC K C_InvalidNumber)
    (xi_InvalidProgram : PySem.W.findIn K (.ref C_InvalidProgram) "__init__" = some (some (.ref FI_InvalidProgram))) (xt_InvalidProgram : PySem.W.typeIn K (.ref FI_InvalidProgram) = some (.type "function")) (xn_InvalidProgram : PySem.W.findIn K (.ref C_InvalidProgram) "index" = some none) (xl_InvalidProgram : K.lookup FI_InvalidProgram = some ⟨xoc_InvalidProgram, xod_InvalidProgram, .func (PySem.W.fnOf "__init__" "InvalidProgram.__init__" (defArgs (inS 5 0)) (defBody (inS 5 0)) (defScope (inS 5 0)) .none xkV_InvalidProgram xdc_InvalidProgram xpm_InvalidProgram xan_InvalidProgram xcd_InvalidProgram xct_InvalidProgram), xsl_InvalidProgram⟩) (xc_InvalidProgram : PySem.W.codeIn K xcd_InvalidProgram "InvalidProgram.__init__" = true) (xk_InvalidProgram : PySem.W.keepIn K (.ref FI_InvalidProgram) = true) (x_InvalidProgram : OexC K C_InvalidProgram)
    (xi_InvalidOrder : PySem.W.findIn K (.ref C_InvalidOrder) "__init__" = some (some (.ref FI_InvalidOrder))) (xt_InvalidOrder : PySem.W.typeIn K (.ref FI_InvalidOrder) = some (.type "function")) (xn_InvalidOrder : PySem.W.findIn K (.ref C_InvalidOrder) "index" = some none) (xl_InvalidOrder : K.lookup FI_InvalidOrder = some ⟨xoc_InvalidOrder, xod_InvalidOrder, .func (PySem.W.fnOf "__init__" "InvalidOrder.__init__" (defArgs (inS 4 0)) (defBody (inS 4 0)) (defScope (inS 4 0)) .none xkV_InvalidOrder xdc_InvalidOrder xpm_InvalidOrder xan_InvalidOrder xcd_InvalidOrder xct_InvalidOrder), xsl_InvalidOrder⟩) (xc_InvalidOrder : PySem.W.codeIn K xcd_InvalidOrder "InvalidOrder.__init__" = true) (xk_InvalidOrder : PySem.W.keepIn K (.ref FI_InvalidOrder) = true) (x_InvalidOrder : OexC K C_InvalidOrder)
    (xi_InvalidColumns : PySem.W.findIn K (.ref C_InvalidColumns) "__init__" = some (some (.ref FI_InvalidColumns))) (xt_InvalidColumns : PySem.W.typeIn K (.ref FI_InvalidColumns) = some (.type "function")) (xn_InvalidColumns : PySem.W.findIn K (.ref C_InvalidColumns) "columns" = some none) (xl_InvalidColumns : K.lookup FI_InvalidColumns = some ⟨xoc_InvalidColumns, xod_InvalidColumns, .func (PySem.W.fnOf "__init__" "InvalidColumns.__init__" (defArgs (inS 3 0)) (defBody (inS 3 0)) (defScope (inS 3 0)) .none xkV_InvalidColumns xdc_InvalidColumns xpm_InvalidColumns xan_InvalidColumns xcd_InvalidColumns xct_InvalidColumns), xsl_InvalidColumns⟩) (xc_InvalidColumns : PySem.W.codeIn K xcd_InvalidColumns "InvalidColumns.__init__" = true) (xk_InvalidColumns : PySem.W.keepIn K (.ref FI_InvalidColumns) = true) (x_InvalidColumns : OexC K C_InvalidColumns)
    (xi_InvalidTable : PySem.W.findIn K (.ref C_InvalidTable) "__init__" = some (some (.ref FI_InvalidTable))) (xt_InvalidTable : PySem.W.typeIn K (.ref FI_InvalidTable) = some (.type "function")) (xn_InvalidTable : PySem.W.findIn K (.ref C_InvalidTable) "index" = some none) (xl_InvalidTable : K.lookup FI_InvalidTable = some ⟨xoc_InvalidTable, xod_InvalidTable, .func (PySem.W.fnOf "__init__" "InvalidTable.__init__" (defArgs (inS 2 0)) (defBody (inS 2 0)) (defScope (inS 2 0)) .none xkV_InvalidTable xdc_InvalidTable xpm_InvalidTable xan_InvalidTable xcd_InvalidTable xct_InvalidTable), xsl_InvalidTable⟩) (xc_InvalidTable : PySem.W.codeIn K xcd_InvalidTable "InvalidTable.__init__" = true) (xk_InvalidTable : PySem.W.keepIn K (.ref FI_InvalidTable) = true) (x_InvalidTable : OexC K C_InvalidTable)
    (xi_InvalidCommand : PySem.W.findIn K (.ref C_InvalidCommand) "__init__" = some (some (.ref FI_InvalidCommand))) (xt_InvalidCommand : PySem.W.typeIn K (.ref FI_InvalidCommand) = some (.type "function")) (xn_InvalidCommand : PySem.W.findIn K (.ref C_InvalidCommand) "line" = some none) (xl_InvalidCommand : K.lookup FI_InvalidCommand = some ⟨xoc_InvalidCommand, xod_InvalidCommand, .func (PySem.W.fnOf "__init__" "InvalidCommand.__init__" (defArgs (inS 13 0)) (defBody (inS 13 0)) (defScope (inS 13 0)) .none xkV_InvalidCommand xdc_InvalidCommand xpm_InvalidCommand xan_InvalidCommand xcd_InvalidCommand xct_InvalidCommand), xsl_InvalidCommand⟩) (xc_InvalidCommand : PySem.W.codeIn K xcd_InvalidCommand "InvalidCommand.__init__" = true) (xk_InvalidCommand : PySem.W.keepIn K (.ref FI_InvalidCommand) = true) (x_InvalidCommand : OexC K C_InvalidCommand)
    (xi_InvalidEdit : PySem.W.findIn K (.ref C_InvalidEdit) "__init__" = some (some (.ref FI_InvalidEdit))) (xt_InvalidEdit : PySem.W.typeIn K (.ref FI_InvalidEdit) = some (.type "function")) (xn_InvalidEdit : PySem.W.findIn K (.ref C_InvalidEdit) "index" = some none) (xl_InvalidEdit : K.lookup FI_InvalidEdit = some ⟨xoc_InvalidEdit, xod_InvalidEdit, .func (PySem.W.fnOf "__init__" "InvalidEdit.__init__" (defArgs (inS 12 0)) (defBody (inS 12 0)) (defScope (inS 12 0)) .none xkV_InvalidEdit xdc_InvalidEdit xpm_InvalidEdit xan_InvalidEdit xcd_InvalidEdit xct_InvalidEdit), xsl_InvalidEdit⟩) (xc_InvalidEdit : PySem.W.codeIn K xcd_InvalidEdit "InvalidEdit.__init__" = true) (xk_InvalidEdit : PySem.W.keepIn K (.ref FI_InvalidEdit) = true) (x_InvalidEdit : OexC K C_InvalidEdit)
    (xi_InvalidValue : PySem.W.findIn K (.ref C_InvalidValue) "__init__" = some (some (.ref FI_InvalidValue))) (xt_InvalidValue : PySem.W.typeIn K (.ref FI_InvalidValue) = some (.type "function")) (xn_InvalidValue : PySem.W.findIn K (.ref C_InvalidValue) "value" = some none) (xl_InvalidValue : K.lookup FI_InvalidValue = some ⟨xoc_InvalidValue, xod_InvalidValue, .func (PySem.W.fnOf "__init__" "InvalidValue.__init__" (defArgs (inS 11 0)) (defBody (inS 11 0)) (defScope (inS 11 0)) .none xkV_InvalidValue xdc_InvalidValue xpm_InvalidValue xan_InvalidValue xcd_InvalidValue xct_InvalidValue), xsl_InvalidValue⟩) (xc_InvalidValue : PySem.W.codeIn K xcd_InvalidValue "InvalidValue.__init__" = true) (xk_InvalidValue : PySem.W.keepIn K (.ref FI_InvalidValue) = true) (x_InvalidValue : OexC K C_InvalidValue)
    (xi_InvalidRecord : PySem.W.findIn K (.ref C_InvalidRecord) "__init__" = some (some (.ref FI_InvalidRecord))) (xt_InvalidRecord : PySem.W.typeIn K (.ref FI_InvalidRecord) = some (.type "function")) (xn_InvalidRecord : PySem.W.findIn K (.ref C_InvalidRecord) "record" = some none) (xl_InvalidRecord : K.lookup FI_InvalidRecord = some ⟨xoc_InvalidRecord, xod_InvalidRecord, .func (PySem.W.fnOf "__init__" "InvalidRecord.__init__" (defArgs (inS 10 0)) (defBody (inS 10 0)) (defScope (inS 10 0)) .none xkV_InvalidRecord xdc_InvalidRecord xpm_InvalidRecord xan_InvalidRecord xcd_InvalidRecord xct_InvalidRecord), xsl_InvalidRecord⟩) (xc_InvalidRecord : PySem.W.codeIn K xcd_InvalidRecord "InvalidRecord.__init__" = true) (xk_InvalidRecord : PySem.W.keepIn K (.ref FI_InvalidRecord) = true) (x_InvalidRecord : OexC K C_InvalidRecord)
    (xi_InvalidLimit : PySem.W.findIn K (.ref C_InvalidLimit) "__init__" = some (some (.ref FI_InvalidLimit))) (xt_InvalidLimit : PySem.W.typeIn K (.ref FI_InvalidLimit) = some (.type "function")) (xn_InvalidLimit : PySem.W.findIn K (.ref C_InvalidLimit) "value" = some none) (xl_InvalidLimit : K.lookup FI_InvalidLimit = some ⟨xoc_InvalidLimit, xod_InvalidLimit, .func (PySem.W.fnOf "__init__" "InvalidLimit.__init__" (defArgs (inS 9 0)) (defBody (inS 9 0)) (defScope (inS 9 0)) .none xkV_InvalidLimit xdc_InvalidLimit xpm_InvalidLimit xan_InvalidLimit xcd_InvalidLimit xct_InvalidLimit), xsl_InvalidLimit⟩) (xc_InvalidLimit : PySem.W.codeIn K xcd_InvalidLimit "InvalidLimit.__init__" = true) (xk_InvalidLimit : PySem.W.keepIn K (.ref FI_InvalidLimit) = true) (x_InvalidLimit : OexC K C_InvalidLimit)
    (xi_InvalidText : PySem.W.findIn K (.ref C_InvalidText) "__init__" = some (some (.ref FI_InvalidText))) (xt_InvalidText : PySem.W.typeIn K (.ref FI_InvalidText) = some (.type "function")) (xn_InvalidText : PySem.W.findIn K (.ref C_InvalidText) "text" = some none) (xl_InvalidText : K.lookup FI_InvalidText = some ⟨xoc_InvalidText, xod_InvalidText, .func (PySem.W.fnOf "__init__" "InvalidText.__init__" (defArgs (inS 8 0)) (defBody (inS 8 0)) (defScope (inS 8 0)) .none xkV_InvalidText xdc_InvalidText xpm_InvalidText xan_InvalidText xcd_InvalidText xct_InvalidText), xsl_InvalidText⟩) (xc_InvalidText : PySem.W.codeIn K xcd_InvalidText "InvalidText.__init__" = true) (xk_InvalidText : PySem.W.keepIn K (.ref FI_InvalidText) = true) (x_InvalidText : OexC K C_InvalidText)
    (xi_TooManyEdits : PySem.W.findIn K (.ref C_TooManyEdits) "__init__" = some (some (.ref FI_TooManyEdits))) (xt_TooManyEdits : PySem.W.typeIn K (.ref FI_TooManyEdits) = some (.type "function")) (xn_TooManyEdits : PySem.W.findIn K (.ref C_TooManyEdits) "count" = some none) (xl_TooManyEdits : K.lookup FI_TooManyEdits = some ⟨xoc_TooManyEdits, xod_TooManyEdits, .func (PySem.W.fnOf "__init__" "TooManyEdits.__init__" (defArgs (inS 20 0)) (defBody (inS 20 0)) (defScope (inS 20 0)) .none xkV_TooManyEdits xdc_TooManyEdits xpm_TooManyEdits xan_TooManyEdits xcd_TooManyEdits xct_TooManyEdits), xsl_TooManyEdits⟩) (xc_TooManyEdits : PySem.W.codeIn K xcd_TooManyEdits "TooManyEdits.__init__" = true) (xk_TooManyEdits : PySem.W.keepIn K (.ref FI_TooManyEdits) = true) (x_TooManyEdits : OexA K C_TooManyEdits)
    (xi_TooManyRecords : PySem.W.findIn K (.ref C_TooManyRecords) "__init__" = some (some (.ref FI_TooManyRecords))) (xt_TooManyRecords : PySem.W.typeIn K (.ref FI_TooManyRecords) = some (.type "function")) (xn_TooManyRecords : PySem.W.findIn K (.ref C_TooManyRecords) "count" = some none) (xl_TooManyRecords : K.lookup FI_TooManyRecords = some ⟨xoc_TooManyRecords, xod_TooManyRecords, .func (PySem.W.fnOf "__init__" "TooManyRecords.__init__" (defArgs (inS 19 0)) (defBody (inS 19 0)) (defScope (inS 19 0)) .none xkV_TooManyRecords xdc_TooManyRecords xpm_TooManyRecords xan_TooManyRecords xcd_TooManyRecords xct_TooManyRecords), xsl_TooManyRecords⟩) (xc_TooManyRecords : PySem.W.codeIn K xcd_TooManyRecords "TooManyRecords.__init__" = true) (xk_TooManyRecords : PySem.W.keepIn K (.ref FI_TooManyRecords) = true) (x_TooManyRecords : OexA K C_TooManyRecords)
    (xi_NoPlace : PySem.W.findIn K (.ref C_NoPlace) "__init__" = some (some (.ref FI_NoPlace))) (xt_NoPlace : PySem.W.typeIn K (.ref FI_NoPlace) = some (.type "function")) (xn_NoPlace : PySem.W.findIn K (.ref C_NoPlace) "place" = some none) (xl_NoPlace : K.lookup FI_NoPlace = some ⟨xoc_NoPlace, xod_NoPlace, .func (PySem.W.fnOf "__init__" "NoPlace.__init__" (defArgs (inS 16 0)) (defBody (inS 16 0)) (defScope (inS 16 0)) .none xkV_NoPlace xdc_NoPlace xpm_NoPlace xan_NoPlace xcd_NoPlace xct_NoPlace), xsl_NoPlace⟩) (xc_NoPlace : PySem.W.codeIn K xcd_NoPlace "NoPlace.__init__" = true) (xk_NoPlace : PySem.W.keepIn K (.ref FI_NoPlace) = true) (x_NoPlace : OexL K C_NoPlace)
    (xi_MissingColumn : PySem.W.findIn K (.ref C_MissingColumn) "__init__" = some (some (.ref FI_MissingColumn))) (xt_MissingColumn : PySem.W.typeIn K (.ref FI_MissingColumn) = some (.type "function")) (xn_MissingColumn : PySem.W.findIn K (.ref C_MissingColumn) "column" = some none) (xl_MissingColumn : K.lookup FI_MissingColumn = some ⟨xoc_MissingColumn, xod_MissingColumn, .func (PySem.W.fnOf "__init__" "MissingColumn.__init__" (defArgs (inS 15 0)) (defBody (inS 15 0)) (defScope (inS 15 0)) .none xkV_MissingColumn xdc_MissingColumn xpm_MissingColumn xan_MissingColumn xcd_MissingColumn xct_MissingColumn), xsl_MissingColumn⟩) (xc_MissingColumn : PySem.W.codeIn K xcd_MissingColumn "MissingColumn.__init__" = true) (xk_MissingColumn : PySem.W.keepIn K (.ref FI_MissingColumn) = true) (x_MissingColumn : OexL K C_MissingColumn)
    (x0_LastRecord : PySem.W.excIn K C_LastRecord [.type "ArithmeticError", .type "Exception", .type "BaseException", .type "object"] "ArithmeticError.__new__" = true) (xk0_LastRecord : PySem.W.keepIn K (.ref C_LastRecord) = true) (xe0_LastRecord : PySem.W.subIn K (.ref C_LastRecord) (.type "BaseException") = some true) (xy0_LastRecord : PySem.W.typeIn K (.ref C_LastRecord) = some (.type "type"))
    (x0_NothingToUndo : PySem.W.excIn K C_NothingToUndo [.type "LookupError", .type "Exception", .type "BaseException", .type "object"] "LookupError.__new__" = true) (xk0_NothingToUndo : PySem.W.keepIn K (.ref C_NothingToUndo) = true) (xe0_NothingToUndo : PySem.W.subIn K (.ref C_NothingToUndo) (.type "BaseException") = some true) (xy0_NothingToUndo : PySem.W.typeIn K (.ref C_NothingToUndo) = some (.type "type"))
    (kx_InvalidPlaces : kexB K C_InvalidPlaces = true)
    (kx_InvalidNumber : kexB K C_InvalidNumber = true)
    (kx_InvalidProgram : kexB K C_InvalidProgram = true)
    (kx_InvalidOrder : kexB K C_InvalidOrder = true)
    (kx_InvalidColumns : kexB K C_InvalidColumns = true)
    (kx_InvalidTable : kexB K C_InvalidTable = true)
    (kx_InvalidCommand : kexB K C_InvalidCommand = true)
    (kx_InvalidEdit : kexB K C_InvalidEdit = true)
    (kx_InvalidValue : kexB K C_InvalidValue = true)
    (kx_InvalidRecord : kexB K C_InvalidRecord = true)
    (kx_InvalidLimit : kexB K C_InvalidLimit = true)
    (kx_InvalidText : kexB K C_InvalidText = true)
    (kx_TooManyEdits : kexB K C_TooManyEdits = true)
    (kx_TooManyRecords : kexB K C_TooManyRecords = true)
    (kx_NoPlace : kexB K C_NoPlace = true)
    (kx_MissingColumn : kexB K C_MissingColumn = true)
    (kx_LastRecord : kexB K C_LastRecord = true)
    (kx_NothingToUndo : kexB K C_NothingToUndo = true)
    (kt_ArithmeticError : kitTab K [(C_InvalidPlaces, .type "ArithmeticError", false), (C_InvalidNumber, .type "ArithmeticError", false), (C_InvalidProgram, .type "ArithmeticError", false), (C_InvalidOrder, .type "ArithmeticError", false), (C_InvalidColumns, .type "ArithmeticError", false), (C_InvalidTable, .type "ArithmeticError", false), (C_InvalidCommand, .type "ArithmeticError", false), (C_InvalidEdit, .type "ArithmeticError", false), (C_InvalidValue, .type "ArithmeticError", false), (C_InvalidRecord, .type "ArithmeticError", false), (C_InvalidLimit, .type "ArithmeticError", false), (C_InvalidText, .type "ArithmeticError", false), (C_TooManyEdits, .type "ArithmeticError", true), (C_TooManyRecords, .type "ArithmeticError", true), (C_NoPlace, .type "ArithmeticError", false), (C_MissingColumn, .type "ArithmeticError", false), (C_LastRecord, .type "ArithmeticError", true), (C_NothingToUndo, .type "ArithmeticError", false)] = true)
    (kt_LookupError : kitTab K [(C_InvalidPlaces, .type "LookupError", false), (C_InvalidNumber, .type "LookupError", false), (C_InvalidProgram, .type "LookupError", false), (C_InvalidOrder, .type "LookupError", false), (C_InvalidColumns, .type "LookupError", false), (C_InvalidTable, .type "LookupError", false), (C_InvalidCommand, .type "LookupError", false), (C_InvalidEdit, .type "LookupError", false), (C_InvalidValue, .type "LookupError", false), (C_InvalidRecord, .type "LookupError", false), (C_InvalidLimit, .type "LookupError", false), (C_InvalidText, .type "LookupError", false), (C_TooManyEdits, .type "LookupError", false), (C_TooManyRecords, .type "LookupError", false), (C_NoPlace, .type "LookupError", true), (C_MissingColumn, .type "LookupError", true), (C_LastRecord, .type "LookupError", false), (C_NothingToUndo, .type "LookupError", true)] = true)
    (kt_ValueError : kitTab K [(C_InvalidPlaces, .type "ValueError", true), (C_InvalidNumber, .type "ValueError", true), (C_InvalidProgram, .type "ValueError", true), (C_InvalidOrder, .type "ValueError", true), (C_InvalidColumns, .type "ValueError", true), (C_InvalidTable, .type "ValueError", true), (C_InvalidCommand, .type "ValueError", true), (C_InvalidEdit, .type "ValueError", true), (C_InvalidValue, .type "ValueError", true), (C_InvalidRecord, .type "ValueError", true), (C_InvalidLimit, .type "ValueError", true), (C_InvalidText, .type "ValueError", true), (C_TooManyEdits, .type "ValueError", false), (C_TooManyRecords, .type "ValueError", false), (C_NoPlace, .type "ValueError", false), (C_MissingColumn, .type "ValueError", false), (C_LastRecord, .type "ValueError", false), (C_NothingToUndo, .type "ValueError", false)] = true)
    (kt_LimitError : kitTab K [(C_InvalidPlaces, .ref C_LimitError, false), (C_InvalidNumber, .ref C_LimitError, false), (C_InvalidProgram, .ref C_LimitError, false), (C_InvalidOrder, .ref C_LimitError, false), (C_InvalidColumns, .ref C_LimitError, false), (C_InvalidTable, .ref C_LimitError, false), (C_InvalidCommand, .ref C_LimitError, false), (C_InvalidEdit, .ref C_LimitError, false), (C_InvalidValue, .ref C_LimitError, false), (C_InvalidRecord, .ref C_LimitError, false), (C_InvalidLimit, .ref C_LimitError, false), (C_InvalidText, .ref C_LimitError, false), (C_TooManyEdits, .ref C_LimitError, true), (C_TooManyRecords, .ref C_LimitError, true), (C_NoPlace, .ref C_LimitError, false), (C_MissingColumn, .ref C_LimitError, false), (C_LastRecord, .ref C_LimitError, true), (C_NothingToUndo, .ref C_LimitError, false)] = true)
    (kt_FindError : kitTab K [(C_InvalidPlaces, .ref C_FindError, false), (C_InvalidNumber, .ref C_FindError, false), (C_InvalidProgram, .ref C_FindError, false), (C_InvalidOrder, .ref C_FindError, false), (C_InvalidColumns, .ref C_FindError, false), (C_InvalidTable, .ref C_FindError, false), (C_InvalidCommand, .ref C_FindError, false), (C_InvalidEdit, .ref C_FindError, false), (C_InvalidValue, .ref C_FindError, false), (C_InvalidRecord, .ref C_FindError, false), (C_InvalidLimit, .ref C_FindError, false), (C_InvalidText, .ref C_FindError, false), (C_TooManyEdits, .ref C_FindError, false), (C_TooManyRecords, .ref C_FindError, false), (C_NoPlace, .ref C_FindError, true), (C_MissingColumn, .ref C_FindError, true), (C_LastRecord, .ref C_FindError, false), (C_NothingToUndo, .ref C_FindError, true)] = true)
    (kt_TableError : kitTab K [(C_InvalidPlaces, .ref C_TableError, true), (C_InvalidNumber, .ref C_TableError, true), (C_InvalidProgram, .ref C_TableError, true), (C_InvalidOrder, .ref C_TableError, true), (C_InvalidColumns, .ref C_TableError, true), (C_InvalidTable, .ref C_TableError, true), (C_InvalidCommand, .ref C_TableError, true), (C_InvalidEdit, .ref C_TableError, true), (C_InvalidValue, .ref C_TableError, true), (C_InvalidRecord, .ref C_TableError, true), (C_InvalidLimit, .ref C_TableError, true), (C_InvalidText, .ref C_TableError, true), (C_TooManyEdits, .ref C_TableError, false), (C_TooManyRecords, .ref C_TableError, false), (C_NoPlace, .ref C_TableError, false), (C_MissingColumn, .ref C_TableError, false), (C_LastRecord, .ref C_TableError, false), (C_NothingToUndo, .ref C_TableError, false)] = true)
    (kt_LastRecord : kitTab K [(C_InvalidPlaces, .ref C_LastRecord, false), (C_InvalidNumber, .ref C_LastRecord, false), (C_InvalidProgram, .ref C_LastRecord, false), (C_InvalidOrder, .ref C_LastRecord, false), (C_InvalidColumns, .ref C_LastRecord, false), (C_InvalidTable, .ref C_LastRecord, false), (C_InvalidCommand, .ref C_LastRecord, false), (C_InvalidEdit, .ref C_LastRecord, false), (C_InvalidValue, .ref C_LastRecord, false), (C_InvalidRecord, .ref C_LastRecord, false), (C_InvalidLimit, .ref C_LastRecord, false), (C_InvalidText, .ref C_LastRecord, false), (C_TooManyEdits, .ref C_LastRecord, false), (C_TooManyRecords, .ref C_LastRecord, false), (C_NoPlace, .ref C_LastRecord, false), (C_MissingColumn, .ref C_LastRecord, false), (C_LastRecord, .ref C_LastRecord, true), (C_NothingToUndo, .ref C_LastRecord, false)] = true)
    (kt_TooManyEdits : kitTab K [(C_InvalidPlaces, .ref C_TooManyEdits, false), (C_InvalidNumber, .ref C_TooManyEdits, false), (C_InvalidProgram, .ref C_TooManyEdits, false), (C_InvalidOrder, .ref C_TooManyEdits, false), (C_InvalidColumns, .ref C_TooManyEdits, false), (C_InvalidTable, .ref C_TooManyEdits, false), (C_InvalidCommand, .ref C_TooManyEdits, false), (C_InvalidEdit, .ref C_TooManyEdits, false), (C_InvalidValue, .ref C_TooManyEdits, false), (C_InvalidRecord, .ref C_TooManyEdits, false), (C_InvalidLimit, .ref C_TooManyEdits, false), (C_InvalidText, .ref C_TooManyEdits, false), (C_TooManyEdits, .ref C_TooManyEdits, true), (C_TooManyRecords, .ref C_TooManyEdits, false), (C_NoPlace, .ref C_TooManyEdits, false), (C_MissingColumn, .ref C_TooManyEdits, false), (C_LastRecord, .ref C_TooManyEdits, false), (C_NothingToUndo, .ref C_TooManyEdits, false)] = true)
    (kt_TooManyRecords : kitTab K [(C_InvalidPlaces, .ref C_TooManyRecords, false), (C_InvalidNumber, .ref C_TooManyRecords, false), (C_InvalidProgram, .ref C_TooManyRecords, false), (C_InvalidOrder, .ref C_TooManyRecords, false), (C_InvalidColumns, .ref C_TooManyRecords, false), (C_InvalidTable, .ref C_TooManyRecords, false), (C_InvalidCommand, .ref C_TooManyRecords, false), (C_InvalidEdit, .ref C_TooManyRecords, false), (C_InvalidValue, .ref C_TooManyRecords, false), (C_InvalidRecord, .ref C_TooManyRecords, false), (C_InvalidLimit, .ref C_TooManyRecords, false), (C_InvalidText, .ref C_TooManyRecords, false), (C_TooManyEdits, .ref C_TooManyRecords, false), (C_TooManyRecords, .ref C_TooManyRecords, true), (C_NoPlace, .ref C_TooManyRecords, false), (C_MissingColumn, .ref C_TooManyRecords, false), (C_LastRecord, .ref C_TooManyRecords, false), (C_NothingToUndo, .ref C_TooManyRecords, false)] = true)
    (kt_NothingToUndo : kitTab K [(C_InvalidPlaces, .ref C_NothingToUndo, false), (C_InvalidNumber, .ref C_NothingToUndo, false), (C_InvalidProgram, .ref C_NothingToUndo, false), (C_InvalidOrder, .ref C_NothingToUndo, false), (C_InvalidColumns, .ref C_NothingToUndo, false), (C_InvalidTable, .ref C_NothingToUndo, false), (C_InvalidCommand, .ref C_NothingToUndo, false), (C_InvalidEdit, .ref C_NothingToUndo, false), (C_InvalidValue, .ref C_NothingToUndo, false), (C_InvalidRecord, .ref C_NothingToUndo, false), (C_InvalidLimit, .ref C_NothingToUndo, false), (C_InvalidText, .ref C_NothingToUndo, false), (C_TooManyEdits, .ref C_NothingToUndo, false), (C_TooManyRecords, .ref C_NothingToUndo, false), (C_NoPlace, .ref C_NothingToUndo, false), (C_MissingColumn, .ref C_NothingToUndo, false), (C_LastRecord, .ref C_NothingToUndo, false), (C_NothingToUndo, .ref C_NothingToUndo, true)] = true)
    (kt_NoPlace : kitTab K [(C_InvalidPlaces, .ref C_NoPlace, false), (C_InvalidNumber, .ref C_NoPlace, false), (C_InvalidProgram, .ref C_NoPlace, false), (C_InvalidOrder, .ref C_NoPlace, false), (C_InvalidColumns, .ref C_NoPlace, false), (C_InvalidTable, .ref C_NoPlace, false), (C_InvalidCommand, .ref C_NoPlace, false), (C_InvalidEdit, .ref C_NoPlace, false), (C_InvalidValue, .ref C_NoPlace, false), (C_InvalidRecord, .ref C_NoPlace, false), (C_InvalidLimit, .ref C_NoPlace, false), (C_InvalidText, .ref C_NoPlace, false), (C_TooManyEdits, .ref C_NoPlace, false), (C_TooManyRecords, .ref C_NoPlace, false), (C_NoPlace, .ref C_NoPlace, true), (C_MissingColumn, .ref C_NoPlace, false), (C_LastRecord, .ref C_NoPlace, false), (C_NothingToUndo, .ref C_NoPlace, false)] = true)
    (kt_MissingColumn : kitTab K [(C_InvalidPlaces, .ref C_MissingColumn, false), (C_InvalidNumber, .ref C_MissingColumn, false), (C_InvalidProgram, .ref C_MissingColumn, false), (C_InvalidOrder, .ref C_MissingColumn, false), (C_InvalidColumns, .ref C_MissingColumn, false), (C_InvalidTable, .ref C_MissingColumn, false), (C_InvalidCommand, .ref C_MissingColumn, false), (C_InvalidEdit, .ref C_MissingColumn, false), (C_InvalidValue, .ref C_MissingColumn, false), (C_InvalidRecord, .ref C_MissingColumn, false), (C_InvalidLimit, .ref C_MissingColumn, false), (C_InvalidText, .ref C_MissingColumn, false), (C_TooManyEdits, .ref C_MissingColumn, false), (C_TooManyRecords, .ref C_MissingColumn, false), (C_NoPlace, .ref C_MissingColumn, false), (C_MissingColumn, .ref C_MissingColumn, true), (C_LastRecord, .ref C_MissingColumn, false), (C_NothingToUndo, .ref C_MissingColumn, false)] = true)
    (kt_InvalidCommand : kitTab K [(C_InvalidPlaces, .ref C_InvalidCommand, false), (C_InvalidNumber, .ref C_InvalidCommand, false), (C_InvalidProgram, .ref C_InvalidCommand, false), (C_InvalidOrder, .ref C_InvalidCommand, false), (C_InvalidColumns, .ref C_InvalidCommand, false), (C_InvalidTable, .ref C_InvalidCommand, false), (C_InvalidCommand, .ref C_InvalidCommand, true), (C_InvalidEdit, .ref C_InvalidCommand, false), (C_InvalidValue, .ref C_InvalidCommand, false), (C_InvalidRecord, .ref C_InvalidCommand, false), (C_InvalidLimit, .ref C_InvalidCommand, false), (C_InvalidText, .ref C_InvalidCommand, false), (C_TooManyEdits, .ref C_InvalidCommand, false), (C_TooManyRecords, .ref C_InvalidCommand, false), (C_NoPlace, .ref C_InvalidCommand, false), (C_MissingColumn, .ref C_InvalidCommand, false), (C_LastRecord, .ref C_InvalidCommand, false), (C_NothingToUndo, .ref C_InvalidCommand, false)] = true)
    (kt_InvalidEdit : kitTab K [(C_InvalidPlaces, .ref C_InvalidEdit, false), (C_InvalidNumber, .ref C_InvalidEdit, false), (C_InvalidProgram, .ref C_InvalidEdit, false), (C_InvalidOrder, .ref C_InvalidEdit, false), (C_InvalidColumns, .ref C_InvalidEdit, false), (C_InvalidTable, .ref C_InvalidEdit, false), (C_InvalidCommand, .ref C_InvalidEdit, false), (C_InvalidEdit, .ref C_InvalidEdit, true), (C_InvalidValue, .ref C_InvalidEdit, false), (C_InvalidRecord, .ref C_InvalidEdit, false), (C_InvalidLimit, .ref C_InvalidEdit, false), (C_InvalidText, .ref C_InvalidEdit, false), (C_TooManyEdits, .ref C_InvalidEdit, false), (C_TooManyRecords, .ref C_InvalidEdit, false), (C_NoPlace, .ref C_InvalidEdit, false), (C_MissingColumn, .ref C_InvalidEdit, false), (C_LastRecord, .ref C_InvalidEdit, false), (C_NothingToUndo, .ref C_InvalidEdit, false)] = true)
    (kt_InvalidValue : kitTab K [(C_InvalidPlaces, .ref C_InvalidValue, false), (C_InvalidNumber, .ref C_InvalidValue, false), (C_InvalidProgram, .ref C_InvalidValue, false), (C_InvalidOrder, .ref C_InvalidValue, false), (C_InvalidColumns, .ref C_InvalidValue, false), (C_InvalidTable, .ref C_InvalidValue, false), (C_InvalidCommand, .ref C_InvalidValue, false), (C_InvalidEdit, .ref C_InvalidValue, false), (C_InvalidValue, .ref C_InvalidValue, true), (C_InvalidRecord, .ref C_InvalidValue, false), (C_InvalidLimit, .ref C_InvalidValue, false), (C_InvalidText, .ref C_InvalidValue, false), (C_TooManyEdits, .ref C_InvalidValue, false), (C_TooManyRecords, .ref C_InvalidValue, false), (C_NoPlace, .ref C_InvalidValue, false), (C_MissingColumn, .ref C_InvalidValue, false), (C_LastRecord, .ref C_InvalidValue, false), (C_NothingToUndo, .ref C_InvalidValue, false)] = true)
    (kt_InvalidRecord : kitTab K [(C_InvalidPlaces, .ref C_InvalidRecord, false), (C_InvalidNumber, .ref C_InvalidRecord, false), (C_InvalidProgram, .ref C_InvalidRecord, false), (C_InvalidOrder, .ref C_InvalidRecord, false), (C_InvalidColumns, .ref C_InvalidRecord, false), (C_InvalidTable, .ref C_InvalidRecord, false), (C_InvalidCommand, .ref C_InvalidRecord, false), (C_InvalidEdit, .ref C_InvalidRecord, false), (C_InvalidValue, .ref C_InvalidRecord, false), (C_InvalidRecord, .ref C_InvalidRecord, true), (C_InvalidLimit, .ref C_InvalidRecord, false), (C_InvalidText, .ref C_InvalidRecord, false), (C_TooManyEdits, .ref C_InvalidRecord, false), (C_TooManyRecords, .ref C_InvalidRecord, false), (C_NoPlace, .ref C_InvalidRecord, false), (C_MissingColumn, .ref C_InvalidRecord, false), (C_LastRecord, .ref C_InvalidRecord, false), (C_NothingToUndo, .ref C_InvalidRecord, false)] = true)
    (kt_InvalidLimit : kitTab K [(C_InvalidPlaces, .ref C_InvalidLimit, false), (C_InvalidNumber, .ref C_InvalidLimit, false), (C_InvalidProgram, .ref C_InvalidLimit, false), (C_InvalidOrder, .ref C_InvalidLimit, false), (C_InvalidColumns, .ref C_InvalidLimit, false), (C_InvalidTable, .ref C_InvalidLimit, false), (C_InvalidCommand, .ref C_InvalidLimit, false), (C_InvalidEdit, .ref C_InvalidLimit, false), (C_InvalidValue, .ref C_InvalidLimit, false), (C_InvalidRecord, .ref C_InvalidLimit, false), (C_InvalidLimit, .ref C_InvalidLimit, true), (C_InvalidText, .ref C_InvalidLimit, false), (C_TooManyEdits, .ref C_InvalidLimit, false), (C_TooManyRecords, .ref C_InvalidLimit, false), (C_NoPlace, .ref C_InvalidLimit, false), (C_MissingColumn, .ref C_InvalidLimit, false), (C_LastRecord, .ref C_InvalidLimit, false), (C_NothingToUndo, .ref C_InvalidLimit, false)] = true)
    (kt_InvalidText : kitTab K [(C_InvalidPlaces, .ref C_InvalidText, false), (C_InvalidNumber, .ref C_InvalidText, false), (C_InvalidProgram, .ref C_InvalidText, false), (C_InvalidOrder, .ref C_InvalidText, false), (C_InvalidColumns, .ref C_InvalidText, false), (C_InvalidTable, .ref C_InvalidText, false), (C_InvalidCommand, .ref C_InvalidText, false), (C_InvalidEdit, .ref C_InvalidText, false), (C_InvalidValue, .ref C_InvalidText, false), (C_InvalidRecord, .ref C_InvalidText, false), (C_InvalidLimit, .ref C_InvalidText, false), (C_InvalidText, .ref C_InvalidText, true), (C_TooManyEdits, .ref C_InvalidText, false), (C_TooManyRecords, .ref C_InvalidText, false), (C_NoPlace, .ref C_InvalidText, false), (C_MissingColumn, .ref C_InvalidText, false), (C_LastRecord, .ref C_InvalidText, false), (C_NothingToUndo, .ref C_InvalidText, false)] = true)
    (kt_InvalidPlaces : kitTab K [(C_InvalidPlaces, .ref C_InvalidPlaces, true), (C_InvalidNumber, .ref C_InvalidPlaces, false), (C_InvalidProgram, .ref C_InvalidPlaces, false), (C_InvalidOrder, .ref C_InvalidPlaces, false), (C_InvalidColumns, .ref C_InvalidPlaces, false), (C_InvalidTable, .ref C_InvalidPlaces, false), (C_InvalidCommand, .ref C_InvalidPlaces, false), (C_InvalidEdit, .ref C_InvalidPlaces, false), (C_InvalidValue, .ref C_InvalidPlaces, false), (C_InvalidRecord, .ref C_InvalidPlaces, false), (C_InvalidLimit, .ref C_InvalidPlaces, false), (C_InvalidText, .ref C_InvalidPlaces, false), (C_TooManyEdits, .ref C_InvalidPlaces, false), (C_TooManyRecords, .ref C_InvalidPlaces, false), (C_NoPlace, .ref C_InvalidPlaces, false), (C_MissingColumn, .ref C_InvalidPlaces, false), (C_LastRecord, .ref C_InvalidPlaces, false), (C_NothingToUndo, .ref C_InvalidPlaces, false)] = true)
    (kt_InvalidNumber : kitTab K [(C_InvalidPlaces, .ref C_InvalidNumber, false), (C_InvalidNumber, .ref C_InvalidNumber, true), (C_InvalidProgram, .ref C_InvalidNumber, false), (C_InvalidOrder, .ref C_InvalidNumber, false), (C_InvalidColumns, .ref C_InvalidNumber, false), (C_InvalidTable, .ref C_InvalidNumber, false), (C_InvalidCommand, .ref C_InvalidNumber, false), (C_InvalidEdit, .ref C_InvalidNumber, false), (C_InvalidValue, .ref C_InvalidNumber, false), (C_InvalidRecord, .ref C_InvalidNumber, false), (C_InvalidLimit, .ref C_InvalidNumber, false), (C_InvalidText, .ref C_InvalidNumber, false), (C_TooManyEdits, .ref C_InvalidNumber, false), (C_TooManyRecords, .ref C_InvalidNumber, false), (C_NoPlace, .ref C_InvalidNumber, false), (C_MissingColumn, .ref C_InvalidNumber, false), (C_LastRecord, .ref C_InvalidNumber, false), (C_NothingToUndo, .ref C_InvalidNumber, false)] = true)
    (kt_InvalidProgram : kitTab K [(C_InvalidPlaces, .ref C_InvalidProgram, false), (C_InvalidNumber, .ref C_InvalidProgram, false), (C_InvalidProgram, .ref C_InvalidProgram, true), (C_InvalidOrder, .ref C_InvalidProgram, false), (C_InvalidColumns, .ref C_InvalidProgram, false), (C_InvalidTable, .ref C_InvalidProgram, false), (C_InvalidCommand, .ref C_InvalidProgram, false), (C_InvalidEdit, .ref C_InvalidProgram, false), (C_InvalidValue, .ref C_InvalidProgram, false), (C_InvalidRecord, .ref C_InvalidProgram, false), (C_InvalidLimit, .ref C_InvalidProgram, false), (C_InvalidText, .ref C_InvalidProgram, false), (C_TooManyEdits, .ref C_InvalidProgram, false), (C_TooManyRecords, .ref C_InvalidProgram, false), (C_NoPlace, .ref C_InvalidProgram, false), (C_MissingColumn, .ref C_InvalidProgram, false), (C_LastRecord, .ref C_InvalidProgram, false), (C_NothingToUndo, .ref C_InvalidProgram, false)] = true)
    (kt_InvalidOrder : kitTab K [(C_InvalidPlaces, .ref C_InvalidOrder, false), (C_InvalidNumber, .ref C_InvalidOrder, false), (C_InvalidProgram, .ref C_InvalidOrder, false), (C_InvalidOrder, .ref C_InvalidOrder, true), (C_InvalidColumns, .ref C_InvalidOrder, false), (C_InvalidTable, .ref C_InvalidOrder, false), (C_InvalidCommand, .ref C_InvalidOrder, false), (C_InvalidEdit, .ref C_InvalidOrder, false), (C_InvalidValue, .ref C_InvalidOrder, false), (C_InvalidRecord, .ref C_InvalidOrder, false), (C_InvalidLimit, .ref C_InvalidOrder, false), (C_InvalidText, .ref C_InvalidOrder, false), (C_TooManyEdits, .ref C_InvalidOrder, false), (C_TooManyRecords, .ref C_InvalidOrder, false), (C_NoPlace, .ref C_InvalidOrder, false), (C_MissingColumn, .ref C_InvalidOrder, false), (C_LastRecord, .ref C_InvalidOrder, false), (C_NothingToUndo, .ref C_InvalidOrder, false)] = true)
    (kt_InvalidColumns : kitTab K [(C_InvalidPlaces, .ref C_InvalidColumns, false), (C_InvalidNumber, .ref C_InvalidColumns, false), (C_InvalidProgram, .ref C_InvalidColumns, false), (C_InvalidOrder, .ref C_InvalidColumns, false), (C_InvalidColumns, .ref C_InvalidColumns, true), (C_InvalidTable, .ref C_InvalidColumns, false), (C_InvalidCommand, .ref C_InvalidColumns, false), (C_InvalidEdit, .ref C_InvalidColumns, false), (C_InvalidValue, .ref C_InvalidColumns, false), (C_InvalidRecord, .ref C_InvalidColumns, false), (C_InvalidLimit, .ref C_InvalidColumns, false), (C_InvalidText, .ref C_InvalidColumns, false), (C_TooManyEdits, .ref C_InvalidColumns, false), (C_TooManyRecords, .ref C_InvalidColumns, false), (C_NoPlace, .ref C_InvalidColumns, false), (C_MissingColumn, .ref C_InvalidColumns, false), (C_LastRecord, .ref C_InvalidColumns, false), (C_NothingToUndo, .ref C_InvalidColumns, false)] = true)
    (kt_InvalidTable : kitTab K [(C_InvalidPlaces, .ref C_InvalidTable, false), (C_InvalidNumber, .ref C_InvalidTable, false), (C_InvalidProgram, .ref C_InvalidTable, false), (C_InvalidOrder, .ref C_InvalidTable, false), (C_InvalidColumns, .ref C_InvalidTable, false), (C_InvalidTable, .ref C_InvalidTable, true), (C_InvalidCommand, .ref C_InvalidTable, false), (C_InvalidEdit, .ref C_InvalidTable, false), (C_InvalidValue, .ref C_InvalidTable, false), (C_InvalidRecord, .ref C_InvalidTable, false), (C_InvalidLimit, .ref C_InvalidTable, false), (C_InvalidText, .ref C_InvalidTable, false), (C_TooManyEdits, .ref C_InvalidTable, false), (C_TooManyRecords, .ref C_InvalidTable, false), (C_NoPlace, .ref C_InvalidTable, false), (C_MissingColumn, .ref C_InvalidTable, false), (C_LastRecord, .ref C_InvalidTable, false), (C_NothingToUndo, .ref C_InvalidTable, false)] = true)
    (kt_OverflowError : kitTab K [(C_InvalidPlaces, .type "OverflowError", false), (C_InvalidNumber, .type "OverflowError", false), (C_InvalidProgram, .type "OverflowError", false), (C_InvalidOrder, .type "OverflowError", false), (C_InvalidColumns, .type "OverflowError", false), (C_InvalidTable, .type "OverflowError", false), (C_InvalidCommand, .type "OverflowError", false), (C_InvalidEdit, .type "OverflowError", false), (C_InvalidValue, .type "OverflowError", false), (C_InvalidRecord, .type "OverflowError", false), (C_InvalidLimit, .type "OverflowError", false), (C_InvalidText, .type "OverflowError", false), (C_TooManyEdits, .type "OverflowError", false), (C_TooManyRecords, .type "OverflowError", false), (C_NoPlace, .type "OverflowError", false), (C_MissingColumn, .type "OverflowError", false), (C_LastRecord, .type "OverflowError", false), (C_NothingToUndo, .type "OverflowError", false)] = true)
    (kt_ZeroDivisionError : kitTab K [(C_InvalidPlaces, .type "ZeroDivisionError", false), (C_InvalidNumber, .type "ZeroDivisionError", false), (C_InvalidProgram, .type "ZeroDivisionError", false), (C_InvalidOrder, .type "ZeroDivisionError", false), (C_InvalidColumns, .type "ZeroDivisionError", false), (C_InvalidTable, .type "ZeroDivisionError", false), (C_InvalidCommand, .type "ZeroDivisionError", false), (C_InvalidEdit, .type "ZeroDivisionError", false), (C_InvalidValue, .type "ZeroDivisionError", false), (C_InvalidRecord, .type "ZeroDivisionError", false), (C_InvalidLimit, .type "ZeroDivisionError", false), (C_InvalidText, .type "ZeroDivisionError", false), (C_TooManyEdits, .type "ZeroDivisionError", false), (C_TooManyRecords, .type "ZeroDivisionError", false), (C_NoPlace, .type "ZeroDivisionError", false), (C_MissingColumn, .type "ZeroDivisionError", false), (C_LastRecord, .type "ZeroDivisionError", false), (C_NothingToUndo, .type "ZeroDivisionError", false)] = true)
    (kt_KeyError : kitTab K [(C_InvalidPlaces, .type "KeyError", false), (C_InvalidNumber, .type "KeyError", false), (C_InvalidProgram, .type "KeyError", false), (C_InvalidOrder, .type "KeyError", false), (C_InvalidColumns, .type "KeyError", false), (C_InvalidTable, .type "KeyError", false), (C_InvalidCommand, .type "KeyError", false), (C_InvalidEdit, .type "KeyError", false), (C_InvalidValue, .type "KeyError", false), (C_InvalidRecord, .type "KeyError", false), (C_InvalidLimit, .type "KeyError", false), (C_InvalidText, .type "KeyError", false), (C_TooManyEdits, .type "KeyError", false), (C_TooManyRecords, .type "KeyError", false), (C_NoPlace, .type "KeyError", false), (C_MissingColumn, .type "KeyError", false), (C_LastRecord, .type "KeyError", false), (C_NothingToUndo, .type "KeyError", false)] = true)
    (kt_IndexError : kitTab K [(C_InvalidPlaces, .type "IndexError", false), (C_InvalidNumber, .type "IndexError", false), (C_InvalidProgram, .type "IndexError", false), (C_InvalidOrder, .type "IndexError", false), (C_InvalidColumns, .type "IndexError", false), (C_InvalidTable, .type "IndexError", false), (C_InvalidCommand, .type "IndexError", false), (C_InvalidEdit, .type "IndexError", false), (C_InvalidValue, .type "IndexError", false), (C_InvalidRecord, .type "IndexError", false), (C_InvalidLimit, .type "IndexError", false), (C_InvalidText, .type "IndexError", false), (C_TooManyEdits, .type "IndexError", false), (C_TooManyRecords, .type "IndexError", false), (C_NoPlace, .type "IndexError", false), (C_MissingColumn, .type "IndexError", false), (C_LastRecord, .type "IndexError", false), (C_NothingToUndo, .type "IndexError", false)] = true) :
    LawG l w K 5 "_law_script" m_law mg fa h := by
  have e := hfa.symm.trans (PySem.W.mg_of X G a8)
  cases e
  refine ⟨(PySem.W.fnOf "law" "law" (defArgs (topS 39)) (defBody (topS 39)) (defScope (topS 39)) .none kV8 dc8 pm8 an8 cd8 ct8), [], { w := some w, T := [], gd := True, C := clsOf [("InvalidPlaces", C_InvalidPlaces), ("InvalidNumber", C_InvalidNumber), ("InvalidProgram", C_InvalidProgram), ("InvalidOrder", C_InvalidOrder), ("InvalidColumns", C_InvalidColumns), ("InvalidTable", C_InvalidTable), ("InvalidCommand", C_InvalidCommand), ("InvalidEdit", C_InvalidEdit), ("InvalidValue", C_InvalidValue), ("InvalidRecord", C_InvalidRecord), ("InvalidLimit", C_InvalidLimit), ("InvalidText", C_InvalidText), ("TooManyEdits", C_TooManyEdits), ("TooManyRecords", C_TooManyRecords), ("NoPlace", C_NoPlace), ("MissingColumn", C_MissingColumn), ("LastRecord", C_LastRecord), ("NothingToUndo", C_NothingToUndo), ("LimitError", C_LimitError), ("FindError", C_FindError), ("TableError", C_TableError)] 0 }, fun c q hc => ?_, fun q hq => ?_, fun s v => .of_eq rfl, fun base hK hG hT => ?_⟩
  · exact nomatch hc
  · exact nomatch hq
  · letI : Lab := { w := some w, T := [], gd := True, C := clsOf [("InvalidPlaces", C_InvalidPlaces), ("InvalidNumber", C_InvalidNumber), ("InvalidProgram", C_InvalidProgram), ("InvalidOrder", C_InvalidOrder), ("InvalidColumns", C_InvalidColumns), ("InvalidTable", C_InvalidTable), ("InvalidCommand", C_InvalidCommand), ("InvalidEdit", C_InvalidEdit), ("InvalidValue", C_InvalidValue), ("InvalidRecord", C_InvalidRecord), ("InvalidLimit", C_InvalidLimit), ("InvalidText", C_InvalidText), ("TooManyEdits", C_TooManyEdits), ("TooManyRecords", C_TooManyRecords), ("NoPlace", C_NoPlace), ("MissingColumn", C_MissingColumn), ("LastRecord", C_LastRecord), ("NothingToUndo", C_NothingToUndo), ("LimitError", C_LimitError), ("FindError", C_FindError), ("TableError", C_TableError)] 0 }
    haveI : LabR := ⟨trivial⟩
    exact ok_law (mkTx rfl X G a0 l0 c0 k0 a1 l1 c1 k1 a2 l2 c2 k2 a3 l3 c3 k3 a4 l4 c4 k4 a5 l5 c5 k5 a6 l6 c6 k6 a7 l7 c7 k7 a8 l8 c8 k8 n_ArithmeticError n_IndexError n_KeyError n_LookupError n_OverflowError n_ValueError n_ZeroDivisionError n_abs n_all n_any n_divmod n_isinstance n_len n_list n_max n_min n_range n_repr c_MOST_EDITS c_MOST_TIMES c_MOST_COMMANDS c_MOST_SIZE c_LEAST_SIZE c_MOST_RECORDS c_MOST_KEYS c_MOST_COLUMNS xa_InvalidPlaces xa_InvalidNumber xa_InvalidProgram xa_InvalidOrder xa_InvalidColumns xa_InvalidTable xa_InvalidCommand xa_InvalidEdit xa_InvalidValue xa_InvalidRecord xa_InvalidLimit xa_InvalidText xa_TooManyEdits xa_TooManyRecords xa_NoPlace xa_MissingColumn xa_LastRecord xa_NothingToUndo xa_LimitError xa_FindError xa_TableError xi_InvalidPlaces xt_InvalidPlaces xn_InvalidPlaces xl_InvalidPlaces xc_InvalidPlaces xk_InvalidPlaces x_InvalidPlaces xi_InvalidNumber xt_InvalidNumber xn_InvalidNumber xl_InvalidNumber xc_InvalidNumber xk_InvalidNumber x_InvalidNumber xi_InvalidProgram xt_InvalidProgram xn_InvalidProgram xl_InvalidProgram xc_InvalidProgram xk_InvalidProgram x_InvalidProgram xi_InvalidOrder xt_InvalidOrder xn_InvalidOrder xl_InvalidOrder xc_InvalidOrder xk_InvalidOrder x_InvalidOrder xi_InvalidColumns xt_InvalidColumns xn_InvalidColumns xl_InvalidColumns xc_InvalidColumns xk_InvalidColumns x_InvalidColumns xi_InvalidTable xt_InvalidTable xn_InvalidTable xl_InvalidTable xc_InvalidTable xk_InvalidTable x_InvalidTable xi_InvalidCommand xt_InvalidCommand xn_InvalidCommand xl_InvalidCommand xc_InvalidCommand xk_InvalidCommand x_InvalidCommand xi_InvalidEdit xt_InvalidEdit xn_InvalidEdit xl_InvalidEdit xc_InvalidEdit xk_InvalidEdit x_InvalidEdit xi_InvalidValue xt_InvalidValue xn_InvalidValue xl_InvalidValue xc_InvalidValue xk_InvalidValue x_InvalidValue xi_InvalidRecord xt_InvalidRecord xn_InvalidRecord xl_InvalidRecord xc_InvalidRecord xk_InvalidRecord x_InvalidRecord xi_InvalidLimit xt_InvalidLimit xn_InvalidLimit xl_InvalidLimit xc_InvalidLimit xk_InvalidLimit x_InvalidLimit xi_InvalidText xt_InvalidText xn_InvalidText xl_InvalidText xc_InvalidText xk_InvalidText x_InvalidText xi_TooManyEdits xt_TooManyEdits xn_TooManyEdits xl_TooManyEdits xc_TooManyEdits xk_TooManyEdits x_TooManyEdits xi_TooManyRecords xt_TooManyRecords xn_TooManyRecords xl_TooManyRecords xc_TooManyRecords xk_TooManyRecords x_TooManyRecords xi_NoPlace xt_NoPlace xn_NoPlace xl_NoPlace xc_NoPlace xk_NoPlace x_NoPlace xi_MissingColumn xt_MissingColumn xn_MissingColumn xl_MissingColumn xc_MissingColumn xk_MissingColumn x_MissingColumn x0_LastRecord xk0_LastRecord xe0_LastRecord xy0_LastRecord x0_NothingToUndo xk0_NothingToUndo xe0_NothingToUndo xy0_NothingToUndo kx_InvalidPlaces kx_InvalidNumber kx_InvalidProgram kx_InvalidOrder kx_InvalidColumns kx_InvalidTable kx_InvalidCommand kx_InvalidEdit kx_InvalidValue kx_InvalidRecord kx_InvalidLimit kx_InvalidText kx_TooManyEdits kx_TooManyRecords kx_NoPlace kx_MissingColumn kx_LastRecord kx_NothingToUndo kt_ArithmeticError kt_LookupError kt_ValueError kt_LimitError kt_FindError kt_TableError kt_LastRecord kt_TooManyEdits kt_TooManyRecords kt_NothingToUndo kt_NoPlace kt_MissingColumn kt_InvalidCommand kt_InvalidEdit kt_InvalidValue kt_InvalidRecord kt_InvalidLimit kt_InvalidText kt_InvalidPlaces kt_InvalidNumber kt_InvalidProgram kt_InvalidOrder kt_InvalidColumns kt_InvalidTable kt_OverflowError kt_ZeroDivisionError kt_KeyError kt_IndexError rfl)
end DL
end L2
open PySem PySem.W PyProof.Rows
set_option maxHeartbeats 0 in
theorem PySem.Challenge.cw_sortcuts_k82_limits_and_errors_holds : PySem.Challenge.rw_sortcuts_k82_limits_and_errors.Holds := by
  w_on; o_law; k_head; (case hw => w_witness2)
  k_fill
  refine L2.DL.walk_g (l := PySem.Challenge.rw_sortcuts_k82_limits_and_errors) (n := 63) (k := 5) (x := "_law_script") (m := L2.DL.m_law) rfl (by decide) rfl ⟨rfl, by decide, by decide⟩ (fun w h Y => PySem.W.kIn_of Y) ?F (fun ns _ => L2.DL.law_spec ns)
  case F =>
    intro w mg fa h Y KX G hmg
    refine' L2.DL.all_mk KX G hmg ?a0 ?l0 ?c0 ?k0 ?a1 ?l1 ?c1 ?k1 ?a2 ?l2 ?c2 ?k2 ?a3 ?l3 ?c3 ?k3 ?a4 ?l4 ?c4 ?k4 ?a5 ?l5 ?c5 ?k5 ?a6 ?l6 ?c6 ?k6 ?a7 ?l7 ?c7 ?k7 ?a8 ?l8 ?c8 ?k8 ?n_ArithmeticError ?n_IndexError ?n_KeyError ?n_LookupError ?n_OverflowError ?n_ValueError ?n_ZeroDivisionError ?n_abs ?n_all ?n_any ?n_divmod ?n_isinstance ?n_len ?n_list ?n_max ?n_min ?n_range ?n_repr ?c_MOST_EDITS ?c_MOST_TIMES ?c_MOST_COMMANDS ?c_MOST_SIZE ?c_LEAST_SIZE ?c_MOST_RECORDS ?c_MOST_KEYS ?c_MOST_COLUMNS ?xa_InvalidPlaces ?xa_InvalidNumber ?xa_InvalidProgram ?xa_InvalidOrder ?xa_InvalidColumns ?xa_InvalidTable ?xa_InvalidCommand ?xa_InvalidEdit ?xa_InvalidValue ?xa_InvalidRecord ?xa_InvalidLimit ?xa_InvalidText ?xa_TooManyEdits ?xa_TooManyRecords ?xa_NoPlace ?xa_MissingColumn ?xa_LastRecord ?xa_NothingToUndo ?xa_LimitError ?xa_FindError ?xa_TableError ?xi_InvalidPlaces ?xt_InvalidPlaces ?xn_InvalidPlaces ?xl_InvalidPlaces ?xc_InvalidPlaces ?xk_InvalidPlaces ?x_InvalidPlaces ?xi_InvalidNumber ?xt_InvalidNumber ?xn_InvalidNumber ?xl_InvalidNumber ?xc_InvalidNumber ?xk_InvalidNumber ?x_InvalidNumber ?xi_InvalidProgram ?xt_InvalidProgram ?xn_InvalidProgram ?xl_InvalidProgram ?xc_InvalidProgram ?xk_InvalidProgram ?x_InvalidProgram ?xi_InvalidOrder ?xt_InvalidOrder ?xn_InvalidOrder ?xl_InvalidOrder ?xc_InvalidOrder ?xk_InvalidOrder ?x_InvalidOrder ?xi_InvalidColumns ?xt_InvalidColumns ?xn_InvalidColumns ?xl_InvalidColumns ?xc_InvalidColumns ?xk_InvalidColumns ?x_InvalidColumns ?xi_InvalidTable ?xt_InvalidTable ?xn_InvalidTable ?xl_InvalidTable ?xc_InvalidTable ?xk_InvalidTable ?x_InvalidTable ?xi_InvalidCommand ?xt_InvalidCommand ?xn_InvalidCommand ?xl_InvalidCommand ?xc_InvalidCommand ?xk_InvalidCommand ?x_InvalidCommand ?xi_InvalidEdit ?xt_InvalidEdit ?xn_InvalidEdit ?xl_InvalidEdit ?xc_InvalidEdit ?xk_InvalidEdit ?x_InvalidEdit ?xi_InvalidValue ?xt_InvalidValue ?xn_InvalidValue ?xl_InvalidValue ?xc_InvalidValue ?xk_InvalidValue ?x_InvalidValue ?xi_InvalidRecord ?xt_InvalidRecord ?xn_InvalidRecord ?xl_InvalidRecord ?xc_InvalidRecord ?xk_InvalidRecord ?x_InvalidRecord ?xi_InvalidLimit ?xt_InvalidLimit ?xn_InvalidLimit ?xl_InvalidLimit ?xc_InvalidLimit ?xk_InvalidLimit ?x_InvalidLimit ?xi_InvalidText ?xt_InvalidText ?xn_InvalidText ?xl_InvalidText ?xc_InvalidText ?xk_InvalidText ?x_InvalidText ?xi_TooManyEdits ?xt_TooManyEdits ?xn_TooManyEdits ?xl_TooManyEdits ?xc_TooManyEdits ?xk_TooManyEdits ?x_TooManyEdits ?xi_TooManyRecords ?xt_TooManyRecords ?xn_TooManyRecords ?xl_TooManyRecords ?xc_TooManyRecords ?xk_TooManyRecords ?x_TooManyRecords ?xi_NoPlace ?xt_NoPlace ?xn_NoPlace ?xl_NoPlace ?xc_NoPlace ?xk_NoPlace ?x_NoPlace ?xi_MissingColumn ?xt_MissingColumn ?xn_MissingColumn ?xl_MissingColumn ?xc_MissingColumn ?xk_MissingColumn ?x_MissingColumn ?x0_LastRecord ?xk0_LastRecord ?xe0_LastRecord ?xy0_LastRecord ?x0_NothingToUndo ?xk0_NothingToUndo ?xe0_NothingToUndo ?xy0_NothingToUndo ?kx_InvalidPlaces ?kx_InvalidNumber ?kx_InvalidProgram ?kx_InvalidOrder ?kx_InvalidColumns ?kx_InvalidTable ?kx_InvalidCommand ?kx_InvalidEdit ?kx_InvalidValue ?kx_InvalidRecord ?kx_InvalidLimit ?kx_InvalidText ?kx_TooManyEdits ?kx_TooManyRecords ?kx_NoPlace ?kx_MissingColumn ?kx_LastRecord ?kx_NothingToUndo ?kt_ArithmeticError ?kt_LookupError ?kt_ValueError ?kt_LimitError ?kt_FindError ?kt_TableError ?kt_LastRecord ?kt_TooManyEdits ?kt_TooManyRecords ?kt_NothingToUndo ?kt_NoPlace ?kt_MissingColumn ?kt_InvalidCommand ?kt_InvalidEdit ?kt_InvalidValue ?kt_InvalidRecord ?kt_InvalidLimit ?kt_InvalidText ?kt_InvalidPlaces ?kt_InvalidNumber ?kt_InvalidProgram ?kt_InvalidOrder ?kt_InvalidColumns ?kt_InvalidTable ?kt_OverflowError ?kt_ZeroDivisionError ?kt_KeyError ?kt_IndexError
    (case a0 => k_is)
    (case l0 => k_is)
    (case c0 => k_is)
    (case k0 => k_is)
    (case a1 => k_is)
    (case l1 => k_is)
    (case c1 => k_is)
    (case k1 => k_is)
    (case a2 => k_is)
    (case l2 => k_is)
    (case c2 => k_is)
    (case k2 => k_is)
    (case a3 => k_is)
    (case l3 => k_is)
    (case c3 => k_is)
    (case k3 => k_is)
    (case a4 => k_is)
    (case l4 => k_is)
    (case c4 => k_is)
    (case k4 => k_is)
    (case a5 => k_is)
    (case l5 => k_is)
    (case c5 => k_is)
    (case k5 => k_is)
    (case a6 => k_is)
    (case l6 => k_is)
    (case c6 => k_is)
    (case k6 => k_is)
    (case a7 => k_is)
    (case l7 => k_is)
    (case c7 => k_is)
    (case k7 => k_is)
    (case a8 => k_is)
    (case l8 => k_is)
    (case c8 => k_is)
    (case k8 => k_is)
    (case n_ArithmeticError => k_is)
    (case n_IndexError => k_is)
    (case n_KeyError => k_is)
    (case n_LookupError => k_is)
    (case n_OverflowError => k_is)
    (case n_ValueError => k_is)
    (case n_ZeroDivisionError => k_is)
    (case n_abs => k_is)
    (case n_all => k_is)
    (case n_any => k_is)
    (case n_divmod => k_is)
    (case n_isinstance => k_is)
    (case n_len => k_is)
    (case n_list => k_is)
    (case n_max => k_is)
    (case n_min => k_is)
    (case n_range => k_is)
    (case n_repr => k_is)
    (case xa_InvalidPlaces => k_is)
    (case xa_InvalidNumber => k_is)
    (case xa_InvalidProgram => k_is)
    (case xa_InvalidOrder => k_is)
    (case xa_InvalidColumns => k_is)
    (case xa_InvalidTable => k_is)
    (case xa_InvalidCommand => k_is)
    (case xa_InvalidEdit => k_is)
    (case xa_InvalidValue => k_is)
    (case xa_InvalidRecord => k_is)
    (case xa_InvalidLimit => k_is)
    (case xa_InvalidText => k_is)
    (case xa_TooManyEdits => k_is)
    (case xa_TooManyRecords => k_is)
    (case xa_NoPlace => k_is)
    (case xa_MissingColumn => k_is)
    (case xa_LastRecord => k_is)
    (case xa_NothingToUndo => k_is)
    (case xa_LimitError => k_is)
    (case xa_FindError => k_is)
    (case xa_TableError => k_is)
    (case xi_InvalidPlaces => k_is)
    (case xt_InvalidPlaces => k_is)
    (case xn_InvalidPlaces => k_is)
    (case xl_InvalidPlaces => k_is)
    (case xc_InvalidPlaces => k_is)
    (case xk_InvalidPlaces => k_is)
    (case xi_InvalidNumber => k_is)
    (case xt_InvalidNumber => k_is)
    (case xn_InvalidNumber => k_is)
    (case xl_InvalidNumber => k_is)
    (case xc_InvalidNumber => k_is)
    (case xk_InvalidNumber => k_is)
    (case xi_InvalidProgram => k_is)
    (case xt_InvalidProgram => k_is)
    (case xn_InvalidProgram => k_is)
    (case xl_InvalidProgram => k_is)
    (case xc_InvalidProgram => k_is)
    (case xk_InvalidProgram => k_is)
    (case xi_InvalidOrder => k_is)
    (case xt_InvalidOrder => k_is)
    (case xn_InvalidOrder => k_is)
    (case xl_InvalidOrder => k_is)
    (case xc_InvalidOrder => k_is)
    (case xk_InvalidOrder => k_is)
    (case xi_InvalidColumns => k_is)
    (case xt_InvalidColumns => k_is)
    (case xn_InvalidColumns => k_is)
    (case xl_InvalidColumns => k_is)
    (case xc_InvalidColumns => k_is)
    (case xk_InvalidColumns => k_is)
    (case xi_InvalidTable => k_is)
    (case xt_InvalidTable => k_is)
    (case xn_InvalidTable => k_is)
    (case xl_InvalidTable => k_is)
    (case xc_InvalidTable => k_is)
    (case xk_InvalidTable => k_is)
    (case xi_InvalidCommand => k_is)
    (case xt_InvalidCommand => k_is)
    (case xn_InvalidCommand => k_is)
    (case xl_InvalidCommand => k_is)
    (case xc_InvalidCommand => k_is)
    (case xk_InvalidCommand => k_is)
    (case xi_InvalidEdit => k_is)
    (case xt_InvalidEdit => k_is)
    (case xn_InvalidEdit => k_is)
    (case xl_InvalidEdit => k_is)
    (case xc_InvalidEdit => k_is)
    (case xk_InvalidEdit => k_is)
    (case xi_InvalidValue => k_is)
    (case xt_InvalidValue => k_is)
    (case xn_InvalidValue => k_is)
    (case xl_InvalidValue => k_is)
    (case xc_InvalidValue => k_is)
    (case xk_InvalidValue => k_is)
    (case xi_InvalidRecord => k_is)
    (case xt_InvalidRecord => k_is)
    (case xn_InvalidRecord => k_is)
    (case xl_InvalidRecord => k_is)
    (case xc_InvalidRecord => k_is)
    (case xk_InvalidRecord => k_is)
    (case xi_InvalidLimit => k_is)
    (case xt_InvalidLimit => k_is)
    (case xn_InvalidLimit => k_is)
    (case xl_InvalidLimit => k_is)
    (case xc_InvalidLimit => k_is)
    (case xk_InvalidLimit => k_is)
    (case xi_InvalidText => k_is)
    (case xt_InvalidText => k_is)
    (case xn_InvalidText => k_is)
    (case xl_InvalidText => k_is)
    (case xc_InvalidText => k_is)
    (case xk_InvalidText => k_is)
    (case xi_TooManyEdits => k_is)
    (case xt_TooManyEdits => k_is)
    (case xn_TooManyEdits => k_is)
    (case xl_TooManyEdits => k_is)
    (case xc_TooManyEdits => k_is)
    (case xk_TooManyEdits => k_is)
    (case xi_TooManyRecords => k_is)
    (case xt_TooManyRecords => k_is)
    (case xn_TooManyRecords => k_is)
    (case xl_TooManyRecords => k_is)
    (case xc_TooManyRecords => k_is)
    (case xk_TooManyRecords => k_is)
    (case xi_NoPlace => k_is)
    (case xt_NoPlace => k_is)
    (case xn_NoPlace => k_is)
    (case xl_NoPlace => k_is)
    (case xc_NoPlace => k_is)
    (case xk_NoPlace => k_is)
    (case xi_MissingColumn => k_is)
    (case xt_MissingColumn => k_is)
    (case xn_MissingColumn => k_is)
    (case xl_MissingColumn => k_is)
    (case xc_MissingColumn => k_is)
    (case xk_MissingColumn => k_is)
    (case c_MOST_EDITS => (intro _; refine' L2.DL.cInt KX G ?q1; (case q1 => k_is)))
    (case c_MOST_TIMES => (intro _; refine' L2.DL.cInt KX G ?q1; (case q1 => k_is)))
    (case c_MOST_COMMANDS => (intro _; refine' L2.DL.cInt KX G ?q1; (case q1 => k_is)))
    (case c_MOST_SIZE => (intro _; refine' L2.DL.cInt KX G ?q1; (case q1 => k_is)))
    (case c_LEAST_SIZE => (intro _; refine' L2.DL.cInt KX G ?q1; (case q1 => k_is)))
    (case c_MOST_RECORDS => (intro _; refine' L2.DL.cInt KX G ?q1; (case q1 => k_is)))
    (case c_MOST_KEYS => (intro _; refine' L2.DL.cInt KX G ?q1; (case q1 => k_is)))
    (case c_MOST_COLUMNS => (intro _; refine' L2.DL.cInt KX G ?q1; (case q1 => k_is)))
    (case x0_LastRecord => kernel_rfl)
    (case xk0_LastRecord => k_is)
    (case xe0_LastRecord => k_is)
    (case xy0_LastRecord => k_is)
    (case x0_NothingToUndo => kernel_rfl)
    (case xk0_NothingToUndo => k_is)
    (case xe0_NothingToUndo => k_is)
    (case xy0_NothingToUndo => k_is)
    (case kx_InvalidPlaces => kernel_rfl)
    (case kx_InvalidNumber => kernel_rfl)
    (case kx_InvalidProgram => kernel_rfl)
    (case kx_InvalidOrder => kernel_rfl)
    (case kx_InvalidColumns => kernel_rfl)
    (case kx_InvalidTable => kernel_rfl)
    (case kx_InvalidCommand => kernel_rfl)
    (case kx_InvalidEdit => kernel_rfl)
    (case kx_InvalidValue => kernel_rfl)
    (case kx_InvalidRecord => kernel_rfl)
    (case kx_InvalidLimit => kernel_rfl)
    (case kx_InvalidText => kernel_rfl)
    (case kx_TooManyEdits => kernel_rfl)
    (case kx_TooManyRecords => kernel_rfl)
    (case kx_NoPlace => kernel_rfl)
    (case kx_MissingColumn => kernel_rfl)
    (case kx_LastRecord => kernel_rfl)
    (case kx_NothingToUndo => kernel_rfl)
    (case kt_ArithmeticError => kernel_rfl)
    (case kt_LookupError => kernel_rfl)
    (case kt_ValueError => kernel_rfl)
    (case kt_LimitError => kernel_rfl)
    (case kt_FindError => kernel_rfl)
    (case kt_TableError => kernel_rfl)
    (case kt_LastRecord => kernel_rfl)
    (case kt_TooManyEdits => kernel_rfl)
    (case kt_TooManyRecords => kernel_rfl)
    (case kt_NothingToUndo => kernel_rfl)
    (case kt_NoPlace => kernel_rfl)
    (case kt_MissingColumn => kernel_rfl)
    (case kt_InvalidCommand => kernel_rfl)
    (case kt_InvalidEdit => kernel_rfl)
    (case kt_InvalidValue => kernel_rfl)
    (case kt_InvalidRecord => kernel_rfl)
    (case kt_InvalidLimit => kernel_rfl)
    (case kt_InvalidText => kernel_rfl)
    (case kt_InvalidPlaces => kernel_rfl)
    (case kt_InvalidNumber => kernel_rfl)
    (case kt_InvalidProgram => kernel_rfl)
    (case kt_InvalidOrder => kernel_rfl)
    (case kt_InvalidColumns => kernel_rfl)
    (case kt_InvalidTable => kernel_rfl)
    (case kt_OverflowError => kernel_rfl)
    (case kt_ZeroDivisionError => kernel_rfl)
    (case kt_KeyError => kernel_rfl)
    (case kt_IndexError => kernel_rfl)
    (case x_InvalidPlaces => (refine' L2.DL.oex_mk ?l1 ?r1 ?s1 ?e1 ?t1 ?k1; (case l1 => k_is); (case r1 => rfl); (case s1 => k_is); (case e1 => k_is); (case t1 => k_is); (case k1 => k_is)))
    (case x_InvalidNumber => (refine' L2.DL.oex_mk ?l1 ?r1 ?s1 ?e1 ?t1 ?k1; (case l1 => k_is); (case r1 => rfl); (case s1 => k_is); (case e1 => k_is); (case t1 => k_is); (case k1 => k_is)))
    (case x_InvalidProgram => (refine' L2.DL.oex_mk ?l1 ?r1 ?s1 ?e1 ?t1 ?k1; (case l1 => k_is); (case r1 => rfl); (case s1 => k_is); (case e1 => k_is); (case t1 => k_is); (case k1 => k_is)))
    (case x_InvalidOrder => (refine' L2.DL.oex_mk ?l1 ?r1 ?s1 ?e1 ?t1 ?k1; (case l1 => k_is); (case r1 => rfl); (case s1 => k_is); (case e1 => k_is); (case t1 => k_is); (case k1 => k_is)))
    (case x_InvalidColumns => (refine' L2.DL.oex_mk ?l1 ?r1 ?s1 ?e1 ?t1 ?k1; (case l1 => k_is); (case r1 => rfl); (case s1 => k_is); (case e1 => k_is); (case t1 => k_is); (case k1 => k_is)))
    (case x_InvalidTable => (refine' L2.DL.oex_mk ?l1 ?r1 ?s1 ?e1 ?t1 ?k1; (case l1 => k_is); (case r1 => rfl); (case s1 => k_is); (case e1 => k_is); (case t1 => k_is); (case k1 => k_is)))
    (case x_InvalidCommand => (refine' L2.DL.oex_mk ?l1 ?r1 ?s1 ?e1 ?t1 ?k1; (case l1 => k_is); (case r1 => rfl); (case s1 => k_is); (case e1 => k_is); (case t1 => k_is); (case k1 => k_is)))
    (case x_InvalidEdit => (refine' L2.DL.oex_mk ?l1 ?r1 ?s1 ?e1 ?t1 ?k1; (case l1 => k_is); (case r1 => rfl); (case s1 => k_is); (case e1 => k_is); (case t1 => k_is); (case k1 => k_is)))
    (case x_InvalidValue => (refine' L2.DL.oex_mk ?l1 ?r1 ?s1 ?e1 ?t1 ?k1; (case l1 => k_is); (case r1 => rfl); (case s1 => k_is); (case e1 => k_is); (case t1 => k_is); (case k1 => k_is)))
    (case x_InvalidRecord => (refine' L2.DL.oex_mk ?l1 ?r1 ?s1 ?e1 ?t1 ?k1; (case l1 => k_is); (case r1 => rfl); (case s1 => k_is); (case e1 => k_is); (case t1 => k_is); (case k1 => k_is)))
    (case x_InvalidLimit => (refine' L2.DL.oex_mk ?l1 ?r1 ?s1 ?e1 ?t1 ?k1; (case l1 => k_is); (case r1 => rfl); (case s1 => k_is); (case e1 => k_is); (case t1 => k_is); (case k1 => k_is)))
    (case x_InvalidText => (refine' L2.DL.oex_mk ?l1 ?r1 ?s1 ?e1 ?t1 ?k1; (case l1 => k_is); (case r1 => rfl); (case s1 => k_is); (case e1 => k_is); (case t1 => k_is); (case k1 => k_is)))
    (case x_TooManyEdits => (refine' L2.DL.oea_mk ?l1 ?r1 ?s1 ?e1 ?t1 ?k1; (case l1 => k_is); (case r1 => rfl); (case s1 => k_is); (case e1 => k_is); (case t1 => k_is); (case k1 => k_is)))
    (case x_TooManyRecords => (refine' L2.DL.oea_mk ?l1 ?r1 ?s1 ?e1 ?t1 ?k1; (case l1 => k_is); (case r1 => rfl); (case s1 => k_is); (case e1 => k_is); (case t1 => k_is); (case k1 => k_is)))
    (case x_NoPlace => (refine' L2.DL.oel_mk ?l1 ?r1 ?s1 ?e1 ?t1 ?k1; (case l1 => k_is); (case r1 => rfl); (case s1 => k_is); (case e1 => k_is); (case t1 => k_is); (case k1 => k_is)))
    (case x_MissingColumn => (refine' L2.DL.oel_mk ?l1 ?r1 ?s1 ?e1 ?t1 ?k1; (case l1 => k_is); (case r1 => rfl); (case s1 => k_is); (case e1 => k_is); (case t1 => k_is); (case k1 => k_is)))

