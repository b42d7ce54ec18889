import PyProof.Rows.All
import Wide.All
import OpenK.AllK
import Wide.FinOn
import HandS.ForMost
import HandS.Walk
import HandS.IsInst
import HandS.TupAny
import HandS.Deep
import HandS.Lambda
import KE.KExcIs
import HandS.EndTab
import KE.KDictKeyed
import KE.KDictDisplayH
import HandS.Conv
import KE.GoesEnum
import HandS.RevRange
import HandS.Style
import HandS.TupMul
import HandS.Exc
import HandS.ExcOwn
import HandS.WordsExc
import HandS.TryOnly
import HandS.ExcInit
import KE.RegKTryMore
import HandS.SortKw
import KE.SortKeyHeap
import KE.KNestM
import HandS.SortInts
import HandS.TupSets
import KE.DataCmp
import HandS.SetFor
import HandS.Strs
import HandS.WideBits
import HandS.NoneIn
import HandS.SortRule
import HandS.Flt
import HandS.GenList
import HandS.GenYield
import HandS.Zip
import KE.GoesMore
import HandS.Rev
import HandS.More
import HandS.Iter
import KE.KMinBuiltin
import HandS.TupLen
import KE.KDictCopyH
import KE.KRevSl
import PyProof.AutoSeq1
import PyProof.ReprRoads
import KE.KTryMore
import HandS.Text
import HandS.ExcField
import HandS.ExcValue
import HandS.Small
import HandS.FStr
import HandS.StrMore
import HandS.RaiseMore
import PyProof.StrBlock2
import KE.KIntText
import PySem.Challenge.RW_sortcuts_k20_texts_refused
set_option linter.all false
set_option Elab.async false
set_option maxRecDepth 100000
set_option maxHeartbeats 4000000
set_option autoImplicit false
namespace L2
namespace DL
open PySem PySem.Spec PyProof.Rows

/-! ### data and heaps -/
/-- the tables of code objects, with the names of what they hold -/
class LabW where
  w : Option World
  /-- the classes of exceptions, by their names -/
  C : Str → Addr := fun _ => 0
class Lab extends LabW where
  T : List (Addr × Str)
  gd : Prop
/-- where a repr may be written, none is under way -/
abbrev GdOk [Lab] (A : Around) : Prop := Lab.gd → A.guards = some []
def TB [Lab] (H : Hp) : Prop := LamX.Tabs Lab.T H
abbrev NT (o : HO) : Prop := ∀ ps, o ≠ .tbl ps
/-- all but the tables stay -/
structure Same (H H' : Hp) : Prop where
  h : ∀ b o, H b = some o → NT o → H' b = some o
  k : ∀ b, H b ≠ none → H' b ≠ none
theorem Same.refl (H : Hp) : Same H H := ⟨fun _ _ e _ => e, fun _ h => h⟩
theorem Same.trans {H H1 H2 : Hp} (a : Same H H1) (b : Same H1 H2) : Same H H2 := ⟨fun q o e n => b.h q o (a.h q o e n) n, fun q h => b.k q (a.k q h)⟩
theorem Same.free {H H' : Hp} {q : Addr} (s : Same H H') (h : H' q = none) : H q = none := Classical.byContradiction fun z => s.k q z h
theorem Same.of {H H' : Hp} (s : L2.Same H H') : Same H H' := ⟨fun b o e _ => s b o e, fun b h z => h (s.free z)⟩
theorem nt_lst {xs : List V} : NT (.lst xs) := fun _ h => nomatch h
theorem nt_tup {xs : List V} : NT (.tup xs) := fun _ h => nomatch h
theorem nt_frz {o : Obj} {u : HO} : NT (.frz o u) := fun _ h => nomatch h
theorem nt_dK {x} : NT (.dK x) := fun _ h => nomatch h
theorem nt_xd {x} : NT (.xd x) := fun _ h => nomatch h
theorem same_new {H : Hp} {p : Addr} (h : H p = none) (o : HO) : L2.Same H (upd H p o) := fun b x e => by rw [upd_ne (ne_of_none e h)]; exact e
theorem TB.ext [Lab] {H H' : Hp} (t : TB H) (s : L2.Same H H') : TB H' := LamX.Tabs.ext t s
theorem TB.ne [Lab] {H : Hp} (t : TB H) {p : Addr} {xs : List V} (h : H p = some (.lst xs)) (o : HO) : TB (upd H p o) := fun q hq => by
  obtain ⟨ps, a, b, c⟩ := t q hq
  refine ⟨ps, ?_, b, fun pos cv e => ?_⟩
  · rw [upd_ne (fun z => by rw [z, h] at a; cases a)]; exact a
  · obtain ⟨c0, e1, e2⟩ := c pos cv e
    exact ⟨c0, e1, by rw [upd_ne (fun z => by rw [z, h] at e2; unfold LamX.CodeO at e2; cases e2)]; exact e2⟩
theorem same_sqT {K : PySem.W.Frag} {H H' : Hp} {a : Addr} {xs : List V} (e : Same H H') (h : SqT K H a xs) : SqT K H' a xs := by
  rcases h with (h | ⟨o, h⟩) | h
  · exact .inl (.inl (e.h _ _ h nt_tup))
  · exact .inl (.inr ⟨o, e.h _ _ h nt_frz⟩)
  · exact .inr h
/-- a list that is read: tracked, frozen, or a plain one of the module's -/
def LsR (K : PySem.W.Frag) (H : Hp) (a : Addr) (xs : List V) : Prop := Rd H a (.lst xs) ∨ ∃ (its : List Value) (n : Nat), K.lookup a = some { cls := .type "list", data := .seq its.toArray n } ∧ xs.length ≤ sizeLine ∧ Vals xs its
theorem LsR.sq {K : PySem.W.Frag} {H : Hp} {a : Addr} {xs : List V} (h : LsR K H a xs) : SqL K H a xs := by
  rcases h with h | ⟨its, n, h, z, r⟩
  · exact .inl h
  · exact .inr ⟨_, its.toArray, n, h, rfl, rfl, rfl, by rw [List.size_toArray, ← r.length]; exact z, by simpa using r⟩
theorem LsR.isL {X : Cx} {pins : List (Addr × Obj)} {σ : St} {H : Hp} {s : Shared} {a : Addr} {xs : List V} (h : LsR X.K H a xs) (I : Inv X pins σ H s) : xs.length ≤ sizeLine ∧ ∃ (its : List Value) (n : Nat), Vals xs its ∧ s.heap.get? a = some { cls := .type "list", data := .seq its.toArray n } := by
  rcases h with h | ⟨its, n, h, z, r⟩
  · exact h.ok I.hok
  · exact ⟨z, its, n, r, I.kIn a _ h⟩
section
variable [LabW]
/-- the dict at a is this object -/
def DnO (a : Addr) (o : Obj) : HO := .ext fun h => h.get? a = some o
/-- its entries: the keys nested tuples, each by its place -/
structure DnF (w : Option World) (a : Addr) (o : Obj) (xs : List (NestedKey × Addr × V)) : Prop where
  hd : (a == sysModules) = false
  nd : (xs.map (·.1)).Nodup
  ex : o.ExactDict
  es : ∃ (w' : World) (es : Array DictEntry) (ep : Nat), w = some w' ∧ o.data = .dict es ep ∧ Paired (fun (x : NestedKey × Addr × V) (e : DictEntry) => e.hash = x.1.hash w' ∧ e.key = .ref x.2.1 ∧ RelV x.2.2 e.val) xs es.toList
  dp : ∀ x ∈ xs, x.1.depth ≤ 8
/-- an exception's object: its class, its dict -/
def ExO (a : Addr) (cls : Value) (d : Option Addr) : HO := .ext fun h => ∃ (oe : Obj) (vs : Array Value), h.get? a = some oe ∧ oe.cls = cls ∧ oe.dict = d ∧ oe.data = .fields vs
/-- what its class must have, so that it can be looked at -/
structure KEx (K : PySem.W.Frag) (C : Addr) : Prop where
  hcl : (PySem.W.clsIn K C).isSome = true
  hga : PySem.W.findIn K (.ref C) "__getattribute__" = some (some (.builtin "BaseException.__getattribute__"))
  hgt : PySem.W.findIn K (.ref C) "__getattr__" = some none
  hsub : PySem.W.subIn K (.ref C) (.type "BaseException") = some true
  hdct : PySem.W.hasDictIn K C = true
  ha : PySem.W.findIn K (.ref C) "__class__" = some (some (.builtin "object.__class__"))
  hn : PySem.W.specialIn K (.builtin "object.__class__") "__get__" = some (some (.builtin "getset_descriptor.__get__"))
  htk : PySem.W.takesIn K (.builtin "object.__class__") = some true
  hm : PySem.W.mroIn K C (.type "object") = some true
  isT : ∀ T ∈ ["bool", "int", "str", "list", "tuple"], PySem.W.kitOne K (.ref C) (.type T) = some false
/-- an exception as data: its class, its attribute -/
abbrev excD (c an : Str) (d : PyData) : PyData := .dict [(.dict [], .tuple [.str c, .str an, d])]
/-- one without an attribute -/
abbrev exnD (c : Str) : PyData := .dict [(.dict [], .tuple [.str c])]
/-- a key of a dict, as data -/
def kyDt : Key → PyData
  | .inl i => .int i
  | .inr x => .str x
mutual
inductive DD (K : PySem.W.Frag) (H : Hp) : V → PyData → Prop
  | non : DD K H .non .none
  | bl (b : Bool) : DD K H (.bl b) (.bool b)
  | int (i : Int) : DD K H (.int i) (.int i)
  | str (x : Str) : DD K H (.str x) (.str x)
  | lst {a : Addr} {xs : List V} {ds : List PyData} : LsR K H a xs → DDs K H xs ds → DD K H (.ref a) (.list ds)
  | tup {a : Addr} {xs : List V} {ds : List PyData} : SqT K H a xs → DDs K H xs ds → DD K H (.ref a) (.tuple ds)
  | dct {a : Addr} {xs : List (Key × V)} {kvs : List (PyData × PyData)} : H a = some (.dK xs) → DDi K H xs kvs → DD K H (.ref a) (.dict kvs)
  | dcn {a : Addr} {o : Obj} {xs : List (NestedKey × Addr × V)} {kvs : List (PyData × PyData)} : H a = some (DnO a o) → DnF LabW.w a o xs → DDk K H xs kvs → DD K H (.ref a) (.dict kvs)
  | exc {a dx : Addr} {c an : Str} {v : V} {d : PyData} : H a = some (ExO a (.ref (LabW.C c)) (some dx)) → H dx = some (.xd [(an, v)]) → KEx K (LabW.C c) → PySem.W.findIn K (.ref (LabW.C c)) an = some none → DD K H v d → DD K H (.ref a) (.dict [(.dict [], .tuple [.str c, .str an, d])])
  | exn {a : Addr} {c : Str} : H a = some (ExO a (.ref (LabW.C c)) none) → KEx K (LabW.C c) → DD K H (.ref a) (.dict [(.dict [], .tuple [.str c])])
inductive DDs (K : PySem.W.Frag) (H : Hp) : List V → List PyData → Prop
  | nil : DDs K H [] []
  | cons {v : V} {vs : List V} {d : PyData} {ds : List PyData} : DD K H v d → DDs K H vs ds → DDs K H (v :: vs) (d :: ds)
inductive DDk (K : PySem.W.Frag) (H : Hp) : List (NestedKey × Addr × V) → List (PyData × PyData) → Prop
  | nil : DDk K H [] []
  | cons {k : NestedKey} {a : Addr} {v : V} {xs : List (NestedKey × Addr × V)} {kd vd : PyData} {kvs : List (PyData × PyData)} : k.data = kd → DD K H (.ref a) kd → DD K H v vd → DDk K H xs kvs → DDk K H ((k, a, v) :: xs) ((kd, vd) :: kvs)
inductive DDi (K : PySem.W.Frag) (H : Hp) : List (Key × V) → List (PyData × PyData) → Prop
  | nil : DDi K H [] []
  | cons {k : Key} {v : V} {xs : List (Key × V)} {vd : PyData} {kvs : List (PyData × PyData)} : DD K H v vd → DDi K H xs kvs → DDi K H ((k, v) :: xs) ((kyDt k, vd) :: kvs)
end
theorem nt_exo {φ : Heap → Prop} : NT (.ext φ) := fun _ h => nomatch h
theorem same_rd {H H' : Hp} {a : Addr} {u : HO} (e : Same H H') (h : Rd H a u) (n : NT u) : Rd H' a u := by
  rcases h with h | ⟨o, h⟩
  · exact .inl (e.h _ _ h n)
  · exact .inr ⟨o, e.h _ _ h nt_frz⟩
theorem same_ls {K : PySem.W.Frag} {H H' : Hp} {a : Addr} {xs : List V} (e : Same H H') (h : LsR K H a xs) : LsR K H' a xs := h.imp (fun z => same_rd e z nt_lst) id
mutual
theorem DD.dp {K : PySem.W.Frag} {Z : Hp} : ∀ (d : PyData) (v : V), d.hasDict = false → DD K Z v d → Dp K Z v d
  | .none, _, _, h => by cases h; exact .non
  | .bool b, _, _, h => by cases h; exact .bl b
  | .int i, _, _, h => by cases h; exact .int i
  | .str x, _, _, h => by cases h; exact .str x
  | .list ds, _, n, h => by
    cases h with
    | lst hs ha => exact .lst hs.sq (DDs.dp ds _ n ha)
  | .tuple ds, _, n, h => by
    cases h with
    | tup hs ha => exact .tup hs (DDs.dp ds _ n ha)
  | .dict _, _, n, h => by cases n
theorem DDs.dp {K : PySem.W.Frag} {Z : Hp} : ∀ (ds : List PyData) (vs : List V), PyData.hasDictAll ds = false → DDs K Z vs ds → DpAll K Z vs ds
  | [], _, _, h => by cases h; exact .nil
  | d :: ds, _, n, h => by
    rw [PyData.hasDictAll, Bool.or_eq_false_iff] at n
    cases h with
    | cons h1 h2 => exact .cons (DD.dp d _ n.1 h1) (DDs.dp ds _ n.2 h2)
end
mutual
theorem dd_mono {K : PySem.W.Frag} {Z Z' : Hp} (s : Same Z Z') : ∀ (d : PyData) (v : V), DD K Z v d → DD K Z' v d
  | .none, _, h => by cases h; exact .non
  | .bool b, _, h => by cases h; exact .bl b
  | .int i, _, h => by cases h; exact .int i
  | .str x, _, h => by cases h; exact .str x
  | .list ds, _, h => by
    cases h with
    | lst hs ha => exact .lst (same_ls s hs) (dds_mono s ds _ ha)
  | .tuple ds, _, h => by
    cases h with
    | tup hs ha => exact .tup (same_sqT s hs) (dds_mono s ds _ ha)
  | .dict kvs, _, h => by
    cases h with
    | dct e hi => exact .dct (s.h _ _ e nt_dK) (ddi_mono s kvs _ hi)
    | dcn e hf hk => exact .dcn (s.h _ _ e nt_exo) hf (ddk_mono s kvs _ hk)
    | @exc a dx c an v d e1 e2 hk hn hd => exact .exc (s.h _ _ e1 nt_exo) (s.h _ _ e2 nt_xd) hk hn (dd_mono s d v hd)
    | exn e1 hk => exact .exn (s.h _ _ e1 nt_exo) hk
theorem dds_mono {K : PySem.W.Frag} {Z Z' : Hp} (s : Same Z Z') : ∀ (ds : List PyData) (vs : List V), DDs K Z vs ds → DDs K Z' vs ds
  | [], _, h => by cases h; exact .nil
  | d :: ds, _, h => by
    cases h with
    | cons h1 h2 => exact .cons (dd_mono s d _ h1) (dds_mono s ds _ h2)
theorem ddk_mono {K : PySem.W.Frag} {Z Z' : Hp} (s : Same Z Z') : ∀ (kvs : List (PyData × PyData)) (xs : List (NestedKey × Addr × V)), DDk K Z xs kvs → DDk K Z' xs kvs
  | [], _, h => by cases h; exact .nil
  | (kd, vd) :: kvs, _, h => by
    cases h with
    | cons h0 h1 h2 h3 => exact .cons h0 (dd_mono s kd _ h1) (dd_mono s vd _ h2) (ddk_mono s kvs _ h3)
theorem ddi_mono {K : PySem.W.Frag} {Z Z' : Hp} (s : Same Z Z') : ∀ (kvs : List (PyData × PyData)) (xs : List (Key × V)), DDi K Z xs kvs → DDi K Z' xs kvs
  | [], _, h => by cases h; exact .nil
  | (kd, vd) :: kvs, _, h => by
    cases h with
    | cons h1 h2 => exact .cons (dd_mono s vd _ h1) (ddi_mono s kvs _ h2)
end
theorem DDm {K : PySem.W.Frag} {Z Z' : Hp} {v : V} {d : PyData} (h : DD K Z v d) (s : Same Z Z') : DD K Z' v d := dd_mono s d v h
theorem DDsm {K : PySem.W.Frag} {Z Z' : Hp} {vs : List V} {ds : List PyData} (h : DDs K Z vs ds) (s : Same Z Z') : DDs K Z' vs ds := dds_mono s ds vs h
theorem dds_len {K : PySem.W.Frag} {Z : Hp} : ∀ {vs : List V} {ds : List PyData}, DDs K Z vs ds → vs.length = ds.length
  | _, [], h => by cases h; rfl
  | _, d :: ds, h => by
    cases h with
    | cons h1 h2 => rw [List.length_cons, List.length_cons, dds_len h2]
theorem dds_get {K : PySem.W.Frag} {Z : Hp} : ∀ {vs : List V} {ds : List PyData} {i : Nat} {d : PyData}, DDs K Z vs ds → ds[i]? = some d → ∃ v, vs[i]? = some v ∧ DD K Z v d
  | _, [], _, _, h, e => by simp at e
  | _, d :: ds, 0, _, h, e => by
    cases h with
    | cons h1 h2 => simp at e; subst e; exact ⟨_, rfl, h1⟩
  | _, d :: ds, i + 1, _, h, e => by
    cases h with
    | cons h1 h2 =>
      obtain ⟨v, e1, e2⟩ := dds_get (i := i) h2 (by simpa using e)
      exact ⟨v, by simpa using e1, e2⟩
theorem dds_get' {K : PySem.W.Frag} {Z : Hp} {vs : List V} {ds : List PyData} {i : Nat} {v : V} (h : DDs K Z vs ds) (e : vs[i]? = some v) : ∃ d, ds[i]? = some d ∧ DD K Z v d := by
  have hl := dds_len h
  obtain ⟨hi, _⟩ := List.getElem?_eq_some_iff.mp e
  obtain ⟨w, e1, e2⟩ := dds_get h (List.getElem?_eq_getElem (show i < ds.length by omega))
  rw [e] at e1
  cases e1
  exact ⟨_, List.getElem?_eq_getElem (show i < ds.length by omega), e2⟩
theorem dds_app {K : PySem.W.Frag} {Z : Hp} : ∀ {vs : List V} {ds : List PyData} {ws : List V} {es : List PyData}, DDs K Z vs ds → DDs K Z ws es → DDs K Z (vs ++ ws) (ds ++ es)
  | _, [], _, _, h, g => by cases h; exact g
  | _, d :: ds, _, _, h, g => by
    cases h with
    | cons h1 h2 => exact .cons h1 (dds_app h2 g)
theorem dds_take {K : PySem.W.Frag} {Z : Hp} : ∀ (n : Nat) {vs : List V} {ds : List PyData}, DDs K Z vs ds → DDs K Z (vs.take n) (ds.take n)
  | 0, _, _, _ => .nil
  | n + 1, _, [], h => by cases h; exact .nil
  | n + 1, _, d :: ds, h => by
    cases h with
    | cons h1 h2 => exact .cons h1 (dds_take n h2)
theorem dds_drop {K : PySem.W.Frag} {Z : Hp} : ∀ (n : Nat) {vs : List V} {ds : List PyData}, DDs K Z vs ds → DDs K Z (vs.drop n) (ds.drop n)
  | 0, _, _, h => h
  | n + 1, _, [], h => by cases h; exact .nil
  | n + 1, _, d :: ds, h => by
    cases h with
    | cons h1 h2 => exact dds_drop n h2
theorem dds_erase {K : PySem.W.Frag} {Z : Hp} : ∀ (n : Nat) {vs : List V} {ds : List PyData}, DDs K Z vs ds → DDs K Z (vs.eraseIdx n) (ds.eraseIdx n)
  | _, _, [], h => by cases h; exact .nil
  | 0, _, d :: ds, h => by
    cases h with
    | cons h1 h2 => exact h2
  | n + 1, _, d :: ds, h => by
    cases h with
    | cons h1 h2 => exact .cons h1 (dds_erase n h2)
theorem dds_set {K : PySem.W.Frag} {Z : Hp} {v : V} {d : PyData} (hv : DD K Z v d) : ∀ (n : Nat) {vs : List V} {ds : List PyData}, DDs K Z vs ds → DDs K Z (vs.set n v) (ds.set n d)
  | _, _, [], h => by cases h; exact .nil
  | 0, _, _ :: ds, h => by
    cases h with
    | cons h1 h2 => exact .cons hv h2
  | n + 1, _, _ :: ds, h => by
    cases h with
    | cons h1 h2 => exact .cons h1 (dds_set hv n h2)

end
variable [Lab]
/-! ### slots as data -/
inductive DV where
  | fr (d : PyData) | ow (ds : List PyData) | rf (ds : List PyData) | dk (kvs : List (PyData × PyData)) | fn (n : Str)
abbrev DEnv := List (Option DV)
def ownish : DV → Bool
  | .fr _ => false
  | .fn _ => false
  | _ => true
structure Fm where
  Z0 : Hp
  G : Hp
  P : Addr → Prop
  W : Str → Option Addr → St → Hp → Prop
abbrev W0 : Str → Option Addr → St → Hp → Prop := fun _ _ _ _ => False
def SlotOk (K : PySem.W.Frag) (F : Fm) (Z H : Hp) (σ : St) (i : Nat) : DV → Prop
  | .fr d => ∃ v, σ[i]? = some (some v) ∧ DD K Z v d
  | .ow ds => ∃ p xs, σ[i]? = some (some (.ref p)) ∧ ¬ F.P p ∧ F.G p = none ∧ Z p = none ∧ H p = some (.lst xs) ∧ DDs K Z xs ds
  | .rf ds => ∃ p xs, σ[i]? = some (some (.ref p)) ∧ F.P p ∧ H p = some (.lst xs) ∧ DDs K Z xs ds
  | .fn n => σ[i]? = some (some (.ref (LabW.C n)))
  | .dk kvs => ∃ p o xs, σ[i]? = some (some (.ref p)) ∧ ¬ F.P p ∧ F.G p = none ∧ Z p = none ∧ H p = some (DnO p o) ∧ DnF LabW.w p o xs ∧ DDk K Z xs kvs
structure Rel (K : PySem.W.Frag) (F : Fm) (Z H : Hp) (σ : St) (env : DEnv) : Prop where
  z0 : Same F.Z0 Z
  zh : Same Z H
  gh : Same F.G H
  nw : ∀ q, Z q ≠ none → F.Z0 q ≠ none ∨ (F.G q = none ∧ ¬ F.P q)
  pp : ∀ q, F.P q → H q ≠ none ∧ Z q = none ∧ F.G q = none
  len : env.length = σ.length
  sl : ∀ (i : Nat) (dv : DV), env[i]? = some (some dv) → SlotOk K F Z H σ i dv
  inj : ∀ (i j : Nat) (di dj : DV) (p : Addr), env[i]? = some (some di) → env[j]? = some (some dj) → ownish di = true → ownish dj = true → σ[i]? = some (some (.ref p)) → σ[j]? = some (some (.ref p)) → i = j
  tb : TB H
/-- q is no owned slot's list -/
def Fre (σ : St) (env : DEnv) (q : Addr) : Prop := ∀ (i : Nat) (dv : DV), env[i]? = some (some dv) → ownish dv = true → σ[i]? ≠ some (some (V.ref q))
/-- one step of an expression: only owned slots' lists may change -/
structure Stp (σ : St) (env : DEnv) (Z H : Hp) (env' : DEnv) (Z' H' : Hp) : Prop where
  z : Same Z Z'
  h : ∀ q o, H q = some o → NT o → Fre σ env q → H' q = some o
  n : ∀ q, Z' q ≠ none → Z q = none → H q ≠ none → ¬ Fre σ env q
  o : ∀ (i : Nat) (dv : DV), env'[i]? = some (some dv) → ownish dv = true → ∃ dv0, env[i]? = some (some dv0) ∧ ownish dv0 = true
  k : ∀ q, H q ≠ none → H' q ≠ none
theorem Stp.new {σ : St} {env env' : DEnv} {Z H Z' H' : Hp} (s : Stp σ env Z H env' Z' H') {q : Addr} (h : H' q = none) : H q = none :=
  Classical.byContradiction fun z => s.k q z h
theorem Stp.refl {σ : St} {env : DEnv} {Z H : Hp} : Stp σ env Z H env Z H :=
  ⟨Same.refl Z, fun _ _ e _ _ => e, fun _ a b => absurd b a, fun _ dv e o => ⟨dv, e, o⟩, fun _ h => h⟩
theorem Stp.fre {σ : St} {env env' : DEnv} {Z H Z' H' : Hp} (s : Stp σ env Z H env' Z' H') {q : Addr} (f : Fre σ env q) : Fre σ env' q := fun i dv e o => by
  obtain ⟨dv0, e0, o0⟩ := s.o i dv e o
  exact f i dv0 e0 o0
theorem Stp.trans {σ : St} {e0 e1 e2 : DEnv} {Z0 H0 Z1 H1 Z2 H2 : Hp} (a : Stp σ e0 Z0 H0 e1 Z1 H1) (b : Stp σ e1 Z1 H1 e2 Z2 H2) : Stp σ e0 Z0 H0 e2 Z2 H2 := by
  refine ⟨a.z.trans b.z, fun q o e n f => b.h q o (a.h q o e n f) n (a.fre f), fun q h2 h0 hh f => ?_, fun i dv e o => ?_, fun q h => b.k q (a.k q h)⟩
  · by_cases hz : Z1 q = none
    · have h1 : H1 q ≠ none := a.k q hh
      exact b.n q h2 hz h1 (a.fre f)
    · exact a.n q hz h0 hh f
  · obtain ⟨d1, x, y⟩ := b.o i dv e o
    exact a.o i d1 x y
/-- what only lays new things -/
structure Grow (Z H Z' H' : Hp) : Prop where
  z : Same Z Z'
  zh : Same Z' H'
  h : Same H H'
  t : TB H → TB H'
  n : ∀ q, Z' q ≠ none → Z q ≠ none ∨ H q = none
theorem Grow.refl {Z H : Hp} (s : Same Z H) : Grow Z H Z H := ⟨Same.refl Z, s, Same.refl H, id, fun _ h => .inl h⟩
theorem Grow.trans {Z H Z1 H1 Z2 H2 : Hp} (a : Grow Z H Z1 H1) (b : Grow Z1 H1 Z2 H2) : Grow Z H Z2 H2 := by
  refine ⟨a.z.trans b.z, b.zh, a.h.trans b.h, fun t => b.t (a.t t), fun q h => ?_⟩
  rcases b.n q h with h | h
  · exact a.n q h
  · exact .inr (a.h.free h)
theorem Grow.stp {σ : St} {env : DEnv} {Z H Z' H' : Hp} (g : Grow Z H Z' H') : Stp σ env Z H env Z' H' := by
  refine ⟨g.z, fun q o e n _ => g.h.h q o e n, fun q h1 h2 h3 _ => ?_, fun _ dv e o => ⟨dv, e, o⟩, fun q hq hz => hq (g.h.free hz)⟩
  rcases g.n q h1 with h | h
  · exact h h2
  · exact h3 h
theorem Rel.grow {K : PySem.W.Frag} {F : Fm} {Z H Z' H' : Hp} {σ : St} {env : DEnv} (r : Rel K F Z H σ env) (g : Grow Z H Z' H') : Rel K F Z' H' σ env := by
  have keepn : ∀ p, Z p = none → H p ≠ none → Z' p = none := fun p hz hp => by
    cases hq : Z' p with
    | none => rfl
    | some o =>
      rcases g.n p (by rw [hq]; simp) with h | h
      · exact absurd hz h
      · exact absurd h hp
  refine ⟨r.z0.trans g.z, g.zh, r.gh.trans g.h, fun q h => ?_, fun q hq => ?_, r.len, fun i dv e => ?_, r.inj, g.t r.tb⟩
  · rcases g.n q h with h | h
    · exact r.nw q h
    · refine .inr ⟨r.gh.free h, fun hp => (r.pp q hp).1 h⟩
  · obtain ⟨a, b, c⟩ := r.pp q hq
    exact ⟨g.h.k q a, keepn q b a, c⟩
  · have s := r.sl i dv e
    cases dv with
    | fr d =>
      obtain ⟨v, e1, e2⟩ := s
      exact ⟨v, e1, DDm e2 g.z⟩
    | ow ds =>
      obtain ⟨p, xs, e1, e2, e3, e4, e5, e6⟩ := s
      exact ⟨p, xs, e1, e2, e3, keepn p e4 (by rw [e5]; simp), g.h.h _ _ e5 nt_lst, DDsm e6 g.z⟩
    | rf ds =>
      obtain ⟨p, xs, e1, e2, e5, e6⟩ := s
      exact ⟨p, xs, e1, e2, g.h.h _ _ e5 nt_lst, DDsm e6 g.z⟩
    | fn n => exact s
    | dk kvs =>
      obtain ⟨p, o, xs, e1, e2, e3, e4, e5, e6, e7⟩ := s
      exact ⟨p, o, xs, e1, e2, e3, keepn p e4 (by rw [e5]; simp), g.h.h _ _ e5 nt_exo, e6, ddk_mono g.z _ _ e7⟩
theorem same_upd2 {Z H : Hp} (s : Same Z H) (p : Addr) (o : HO) : Same (upd Z p o) (upd H p o) := by
  refine ⟨fun b x e n => ?_, fun b e => ?_⟩
  · by_cases hb : b = p
    · subst hb; rw [upd_same] at e ⊢; exact e
    · rw [upd_ne hb] at e ⊢; exact s.h b x e n
  · by_cases hb : b = p
    · subst hb; rw [upd_same]; simp
    · rw [upd_ne hb] at e ⊢; exact s.k b e
/-- a new frozen object -/
theorem grow_new {Z H : Hp} (s : Same Z H) {p : Addr} (h : H p = none) (o : HO) : Grow Z H (upd Z p o) (upd H p o) := by
  have hz : Z p = none := s.free h
  refine ⟨.of (same_new hz o), same_upd2 s p o, .of (same_new h o), fun t => t.ext (same_new h o), fun q hq => ?_⟩
  by_cases hb : q = p
  · subst hb; exact .inr h
  · rw [upd_ne hb] at hq; exact .inl hq
/-- what a callee may do to the list at p -/
structure Pok (Z H : Hp) (p : Addr) (Z' H' : Hp) : Prop where
  z : Same Z Z'
  zh : Same Z' H'
  h : ∀ q o, q ≠ p → H q = some o → NT o → H' q = some o
  k : ∀ q, q ≠ p → H q ≠ none → H' q ≠ none
  t : TB H → TB H'
  n : ∀ q, Z' q ≠ none → Z q ≠ none ∨ H q = none
theorem new_tup {K : PySem.W.Frag} {Z H : Hp} (s : Same Z H) {p : Addr} (h : H p = none) {xs : List V} {ds : List PyData} (a : DDs K Z xs ds) : DD K (upd Z p (.tup xs)) (.ref p) (.tuple ds) :=
  .tup (SqT.of upd_same) (DDsm a (grow_new s h (.tup xs)).z)
theorem new_lst {K : PySem.W.Frag} {Z H : Hp} (s : Same Z H) {p : Addr} (h : H p = none) {xs : List V} {ds : List PyData} (a : DDs K Z xs ds) : DD K (upd Z p (.lst xs)) (.ref p) (.list ds) :=
  .lst (.inl (Rd.of upd_same)) (DDsm a (grow_new s h (.lst xs)).z)

/-! ### reading a slot -/
def rdF (i : Nat) (env : DEnv) : Option (PyData × DEnv) := match env[i]? with
  | some (some (.fr d)) => some (d, env)
  | some (some (.ow ds)) => some (.list ds, env.set i (some (.fr (.list ds))))
  | some (some (.dk kvs)) => some (.dict kvs, env.set i (some (.fr (.dict kvs))))
  | _ => none
/-- the data that stands in a slot, whatever its kind -/
def rdB (i : Nat) (env : DEnv) : Option PyData := match env[i]? with
  | some (some (.fr d)) => some d
  | some (some (.ow ds)) => some (.list ds)
  | some (some (.rf ds)) => some (.list ds)
  | some (some (.dk kvs)) => some (.dict kvs)
  | _ => none
theorem get_set_some {env : DEnv} {i j : Nat} {x : Option DV} {dv : DV} (h : (env.set i x)[j]? = some (some dv)) : (j = i ∧ x = some dv) ∨ (j ≠ i ∧ env[j]? = some (some dv)) := by
  by_cases e : i = j
  · subst e
    by_cases hl : i < env.length
    · rw [List.getElem?_set_self hl] at h
      exact .inl ⟨rfl, Option.some.inj h⟩
    · rw [List.getElem?_eq_none (by rw [List.length_set]; omega)] at h
      cases h
  · rw [List.getElem?_set_ne e] at h
    exact .inr ⟨fun z => e z.symm, h⟩
theorem Rel.freezeG {K : PySem.W.Frag} {F : Fm} {Z H : Hp} {σ : St} {env : DEnv} {i : Nat} {dv0 : DV} {p : Addr} {u : HO} {d : PyData} (r : Rel K F Z H σ env) (e : env[i]? = some (some dv0)) (hown : ownish dv0 = true) (e1 : σ[i]? = some (some (.ref p))) (e2 : ¬ F.P p) (e3 : F.G p = none) (e4 : Z p = none) (e5 : H p = some u) (hd : DD K (upd Z p u) (.ref p) d) :
    ∃ Z' v, Rel K F Z' H σ (env.set i (some (.fr d))) ∧ Stp σ env Z H (env.set i (some (.fr d))) Z' H ∧ σ[i]? = some (some v) ∧ DD K Z' v d := by
  have hZ : Same Z (upd Z p u) := .of (same_new e4 _)
  refine ⟨upd Z p u, .ref p, ⟨r.z0.trans hZ, ⟨fun b x q n => ?_, fun b q => ?_⟩, r.gh, fun q hq => ?_, fun q hq => ?_, by rw [List.length_set]; exact r.len, fun j dv ej => ?_, fun j k dj dk q ej ek oj ok sj sk => ?_, r.tb⟩, ⟨hZ, fun _ _ q _ _ => q, fun q h1 h2 _ f => ?_, fun j dv ej oj => ?_, fun _ h => h⟩, e1, hd⟩
  · by_cases hb : b = p
    · subst hb; rw [upd_same] at q; cases q; exact e5
    · rw [upd_ne hb] at q; exact r.zh.h b x q n
  · by_cases hb : b = p
    · subst hb; rw [e5]; simp
    · rw [upd_ne hb] at q; exact r.zh.k b q
  · by_cases hb : q = p
    · subst hb; exact .inr ⟨e3, e2⟩
    · rw [upd_ne hb] at hq; exact r.nw q hq
  · obtain ⟨a, b, c⟩ := r.pp q hq
    refine ⟨a, ?_, c⟩
    rw [upd_ne (show q ≠ p from fun z => e2 (by rw [← z]; exact hq))]; exact b
  · rcases get_set_some ej with ⟨rfl, ex⟩ | ⟨hne, ex⟩
    · cases ex
      exact ⟨.ref p, e1, hd⟩
    · have s := r.sl j dv ex
      cases dv with
      | fr d => obtain ⟨v, a, b⟩ := s; exact ⟨v, a, DDm b hZ⟩
      | ow es =>
        obtain ⟨p', xs', a1, a2, a3, a4, a5, a6⟩ := s
        have hp : p' ≠ p := fun z => hne (r.inj j i _ _ p ex e rfl hown (z ▸ a1) e1)
        exact ⟨p', xs', a1, a2, a3, by rw [upd_ne hp]; exact a4, a5, DDsm a6 hZ⟩
      | rf es =>
        obtain ⟨p', xs', a1, a2, a5, a6⟩ := s
        exact ⟨p', xs', a1, a2, a5, DDsm a6 hZ⟩
      | fn n => exact s
      | dk es =>
        obtain ⟨p', o', xs', a1, a2, a3, a4, a5, a6, a7⟩ := s
        have hp : p' ≠ p := fun z => hne (r.inj j i _ _ p ex e rfl hown (z ▸ a1) e1)
        exact ⟨p', o', xs', a1, a2, a3, by rw [upd_ne hp]; exact a4, a5, a6, ddk_mono hZ _ _ a7⟩
  · rcases get_set_some ej with ⟨rfl, ex⟩ | ⟨_, ex⟩
    · cases ex; cases oj
    · rcases get_set_some ek with ⟨rfl, ey⟩ | ⟨_, ey⟩
      · cases ey; cases ok
      · exact r.inj j k dj dk q ex ey oj ok sj sk
  · by_cases hb : q = p
    · subst hb; exact f i _ e hown e1
    · rw [upd_ne hb] at h1; exact h1 h2
  · rcases get_set_some ej with ⟨rfl, ex⟩ | ⟨_, ex⟩
    · cases ex; cases oj
    · exact ⟨dv, ex, oj⟩
theorem Rel.freeze {K : PySem.W.Frag} {F : Fm} {Z H : Hp} {σ : St} {env : DEnv} {i : Nat} {ds : List PyData} (r : Rel K F Z H σ env) (e : env[i]? = some (some (.ow ds))) :
    ∃ Z' v, Rel K F Z' H σ (env.set i (some (.fr (.list ds)))) ∧ Stp σ env Z H (env.set i (some (.fr (.list ds)))) Z' H ∧ σ[i]? = some (some v) ∧ DD K Z' v (.list ds) := by
  obtain ⟨p, xs, e1, e2, e3, e4, e5, e6⟩ := r.sl i _ e
  exact r.freezeG e rfl e1 e2 e3 e4 e5 (.lst (.inl (Rd.of upd_same)) (DDsm e6 (.of (same_new e4 _))))
theorem Rel.freezeK {K : PySem.W.Frag} {F : Fm} {Z H : Hp} {σ : St} {env : DEnv} {i : Nat} {kvs : List (PyData × PyData)} (r : Rel K F Z H σ env) (e : env[i]? = some (some (.dk kvs))) :
    ∃ Z' v, Rel K F Z' H σ (env.set i (some (.fr (.dict kvs)))) ∧ Stp σ env Z H (env.set i (some (.fr (.dict kvs)))) Z' H ∧ σ[i]? = some (some v) ∧ DD K Z' v (.dict kvs) := by
  obtain ⟨p, o, xs, e1, e2, e3, e4, e5, e6, e7⟩ := r.sl i _ e
  exact r.freezeG e rfl e1 e2 e3 e4 e5 (.dcn upd_same e6 (ddk_mono (.of (same_new e4 _)) _ _ e7))
theorem Rel.rdF {K : PySem.W.Frag} {F : Fm} {Z H : Hp} {σ : St} {env env' : DEnv} {i : Nat} {d : PyData} (r : Rel K F Z H σ env) (h : DL.rdF i env = some (d, env')) :
    ∃ Z' v, Rel K F Z' H σ env' ∧ Stp σ env Z H env' Z' H ∧ σ[i]? = some (some v) ∧ DD K Z' v d := by
  unfold DL.rdF at h
  split at h
  · rename_i d' e
    cases h
    obtain ⟨v, e1, e2⟩ := r.sl i _ e
    exact ⟨Z, v, r, Stp.refl, e1, e2⟩
  · rename_i ds e
    cases h
    exact r.freeze e
  · rename_i kvs e
    cases h
    exact r.freezeK e
  · cases h
/-- what a slot's list is at this moment -/
theorem Rel.rdB {K : PySem.W.Frag} {F : Fm} {Z H : Hp} {σ : St} {env : DEnv} {i : Nat} {d : PyData} (r : Rel K F Z H σ env) (h : DL.rdB i env = some d) : ∃ v, σ[i]? = some (some v) ∧ DD K H v d := by
  unfold DL.rdB at h
  split at h
  · rename_i d' e
    cases h
    obtain ⟨v, e1, e2⟩ := r.sl i _ e
    exact ⟨v, e1, DDm e2 r.zh⟩
  · rename_i ds e
    cases h
    obtain ⟨p, xs, e1, e2, e3, e4, e5, e6⟩ := r.sl i _ e
    exact ⟨.ref p, e1, .lst (.inl (Rd.of e5)) (DDsm e6 r.zh)⟩
  · rename_i ds e
    cases h
    obtain ⟨p, xs, e1, e2, e5, e6⟩ := r.sl i _ e
    exact ⟨.ref p, e1, .lst (.inl (Rd.of e5)) (DDsm e6 r.zh)⟩
  · rename_i kvs e
    cases h
    obtain ⟨p, o, xs, e1, e2, e3, e4, e5, e6, e7⟩ := r.sl i _ e
    exact ⟨.ref p, e1, .dcn e5 e6 (ddk_mono r.zh _ _ e7)⟩
  · cases h
end DL
end L2


set_option Elab.async false
set_option maxRecDepth 100000
set_option maxHeartbeats 4000000
set_option autoImplicit false
namespace L2
namespace DL
open PySem PySem.Spec PyProof.Rows
variable [Lab]
abbrev lim : Nat := 100000
theorem lim_le : lim ≤ sizeLine := by decide
/-! ### readings -/
def tD (K : PySem.W.Frag) (F : Fm) (f : DEnv → Option (PyData × DEnv)) : TE := fun σ H Q => ∃ Z env d env', Rel K F Z H σ env ∧ f env = some (d, env') ∧ ∀ v Z' H', Rel K F Z' H' σ env' → Stp σ env Z H env' Z' H' → DD K Z' v d → Q v H'
def tDT (K : PySem.W.Frag) (F : Fm) (f : DEnv → Option (Bool × DEnv)) : TT := fun σ H Q => ∃ Z env d env', Rel K F Z H σ env ∧ f env = some (d, env') ∧ ∀ Z' H', Rel K F Z' H' σ env' → Stp σ env Z H env' Z' H' → Q d H'
def tDA (K : PySem.W.Frag) (F : Fm) (f : DEnv → Option (List PyData × DEnv)) : TA := fun σ H Q => ∃ Z env ds env', Rel K F Z H σ env ∧ f env = some (ds, env') ∧ ∀ vs Z' H', Rel K F Z' H' σ env' → Stp σ env Z H env' Z' H' → DDs K Z' vs ds → Q vs H'
def tDN (K : PySem.W.Frag) (F : Fm) (f : DEnv → Option (List PyData × DEnv)) : TE := fun σ H Q => ∃ Z env ds env', Rel K F Z H σ env ∧ f env = some (ds, env') ∧ ∀ p xs Z' H', Rel K F Z' H' σ env' → Stp σ env Z H env' Z' H' → H p = none → Z' p = none → H' p = some (.lst xs) → DDs K Z' xs ds → Q (.ref p) H'
def PD (X : Cx) (F : Fm) (e : Expr) (f : DEnv → Option (PyData × DEnv)) : Prop := PE X e (tD X.K F f)
def PN (X : Cx) (F : Fm) (e : Expr) (f : DEnv → Option (List PyData × DEnv)) : Prop := PE X e (tDN X.K F f)
def PDT (X : Cx) (F : Fm) (e : Expr) (f : DEnv → Option (Bool × DEnv)) : Prop := PT X e (tDT X.K F f)
def PDW (X : Cx) (F : Fm) (e : Expr) (f : DEnv → Option (Bool × DEnv)) : Prop := PW X e (tDT X.K F f)
def PDA (X : Cx) (F : Fm) (es : List Expr) (f : DEnv → Option (List PyData × DEnv)) : Prop := PA X es (tDA X.K F f)
theorem pe_imp {X : Cx} {e : Expr} {t t' : TE} (h : PE X e t) (w : ∀ σ H Q, t' σ H Q → t σ H Q) : PE X e t' := ⟨fun pins s σ H Q I q => h.run pins s σ H Q I (w σ H Q q)⟩
theorem pt_imp {X : Cx} {e : Expr} {t t' : TT} (h : PT X e t) (w : ∀ σ H Q, t' σ H Q → t σ H Q) : PT X e t' := ⟨fun pins s σ H Q I q => h.run pins s σ H Q I (w σ H Q q)⟩
theorem pw_imp {X : Cx} {e : Expr} {t t' : TT} (h : PW X e t) (w : ∀ σ H Q, t' σ H Q → t σ H Q) : PW X e t' := ⟨fun wh pins s σ H Q I q => h.run wh pins s σ H Q I (w σ H Q q)⟩
theorem pa_imp {X : Cx} {es : List Expr} {t t' : TA} (h : PA X es t) (w : ∀ σ H Q, t' σ H Q → t σ H Q) : PA X es t' := ⟨fun pos pins s σ H Q I q => h.run pos pins s σ H Q I (w σ H Q q)⟩
theorem ps_imp {X : Cx} {e : Stmt} {t t' : TS} (h : PS X e t) (w : ∀ D σ H, t' D σ H → t D σ H) : PS X e t' := ⟨fun pins s σ H D I q => h.run pins s σ H D I (w D σ H q)⟩
theorem pss_imp {X : Cx} {e : List Stmt} {t t' : TS} (h : PSs X e t) (w : ∀ D σ H, t' D σ H → t D σ H) : PSs X e t' := ⟨fun pins s σ H D I q => h.run pins s σ H D I (w D σ H q)⟩
theorem bnd {α β : Type} {o : Option α} {f : α → Option β} {b : β} (h : o.bind f = some b) : ∃ a, o = some a ∧ f a = some b := Option.bind_eq_some_iff.mp h
theorem mpd {α β : Type} {o : Option α} {f : α → β} {b : β} (h : o.map f = some b) : ∃ a, o = some a ∧ f a = b := Option.map_eq_some_iff.mp h

/-- a temporary list is frozen -/
theorem Rel.frzT {K : PySem.W.Frag} {F : Fm} {Z H H0 Z0 : Hp} {σ : St} {env env0 : DEnv} {p : Addr} {xs : List V} {ds : List PyData} (r0 : Rel K F Z0 H0 σ env0) (r : Rel K F Z H σ env) (s : Stp σ env0 Z0 H0 env Z H) (h0 : H0 p = none) (hz : Z p = none) (hp : H p = some (.lst xs)) (hd : DDs K Z xs ds) :
    Rel K F (upd Z p (.lst xs)) H σ env ∧ Stp σ env0 Z0 H0 env (upd Z p (.lst xs)) H ∧ DD K (upd Z p (.lst xs)) (.ref p) (.list ds) := by
  have hZ : Same Z (upd Z p (.lst xs)) := .of (same_new hz _)
  have fr0 : Fre σ env0 p := fun i dv e o hh => by
    have sl := r0.sl i dv e
    cases dv with
    | fr d => cases o
    | ow es => obtain ⟨p', xs', a1, _, _, _, a5, _⟩ := sl; rw [hh] at a1; cases a1; rw [h0] at a5; cases a5
    | rf es => obtain ⟨p', xs', a1, _, a5, _⟩ := sl; rw [hh] at a1; cases a1; rw [h0] at a5; cases a5
    | fn n => cases o
    | dk es => obtain ⟨p', o', xs', a1, _, _, _, a5, _⟩ := sl; rw [hh] at a1; cases a1; rw [h0] at a5; cases a5
  have fr := s.fre fr0
  have np : ¬ F.P p := fun z => (r0.pp p z).1 h0
  have ng : F.G p = none := r0.gh.free h0
  refine ⟨⟨r.z0.trans hZ, ⟨fun b x q n => ?_, fun b q => ?_⟩, r.gh, fun q hq => ?_, fun q hq => ?_, r.len, fun i dv e => ?_, r.inj, r.tb⟩, ⟨s.z.trans hZ, s.h, fun q h1 h2 h3 f => ?_, s.o, s.k⟩, .lst (.inl (Rd.of upd_same)) (DDsm hd hZ)⟩
  · by_cases hb : b = p
    · subst hb; rw [upd_same] at q; cases q; exact hp
    · rw [upd_ne hb] at q; exact r.zh.h b x q n
  · by_cases hb : b = p
    · subst hb; rw [hp]; simp
    · rw [upd_ne hb] at q; exact r.zh.k b q
  · by_cases hb : q = p
    · subst hb; exact .inr ⟨ng, np⟩
    · rw [upd_ne hb] at hq; exact r.nw q hq
  · obtain ⟨a, b, c⟩ := r.pp q hq
    refine ⟨a, ?_, c⟩
    rw [upd_ne (show q ≠ p from fun z => np (by rw [← z]; exact hq))]; exact b
  · have sl := r.sl i dv e
    cases dv with
    | fr d => obtain ⟨v, a, b⟩ := sl; exact ⟨v, a, DDm b hZ⟩
    | ow es =>
      obtain ⟨p', xs', a1, a2, a3, a4, a5, a6⟩ := sl
      have hpp : p' ≠ p := fun z => fr i _ e rfl (z ▸ a1)
      exact ⟨p', xs', a1, a2, a3, by rw [upd_ne hpp]; exact a4, a5, DDsm a6 hZ⟩
    | rf es =>
      obtain ⟨p', xs', a1, a2, a5, a6⟩ := sl
      exact ⟨p', xs', a1, a2, a5, DDsm a6 hZ⟩
    | fn n => exact sl
    | dk es =>
      obtain ⟨p', o', xs', a1, a2, a3, a4, a5, a6, a7⟩ := sl
      have hpp : p' ≠ p := fun z => fr i _ e rfl (z ▸ a1)
      exact ⟨p', o', xs', a1, a2, a3, by rw [upd_ne hpp]; exact a4, a5, a6, ddk_mono hZ _ _ a7⟩
  · by_cases hb : q = p
    · subst hb; exact h3 h0
    · rw [upd_ne hb] at h1; exact s.n q h1 h2 h3 f

section
variable {X : Cx} {F : Fm} {a b c e : Expr} {es : List Expr} {pos p : Pos} {f g k : DEnv → Option (PyData × DEnv)} {fa : DEnv → Option (List PyData × DEnv)} {ft gt : DEnv → Option (Bool × DEnv)}

/-! ### names and constants -/
theorem pd_name (i : Nat) {x : Str} (hN : X.N[i]? = some x := by rfl) (hv : Vis X.env.scope x := by first | exact Or.inl rfl | exact Or.inr (Or.inl rfl) | exact Or.inr (Or.inr rfl)) (hd : (x == ("__debug__" : Str)) = false := by decide)
    (hcd : (x == ("__classdict__" : Str)) = false := by decide) : PD X F (.Name x pos) (rdF i) :=
  pe_imp (pe_var hN hv hd hcd) fun σ H Q ⟨Z, env, d, env', r, e, q⟩ => by
    obtain ⟨Z', v, r', s', e1, e2⟩ := r.rdF e
    exact ⟨v, e1, q v Z' H r' s' e2⟩
def fC (d : PyData) (env : DEnv) : Option (PyData × DEnv) := some (d, env)
theorem pd_const {v : V} {d : PyData} (h : PE X e (tC v)) (hd : ∀ Z, DD X.K Z v d) : PD X F e (fC d) :=
  pe_imp h fun σ H Q ⟨Z, env, d', env', r, e, q⟩ => by
    cases e
    exact q v Z H r Stp.refl (hd Z)
theorem pd_int {i j} : PD X F (.Constant (.int i) j pos) (fC (.int i)) := pd_const pe_int fun _ => .int i
theorem pd_bl {i j} : PD X F (.Constant (.bool i) j pos) (fC (.bool i)) := pd_const pe_bl fun _ => .bl i
theorem pd_non {j} : PD X F (.Constant .none j pos) (fC .none) := pd_const pe_non fun _ => .non
theorem pd_str {i j} : PD X F (.Constant (.str i) j pos) (fC (.str i)) := pd_const pe_str fun _ => .str i
/-- a global constant -/
theorem pd_glob {x : Str} {v : V} {u : Value} {d : PyData} (hm : X.mg x = some u) (r : RelV v u) (hd : ∀ Z, DD X.K Z v d) (hg : Gl X x := by rfl) (hdb : (x == ("__debug__" : Str)) = false := by decide) : PD X F (.Name x pos) (fC d) :=
  pd_const (pe_glob hg hm r hdb) hd

/-! ### binary operators, comparisons -/
def r2D (K : PySem.W.Frag) (o : PyData → PyData → Option PyData) : R2 := fun x y H Q => ∃ Z a b d, Same Z H ∧ DD K Z x a ∧ DD K Z y b ∧ o a b = some d ∧ ∀ v Z' H', Grow Z H Z' H' → DD K Z' v d → Q v H'
def OpD (X : Cx) (op : Value → Value → Sem Value) (o : PyData → PyData → Option PyData) : Prop := OpR X op (r2D X.K o)
def fBin (o : PyData → PyData → Option PyData) (f g : DEnv → Option (PyData × DEnv)) (env : DEnv) : Option (PyData × DEnv) := (f env).bind fun x => (g x.2).bind fun y => (o x.1 y.1).map fun d => (d, y.2)
theorem bin_read {K : PySem.W.Frag} {o : PyData → PyData → Option PyData} {σ : St} {H : Hp} {Q : VK} (h : tD K F (fBin o f g) σ H Q) : tOp (r2D K o) (tD K F f) (tD K F g) σ H Q := by
  obtain ⟨Z, env, d, env', r, e, q⟩ := h
  obtain ⟨⟨x, e1⟩, h1, h⟩ := bnd e
  obtain ⟨⟨y, e2⟩, h2, h⟩ := bnd h
  obtain ⟨d', h3, h⟩ := mpd h
  cases h
  refine ⟨Z, env, x, e1, r, h1, fun v1 Z1 H1 r1 s1 d1 => ⟨Z1, e1, y, e2, r1, h2, fun v2 Z2 H2 r2 s2 d2 => ?_⟩⟩
  refine ⟨Z2, x, y, d, r2.zh, DDm d1 s2.z, d2, h3, fun v Z' H' gr dd => ?_⟩
  exact q v Z' H' (r2.grow gr) ((s1.trans s2).trans gr.stp) dd
theorem pd_bin {op : Operator} {o : PyData → PyData → Option PyData} (ho : OpD X (binaryOp op) o) (ha : PD X F a f) (hb : PD X F b g) : PD X F (.BinOp a op b pos) (fBin o f g) :=
  pe_imp (pe_op ho ha hb) fun _ _ _ h => bin_read h
theorem pd_cmp {op : CmpOp} {o : PyData → PyData → Option PyData} (ho : OpD X (compareOp op) o) (ha : PD X F a f) (hb : PD X F b g) (hm : behindInMarks op b = false := by first | exact nomark _ | rfl) : PD X F (.Compare a [op] [b] pos) (fBin o f g) :=
  pe_imp (pe_cmpR ho ha hb hm) fun _ _ _ h => bin_read h
/-- the right one a name: its list as it stands -/
def fCmpN (o : PyData → PyData → Option PyData) (f : DEnv → Option (PyData × DEnv)) (i : Nat) (env : DEnv) : Option (PyData × DEnv) := (f env).bind fun x => (rdB i x.2).bind fun y => (o x.1 y).map fun d => (d, x.2)
def scalD : PyData → Bool
  | .none => true
  | .bool _ => true
  | .int _ => true
  | .str _ => true
  | _ => false
theorem DD.scal {K : PySem.W.Frag} {Z Z' : Hp} {v : V} {d : PyData} (h : DD K Z v d) (s : scalD d = true) : DD K Z' v d := by
  cases h with
  | non => exact .non
  | bl b => exact .bl b
  | int i => exact .int i
  | str x => exact .str x
  | lst _ _ => cases s
  | tup _ _ => cases s
  | dct _ _ => cases s
  | dcn _ _ _ => cases s
  | exc _ _ _ _ _ => cases s
  | exn _ _ => cases s
theorem pd_cmpN {op : CmpOp} {o : PyData → PyData → Option PyData} (ho : OpD X (compareOp op) o) (hs : ∀ a b d, o a b = some d → scalD d = true) (ha : PD X F a f) (i : Nat) {x : Str} (hm : behindInMarks op (.Name x p) = false := by first | exact nomark _ | rfl)
    (hN : X.N[i]? = some x := by rfl) (hv : Vis X.env.scope x := by first | exact Or.inl rfl | exact Or.inr (Or.inl rfl) | exact Or.inr (Or.inr rfl)) (hd : (x == ("__debug__" : Str)) = false := by decide)
    (hcd : (x == ("__classdict__" : Str)) = false := by decide) : PD X F (.Compare a [op] [.Name x p] pos) (fCmpN o f i) :=
  pe_imp (pe_cmpR ho ha (pe_var hN hv hd hcd) hm) fun σ H Q h => by
    obtain ⟨Z, env, d, env', r, e, q⟩ := h
    obtain ⟨⟨x, e1⟩, h1, h⟩ := bnd e
    obtain ⟨y, h2, h⟩ := bnd h
    obtain ⟨d', h3, h⟩ := mpd h
    cases h
    refine ⟨Z, env, x, e1, r, h1, fun v1 Z1 H1 r1 s1 d1 => ?_⟩
    obtain ⟨v, ev, dv⟩ := r1.rdB h2
    refine ⟨v, ev, H1, x, y, d, Same.refl H1, DDm d1 r1.zh, dv, h3, fun v' Z' H' gr dd => ?_⟩
    have gr' : Grow Z1 H1 Z1 H' := ⟨Same.refl _, r1.zh.trans gr.h, gr.h, gr.t, fun _ z => .inl z⟩
    exact q v' Z1 H' (r1.grow gr') (s1.trans gr'.stp) (dd.scal (hs _ _ _ h3))

/-! ### tests -/
def truthD : PyData → Option Bool
  | .none => some false
  | .bool b => some b
  | .int i => some (i != 0)
  | .str x => if x.length ≤ lim then some (x.length != 0) else none
  | .list xs => some (!xs.isEmpty)
  | .tuple xs => some (!xs.isEmpty)
  | _ => none
theorem truth_ok {K : PySem.W.Frag} {H : Hp} {v : V} {d : PyData} {k : Bool} (h : DD K H v d) (e : truthD d = some k) : TruV K v H k := by
  cases h with
  | non => cases e; exact rfl
  | bl b => cases e; exact rfl
  | int i => cases e; exact rfl
  | str x =>
    change (if x.length ≤ lim then some (x.length != 0) else none) = some k at e
    by_cases hx : x.length ≤ lim
    · rw [if_pos hx] at e
      cases e
      refine ⟨Nat.le_trans hx lim_le, ?_⟩
      by_cases h0 : x.length = 0
      · rw [h0]; rfl
      · have h1 : (x.length != 0) = true := by simpa using h0
        have h2 : (((x.length : Nat) : Int) != 0) = true := by simpa using h0
        rw [h1, h2]
    · rw [if_neg hx] at e
      cases e
  | @lst a xs ds hr ha =>
    cases e
    refine .inl ⟨xs, hr.sq, ?_⟩
    have := dds_len ha
    cases xs <;> cases ds <;> simp_all
  | @tup a xs ds hr ha =>
    cases e
    refine .inr (.inl ⟨xs, hr, ?_⟩)
    have := dds_len ha
    cases xs <;> cases ds <;> simp_all
  | dct _ _ => cases e
  | dcn _ _ _ => cases e
  | exc _ _ _ _ _ => cases e
  | exn _ _ => cases e
def fTst (f : DEnv → Option (PyData × DEnv)) (env : DEnv) : Option (Bool × DEnv) := (f env).bind fun x => (truthD x.1).map fun k => (k, x.2)
theorem pdt_val (ha : PD X F a f) (he : ∀ whole, isTrue a X.env whole = (do let v ← whole; standAt a.pos; holding [v] (truthy v)) := by intro _; rfl) : PDT X F a (fTst f) :=
  pt_imp (pt_truth ha he) fun σ H Q h => by
    obtain ⟨Z, env, d, env', r, e, q⟩ := h
    obtain ⟨⟨x, e1⟩, h1, h⟩ := bnd e
    obtain ⟨k, h2, h⟩ := mpd h
    cases h
    exact ⟨Z, env, x, e1, r, h1, fun v Z1 H1 r1 s1 d1 => ⟨d, truth_ok (DDm d1 r1.zh) h2, q Z1 H1 r1 s1⟩⟩
def fAnd (f g : DEnv → Option (Bool × DEnv)) (env : DEnv) : Option (Bool × DEnv) := (f env).bind fun x => if x.1 then g x.2 else some (false, x.2)
def fOr (f g : DEnv → Option (Bool × DEnv)) (env : DEnv) : Option (Bool × DEnv) := (f env).bind fun x => if x.1 then some (true, x.2) else g x.2
def fNot (f : DEnv → Option (Bool × DEnv)) (env : DEnv) : Option (Bool × DEnv) := (f env).map fun x => (!x.1, x.2)
variable {rest : List Expr}
theorem pdw_and1 (ha : PDT X F a ft) : PDW X F (.BoolOp .And [a] pos) ft := pw_and1 ha
theorem pdw_or1 (ha : PDT X F a ft) : PDW X F (.BoolOp .Or [a] pos) ft := pw_or1 ha
theorem and_read {K : PySem.W.Frag} {σ : St} {H : Hp} {Q : Bool → Hp → Prop} (h : tDT K F (fAnd ft gt) σ H Q) : tAnd (tDT K F ft) (tDT K F gt) σ H Q := by
  obtain ⟨Z, env, d, env', r, e, q⟩ := h
  obtain ⟨⟨x, e1⟩, h1, h⟩ := bnd e
  refine ⟨Z, env, x, e1, r, h1, fun Z1 H1 r1 s1 => ?_⟩
  cases x with
  | true => exact iteT ⟨Z1, e1, d, env', r1, h, fun Z2 H2 r2 s2 => q Z2 H2 r2 (s1.trans s2)⟩
  | false =>
    cases h
    exact iteF (q Z1 H1 r1 s1)
theorem or_read {K : PySem.W.Frag} {σ : St} {H : Hp} {Q : Bool → Hp → Prop} (h : tDT K F (fOr ft gt) σ H Q) : tOr (tDT K F ft) (tDT K F gt) σ H Q := by
  obtain ⟨Z, env, d, env', r, e, q⟩ := h
  obtain ⟨⟨x, e1⟩, h1, h⟩ := bnd e
  refine ⟨Z, env, x, e1, r, h1, fun Z1 H1 r1 s1 => ?_⟩
  cases x with
  | false => exact iteF ⟨Z1, e1, d, env', r1, h, fun Z2 H2 r2 s2 => q Z2 H2 r2 (s1.trans s2)⟩
  | true =>
    cases h
    exact iteT (q Z1 H1 r1 s1)
theorem pdw_and (ha : PDT X F a ft) (hb : PDW X F (.BoolOp .And (b :: rest) pos) gt) : PDW X F (.BoolOp .And (a :: b :: rest) pos) (fAnd ft gt) := pw_imp (pw_and ha hb) fun _ _ _ h => and_read h
theorem pdw_or (ha : PDT X F a ft) (hb : PDW X F (.BoolOp .Or (b :: rest) pos) gt) : PDW X F (.BoolOp .Or (a :: b :: rest) pos) (fOr ft gt) := pw_imp (pw_or ha hb) fun _ _ _ h => or_read h
theorem pdt_w (h : PDW X F a ft) : PDT X F a ft := h.pt
theorem pdt_not (ha : PDT X F a ft) : PDT X F (.UnaryOp .Not a pos) (fNot ft) := pt_imp (pt_not ha) fun σ H Q h => by
  obtain ⟨Z, env, d, env', r, e, q⟩ := h
  obtain ⟨⟨x, e1⟩, h1, h⟩ := mpd e
  cases h
  exact ⟨Z, env, x, e1, r, h1, fun Z1 H1 r1 s1 => q Z1 H1 r1 s1⟩
/-! ### and, or, not as values of bools; conditional expressions -/
def fAndV (f g : DEnv → Option (PyData × DEnv)) (env : DEnv) : Option (PyData × DEnv) := (f env).bind fun x => match x.1 with
  | .bool true => g x.2
  | .bool false => some (.bool false, x.2)
  | _ => none
def fOrV (f g : DEnv → Option (PyData × DEnv)) (env : DEnv) : Option (PyData × DEnv) := (f env).bind fun x => match x.1 with
  | .bool false => g x.2
  | .bool true => some (.bool true, x.2)
  | _ => none
def fNotV (f : DEnv → Option (PyData × DEnv)) (env : DEnv) : Option (PyData × DEnv) := (f env).bind fun x => match x.1 with
  | .bool b => some (.bool (!b), x.2)
  | _ => none
theorem pd_one {op} (h : PD X F a f) : PD X F (.BoolOp op [a] pos) f := pe_one h
theorem DD.bool_inv {K : PySem.W.Frag} {Z : Hp} {v : V} {k : Bool} (h : DD K Z v (.bool k)) : v = .bl k := by cases h; rfl
theorem DD.int_inv {K : PySem.W.Frag} {Z : Hp} {v : V} {k : Int} (h : DD K Z v (.int k)) : v = .int k := by cases h; rfl
theorem DD.str_inv {K : PySem.W.Frag} {Z : Hp} {v : V} {k : Str} (h : DD K Z v (.str k)) : v = .str k := by cases h; rfl
theorem pd_and (ha : PD X F a f) (hb : PD X F (.BoolOp .And (b :: rest) pos) g) : PD X F (.BoolOp .And (a :: b :: rest) pos) (fAndV f g) := pe_imp (pe_and ha hb) fun σ H Q h => by
  obtain ⟨Z, env, d, env', r, e, q⟩ := h
  obtain ⟨⟨x, e1⟩, h1, h⟩ := bnd e
  refine ⟨Z, env, x, e1, r, h1, fun v Z1 H1 r1 s1 d1 => ?_⟩
  dsimp only at h
  split at h
  · cases d1.bool_inv
    exact ⟨true, rfl, iteT ⟨Z1, e1, d, env', r1, h, fun v2 Z2 H2 r2 s2 d2 => q v2 Z2 H2 r2 (s1.trans s2) d2⟩⟩
  · cases d1.bool_inv
    cases h
    exact ⟨false, rfl, iteF (q _ Z1 H1 r1 s1 (.bl false))⟩
  · cases h
theorem pd_or (ha : PD X F a f) (hb : PD X F (.BoolOp .Or (b :: rest) pos) g) : PD X F (.BoolOp .Or (a :: b :: rest) pos) (fOrV f g) := pe_imp (pe_or ha hb) fun σ H Q h => by
  obtain ⟨Z, env, d, env', r, e, q⟩ := h
  obtain ⟨⟨x, e1⟩, h1, h⟩ := bnd e
  refine ⟨Z, env, x, e1, r, h1, fun v Z1 H1 r1 s1 d1 => ?_⟩
  dsimp only at h
  split at h
  · cases d1.bool_inv
    exact ⟨false, rfl, iteF ⟨Z1, e1, d, env', r1, h, fun v2 Z2 H2 r2 s2 d2 => q v2 Z2 H2 r2 (s1.trans s2) d2⟩⟩
  · cases d1.bool_inv
    cases h
    exact ⟨true, rfl, iteT (q _ Z1 H1 r1 s1 (.bl true))⟩
  · cases h
theorem pd_not (ha : PD X F a f) : PD X F (.UnaryOp .Not a pos) (fNotV f) := pe_imp (pe_not ha) fun σ H Q h => by
  obtain ⟨Z, env, d, env', r, e, q⟩ := h
  obtain ⟨⟨x, e1⟩, h1, h⟩ := bnd e
  refine ⟨Z, env, x, e1, r, h1, fun v Z1 H1 r1 s1 d1 => ?_⟩
  dsimp only at h
  split at h
  · rename_i k
    cases d1.bool_inv
    cases h
    exact ⟨k, rfl, q _ Z1 H1 r1 s1 (.bl _)⟩
  · cases h
def fIf (ft : DEnv → Option (Bool × DEnv)) (f g : DEnv → Option (PyData × DEnv)) (env : DEnv) : Option (PyData × DEnv) := (ft env).bind fun x => if x.1 then f x.2 else g x.2
theorem pd_if (hc : PDT X F c ft) (ha : PD X F a f) (hb : PD X F b g) : PD X F (.IfExp c a b pos) (fIf ft f g) := pe_imp (pe_ifExp hc ha hb) fun σ H Q h => by
  obtain ⟨Z, env, d, env', r, e, q⟩ := h
  obtain ⟨⟨x, e1⟩, h1, h⟩ := bnd e
  refine ⟨Z, env, x, e1, r, h1, fun Z1 H1 r1 s1 => ?_⟩
  cases x with
  | true => exact iteT ⟨Z1, e1, d, env', r1, h, fun v Z2 H2 r2 s2 d2 => q v Z2 H2 r2 (s1.trans s2) d2⟩
  | false => exact iteF ⟨Z1, e1, d, env', r1, h, fun v Z2 H2 r2 s2 d2 => q v Z2 H2 r2 (s1.trans s2) d2⟩

/-! ### argument lists, displays -/
def fNil (env : DEnv) : Option (List PyData × DEnv) := some ([], env)
def fCons (f : DEnv → Option (PyData × DEnv)) (fa : DEnv → Option (List PyData × DEnv)) (env : DEnv) : Option (List PyData × DEnv) := (f env).bind fun x => (fa x.2).map fun y => (x.1 :: y.1, y.2)
theorem pda_nil : PDA X F [] fNil := pa_imp pa_nil fun σ H Q h => by
  obtain ⟨Z, env, d, env', r, e, q⟩ := h
  cases e
  exact q [] Z H r Stp.refl .nil
theorem pda_cons (ha : PD X F e f) (hr : PDA X F es fa) (hs : starEach (e :: es) X.env = (false, eval e X.env) :: starEach es X.env := by rfl) : PDA X F (e :: es) (fCons f fa) := pa_imp (pa_cons ha hr hs) fun σ H Q h => by
  obtain ⟨Z, env, d, env', r, e, q⟩ := h
  obtain ⟨⟨x, e1⟩, h1, h⟩ := bnd e
  obtain ⟨⟨y, e2⟩, h2, h⟩ := mpd h
  cases h
  exact ⟨Z, env, x, e1, r, h1, fun v Z1 H1 r1 s1 d1 => ⟨Z1, e1, y, e2, r1, h2, fun vs Z2 H2 r2 s2 d2 => q (v :: vs) Z2 H2 r2 (s1.trans s2) (.cons (DDm d1 s2.z) d2)⟩⟩
def fTup (fa : DEnv → Option (List PyData × DEnv)) (env : DEnv) : Option (PyData × DEnv) := (fa env).bind fun x => if x.1.length ≤ lim then some (.tuple x.1, x.2) else none
theorem pd_tup {x1} (h : PDA X F es fa) : PD X F (.Tuple es x1 pos) (fTup fa) := pe_imp (pe_tup h) fun σ H Q h => by
  obtain ⟨Z, env, d, env', r, e, q⟩ := h
  obtain ⟨⟨x, e1⟩, h1, h⟩ := bnd e
  dsimp only at h
  split at h
  · rename_i hx
    cases h
    refine ⟨Z, env, x, env', r, h1, fun vs Z1 H1 r1 s1 d1 => ⟨?_, fun p hp => ?_⟩⟩
    · rw [dds_len d1]; exact Nat.le_trans hx lim_le
    · have gr := grow_new r1.zh hp (.tup vs)
      exact q (.ref p) _ _ (r1.grow gr) (s1.trans gr.stp) (new_tup r1.zh hp d1)
  · cases h
def fLst (fa : DEnv → Option (List PyData × DEnv)) (env : DEnv) : Option (List PyData × DEnv) := (fa env).bind fun x => if x.1.length ≤ lim then some x else none
/-- a list laid anew, not frozen -/
theorem grow_own {Z H : Hp} (s : Same Z H) {p : Addr} (h : H p = none) (o : HO) : Grow Z H Z (upd H p o) :=
  ⟨Same.refl Z, s.trans (.of (same_new h o)), .of (same_new h o), fun t => t.ext (same_new h o), fun _ z => .inl z⟩
theorem pn_lst (h : PDA X F es fa) : PN X F (.List es pos) (fLst fa) := pe_imp (pe_lst h) fun σ H Q h => by
  obtain ⟨Z, env, d, env', r, e, q⟩ := h
  obtain ⟨⟨x, e1⟩, h1, h⟩ := bnd e
  dsimp only at h
  split at h
  · rename_i hx
    cases h
    refine ⟨Z, env, d, env', r, h1, fun vs Z1 H1 r1 s1 d1 => ⟨?_, fun p hp => ?_⟩⟩
    · rw [dds_len d1]; exact Nat.le_trans hx lim_le
    · have gr := grow_own r1.zh hp (.lst vs)
      exact q p vs _ _ (r1.grow gr) (s1.trans gr.stp) (s1.new hp) (r1.zh.free hp) upd_same d1
  · cases h
def fFrz (fa : DEnv → Option (List PyData × DEnv)) (env : DEnv) : Option (PyData × DEnv) := (fa env).map fun x => (.list x.1, x.2)
theorem pn_pd (h : PN X F e fa) : PD X F e (fFrz fa) := pe_imp h fun σ H Q h => by
  obtain ⟨Z, env, d, env', r, e, q⟩ := h
  obtain ⟨⟨x, e1⟩, h1, h⟩ := mpd e
  simp only [Prod.mk.injEq] at h
  obtain ⟨rfl, rfl⟩ := h
  refine ⟨Z, env, x, e1, r, h1, fun p xs Z1 H1 r1 s1 hp hz hh dd => ?_⟩
  obtain ⟨a, b, c⟩ := Rel.frzT r r1 s1 hp hz hh dd
  exact q _ _ _ a b c

/-! ### built-in functions -/
def rCD (K : PySem.W.Frag) (o : List PyData → Option PyData) : List V → Hp → VK → Prop := fun vs H Q => ∃ Z ds d, Same Z H ∧ DDs K Z vs ds ∧ o ds = some d ∧ ∀ v Z' H', Grow Z H Z' H' → DD K Z' v d → Q v H'
def CallD (X : Cx) (fn : Value) (o : List PyData → Option PyData) : Prop := CallR X fn (rCD X.K o)
def fCB (o : List PyData → Option PyData) (fa : DEnv → Option (List PyData × DEnv)) (env : DEnv) : Option (PyData × DEnv) := (fa env).bind fun x => (o x.1).map fun d => (d, x.2)
theorem cb_read {K : PySem.W.Frag} {o : List PyData → Option PyData} {σ : St} {H : Hp} {Q : VK} (h : tD K F (fCB o fa) σ H Q) : tCB (rCD K o) (tDA K F fa) σ H Q := by
  obtain ⟨Z, env, d, env', r, e, q⟩ := h
  obtain ⟨⟨x, e1⟩, h1, h⟩ := bnd e
  obtain ⟨d', h2, h⟩ := mpd h
  cases h
  exact ⟨Z, env, x, e1, r, h1, fun vs Z1 H1 r1 s1 d1 => ⟨Z1, x, d, r1.zh, d1, h2, fun v Z' H' gr dd => q v Z' H' (r1.grow gr) (s1.trans gr.stp) dd⟩⟩
variable {x : Str} {id T : String}
theorem pd_callB {o : List PyData → Option PyData} (hc : CallD X (.builtin id) o) (hm : X.mg x = none) (hv : bootBuiltins x = some (.builtin id)) (ha : PDA X F (e :: es) fa) (hg : Gl X x := by rfl) (hn : x ≠ "__name__" := by decide) (hdb : (x == ("__debug__" : Str)) = false := by decide)
    (he : starEach (e :: es) X.env = (false, eval e X.env) :: starEach es X.env := by rfl) (hpl : (backTo pos (starEach es X.env)).any (·.1) = false := by rfl) : PD X F (.Call (.Name x p) (e :: es) [] pos) (fCB o fa) :=
  pe_imp (pe_callB hc hg hm hv ha hn hdb he hpl) fun _ _ _ h => cb_read h
theorem pd_callTy {o : List PyData → Option PyData} (hc : CallD X (.type T) o) (hm : X.mg x = none) (hv : bootBuiltins x = some (.type T)) (ha : PDA X F (e :: es) fa) (hg : Gl X x := by rfl) (hn : x ≠ "__name__" := by decide) (hdb : (x == ("__debug__" : Str)) = false := by decide)
    (he : starEach (e :: es) X.env = (false, eval e X.env) :: starEach es X.env := by rfl) (hpl : (backTo pos (starEach es X.env)).any (·.1) = false := by rfl) : PD X F (.Call (.Name x p) (e :: es) [] pos) (fCB o fa) :=
  pe_imp (pe_callTy hc hg hm hv ha hn hdb he hpl) fun _ _ _ h => cb_read h
end
end DL
end L2


set_option Elab.async false
set_option maxRecDepth 100000
set_option maxHeartbeats 4000000
set_option autoImplicit false
namespace L2
namespace DL
open PySem PySem.Spec PyProof.Rows
variable [Lab]
/-! ### defs, called where no repr is under way -/
structure FnG (P : Program) (w : World) (K : PySem.W.Frag) (mg : Str → Option Value) (base : Heap) (k : Nat) (f : Addr) (fd : FuncData) (ps : List Str) (sp : Sp) : Prop where
  len : ∀ vs H Q E, sp vs H Q E → vs.length = ps.length
  run : ∀ (A : Around) (outer : List Env) (s : Shared) (H : Hp) (args : Args) (us : List Value) (vs : List V) (Q : VK) (E : XK),
    GdOk A → Room k A → Env0 P w K mg base A outer s H → BindsTo s fd args (ps.zip us) → Vals vs us → sp vs H Q E →
    codeAny (model P w) A (.call (.ref f) args) (CR CX0 outer P w H s Q E) s
theorem FnG.mono {P : Program} {w : World} {K : PySem.W.Frag} {mg : Str → Option Value} {base : Heap} {j k : Nat} {f : Addr} {fd : FuncData} {ps : List Str} {sp : Sp}
    (G : FnG P w K mg base j f fd ps sp) (h : j ≤ k) : FnG P w K mg base k f fd ps sp :=
  ⟨G.len, fun A outer s H args us vs Q E hg hr => G.run A outer s H args us vs Q E hg (hr.mono h)⟩
section
variable {P : Program} {w : World} {K : PySem.W.Frag} {mg : Str → Option Value} {base : Heap}
theorem fng_of {x qual : Str} {st : Stmt} {f : Addr} {fd : FuncData} {N ps : List Str} {k : Nat} {sp : Sp} (D : Fun K x qual st f fd) (S : FnScope N ps (defScope st)) (len : ∀ vs H Q E, sp vs H Q E → vs.length = ps.length)
    (hbody : ∀ (cdv : Value) (A : Around) (outer : List Env) (s : Shared) (H : Hp) (vs : List V) (Q : VK) (E : XK), cdv = fd.code → GdOk A →
      Room k (A.deeper (envOfC qual (defScope st) s.heap.objs.size f cdv)) → sp vs H Q E →
      ∃ t, PSs (cxOf CX0 P w K mg base N qual (defScope st) f cdv A outer s H E).nox (defBody st) t ∧ t { nx := fun _ H' => Q .non H', rt := Q } (start N vs) H) :
    FnG P w K mg base (k + 1) f fd ps sp := by
  obtain ⟨oc, od, kV, doc, pm, an, cdv, ct, osl, rfl, lk, hcd⟩ := D.ex
  refine ⟨len, fun A outer s H args us vs Q E hgd hr e0 hb rv hsp => ?_⟩
  have sl := len vs H Q E hsp
  have kin : K.In s.heap := e0.mod.kin.keeps fun b o q => (e0.bs b o q).1
  have nol : s.heap.NoLimit := e0.mod.nolimit.keeps fun b o q => (e0.bs b o q).1
  have kinds : ∀ y ∈ ps.zip us, (defScope st).names.lookup y.1 = some .local ∨
      ((defScope st).names.lookup y.1 = some .cell ∧ ((cellsFrom (s.heap.objs.size + 1) (defScope st).names []).lookup y.1).isSome = true) := by
    rintro ⟨n, z⟩ hy
    rcases S.par n (List.of_mem_zip hy).1 with e | e
    · exact .inl e
    · exact .inr ⟨e, PySem.W.cellsFrom_some _ _ _ (.inl e)⟩
  refine codeAny_call_function hr.depth (kin _ _ lk) rfl S.co S.gen rfl (PySem.W.codeRec_of kin hcd) (hb _ _ _ _ (wpAny_newFunctionEnv_cells S.kind kinds fun env he s1 x1 => ?_))
  subst he
  obtain ⟨t, ht, hq⟩ := hbody cdv A outer s H vs Q E rfl hgd (hr.deeper _) hsp
  have J0 : Inv (cxOf CX0 P w K mg base N qual (defScope st) f cdv A outer s H E) [] (start N vs) H s1 := inv_start S hr.hd e0 sl rv x1
  refine ⟨nol.keeps x1.toInCall.keep, codeAny_func (wpAny_mono (ht.nox.run [] s1 (start N vs) H _ J0 hq) (fun fl s' hs => ?_) fun e s' hs => hs)⟩
  cases fl with
  | ret u => obtain ⟨v, s2, H', J, r1, q⟩ := hs; exact ⟨v, H', J.os, J.bare, J.base, J.hok, r1, q⟩
  | next => obtain ⟨s2, H', J, q⟩ := hs; exact ⟨V.non, H', J.os, J.bare, J.base, J.hok, rfl, q⟩
  | brk => obtain ⟨_, _, _, q⟩ := hs; cases q
  | cont => obtain ⟨_, _, _, q⟩ := hs; cases q
end
section
variable {X : Cx} {F : Fm} {k : Nat} {f : Addr} {fd : FuncData} {ps ks : List Str} {sp : Sp} {x : Str} {p pos : Pos} {e : Expr} {es : List Expr} {t tk : TA} {kws : List Keyword}
theorem run_g {pins : List (Addr × Obj)} {σ : St} {H : Hp} {s : Shared} {Q : VK} {args : Args} {us : List Value} {vs : List V} (G : FnG X.prog X.w X.K X.mg X.base k f fd ps sp) (hg : GdOk X.A) (hr : Room k X.A)
    (hb : BindsTo s fd args (ps.zip us)) (I : Inv X pins σ H s) (rv : Vals vs us) (h : sp vs H Q E0) : wpAny (model X.prog X.w) X.A (call (.ref f) args.pos args.kw) (EP X pins σ Q) X.xe s := by
  refine wpAny_call (codeAny_mono (G.run X.A X.stack s H args us vs Q E0 hg hr I.env0 hb rv h) fun r s' hq => ?_)
  cases r with
  | error z => exact False.elim hq
  | ok fl =>
    cases fl with
    | ret u => exact I.after hq
    | next => cases hq
    | brk => cases hq
    | cont => cases hq
theorem pe_gcall (G : FnG X.prog X.w X.K X.mg X.base k f fd ps sp) (hgd : GdOk X.A) (hr : Room k X.A) (hm : X.mg x = some (.ref f)) (hk : PySem.W.keepIn X.K (.ref f) = true) (hb : Binds X.K fd ps [])
    (ha : PA X (e :: es) t) (hg : Gl X x := by rfl) (hdb : (x == ("__debug__" : Str)) = false := by decide)
    (he : starEach (e :: es) X.env = (false, eval e X.env) :: starEach es X.env := by rfl) (hpl : (backTo pos (starEach es X.env)).any (·.1) = false := by rfl) :
    PE X (.Call (.Name x p) (e :: es) [] pos) (fun σ H Q => t σ H fun vs H1 => sp vs H1 Q E0) := by
  refine ⟨fun pins s σ H Q I h => wpAny_Call_Name_kw (ld_glob I hg hm (PySem.W.callWith_K (h₀ := X.base) I.ok.mod.kin hk (thn (ha.run pos pins s σ H _ I h) ?_) he hpl) hdb)⟩
  rintro us s1 ⟨vs, H1, I1, rv, q⟩
  have hl : us.length = ps.length := by rw [← rv.length]; exact G.len _ _ _ _ q
  refine ⟨I1.kIn, run_g (args := ⟨us, []⟩) (us := us) G hgd hr ?_ I1 rv q⟩
  have := hb s1 us I1.kIn (by rw [List.append_nil]; exact hl)
  rw [List.append_nil] at this
  exact this
variable {g : List Value → List Value → List Value} {gV : List V → List V → List V}
variable {gU : List Value → List Value} {gW : List V → List V}
end

/-! ### the promises -/
def spF (K : PySem.W.Frag) (n : Nat) (m : List PyData → Option PyData) : Sp := fun vs H Q _ => vs.length = n ∧ ∃ Z ds r, Same Z H ∧ TB H ∧ DDs K Z vs ds ∧ m ds = some r ∧ ∀ v Z' H', Grow Z H Z' H' → DD K Z' v r → Q v H'
def spN (K : PySem.W.Frag) (n : Nat) (m : List PyData → Option (List PyData)) : Sp := fun vs H Q _ => vs.length = n ∧ ∃ Z ds r, Same Z H ∧ TB H ∧ DDs K Z vs ds ∧ m ds = some r ∧ ∀ p xs Z' H', Grow Z H Z' H' → H p = none → Z' p = none → H' p = some (.lst xs) → DDs K Z' xs r → Q (.ref p) H'
def spR (K : PySem.W.Frag) (n : Nat) (m : List PyData → List PyData → Option (PyData × List PyData)) : Sp := fun vs H Q _ => vs.length = n ∧ ∃ Z p ws xs es ds r es', vs = .ref p :: ws ∧ Same Z H ∧ TB H ∧ Z p = none ∧ H p = some (.lst xs) ∧ DDs K Z xs es ∧ DDs K Z ws ds ∧ m es ds = some (r, es') ∧
  ∀ v xs' Z' H', Pok Z H p Z' H' → H' p = some (.lst xs') → DDs K Z' xs' es' → DD K Z' v r → Q v H'
section
variable {X : Cx} {F : Fm} {k n : Nat} {f : Addr} {fd : FuncData} {ps ks : List Str} {x : Str} {p pos : Pos} {e : Expr} {es : List Expr} {kws : List Keyword} {fa fk : DEnv → Option (List PyData × DEnv)}
theorem f_read {m : List PyData → Option PyData} {K : PySem.W.Frag} {σ : St} {H : Hp} {Q : VK} (hn : ∀ ds r, m ds = some r → ds.length = n) (h : tD K F (fCB m fa) σ H Q) : tDA K F fa σ H fun vs H1 => spF K n m vs H1 Q E0 := by
  obtain ⟨Z, env, d, env', r, e, q⟩ := h
  obtain ⟨⟨x, e1⟩, h1, h⟩ := bnd e
  obtain ⟨d', h2, h⟩ := mpd h
  cases h
  exact ⟨Z, env, x, e1, r, h1, fun vs Z1 H1 r1 s1 d1 => ⟨(dds_len d1).trans (hn _ _ h2), Z1, x, d, r1.zh, r1.tb, d1, h2, fun v Z' H' gr dd => q v Z' H' (r1.grow gr) (s1.trans gr.stp) dd⟩⟩
theorem pd_call {m : List PyData → Option PyData} (G : FnG X.prog X.w X.K X.mg X.base k f fd ps (spF X.K n m)) (hn : ∀ ds r, m ds = some r → ds.length = n) (hgd : GdOk X.A) (hr : Room k X.A) (hm : X.mg x = some (.ref f)) (hk : PySem.W.keepIn X.K (.ref f) = true) (hb : Binds X.K fd ps [])
    (ha : PDA X F (e :: es) fa) (hg : Gl X x := by rfl) (hdb : (x == ("__debug__" : Str)) = false := by decide)
    (he : starEach (e :: es) X.env = (false, eval e X.env) :: starEach es X.env := by rfl) (hpl : (backTo pos (starEach es X.env)).any (·.1) = false := by rfl) :
    PD X F (.Call (.Name x p) (e :: es) [] pos) (fCB m fa) :=
  pe_imp (pe_gcall G hgd hr hm hk hb ha hg hdb he hpl) fun _ _ _ h => f_read hn h
def PDK (X : Cx) (F : Fm) (kws : List Keyword) (f : DEnv → Option (List PyData × DEnv)) : Prop := PK X kws (tDA X.K F f)
theorem pk_imp {X : Cx} {es : List Keyword} {t t' : TA} (h : PK X es t) (w : ∀ σ H Q, t' σ H Q → t σ H Q) : PK X es t' := ⟨fun pos pins s σ H Q I q => h.run pos pins s σ H Q I (w σ H Q q)⟩
theorem pdk_nil : PDK X F [] fNil := pk_imp pk_nil fun σ H Q h => by
  obtain ⟨Z, env, d, env', r, e, q⟩ := h
  cases e
  exact q [] Z H r Stp.refl .nil
theorem pdk_cons {g : DEnv → Option (PyData × DEnv)} {nm : Option Str} {kpos : Pos} (ha : PD X F e g) (hr : PDK X F kws fk) : PDK X F (⟨nm, e, kpos⟩ :: kws) (fCons g fk) := pk_imp (pk_cons ha hr) fun σ H Q h => by
  obtain ⟨Z, env, d, env', r, e, q⟩ := h
  obtain ⟨⟨x, e1⟩, h1, h⟩ := bnd e
  obtain ⟨⟨y, e2⟩, h2, h⟩ := mpd h
  cases h
  exact ⟨Z, env, x, e1, r, h1, fun v Z1 H1 r1 s1 d1 => ⟨Z1, e1, y, e2, r1, h2, fun vs Z2 H2 r2 s2 d2 => q (v :: vs) Z2 H2 r2 (s1.trans s2) (.cons (DDm d1 s2.z) d2)⟩⟩
/-- a def that hands back a new list -/
def fCN (m : List PyData → Option (List PyData)) (fa : DEnv → Option (List PyData × DEnv)) (env : DEnv) : Option (List PyData × DEnv) := (fa env).bind fun x => (m x.1).map fun d => (d, x.2)
theorem pn_call {m : List PyData → Option (List PyData)} (G : FnG X.prog X.w X.K X.mg X.base k f fd ps (spN X.K n m)) (hn : ∀ ds r, m ds = some r → ds.length = n) (hgd : GdOk X.A) (hr : Room k X.A) (hm : X.mg x = some (.ref f)) (hk : PySem.W.keepIn X.K (.ref f) = true) (hb : Binds X.K fd ps [])
    (ha : PDA X F (e :: es) fa) (hg : Gl X x := by rfl) (hdb : (x == ("__debug__" : Str)) = false := by decide)
    (he : starEach (e :: es) X.env = (false, eval e X.env) :: starEach es X.env := by rfl) (hpl : (backTo pos (starEach es X.env)).any (·.1) = false := by rfl) :
    PN X F (.Call (.Name x p) (e :: es) [] pos) (fCN m fa) := pe_imp (pe_gcall G hgd hr hm hk hb ha hg hdb he hpl) fun σ H Q h => by
  obtain ⟨Z, env, d, env', r, e, q⟩ := h
  obtain ⟨⟨x, e1⟩, h1, h⟩ := bnd e
  obtain ⟨d', h2, h⟩ := mpd h
  cases h
  refine ⟨Z, env, x, e1, r, h1, fun vs Z1 H1 r1 s1 d1 => ⟨(dds_len d1).trans (hn _ _ h2), Z1, x, d, r1.zh, r1.tb, d1, h2, fun p xs Z' H' gr hp hz hh dd => ?_⟩⟩
  exact q p xs Z' H' (r1.grow gr) (s1.trans gr.stp) (s1.new hp) hz hh dd
end
end DL
end L2


set_option Elab.async false
set_option maxRecDepth 100000
set_option maxHeartbeats 4000000
set_option autoImplicit false
namespace L2
namespace DL
open PySem PySem.Spec PyProof.Rows
variable [Lab]
/-! ### an owned list changes -/
def rdO (j : Nat) (env : DEnv) : Option (List PyData) := match env[j]? with
  | some (some (.ow ds)) => some ds
  | some (some (.rf ds)) => some ds
  | _ => none
def wrO (j : Nat) (ds : List PyData) (env : DEnv) : DEnv := match env[j]? with
  | some (some (.ow _)) => env.set j (some (.ow ds))
  | some (some (.rf _)) => env.set j (some (.rf ds))
  | _ => env
theorem Pok.keepn {Z H Z' H' : Hp} {p : Addr} (g : Pok Z H p Z' H') {q : Addr} (hz : Z q = none) (hq : H q ≠ none) : Z' q = none := by
  cases hh : Z' q with
  | none => rfl
  | some o =>
    rcases g.n q (by rw [hh]; simp) with h | h
    · exact absurd hz h
    · exact absurd h hq
theorem Pok.keep {Z H Z' H' : Hp} {p : Addr} (g : Pok Z H p Z' H') (hp : H' p ≠ none) {q : Addr} (hq : H q ≠ none) : H' q ≠ none := by
  by_cases e : q = p
  · subst e; exact hp
  · exact g.k q e hq
theorem Pok.grow {Z H Z' H' Z2 H2 : Hp} {p : Addr} (g : Pok Z H p Z' H') (hp : H' p ≠ none) (r : Grow Z' H' Z2 H2) : Pok Z H p Z2 H2 := by
  refine ⟨g.z.trans r.z, r.zh, fun q o e h n => r.h.h q o (g.h q o e h n) n, fun q e h => r.h.k q (g.k q e h), fun t => r.t (g.t t), fun q h => ?_⟩
  rcases r.n q h with h | h
  · exact g.n q h
  · exact .inr (Classical.byContradiction fun z => g.keep hp z h)
theorem Rel.poke0 {K : PySem.W.Frag} {F : Fm} {Z H Z' H' : Hp} {σ : St} {env : DEnv} {p : Addr} (r : Rel K F Z H σ env) (f : Fre σ env p) (ng : F.G p = none) (np : ¬ F.P p) (g : Pok Z H p Z' H') (hp : H' p ≠ none) : Rel K F Z' H' σ env := by
  refine ⟨r.z0.trans g.z, g.zh, ⟨fun q o e n => g.h q o (fun z => by subst z; rw [ng] at e; cases e) (r.gh.h q o e n) n, fun q e => g.keep hp (r.gh.k q e)⟩, fun q h => ?_, fun q hq => ?_, r.len, fun i dv e => ?_, r.inj, g.t r.tb⟩
  · rcases g.n q h with h | h
    · exact r.nw q h
    · exact .inr ⟨r.gh.free h, fun z => (r.pp q z).1 h⟩
  · obtain ⟨a, b, c⟩ := r.pp q hq
    exact ⟨g.keep hp a, g.keepn b a, c⟩
  · have s := r.sl i dv e
    cases dv with
    | fr d => obtain ⟨v, a, b⟩ := s; exact ⟨v, a, DDm b g.z⟩
    | ow ds =>
      obtain ⟨p', xs, e1, e2, e3, e4, e5, e6⟩ := s
      have hne : p' ≠ p := fun z => f i _ e rfl (z ▸ e1)
      exact ⟨p', xs, e1, e2, e3, g.keepn e4 (by rw [e5]; simp), g.h _ _ hne e5 nt_lst, DDsm e6 g.z⟩
    | rf ds =>
      obtain ⟨p', xs, e1, e2, e5, e6⟩ := s
      have hne : p' ≠ p := fun z => f i _ e rfl (z ▸ e1)
      exact ⟨p', xs, e1, e2, g.h _ _ hne e5 nt_lst, DDsm e6 g.z⟩
    | fn n => exact s
    | dk ds =>
      obtain ⟨p', o', xs, e1, e2, e3, e4, e5, e6, e7⟩ := s
      have hne : p' ≠ p := fun z => f i _ e rfl (z ▸ e1)
      exact ⟨p', o', xs, e1, e2, e3, g.keepn e4 (by rw [e5]; simp), g.h _ _ hne e5 nt_exo, e6, ddk_mono g.z _ _ e7⟩
theorem Rel.poke {K : PySem.W.Frag} {F : Fm} {Z H : Hp} {σ : St} {env : DEnv} {j : Nat} {es : List PyData} (r : Rel K F Z H σ env) (e : rdO j env = some es) :
    ∃ p xs, σ[j]? = some (some (V.ref p)) ∧ Z p = none ∧ H p = some (.lst xs) ∧ DDs K Z xs es ∧
      ∀ Z' H' xs' es', Pok Z H p Z' H' → H' p = some (.lst xs') → DDs K Z' xs' es' → Rel K F Z' H' σ (wrO j es' env) ∧ Stp σ env Z H (wrO j es' env) Z' H' := by
  have key : ∀ (c : List PyData → DV), (∀ ds, ownish (c ds) = true) → env[j]? = some (some (c es)) → (∀ ds, wrO j ds env = env.set j (some (c ds))) →
      ∀ p xs, σ[j]? = some (some (V.ref p)) → Z p = none → F.G p = none → H p = some (.lst xs) →
      (∀ Z' H' xs' es', Pok Z H p Z' H' → H' p = some (.lst xs') → DDs K Z' xs' es' → SlotOk K F Z' H' σ j (c es')) →
      ∀ Z' H' xs' es', Pok Z H p Z' H' → H' p = some (.lst xs') → DDs K Z' xs' es' → Rel K F Z' H' σ (wrO j es' env) ∧ Stp σ env Z H (wrO j es' env) Z' H' := by
    intro c hc ej hw p xs sj zp gp hp slot Z' H' xs' es' g hp' hd
    have hpn : H' p ≠ none := by rw [hp']; simp
    rw [hw]
    refine ⟨⟨r.z0.trans g.z, g.zh, ⟨fun q o e n => g.h q o (fun z => by subst z; rw [gp] at e; cases e) (r.gh.h q o e n) n, fun q e => g.keep hpn (r.gh.k q e)⟩, fun q h => ?_, fun q hq => ?_, by rw [List.length_set]; exact r.len, fun i dv ei => ?_, fun i k di dk q ei ek oi ok si sk => ?_, g.t r.tb⟩, ⟨g.z, fun q o hq n f => ?_, fun q h1 h2 h3 f => ?_, fun i dv ei oi => ?_, fun q hq => g.keep hpn hq⟩⟩
    · rcases g.n q h with h | h
      · exact r.nw q h
      · exact .inr ⟨r.gh.free h, fun z => (r.pp q z).1 h⟩
    · obtain ⟨a, b, d⟩ := r.pp q hq
      exact ⟨g.keep hpn a, g.keepn b a, d⟩
    · rcases get_set_some ei with ⟨rfl, ex⟩ | ⟨hne, ex⟩
      · cases ex
        exact slot Z' H' xs' es' g hp' hd
      · have s := r.sl i dv ex
        cases dv with
        | fr d => obtain ⟨v, a, b⟩ := s; exact ⟨v, a, DDm b g.z⟩
        | ow ds =>
          obtain ⟨p', ys, e1, e2, e3, e4, e5, e6⟩ := s
          have hn2 : p' ≠ p := fun z => hne (r.inj i j _ _ p ex ej rfl (hc _) (z ▸ e1) sj)
          exact ⟨p', ys, e1, e2, e3, g.keepn e4 (by rw [e5]; simp), g.h _ _ hn2 e5 nt_lst, DDsm e6 g.z⟩
        | rf ds =>
          obtain ⟨p', ys, e1, e2, e5, e6⟩ := s
          have hn2 : p' ≠ p := fun z => hne (r.inj i j _ _ p ex ej rfl (hc _) (z ▸ e1) sj)
          exact ⟨p', ys, e1, e2, g.h _ _ hn2 e5 nt_lst, DDsm e6 g.z⟩
        | fn n => exact s
        | dk ds =>
          obtain ⟨p', o', ys, e1, e2, e3, e4, e5, e6, e7⟩ := s
          have hn2 : p' ≠ p := fun z => hne (r.inj i j _ _ p ex ej rfl (hc _) (z ▸ e1) sj)
          exact ⟨p', o', ys, e1, e2, e3, g.keepn e4 (by rw [e5]; simp), g.h _ _ hn2 e5 nt_exo, e6, ddk_mono g.z _ _ e7⟩
    · have old : ∀ (i : Nat) (dv : DV), (env.set j (some (c es')))[i]? = some (some dv) → ownish dv = true → ∃ d0, env[i]? = some (some d0) ∧ ownish d0 = true := fun i dv ei oi => by
        rcases get_set_some ei with ⟨rfl, ex⟩ | ⟨hne, ex⟩
        · exact ⟨_, ej, hc _⟩
        · exact ⟨dv, ex, oi⟩
      obtain ⟨d1, a1, b1⟩ := old i di ei oi
      obtain ⟨d2, a2, b2⟩ := old k dk ek ok
      exact r.inj i k d1 d2 q a1 a2 b1 b2 si sk
    · exact g.h q o (fun z => f j _ ej (hc _) (by rw [z]; exact sj)) hq n
    · rcases g.n q h1 with h | h
      · exact h h2
      · exact h3 h
    · rcases get_set_some ei with ⟨rfl, ex⟩ | ⟨hne, ex⟩
      · exact ⟨_, ej, hc _⟩
      · exact ⟨dv, ex, oi⟩
  unfold rdO at e
  split at e
  · rename_i ds ej
    cases e
    obtain ⟨p, xs, e1, e2, e3, e4, e5, e6⟩ := r.sl j _ ej
    exact ⟨p, xs, e1, e4, e5, e6, key .ow (fun _ => rfl) ej (fun ds => by unfold wrO; rw [ej]) p xs e1 e4 e3 e5 fun Z' H' xs' es' g hp' hd => ⟨p, xs', e1, e2, e3, g.keepn e4 (by rw [e5]; simp), hp', hd⟩⟩
  · rename_i ds ej
    cases e
    obtain ⟨p, xs, e1, e2, e5, e6⟩ := r.sl j _ ej
    obtain ⟨a, b, d⟩ := r.pp p e2
    exact ⟨p, xs, e1, b, e5, e6, key .rf (fun _ => rfl) ej (fun ds => by unfold wrO; rw [ej]) p xs e1 b d e5 fun Z' H' xs' es' g hp' hd => ⟨p, xs', e1, e2, hp', hd⟩⟩
  · cases e
/-- a plain write -/
theorem pok_upd {Z H : Hp} (s : Same Z H) {p : Addr} (hz : Z p = none) {xs : List V} (hp : H p = some (.lst xs)) (o : HO) : Pok Z H p Z (upd H p o) :=
  ⟨Same.refl Z, ⟨fun b x e n => by rw [upd_ne (ne_of_none e hz)]; exact s.h b x e n, fun b e => by
    by_cases hb : b = p
    · subst hb; rw [upd_same]; simp
    · rw [upd_ne hb]; exact s.k b e⟩, fun q o' hq e _ => by rw [upd_ne hq]; exact e, fun q hq e => by rw [upd_ne hq]; exact e, fun t => t.ne hp o, fun _ h => .inl h⟩
section
variable {X : Cx} {F : Fm} {k n j : Nat} {f : Addr} {fd : FuncData} {ps ks : List Str} {x y : Str} {p pos pn : Pos} {e : Expr} {es : List Expr} {fa : DEnv → Option (List PyData × DEnv)}
def fCR (j : Nat) (m : List PyData → List PyData → Option (PyData × List PyData)) (fa : DEnv → Option (List PyData × DEnv)) (env : DEnv) : Option (PyData × DEnv) :=
  (rdO j env).bind fun _ => (fa env).bind fun x => (rdO j x.2).bind fun es => (m es x.1).map fun r => (r.1, wrO j r.2 x.2)
theorem pd_callR (j : Nat) {m : List PyData → List PyData → Option (PyData × List PyData)} (G : FnG X.prog X.w X.K X.mg X.base k f fd ps (spR X.K n m)) (hn : ∀ es ds r, m es ds = some r → ds.length + 1 = n) (hgd : GdOk X.A) (hr : Room k X.A) (hm : X.mg x = some (.ref f)) (hk : PySem.W.keepIn X.K (.ref f) = true) (hb : Binds X.K fd ps [])
    (ha : PDA X F es fa) (hN : X.N[j]? = some y := by rfl) (hv : Vis X.env.scope y := by first | exact Or.inl rfl | exact Or.inr (Or.inl rfl) | exact Or.inr (Or.inr rfl)) (hd : (y == ("__debug__" : Str)) = false := by decide)
    (hcd : (y == ("__classdict__" : Str)) = false := by decide) (hg : Gl X x := by rfl) (hdb : (x == ("__debug__" : Str)) = false := by decide)
    (he : starEach (.Name y pn :: es) X.env = (false, eval (.Name y pn) X.env) :: starEach es X.env := by rfl) (hpl : (backTo pos (starEach es X.env)).any (·.1) = false := by rfl) :
    PD X F (.Call (.Name x p) (.Name y pn :: es) [] pos) (fCR j m fa) :=
  pe_imp (pe_gcall G hgd hr hm hk hb (pa_cons (pe_var hN hv hd hcd) ha he) hg hdb he hpl) fun σ H Q h => by
    obtain ⟨Z, env, d, env', r, e, q⟩ := h
    obtain ⟨z0, h0, e⟩ := bnd e
    obtain ⟨⟨x, e1⟩, h1, h⟩ := bnd e
    obtain ⟨zs, h2, h⟩ := bnd h
    obtain ⟨⟨r0, r1⟩, h3, h⟩ := mpd h
    cases h
    obtain ⟨p, xs, sj, _, _, _, _⟩ := r.poke h0
    refine ⟨.ref p, sj, Z, env, x, e1, r, h1, fun vs Z1 H1 r1 s1 d1 => ?_⟩
    obtain ⟨p', xs', sj', zp, hp, dp, fin⟩ := r1.poke h2
    rw [sj] at sj'
    cases sj'
    refine ⟨?_, Z1, p, vs, xs', zs, x, _, _, rfl, r1.zh, r1.tb, zp, hp, dp, d1, h3, fun v ys Z' H' pk a5 a6 a7 => ?_⟩
    · rw [List.length_cons, dds_len d1]; exact hn _ _ _ h3
    · obtain ⟨b1, b2⟩ := fin Z' H' ys _ pk a5 a6
      exact q v Z' H' b1 (s1.trans b2) a7
/-- the argument a list made for the call -/
def fCRT (m : List PyData → List PyData → Option (PyData × List PyData)) (fa : DEnv → Option (List PyData × DEnv)) (env : DEnv) : Option (PyData × DEnv) :=
  (fa env).bind fun x => (m x.1 []).map fun r => (r.1, x.2)
theorem pd_callRT {m : List PyData → List PyData → Option (PyData × List PyData)} (G : FnG X.prog X.w X.K X.mg X.base k f fd ps (spR X.K n m)) (hn : ∀ es ds r, m es ds = some r → ds.length + 1 = n) (hgd : GdOk X.A) (hr : Room k X.A) (hm : X.mg x = some (.ref f)) (hk : PySem.W.keepIn X.K (.ref f) = true) (hb : Binds X.K fd ps [])
    (ha : PN X F e fa) (hg : Gl X x := by rfl) (hdb : (x == ("__debug__" : Str)) = false := by decide)
    (he : starEach [e] X.env = (false, eval e X.env) :: starEach [] X.env := by rfl) (hpl : (backTo pos (starEach [] X.env)).any (·.1) = false := by rfl) :
    PD X F (.Call (.Name x p) [e] [] pos) (fCRT m fa) :=
  pe_imp (pe_gcall G hgd hr hm hk hb (pa_cons ha pa_nil he) hg hdb he hpl) fun σ H Q h => by
    obtain ⟨Z, env, d, env', r, e, q⟩ := h
    obtain ⟨⟨x, e1⟩, h1, h⟩ := bnd e
    obtain ⟨⟨r0, r1⟩, h3, h⟩ := mpd h
    cases h
    refine ⟨Z, env, x, e1, r, h1, fun p xs Z1 H1 r1 s1 h0 hz hp dp => ⟨?_, Z1, p, [], xs, x, [], _, _, rfl, r1.zh, r1.tb, hz, hp, dp, .nil, h3, fun v ys Z' H' g a5 a6 a7 => ?_⟩⟩
    · exact hn _ _ _ h3
    · have hpn : H' p ≠ none := by rw [a5]; simp
      have fr0 : Fre σ env p := fun i dv e o hh => by
        have sl := r.sl i dv e
        cases dv with
        | fr d => cases o
        | ow es => obtain ⟨p', xs', a1, _, _, _, a5, _⟩ := sl; rw [hh] at a1; cases a1; rw [h0] at a5; cases a5
        | rf es => obtain ⟨p', xs', a1, _, a5, _⟩ := sl; rw [hh] at a1; cases a1; rw [h0] at a5; cases a5
        | fn n => cases o
        | dk es => obtain ⟨p', o', xs', a1, _, _, _, a5, _⟩ := sl; rw [hh] at a1; cases a1; rw [h0] at a5; cases a5
      have rr := r1.poke0 (s1.fre fr0) (r.gh.free h0) (fun z => (r.pp p z).1 h0) g hpn
      refine q v Z' H' rr ⟨s1.z.trans g.z, fun q o hq n f => g.h q o (fun z => by subst z; rw [h0] at hq; cases hq) (s1.h q o hq n f) n, fun q b1 b2 b3 f => ?_, s1.o, fun q hq => g.keep hpn (s1.k q hq)⟩ a7
      rcases g.n q b1 with z | z
      · exact s1.n q z b2 b3 f
      · exact s1.k q b3 z

/-! ### methods that change a list; items of a named list -/
def fPop (j : Nat) (f : DEnv → Option (PyData × DEnv)) (env : DEnv) : Option (PyData × DEnv) :=
  (rdO j env).bind fun _ => (f env).bind fun x => (rdO j x.2).bind fun es => match x.1 with
    | .int i => if es.length ≤ lim then (ixN es.length i).bind fun k => (es[k]?).map fun d => (d, wrO j (es.eraseIdx k) x.2) else none
    | _ => none
variable {g : DEnv → Option (PyData × DEnv)}
theorem own_ty {K : PySem.W.Frag} {H : Hp} {p : Addr} {xs : List V} (h : H p = some (.lst xs)) : tyV K "list" (.ref p) H := .inl ⟨rfl, _, SqL.of h⟩
theorem pd_pop (j : Nat) (ha : PD X F e g) (hN : X.N[j]? = some y := by rfl) (hv : Vis X.env.scope y := by first | exact Or.inl rfl | exact Or.inr (Or.inl rfl) | exact Or.inr (Or.inr rfl)) (hd : (y == ("__debug__" : Str)) = false := by decide)
    (hcd : (y == ("__classdict__" : Str)) = false := by decide)
    (hfew : ((backTo pos (starEach [e] X.env)).all (fun x => !x.1) && (backToKw pos (keywordEach [] X.env)).all (fun x => x.1.isSome)
      && decide ([e].length + ([] : List Keyword).length + (if ([] : List Keyword).isEmpty then 0 else 1) < 30)) = true := by rfl)
    (hline : (p.endLine == pos.line) = true := by rfl) (hs : starEach [e] X.env = (false, eval e X.env) :: starEach [] X.env := by rfl) (hplain : (backTo pos (starEach [] X.env)).any (·.1) = false := by rfl) :
    PD X F (.Call (.Attribute (.Name y pn) "pop" p) [e] [] pos) (fPop j g) :=
  pe_imp (pe_bm PySem.F.plainAttrs_list PySem.F.slot_list_pop PySem.F.type_list_pop mt_popAt (pe_var hN hv hd hcd) (pa_cons ha pa_nil hs) rfl hfew hline hs hplain) fun σ H Q h => by
  obtain ⟨Z, env, d, env', r, e, q⟩ := h
  obtain ⟨z0, h0, e⟩ := bnd e
  obtain ⟨⟨x, e1⟩, h1, h⟩ := bnd e
  obtain ⟨zs, h2, h⟩ := bnd h
  dsimp only at h
  cases x with
  | int i =>
    dsimp only at h
    split at h
    case isFalse => cases h
    rename_i hsz
    obtain ⟨k, h3, h⟩ := bnd h
    obtain ⟨d', h4, h⟩ := mpd h
    cases h
    obtain ⟨p, xs, sj, _, hp0, _, _⟩ := r.poke h0
    refine ⟨.ref p, sj, own_ty hp0, Z, env, .int i, e1, r, h1, fun v Z1 H1 r1 s1 d1 => ?_⟩
    obtain ⟨p', xs', sj', zp, hp, dp, fin⟩ := r1.poke h2
    rw [sj] at sj'
    cases sj'
    cases d1.int_inv
    have hl := dds_len dp
    obtain ⟨w, hw, dw⟩ := dds_get dp h4
    obtain ⟨i1, i2, i3, i4⟩ := ixN_seq (by rw [← hl] at h3; exact h3)
    have hlim : lim = 100000 := rfl
    refine ⟨p, xs', i, k, w, rfl, rfl, hp, by omega, by omega, i1, hw, ?_⟩
    obtain ⟨b1, b2⟩ := fin Z1 (upd H1 p (.lst (xs'.eraseIdx k))) _ (zs.eraseIdx k) (pok_upd r1.zh zp hp _) upd_same (dds_erase k dp)
    exact q w Z1 _ b1 (s1.trans b2) dw
  | _ => cases h
end
end DL
end L2


set_option Elab.async false
set_option maxRecDepth 100000
set_option maxHeartbeats 4000000
set_option autoImplicit false
namespace L2
namespace DL
open PySem PySem.Spec PyProof.Rows
variable [Lab]
/-! ### stores -/
theorem set_get_some {σ : St} {i j : Nat} {x : Option V} {v : V} (h : (σ.set i x)[j]? = some (some v)) : (j = i ∧ x = some v) ∨ (j ≠ i ∧ σ[j]? = some (some v)) := by
  by_cases e : i = j
  · subst e
    by_cases hl : i < σ.length
    · rw [List.getElem?_set_self hl] at h
      exact .inl ⟨rfl, Option.some.inj h⟩
    · rw [List.getElem?_eq_none (by rw [List.length_set]; omega)] at h
      cases h
  · rw [List.getElem?_set_ne e] at h
    exact .inr ⟨fun z => e z.symm, h⟩
/-- the slot i is told anew: x and o fit -/
theorem Rel.put {K : PySem.W.Frag} {F : Fm} {Z H : Hp} {σ : St} {env : DEnv} (r : Rel K F Z H σ env) (i : Nat) (x : Option V) (o : Option DV)
    (ok : ∀ dv, o = some dv → i < σ.length → SlotOk K F Z H (σ.set i x) i dv) (fr : ∀ dv p, o = some dv → ownish dv = true → x = some (V.ref p) → Fre σ env p) : Rel K F Z H (σ.set i x) (env.set i o) := by
  have other : ∀ (j : Nat) (dv : DV), j ≠ i → env[j]? = some (some dv) → SlotOk K F Z H (σ.set i x) j dv := fun j dv hne e => by
    have s := r.sl j dv e
    have eq : (σ.set i x)[j]? = σ[j]? := List.getElem?_set_ne (fun z => hne z.symm)
    cases dv with
    | fr d => obtain ⟨v, a, b⟩ := s; exact ⟨v, eq.trans a, b⟩
    | ow ds => obtain ⟨p, xs, a, b⟩ := s; exact ⟨p, xs, eq.trans a, b⟩
    | rf ds => obtain ⟨p, xs, a, b⟩ := s; exact ⟨p, xs, eq.trans a, b⟩
    | fn n => exact eq.trans s
    | dk ds => obtain ⟨p, o, xs, a, b⟩ := s; exact ⟨p, o, xs, eq.trans a, b⟩
  refine ⟨r.z0, r.zh, r.gh, r.nw, r.pp, by rw [List.length_set, List.length_set]; exact r.len, fun j dv e => ?_, fun j k dj dk p ej ek oj ok' sj sk => ?_, r.tb⟩
  · by_cases hl : i < σ.length
    · rcases get_set_some e with ⟨rfl, ex⟩ | ⟨hne, ex⟩
      · exact ok dv ex hl
      · exact other j dv hne ex
    · rcases get_set_some e with ⟨rfl, ex⟩ | ⟨hne, ex⟩
      · exfalso
        rw [List.getElem?_eq_none (by rw [List.length_set, r.len]; omega)] at e
        cases e
      · exact other j dv hne ex
  · rcases get_set_some ej with ⟨rfl, ex⟩ | ⟨hne, ex⟩
    · rcases get_set_some ek with ⟨rfl, ey⟩ | ⟨hne2, ey⟩
      · rfl
      · exfalso
        rcases set_get_some sj with ⟨_, sx⟩ | ⟨hh, _⟩
        · rcases set_get_some sk with ⟨hh, _⟩ | ⟨_, sy⟩
          · exact hne2 hh
          · exact fr dj p ex oj sx k dk ey ok' sy
        · exact hh rfl
    · rcases get_set_some ek with ⟨rfl, ey⟩ | ⟨hne2, ey⟩
      · exfalso
        rcases set_get_some sk with ⟨_, sx⟩ | ⟨hh, _⟩
        · rcases set_get_some sj with ⟨hh, _⟩ | ⟨_, sy⟩
          · exact hne hh
          · exact fr dk p ey ok' sx j dj ex oj sy
        · exact hh rfl
      · rw [List.getElem?_set_ne (fun z => hne z.symm)] at sj
        rw [List.getElem?_set_ne (fun z => hne2 z.symm)] at sk
        exact r.inj j k dj dk p ex ey oj ok' sj sk
theorem Rel.store {K : PySem.W.Frag} {F : Fm} {Z H : Hp} {σ : St} {env : DEnv} {v : V} {d : PyData} (r : Rel K F Z H σ env) (i : Nat) (hd : DD K Z v d) : Rel K F Z H (σ.set i (some v)) (env.set i (some (.fr d))) :=
  r.put i _ _ (fun dv e hl => by cases e; exact ⟨v, List.getElem?_set_self hl, hd⟩) (fun dv p e o _ => by cases e; cases o)
theorem Rel.drop {K : PySem.W.Frag} {F : Fm} {Z H : Hp} {σ : St} {env : DEnv} (r : Rel K F Z H σ env) (i : Nat) : Rel K F Z H (σ.set i none) (env.set i none) :=
  r.put i _ _ (fun dv e => by cases e) (fun dv p e => by cases e)
theorem Rel.storeN {K : PySem.W.Frag} {F : Fm} {Z H : Hp} {σ : St} {env : DEnv} {p : Addr} {xs : List V} {ds : List PyData} (r : Rel K F Z H σ env) (i : Nat) (f : Fre σ env p) (np : ¬ F.P p) (ng : F.G p = none) (hz : Z p = none) (hp : H p = some (.lst xs)) (hd : DDs K Z xs ds) :
    Rel K F Z H (σ.set i (some (.ref p))) (env.set i (some (.ow ds))) :=
  r.put i _ _ (fun dv e hl => by cases e; exact ⟨p, xs, List.getElem?_set_self hl, np, ng, hz, hp, hd⟩) (fun dv q e o ex => by cases ex; exact f)
/-- a list new since the start of an expression is no slot's -/
theorem fre_new {K : PySem.W.Frag} {F : Fm} {Z H : Hp} {σ : St} {env : DEnv} (r : Rel K F Z H σ env) {p : Addr} (h0 : H p = none) : Fre σ env p := fun i dv e o hh => by
  have sl := r.sl i dv e
  cases dv with
  | fr d => cases o
  | ow es => obtain ⟨p', xs', a1, _, _, _, a5, _⟩ := sl; rw [hh] at a1; cases a1; rw [h0] at a5; cases a5
  | rf es => obtain ⟨p', xs', a1, _, a5, _⟩ := sl; rw [hh] at a1; cases a1; rw [h0] at a5; cases a5
  | fn n => cases o
  | dk es => obtain ⟨p', o', xs', a1, _, _, _, a5, _⟩ := sl; rw [hh] at a1; cases a1; rw [h0] at a5; cases a5

/-! ### statements -/
inductive DFlow where
  | nx (env : DEnv) | rt (d : PyData) (env : DEnv) | rn (ds : List PyData) (env : DEnv) | bk (env : DEnv) | ct (env : DEnv) | ex (c a : Str) (d : PyData) (env : DEnv)
def Fini (K : PySem.W.Frag) (F : Fm) (Z : Hp) (D : Ends) : DFlow → Prop
  | .nx e => ∀ σ' Z' H', Rel K F Z' H' σ' e → Same Z Z' → D.nx σ' H'
  | .rt d e => ∀ v σ' Z' H', Rel K F Z' H' σ' e → Same Z Z' → DD K Z' v d → D.rt v H'
  | .rn ds e => ∀ p xs σ' Z' H', Rel K F Z' H' σ' e → Same Z Z' → Z' p = none → F.G p = none → ¬ F.P p → H' p = some (.lst xs) → DDs K Z' xs ds → D.rt (.ref p) H'
  | .bk e => ∀ σ' Z' H', Rel K F Z' H' σ' e → Same Z Z' → D.bk σ' H'
  | .ct e => ∀ σ' Z' H', Rel K F Z' H' σ' e → Same Z Z' → D.ct σ' H'
  | .ex c a d e => ∀ v p σ' Z' H', Rel K F Z' H' σ' e → Same Z Z' → Z' p = none → F.G p = none → ¬ F.P p → H' p = some (.xd [(a, v)]) → DD K Z' v d → F.W c (some p) σ' H'
theorem Fini.mono {K : PySem.W.Frag} {F : Fm} {Z Z1 : Hp} {D : Ends} {fl : DFlow} (h : Fini K F Z D fl) (s : Same Z Z1) : Fini K F Z1 D fl := by
  cases fl with
  | nx e => exact fun σ' Z' H' r z => h σ' Z' H' r (s.trans z)
  | rt d e => exact fun v σ' Z' H' r z => h v σ' Z' H' r (s.trans z)
  | rn d e => exact fun p xs σ' Z' H' r z => h p xs σ' Z' H' r (s.trans z)
  | bk e => exact fun σ' Z' H' r z => h σ' Z' H' r (s.trans z)
  | ct e => exact fun σ' Z' H' r z => h σ' Z' H' r (s.trans z)
  | ex c a d e => exact fun v p σ' Z' H' r z => h v p σ' Z' H' r (s.trans z)
def tDS (K : PySem.W.Frag) (F : Fm) (f : DEnv → Option DFlow) : TS := fun D σ H => ∃ Z env fl, Rel K F Z H σ env ∧ f env = some fl ∧ Fini K F Z D fl
def PDS (X : Cx) (F : Fm) (s : Stmt) (f : DEnv → Option DFlow) : Prop := PS X s (tDS X.K F f)
def PDSs (X : Cx) (F : Fm) (s : List Stmt) (f : DEnv → Option DFlow) : Prop := PSs X s (tDS X.K F f)
section
variable {X : Cx} {F : Fm} {a b c e tg iter : Expr} {es : List Expr} {s : Stmt} {ss s2 : List Stmt} {pos p pn : Pos} {x y : Str} {f g : DEnv → Option (PyData × DEnv)} {fa fn : DEnv → Option (List PyData × DEnv)} {ft : DEnv → Option (Bool × DEnv)} {h1 h2 : DEnv → Option DFlow}
def sNil (env : DEnv) : Option DFlow := some (.nx env)
def sSeq (f g : DEnv → Option DFlow) (env : DEnv) : Option DFlow := (f env).bind fun fl => match fl with
  | .nx e => g e
  | fl => some fl
theorem dss_nil : PDSs X F [] sNil := pss_imp pss_nil fun D σ H h => by
  obtain ⟨Z, env, fl, r, e, q⟩ := h
  cases e
  exact q σ Z H r (Same.refl Z)
theorem dss_cons (ha : PDS X F s h1) (hb : PDSs X F ss h2) : PDSs X F (s :: ss) (sSeq h1 h2) := pss_imp (pss_cons ha hb) fun D σ H h => by
  obtain ⟨Z, env, fl, r, e, q⟩ := h
  obtain ⟨f1, e1, e⟩ := bnd e
  refine ⟨Z, env, f1, r, e1, ?_⟩
  cases f1 with
  | nx e0 => exact fun σ' Z' H' r' s' => ⟨Z', e0, fl, r', e, q.mono s'⟩
  | rt d e0 => cases e; exact q
  | rn d e0 => cases e; exact q
  | bk e0 => cases e; exact q
  | ct e0 => cases e; exact q
  | ex c a d e0 => cases e; exact q
theorem dss_one (ha : PDS X F s h1) : PDSs X F [s] h1 := pss_one ha
def sNone (_ : DEnv) : Option DFlow := none
def sExpr (f : DEnv → Option (PyData × DEnv)) (env : DEnv) : Option DFlow := (f env).map fun x => .nx x.2
theorem ds_expr (ha : PD X F e f) (hs : swapsWith e none pos.line X.env = pure false := by rfl) : PDS X F (.Expr e pos) (sExpr f) := ps_imp (ps_expr ha hs) fun D σ H h => by
  obtain ⟨Z, env, fl, r, e, q⟩ := h
  obtain ⟨⟨d, e1⟩, h1, h⟩ := mpd e
  subst h
  exact ⟨Z, env, d, e1, r, h1, fun v Z' H' r' s' _ => q σ Z' H' r' s'.z⟩
def sRet (f : DEnv → Option (PyData × DEnv)) (env : DEnv) : Option DFlow := (f env).map fun x => .rt x.1 x.2
theorem ds_ret (ha : PD X F e f) : PDS X F (.Return (some e) pos) (sRet f) := ps_imp (ps_ret ha) fun D σ H h => by
  obtain ⟨Z, env, fl, r, e, q⟩ := h
  obtain ⟨⟨d, e1⟩, h1, h⟩ := mpd e
  subst h
  exact ⟨Z, env, d, e1, r, h1, fun v Z' H' r' s' dd => q v σ Z' H' r' s'.z dd⟩
def sRetN (f : DEnv → Option (List PyData × DEnv)) (env : DEnv) : Option DFlow := (f env).map fun x => .rn x.1 x.2
theorem ds_retN (ha : PN X F e fn) : PDS X F (.Return (some e) pos) (sRetN fn) := ps_imp (ps_ret ha) fun D σ H h => by
  obtain ⟨Z, env, fl, r, e, q⟩ := h
  obtain ⟨⟨d, e1⟩, h1, h⟩ := mpd e
  subst h
  exact ⟨Z, env, d, e1, r, h1, fun p xs Z' H' r' s' h0 hz hp dd => q p xs σ Z' H' r' s'.z hz (r.gh.free h0) (fun z => (r.pp p z).1 h0) hp dd⟩
def sIf (ft : DEnv → Option (Bool × DEnv)) (h1 h2 : DEnv → Option DFlow) (env : DEnv) : Option DFlow := (ft env).bind fun x => if x.1 then h1 x.2 else h2 x.2
theorem ds_if (hc : PDT X F c ft) (ha : PDSs X F ss h1) (hb : PDSs X F s2 h2) : PDS X F (.If c ss s2 pos) (sIf ft h1 h2) := ps_imp (ps_if hc ha hb) fun D σ H h => by
  obtain ⟨Z, env, fl, r, e, q⟩ := h
  obtain ⟨⟨k, e1⟩, h1, h⟩ := bnd e
  refine ⟨Z, env, k, e1, r, h1, fun Z1 H1 r1 s1 => ?_⟩
  cases k with
  | true => exact iteT ⟨Z1, e1, fl, r1, h, q.mono s1.z⟩
  | false => exact iteF ⟨Z1, e1, fl, r1, h, q.mono s1.z⟩
def sSet (i : Nat) (f : DEnv → Option (PyData × DEnv)) (env : DEnv) : Option DFlow := (f env).map fun x => .nx (x.2.set i (some (.fr x.1)))
theorem ds_set (i : Nat) {pos' : Pos} (ha : PD X F e f) (hN : X.N.Nodup) (hi : X.N[i]? = some x := by rfl) (hx : Loc X.env.scope x := by first | exact Or.inl rfl | exact Or.inr rfl) (hs : swapsWith e (some (.Name x pos')) pos.line X.env = pure false := by rfl)
    (hf : X.fn x = true ∨ X.env.scope.names.lookup x = some .local := by first | exact .inl rfl | exact .inr rfl | assumption) : PDS X F (.Assign [.Name x pos'] e pos) (sSet i f) := ps_imp (ps_set hN hi hx ha hs hf) fun D σ H h => by
  obtain ⟨Z, env, fl, r, e, q⟩ := h
  obtain ⟨⟨d, e1⟩, h1, h⟩ := mpd e
  subst h
  exact ⟨Z, env, d, e1, r, h1, fun v Z' H' r' s' dd => q _ Z' H' (r'.store i dd) s'.z⟩
def sSetN (i : Nat) (f : DEnv → Option (List PyData × DEnv)) (env : DEnv) : Option DFlow := (f env).map fun x => .nx (x.2.set i (some (.ow x.1)))
theorem ds_setN (i : Nat) {pos' : Pos} (ha : PN X F e fn) (hN : X.N.Nodup) (hi : X.N[i]? = some x := by rfl) (hx : Loc X.env.scope x := by first | exact Or.inl rfl | exact Or.inr rfl) (hs : swapsWith e (some (.Name x pos')) pos.line X.env = pure false := by rfl)
    (hf : X.fn x = true ∨ X.env.scope.names.lookup x = some .local := by first | exact .inl rfl | exact .inr rfl | assumption) : PDS X F (.Assign [.Name x pos'] e pos) (sSetN i fn) := ps_imp (ps_set hN hi hx ha hs hf) fun D σ H h => by
  obtain ⟨Z, env, fl, r, e, q⟩ := h
  obtain ⟨⟨d, e1⟩, h1, h⟩ := mpd e
  subst h
  exact ⟨Z, env, d, e1, r, h1, fun p xs Z' H' r' s' h0 hz hp dd => q _ Z' H' (r'.storeN i (s'.fre (fre_new r h0)) (fun z => (r.pp p z).1 h0) (r.gh.free h0) hz hp dd) s'.z⟩
/-- a, b = two new lists; a new list and data .. -/
def sPar (i j : Nat) (fa : DEnv → Option (List PyData × DEnv)) (env : DEnv) : Option DFlow := (fa env).bind fun x => match x.1 with
  | [u, v] => some (.nx ((x.2.set i (some (.fr u))).set j (some (.fr v))))
  | _ => none
theorem ds_par (i j : Nat) (ha : PS X s (tPar i j (tDA X.K F fa))) : PDS X F s (sPar i j fa) := ps_imp ha fun D σ H h => by
  obtain ⟨Z, env, fl, r, e, q⟩ := h
  obtain ⟨⟨d, e1⟩, h1, h⟩ := bnd e
  match d, h, h1 with
  | [u, v], h, h1 =>
    cases h
    refine ⟨Z, env, [u, v], e1, r, h1, fun vs Z' H' r' s' dd => ?_⟩
    cases dd with
    | cons d1 dr =>
      cases dr with
      | cons d2 dn =>
        cases dn
        exact ⟨_, _, rfl, q _ Z' H' ((r'.store i d1).store j d2) s'.z⟩
/-- xs.append(e) -/
def sApp (j : Nat) (f : DEnv → Option (PyData × DEnv)) (env : DEnv) : Option DFlow :=
  (rdO j env).bind fun _ => (f env).bind fun x => (rdO j x.2).bind fun es => if es.length < lim then some (.nx (wrO j (es ++ [x.1]) x.2)) else none
theorem ds_append (j : Nat) (ha : PD X F e f) (hN : X.N[j]? = some y := by rfl) (hv : Vis X.env.scope y := by first | exact Or.inl rfl | exact Or.inr (Or.inl rfl) | exact Or.inr (Or.inr rfl)) (hd : (y == ("__debug__" : Str)) = false := by decide)
    (hcd : (y == ("__classdict__" : Str)) = false := by decide) {cpos : Pos}
    (hfew : ((backTo cpos (starEach [e] X.env)).all (fun x => !x.1) && (backToKw cpos (keywordEach [] X.env)).all (fun x => x.1.isSome)
      && decide ([e].length + ([] : List Keyword).length + (if ([] : List Keyword).isEmpty then 0 else 1) < 30)) = true := by rfl)
    (hline : (p.endLine == cpos.line) = true := by rfl) (hs : starEach [e] X.env = (false, eval e X.env) :: starEach [] X.env := by rfl) (hplain : (backTo cpos (starEach [] X.env)).any (·.1) = false := by rfl)
    (hsw : swapsWith (.Call (.Attribute (.Name y pn) "append" p) [e] [] cpos) none pos.line X.env = pure false := by rfl) :
    PDS X F (.Expr (.Call (.Attribute (.Name y pn) "append" p) [e] [] cpos) pos) (sApp j f) :=
  ps_imp (ps_expr (pe_bm PySem.F.plainAttrs_list PySem.F.slot_list_append PySem.F.type_list_append mt_append (pe_var hN hv hd hcd) (pa_cons ha pa_nil hs) rfl hfew hline hs hplain) hsw) fun D σ H h => by
  obtain ⟨Z, env, fl, r, e, q⟩ := h
  obtain ⟨z0, h0, e⟩ := bnd e
  obtain ⟨⟨d, e1⟩, h1, h⟩ := bnd e
  obtain ⟨zs, h2, h⟩ := bnd h
  dsimp only at h
  split at h
  case isFalse => cases h
  rename_i hz
  cases h
  obtain ⟨p, xs, sj, _, hp0, _, _⟩ := r.poke h0
  refine ⟨.ref p, sj, own_ty hp0, Z, env, d, e1, r, h1, fun v Z1 H1 r1 s1 d1 => ?_⟩
  obtain ⟨p', xs', sj', zp, hp, dp, fin⟩ := r1.poke h2
  rw [sj] at sj'
  cases sj'
  refine ⟨p, xs', v, rfl, rfl, hp, by rw [dds_len dp]; exact Nat.lt_of_lt_of_le hz lim_le, ?_⟩
  obtain ⟨b1, b2⟩ := fin Z1 (upd H1 p (.lst (xs' ++ [v]))) _ (zs ++ [d]) (pok_upd r1.zh zp hp _) upd_same (dds_app dp (.cons d1 .nil))
  exact q σ Z1 _ b1 (s1.trans b2).z

/-! ### targets -/
def tDG (K : PySem.W.Frag) (F : Fm) (g : PyData → DEnv → Option DEnv) : TG := fun v σ H Q => ∃ Z env d env', Rel K F Z H σ env ∧ DD K Z v d ∧ g d env = some env' ∧ ∀ σ' Z' H', Rel K F Z' H' σ' env' → Same Z Z' → Q σ' H'
def tDGs (K : PySem.W.Frag) (F : Fm) (g : List PyData → DEnv → Option DEnv) : TGs := fun vs σ H Q => ∃ Z env ds env', Rel K F Z H σ env ∧ DDs K Z vs ds ∧ g ds env = some env' ∧ ∀ σ' Z' H', Rel K F Z' H' σ' env' → Same Z Z' → Q σ' H'
def PDG (X : Cx) (F : Fm) (e : Expr) (g : PyData → DEnv → Option DEnv) : Prop := PG X e (tDG X.K F g)
def PDGs (X : Cx) (F : Fm) (es : List Expr) (g : List PyData → DEnv → Option DEnv) : Prop := PGs X es (tDGs X.K F g)
theorem pg_imp {X : Cx} {e : Expr} {t t' : TG} (h : PG X e t) (w : ∀ v σ H Q, t' v σ H Q → t v σ H Q) : PG X e t' := ⟨fun pins s σ H v u Q I r q => h.run pins s σ H v u Q I r (w v σ H Q q)⟩
theorem pgs_imp {X : Cx} {e : List Expr} {t t' : TGs} (h : PGs X e t) (w : ∀ v σ H Q, t' v σ H Q → t v σ H Q) : PGs X e t' := ⟨fun pins s σ H v u Q I r q => h.run pins s σ H v u Q I r (w v σ H Q q)⟩
def gSet (i : Nat) (d : PyData) (env : DEnv) : Option DEnv := some (env.set i (some (.fr d)))
theorem dg_name (i : Nat) (hN : X.N.Nodup) (hi : X.N[i]? = some x := by rfl) (hx : Loc X.env.scope x := by first | exact Or.inl rfl | exact Or.inr rfl) (hf : X.fn x = true ∨ X.env.scope.names.lookup x = some .local := by first | exact .inl rfl | exact .inr rfl | assumption) : PDG X F (.Name x pos) (gSet i) :=
  pg_imp (pg_name hN hi hx hf) fun v σ H Q h => by
    obtain ⟨Z, env, d, env', r, hd, e, q⟩ := h
    cases e
    exact q _ Z H (r.store i hd) (Same.refl Z)
def gSubD (j : Nat) (f : DEnv → Option (PyData × DEnv)) (d : PyData) (env : DEnv) : Option DEnv :=
  (rdO j env).bind fun _ => (f env).bind fun x => (rdO j x.2).bind fun es => match x.1 with
    | .int i => (ixN es.length i).map fun k => wrO j (es.set k d) x.2
    | _ => none
theorem dg_sub (j : Nat) {i : Expr} (ha : PD X F i f) (hN : X.N[j]? = some y := by rfl) (hv : Vis X.env.scope y := by first | exact Or.inl rfl | exact Or.inr (Or.inl rfl) | exact Or.inr (Or.inr rfl)) (hd : (y == ("__debug__" : Str)) = false := by decide)
    (hcd : (y == ("__classdict__" : Str)) = false := by decide)
    (hsub : ∀ v, assign (.Subscript (.Name y pn) i pos) X.env v = (do
      let ov ← holding [v] (eval (.Name y pn) X.env)
      let iv ← holding [v, ov] (eval i X.env)
      standAt pos
      holding [v, ov, iv] (setItem ov iv v)
      release [v, ov, iv] []) := by intro _; rfl) : PDG X F (.Subscript (.Name y pn) i pos) (gSubD j f) :=
  pg_imp (pg_sub (pe_var hN hv hd hcd) ha set_list hsub) fun v σ H Q h => by
    obtain ⟨Z, env, d, env', r, hd, e, q⟩ := h
    obtain ⟨z0, h0, e⟩ := bnd e
    obtain ⟨⟨u, e1⟩, h1, h⟩ := bnd e
    obtain ⟨zs, h2, h⟩ := bnd h
    cases u with
    | int i =>
      obtain ⟨k, h3, h⟩ := mpd h
      subst h
      obtain ⟨p, xs, sj, _, hp0, _, _⟩ := r.poke h0
      refine ⟨.ref p, sj, Z, env, .int i, e1, r, h1, fun w Z1 H1 r1 s1 d1 => ?_⟩
      obtain ⟨p', xs', sj', zp, hp, dp, fin⟩ := r1.poke h2
      rw [sj] at sj'
      cases sj'
      cases d1.int_inv
      refine ⟨p, xs', i, k, rfl, rfl, hp, by rw [dds_len dp]; exact h3, ?_⟩
      obtain ⟨b1, b2⟩ := fin Z1 (upd H1 p (.lst (xs'.set k v))) _ (zs.set k d) (pok_upd r1.zh zp hp _) upd_same (dds_set (DDm hd s1.z) k dp)
      exact q σ Z1 _ b1 (s1.trans b2).z
    | _ => cases h
def gsNil (ds : List PyData) (env : DEnv) : Option DEnv := if ds.isEmpty then some env else none
def gsCons (g : PyData → DEnv → Option DEnv) (gs : List PyData → DEnv → Option DEnv) (ds : List PyData) (env : DEnv) : Option DEnv := match ds with
  | d :: r => (g d env).bind fun e => gs r e
  | _ => none
theorem dgs_nil : PDGs X F [] gsNil := pgs_imp pgs_nil fun v σ H Q h => by
  obtain ⟨Z, env, d, env', r, hd, e, q⟩ := h
  cases hd with
  | nil => cases e; exact ⟨rfl, q σ Z H r (Same.refl Z)⟩
  | cons _ _ => cases e
theorem dgs_cons {g : PyData → DEnv → Option DEnv} {gs : List PyData → DEnv → Option DEnv} (ha : PDG X F e g) (hb : PDGs X F es gs) (hs : (assignEach (e :: es) X.env).map (·.2) = assign e X.env :: (assignEach es X.env).map (·.2) := by rfl) : PDGs X F (e :: es) (gsCons g gs) :=
  pgs_imp (pgs_cons ha hb hs) fun v σ H Q h => by
    obtain ⟨Z, env, d, env', r, hd, e, q⟩ := h
    cases hd with
    | nil => cases e
    | cons d1 dr =>
      obtain ⟨e1, h1, h⟩ := bnd e
      exact ⟨_, _, rfl, Z, env, _, e1, r, d1, h1, fun σ' Z' H' r' s' => ⟨Z', e1, _, env', r', DDsm dr s', h, fun σ2 Z2 H2 r2 s2 => q σ2 Z2 H2 r2 (s'.trans s2)⟩⟩
def gTupD (n : Nat) (gs : List PyData → DEnv → Option DEnv) (d : PyData) (env : DEnv) : Option DEnv := match d with
  | .tuple ds => if ds.length = n then gs ds env else none
  | _ => none
theorem dg_tup {n kk : Nat} {gs : List PyData → DEnv → Option DEnv} (h : PDGs X F es gs) (hc : X.calm = true := by rfl) (hn : (assignEach es X.env).length = n := by rfl) (hst : (assignEach es X.env).findIdx? (·.1) = none := by rfl) : PDG X F (.Tuple es kk pos) (gTupD n gs) :=
  pg_imp (pg_tup hc h hn hst) fun v σ H Q h => by
    obtain ⟨Z, env, d, env', r, hd, e, q⟩ := h
    cases hd with
    | @tup a xs ds hs ha =>
      change (if ds.length = n then gs ds env else none) = some env' at e
      by_cases hl : ds.length = n
      · rw [if_pos hl] at e
        exact ⟨a, xs, rfl, same_sqT r.zh hs, (dds_len ha).trans hl, Z, env, ds, env', r, ha, e, q⟩
      · rw [if_neg hl] at e; cases e
    | _ => cases e
def sAsg (f : DEnv → Option (PyData × DEnv)) (g : PyData → DEnv → Option DEnv) (env : DEnv) : Option DFlow := (f env).bind fun x => (g x.1 x.2).map .nx
theorem ds_asg {g : PyData → DEnv → Option DEnv} (ha : PD X F e f) (hg : PDG X F tg g) (hs : swapsWithSole [tg] e pos.line X.env = pure false := by rfl) (hw : swappedStores [tg] e X.env = pure none := by rfl)
    (h1 : (assignEach [tg] X.env).map (·.2) = [assign tg X.env] := by rfl) : PDS X F (.Assign [tg] e pos) (sAsg f g) := ps_imp (ps_asg ha hg hs hw h1) fun D σ H h => by
  obtain ⟨Z, env, fl, r, e, q⟩ := h
  obtain ⟨⟨d, e1⟩, h1, h⟩ := bnd e
  obtain ⟨e2, h2, h⟩ := mpd h
  subst h
  exact ⟨Z, env, d, e1, r, h1, fun v Z1 H1 r1 s1 d1 => ⟨Z1, e1, d, e2, r1, d1, h2, fun σ' Z' H' r' s' => q σ' Z' H' r' (s1.z.trans s')⟩⟩
end
end DL
end L2


set_option Elab.async false
set_option maxRecDepth 100000
set_option maxHeartbeats 4000000
set_option autoImplicit false
namespace L2
namespace DL
open PySem PySem.Spec PyProof.Rows
variable [Lab]
/-! ### what is walked, as data -/
def WalkD (K : PySem.W.Frag) (J : It) (Z : Hp) (ds : List PyData) : Prop := ∃ (G : Hp → Prop) (Y : Nat → Hp → V → Hp → Prop), Walk J ds.length G Y ∧ (∀ H, Same Z H → G H) ∧
  ∀ (i : Nat) (H : Hp) (x : V) (H' Zc : Hp), i < ds.length → Y i H x H' → Same Z Zc → Same Zc H → ∃ Zn d, Grow Zc H Zn H' ∧ ds[i]? = some d ∧ DD K Zn x d
theorem WalkD.mono {K : PySem.W.Frag} {J : It} {Z Z' : Hp} {ds : List PyData} (w : WalkD K J Z ds) (s : Same Z Z') : WalkD K J Z' ds := by
  obtain ⟨G, Y, a, b, c⟩ := w
  exact ⟨G, Y, a, fun H h => b H (s.trans h), fun i H x H' Zc hi y s1 s2 => c i H x H' Zc hi y (s.trans s1) s2⟩
theorem wd_list {K : PySem.W.Frag} {Z : Hp} {a : Addr} {xs : List V} {ds : List PyData} (h : LsR K Z a xs) (hd : DDs K Z xs ds) : WalkD K (Itl K a) Z ds := by
  refine ⟨_, _, (dds_len hd) ▸ walk_list (K := K) (a := a) (xs := xs), fun H s => (same_ls s h).sq, fun i H x H' Zc hi y s1 s2 => ?_⟩
  obtain ⟨rfl, y⟩ := y
  obtain ⟨d, e1, e2⟩ := dds_get' hd y
  exact ⟨Zc, d, Grow.refl s2, e1, DDm e2 s1⟩
theorem wd_tup {K : PySem.W.Frag} {Z : Hp} {a : Addr} {xs : List V} {ds : List PyData} (h : SqT K Z a xs) (hd : DDs K Z xs ds) : WalkD K (Itt K a) Z ds := by
  refine ⟨_, _, (dds_len hd) ▸ walk_tup (K := K) (a := a) (xs := xs), fun H s => same_sqT s h, fun i H x H' Zc hi y s1 s2 => ?_⟩
  obtain ⟨rfl, y⟩ := y
  obtain ⟨d, e1, e2⟩ := dds_get' hd y
  exact ⟨Zc, d, Grow.refl s2, e1, DDm e2 s1⟩
def rangeD (lo : Int) (n : Nat) : List PyData := (List.range n).map fun i => .int (lo + (i : Nat))
theorem rangeD_len (lo : Int) (n : Nat) : (rangeD lo n).length = n := by unfold rangeD; rw [List.length_map, List.length_range]
theorem rangeD_get (lo : Int) {n i : Nat} (h : i < n) : (rangeD lo n)[i]? = some (.int (lo + (i : Nat))) := by
  unfold rangeD
  rw [List.getElem?_map, List.getElem?_range h]
  rfl
theorem wd_range {K : PySem.W.Frag} {Z : Hp} (lo : Int) (n : Nat) : WalkD K (Itr lo n) Z (rangeD lo n) := by
  refine ⟨fun _ => True, YFn fun i => .int (lo + (i : Nat)), by rw [rangeD_len]; exact walk_range, fun _ _ => trivial, fun i H x H' Zc hi y s1 s2 => ?_⟩
  rw [rangeD_len] at hi
  obtain ⟨rfl, rfl⟩ := y
  exact ⟨Zc, _, Grow.refl s2, rangeD_get lo hi, .int _⟩
def enumD (ds : List PyData) : List PyData := (rangeD 0 ds.length).zipWith (fun a b => .tuple [a, b]) ds
theorem enumD_len (ds : List PyData) : (enumD ds).length = ds.length := by unfold enumD; rw [List.length_zipWith, rangeD_len]; omega
theorem enumD_get {ds : List PyData} {i : Nat} {d : PyData} (h : ds[i]? = some d) : (enumD ds)[i]? = some (.tuple [.int (i : Nat), d]) := by
  obtain ⟨hl, _⟩ := List.getElem?_eq_some_iff.mp h
  unfold enumD
  rw [List.getElem?_zipWith, rangeD_get 0 hl, h]
  simp
theorem wd_enum {K : PySem.W.Frag} {Z : Hp} {a : Addr} {xs : List V} {ds : List PyData} (h : LsR K Z a xs) (hd : DDs K Z xs ds) : WalkD K (Ite K a) Z (enumD ds) := by
  refine ⟨_, _, ((enumD_len ds).trans (dds_len hd).symm) ▸ walk_enum (K := K) (a := a) (xs := xs), fun H s => (same_ls s h).sq, fun i H x H' Zc hi y s1 s2 => ?_⟩
  obtain ⟨T, u, v, rfl, nT, rfl, e1, e2⟩ := y
  cases e1
  obtain ⟨d, e3, e4⟩ := dds_get' hd e2
  exact ⟨_, _, grow_new s2 nT _, enumD_get e3, new_tup s2 nT (.cons (.int _) (.cons (DDm e4 s1) .nil))⟩
def tDI (K : PySem.W.Frag) (F : Fm) (f : DEnv → Option (List PyData × DEnv)) : TI := fun σ H R => ∃ Z env ds env', Rel K F Z H σ env ∧ f env = some (ds, env') ∧ ∀ J Z' H', Rel K F Z' H' σ env' → Stp σ env Z H env' Z' H' → WalkD K J Z' ds → R J H'
def PDI (X : Cx) (F : Fm) (tg iter : Expr) (f : DEnv → Option (List PyData × DEnv)) : Prop := PI X tg iter (tDI X.K F f)
theorem pi_imp {X : Cx} {tg iter : Expr} {t t' : TI} (h : PI X tg iter t) (w : ∀ σ H Q, t' σ H Q → t σ H Q) : PI X tg iter t' := ⟨fun pins s σ H R I q => h.run pins s σ H R I (w σ H R q)⟩
theorem pi_orr {X : Cx} {tg iter : Expr} {t t' : TI} (h : PI X tg iter t) (h' : PI X tg iter t') : PI X tg iter (fun σ H R => t σ H R ∨ t' σ H R) := ⟨fun pins s σ H R I q => q.elim (h.run pins s σ H R I) (h'.run pins s σ H R I)⟩
section
variable {X : Cx} {F : Fm} {a b c e tg iter : Expr} {es : List Expr} {ss : List Stmt} {pos p pn : Pos} {x y : Str} {f : DEnv → Option (PyData × DEnv)} {fa fi : DEnv → Option (List PyData × DEnv)} {ft : DEnv → Option (Bool × DEnv)}
def seqD : PyData → Option (List PyData)
  | .list ds => some ds
  | .tuple ds => some ds
  | _ => none
def iSeq (f : DEnv → Option (PyData × DEnv)) (env : DEnv) : Option (List PyData × DEnv) := (f env).bind fun x => (seqD x.1).map fun ds => (ds, x.2)
theorem tD_choose {K : PySem.W.Frag} {σ : St} {H : Hp} {Z : Hp} {env : DEnv} {d : PyData} {env' : DEnv} {R : V → Hp → Prop} (r : Rel K F Z H σ env) (h : f env = some (d, env')) (q : ∀ v Z' H', Rel K F Z' H' σ env' → Stp σ env Z H env' Z' H' → DD K Z' v d → R v H') : tD K F f σ H R := ⟨Z, env, d, env', r, h, q⟩
theorem di_seq (ha : PD X F e f) : PDI X F tg e (iSeq f) := pi_imp (pi_orr (pi_list ha) (pi_tup ha)) fun σ H Q h => by
  obtain ⟨Z, env, ds, env', r, e, q⟩ := h
  obtain ⟨⟨d, e1⟩, h1, h⟩ := bnd e
  obtain ⟨ds', h2, h⟩ := mpd h
  cases h
  cases d with
  | list ds =>
    cases h2
    refine .inl (tD_choose r h1 fun v Z1 H1 r1 s1 d1 => ?_)
    cases d1 with
    | @lst a xs _ hr hd => exact ⟨a, rfl, ⟨xs, (same_ls r1.zh hr).sq⟩, q _ Z1 H1 r1 s1 (wd_list hr hd)⟩
  | tuple ds =>
    cases h2
    refine .inr (tD_choose r h1 fun v Z1 H1 r1 s1 d1 => ?_)
    cases d1 with
    | @tup a xs _ hr hd => exact ⟨a, rfl, ⟨xs, same_sqT r1.zh hr⟩, q _ Z1 H1 r1 s1 (wd_tup hr hd)⟩
  | _ => cases h2
def rng1 : List PyData → Option (List PyData)
  | [.int j] => if j ≤ 1000000 ∧ -1000000 ≤ j then some (rangeD 0 j.toNat) else none
  | _ => none
def iArg (o : List PyData → Option (List PyData)) (fa : DEnv → Option (List PyData × DEnv)) (env : DEnv) : Option (List PyData × DEnv) := (fa env).bind fun x => (o x.1).map fun ds => (ds, x.2)
theorem di_range1 (hm : X.mg "range" = none) (ha : PDA X F [a] fa) (hg : Gl X "range" := by rfl) (hs : starEach [a] X.env = [(false, eval a X.env)] := by rfl) : PDI X F tg (.Call (.Name "range" p) [a] [] pos) (iArg rng1 fa) := pi_imp (pi_range1 hg hm ha hs) fun σ H Q h => by
  obtain ⟨Z, env, ds, env', r, e, q⟩ := h
  obtain ⟨⟨d, e1⟩, h1, h⟩ := bnd e
  obtain ⟨ds', h2, h⟩ := mpd h
  cases h
  match d, h1, h2 with
  | [.int j], h1, h2 =>
    change (if j ≤ 1000000 ∧ -1000000 ≤ j then some (rangeD 0 j.toNat) else none) = some ds at h2
    split at h2
    case isFalse => cases h2
    rename_i hj
    cases h2
    refine ⟨Z, env, _, e1, r, h1, fun vs Z1 H1 r1 s1 d1 => ?_⟩
    cases d1 with
    | cons d1 dn =>
      cases dn
      cases d1.int_inv
      exact ⟨j, rfl, by omega, by omega, q _ Z1 H1 r1 s1 (wd_range 0 _)⟩
/-! ### for -/
def forD (g : PyData → DEnv → Option DEnv) (b : DEnv → Option DFlow) : List PyData → DEnv → Option DFlow
  | [], env => some (.nx env)
  | d :: ds, env => (g d env).bind fun e1 => (b e1).bind fun fl => match fl with
    | .nx e2 => forD g b ds e2
    | .ct e2 => forD g b ds e2
    | .bk e2 => some (.nx e2)
    | fl => some fl
def sFor (fi : DEnv → Option (List PyData × DEnv)) (g : PyData → DEnv → Option DEnv) (b : DEnv → Option DFlow) (env : DEnv) : Option DFlow := (fi env).bind fun x => forD g b x.1 x.2
theorem ds_for {g : PyData → DEnv → Option DEnv} {h1 : DEnv → Option DFlow} (hi : PDI X F tg iter fi) (hg : PDG X F tg g) (hb : PDSs X F ss h1) (hp : PassesOwn (model X.prog X.w) X.A X.env X.xe := by exact PassesOwn.never) (hc : X.calm = true := by rfl) (hs : ∀ x, foldedSetIterable iter X.env x = pure x := by intro _; rfl) :
    PDS X F (.For tg iter ss [] pos) (sFor fi g h1) := ps_imp (ps_for hp hc hi hg hb hs) fun D σ H h => by
  obtain ⟨Z, env, fl, r, e, q⟩ := h
  obtain ⟨⟨ds, e1⟩, e0, e⟩ := bnd e
  refine ⟨Z, env, ds, e1, r, e0, fun J Z1 H1 r1 s1 w => ?_⟩
  obtain ⟨G, Y, wk, hG, hY⟩ := w
  refine for_it wk (fun i σ' H' => ∃ Z' env', Same Z1 Z' ∧ Rel X.K F Z' H' σ' env' ∧ forD g h1 (ds.drop i) env' = some fl) ⟨Z1, e1, Same.refl _, r1, e⟩ ?_ ?_ ?_
  · rintro i σ' H' hi ⟨Z', env', s', r', _⟩
    exact hG H' (s'.trans r'.zh)
  · rintro i x σ' H' H2 hi ⟨Z', env', s', r', e'⟩ y
    obtain ⟨Zn, d, gr, hd, dd⟩ := hY i H' x H2 Z' hi y s' r'.zh
    have ed : ds.drop i = d :: ds.drop (i + 1) := by
      obtain ⟨hl, hx⟩ := List.getElem?_eq_some_iff.mp hd
      rw [← hx]
      exact List.drop_eq_getElem_cons hl
    rw [ed] at e'
    obtain ⟨e2, g2, e'⟩ := bnd e'
    obtain ⟨f2, b2, e'⟩ := bnd e'
    refine ⟨Zn, env', d, e2, r'.grow gr, dd, g2, fun σ2 Z2 H2 r2 s2 => ⟨Z2, e2, f2, r2, b2, ?_⟩⟩
    have sa : Same Z1 Z2 := (s'.trans gr.z).trans s2
    cases f2 with
    | nx e3 => exact fun σ3 Z3 H3 r3 s3 => ⟨Z3, e3, sa.trans s3, r3, e'⟩
    | ct e3 => exact fun σ3 Z3 H3 r3 s3 => ⟨Z3, e3, sa.trans s3, r3, e'⟩
    | bk e3 =>
      cases e'
      exact fun σ3 Z3 H3 r3 s3 => q σ3 Z3 H3 r3 ((s1.z.trans sa).trans s3)
    | rt d3 e3 =>
      cases e'
      exact fun v σ3 Z3 H3 r3 s3 => q v σ3 Z3 H3 r3 ((s1.z.trans sa).trans s3)
    | rn d3 e3 =>
      cases e'
      exact fun p xs σ3 Z3 H3 r3 s3 => q p xs σ3 Z3 H3 r3 ((s1.z.trans sa).trans s3)
    | ex c3 a3 d3 e3 =>
      cases e'
      exact fun v p σ3 Z3 H3 r3 s3 => q v p σ3 Z3 H3 r3 ((s1.z.trans sa).trans s3)
  · rintro σ' H' ⟨Z', env', s', r', e'⟩
    rw [List.drop_length] at e'
    cases e'
    exact q σ' Z' H' r' (s1.z.trans s')

/-! ### list comprehensions -/
def wipeE (env : DEnv) : List Nat → DEnv
  | [] => env
  | v :: vs => (wipeE env vs).set v none
theorem Rel.wipe {K : PySem.W.Frag} {Z H : Hp} {σ : St} {env : DEnv} (r : Rel K F Z H σ env) : ∀ vs : List Nat, Rel K F Z H (wipe σ vs) (wipeE env vs)
  | [] => r
  | v :: vs => (Rel.wipe r vs).drop v
theorem wipe_get (σ : St) : ∀ (vs : List Nat) (i : Nat), i ∉ vs → (wipe σ vs)[i]? = σ[i]?
  | [], _, _ => rfl
  | v :: vs, i, h => by
    rw [List.mem_cons, not_or] at h
    show ((L2.wipe σ vs).set v none)[i]? = σ[i]?
    rw [List.getElem?_set_ne (fun z => h.1 z.symm), wipe_get σ vs i h.2]
theorem wipe_in (σ : St) : ∀ (vs : List Nat) (i : Nat), i ∈ vs → i < σ.length → (wipe σ vs)[i]? = some none
  | v :: vs, i, h, hl => by
    show ((L2.wipe σ vs).set v none)[i]? = some none
    by_cases e : v = i
    · subst e
      exact List.getElem?_set_self (by rw [wipe_length]; exact hl)
    · rw [List.getElem?_set_ne e]
      rcases List.mem_cons.mp h with z | z
      · exact absurd z.symm e
      · exact wipe_in σ vs i z hl
theorem wipeE_in (env : DEnv) : ∀ (vs : List Nat) (i : Nat) (dv : DV), (wipeE env vs)[i]? = some (some dv) → i ∉ vs ∧ env[i]? = some (some dv)
  | [], i, dv, h => ⟨by simp, h⟩
  | v :: vs, i, dv, h => by
    rcases get_set_some h with ⟨_, z⟩ | ⟨hne, z⟩
    · cases z
    · obtain ⟨a, b⟩ := wipeE_in env vs i dv z
      exact ⟨by rw [List.mem_cons, not_or]; exact ⟨hne, a⟩, b⟩
theorem wipe_eq {σ τ : St} {vs : List Nat} (hl : τ.length = σ.length) (h : ∀ i, i ∉ vs → τ[i]? = σ[i]?) : wipe τ vs = wipe σ vs := by
  refine List.ext_getElem? fun i => ?_
  by_cases hi : i ∈ vs
  · by_cases hlt : i < σ.length
    · rw [wipe_in _ _ _ hi hlt, wipe_in _ _ _ hi (by omega)]
    · rw [List.getElem?_eq_none (by rw [wipe_length]; omega), List.getElem?_eq_none (by rw [wipe_length]; omega)]
  · rw [wipe_get _ _ _ hi, wipe_get _ _ _ hi, h i hi]
/-- back to the slots ahead of the wipe -/
theorem Rel.unwipe {K : PySem.W.Frag} {Z H : Hp} {σ : St} {env : DEnv} {vs : List Nat} (r : Rel K F Z H (L2.wipe σ vs) env) (h : ∀ (i : Nat) (dv : DV), env[i]? = some (some dv) → i ∉ vs) : Rel K F Z H σ env := by
  have eq : ∀ (i : Nat) (dv : DV), env[i]? = some (some dv) → (L2.wipe σ vs)[i]? = σ[i]? := fun i dv e => wipe_get σ vs i (h i dv e)
  refine ⟨r.z0, r.zh, r.gh, r.nw, r.pp, by rw [r.len, wipe_length], fun i dv e => ?_, fun i j di dj p ei ej oi oj si sj => r.inj i j di dj p ei ej oi oj ((eq i di ei).trans si) ((eq j dj ej).trans sj), r.tb⟩
  have s := r.sl i dv e
  have q := eq i dv e
  cases dv with
  | fr d => obtain ⟨v, a, b⟩ := s; exact ⟨v, q.symm.trans a, b⟩
  | ow ds => obtain ⟨p, xs, a, b⟩ := s; exact ⟨p, xs, q.symm.trans a, b⟩
  | rf ds => obtain ⟨p, xs, a, b⟩ := s; exact ⟨p, xs, q.symm.trans a, b⟩
  | fn n => exact q.symm.trans s
  | dk ds => obtain ⟨p, o, xs, a, b⟩ := s; exact ⟨p, o, xs, q.symm.trans a, b⟩
/-- targets that are names: the slots ts alone change -/
structure TgOk (ts : List Nat) (σ : St) (env : DEnv) (σ' : St) (env' : DEnv) : Prop where
  s : ∀ i : Nat, i ∉ ts → σ'[i]? = σ[i]?
  l : σ'.length = σ.length
  o : ∀ (i : Nat) (dv : DV), env'[i]? = some (some dv) → ownish dv = true → i ∉ ts ∧ env[i]? = some (some dv)
def tGN (K : PySem.W.Frag) (F : Fm) (ts : List Nat) (g : PyData → DEnv → Option DEnv) : TG := fun v σ H Q => ∃ Z env d env', Rel K F Z H σ env ∧ DD K Z v d ∧ g d env = some env' ∧ ∀ σ', Rel K F Z H σ' env' → TgOk ts σ env σ' env' → Q σ' H
def PGN (X : Cx) (F : Fm) (e : Expr) (ts : List Nat) (g : PyData → DEnv → Option DEnv) : Prop := PG X e (tGN X.K F ts g)
theorem gn_name (i : Nat) (hN : X.N.Nodup) (hi : X.N[i]? = some x := by rfl) (hx : Loc X.env.scope x := by first | exact Or.inl rfl | exact Or.inr rfl) (hf : X.fn x = true ∨ X.env.scope.names.lookup x = some .local := by first | exact .inl rfl | exact .inr rfl | assumption) : PGN X F (.Name x pos) [i] (gSet i) :=
  pg_imp (pg_name hN hi hx hf) fun v σ H Q h => by
    obtain ⟨Z, env, d, env', r, hd, e, q⟩ := h
    cases e
    refine q _ (r.store i hd) ⟨fun j hj => List.getElem?_set_ne (fun z => hj (by rw [z]; simp)), List.length_set .., fun j dv e o => ?_⟩
    rcases get_set_some e with ⟨_, z⟩ | ⟨hne, z⟩
    · cases z; cases o
    · exact ⟨by simpa using hne, z⟩
def lcD (g : PyData → DEnv → Option DEnv) (ft : DEnv → Option (Bool × DEnv)) (fe : DEnv → Option (PyData × DEnv)) (vs : List Nat) : List PyData → DEnv → Option (List PyData × DEnv)
  | [], env => some ([], env)
  | d :: ds, env => (g d env).bind fun e1 => (ft e1).bind fun t => if t.1 then (fe t.2).bind fun y => (lcD g ft fe vs ds (wipeE y.2 vs)).map fun r => (y.1 :: r.1, r.2) else lcD g ft fe vs ds (wipeE t.2 vs)
def nLc (fi : DEnv → Option (List PyData × DEnv)) (g : PyData → DEnv → Option DEnv) (ft : DEnv → Option (Bool × DEnv)) (fe : DEnv → Option (PyData × DEnv)) (vs : List Nat) (env : DEnv) : Option (List PyData × DEnv) :=
  (fi env).bind fun x => if x.1.length ≤ lim then lcD g ft fe vs x.1 (wipeE x.2 vs) else none
def fYes (env : DEnv) : Option (Bool × DEnv) := some (true, env)
def PDTs (X : Cx) (F : Fm) (ifs : List Expr) (ft : DEnv → Option (Bool × DEnv)) : Prop := PTs X ifs (tDT X.K F ft)
theorem dts_nil : PDTs X F [] fYes := ⟨fun pins s σ H Q I h => pts_nil.run pins s σ H Q I (by
  obtain ⟨Z, env, d, env', r, e, q⟩ := h
  cases e
  exact q Z H r Stp.refl)⟩
theorem lc_read {K : PySem.W.Frag} {ts vs : List Nat} {g : PyData → DEnv → Option DEnv} {fe : DEnv → Option (PyData × DEnv)} (hts : ∀ i ∈ ts, i ∈ vs) {σ : St} {H : Hp} {Q : VK} (h : tDN K F (nLc fi g ft fe vs) σ H Q) :
    tLc (tDI K F fi) (tGN K F ts g) (tDT K F ft) (tD K F fe) vs σ H Q := by
  obtain ⟨Z, env, rs, env', r, e, q⟩ := h
  obtain ⟨⟨ds, e1⟩, e0, e⟩ := bnd e
  dsimp only at e
  split at e
  case isFalse => cases e
  rename_i hlim
  refine ⟨Z, env, ds, e1, r, e0, fun J Z1 H1 r1 s1 w D hD => ?_⟩
  obtain ⟨G, Y, wk, hG, hY⟩ := w
  have hD0 : H D = none := s1.new hD
  have zD1 : Z1 D = none := r1.zh.free hD
  have g1 : Grow Z1 H1 Z1 (upd H1 D (.lst [])) := grow_own r1.zh hD _
  have frD : Fre σ env D := fre_new r hD0
  -- the turn
  refine lc_it wk (fun i Hc => ∃ Zc ec acc ad rest, Same Z1 Zc ∧ Rel K F Zc Hc (wipe σ vs) ec ∧ (∀ (j : Nat) (dv : DV), ec[j]? = some (some dv) → j ∉ vs) ∧ Stp σ env Z H ec Zc Hc ∧ Hc D = some (.lst acc) ∧ Zc D = none ∧ acc.length ≤ i ∧ DDs K Zc acc ad ∧
      lcD g ft fe vs (ds.drop i) ec = some (rest, env') ∧ rs = ad ++ rest) ?_ ?_ ?_ ?_
  · refine ⟨Z1, wipeE e1 vs, [], [], rs, Same.refl _, (r1.grow g1).wipe vs, fun j dv e => (wipeE_in _ _ _ _ e).1, ?_, upd_same, zD1, Nat.le_refl _, .nil, e, rfl⟩
    have s2 := s1.trans g1.stp
    exact ⟨s2.z, s2.h, s2.n, fun i dv e o => s2.o i dv (wipeE_in _ _ _ _ e).2 o, s2.k⟩
  · rintro i Hc hi ⟨Zc, ec, acc, ad, rest, sz, rc, _⟩
    exact hG Hc (sz.trans rc.zh)
  · rintro i x Hc H2 hi ⟨Zc, ec, acc, ad, rest, sz, rc, nv, st, hDc, zDc, hla, dacc, el, eq⟩ y
    obtain ⟨Zn, d, gr, hd, dd⟩ := hY i Hc x H2 Zc hi y sz rc.zh
    have ed : ds.drop i = d :: ds.drop (i + 1) := by
      obtain ⟨hl, hx⟩ := List.getElem?_eq_some_iff.mp hd
      rw [← hx]
      exact List.drop_eq_getElem_cons hl
    rw [ed] at el
    obtain ⟨e2, g2, el⟩ := bnd el
    obtain ⟨⟨tb, e3⟩, t2, el⟩ := bnd el
    have stn : Stp σ env Z H ec Zn H2 := by
      have b := gr.stp (σ := σ) (env := ec)
      exact st.trans b
    have zDn : Zn D = none := by
      cases hh : Zn D with
      | none => rfl
      | some o =>
        rcases gr.n D (by rw [hh]; simp) with z | z
        · exact absurd zDc z
        · rw [hDc] at z; cases z
    have hDn : H2 D = some (.lst acc) := gr.h.h D _ hDc nt_lst
    refine ⟨Zn, ec, d, e2, rc.grow gr, dd, g2, fun σ2 r2 k2 => ⟨?_, ?_⟩⟩
    · rw [wipe_eq (σ := wipe σ vs) (τ := σ2) k2.l (fun j hj => k2.s j fun z => hj (hts j z))]
      exact wipe_eq (wipe_length σ vs) fun j hj => wipe_get σ vs j hj
    have wst : wipe σ2 vs = wipe σ vs := by
      rw [wipe_eq (σ := wipe σ vs) (τ := σ2) k2.l (fun j hj => k2.s j fun z => hj (hts j z))]
      exact wipe_eq (wipe_length σ vs) fun j hj => wipe_get σ vs j hj
    -- an address that is free of owned slots at the start is so in the turn
    have free2 : ∀ q, Fre σ env q → Fre σ2 e2 q := fun q f j dv ej oj sj => by
      obtain ⟨a1, b1⟩ := k2.o j dv ej oj
      obtain ⟨dv0, b2, o2⟩ := st.o j dv b1 oj
      refine f j dv0 b2 o2 ?_
      rw [← wipe_get σ vs j (nv j dv b1), ← k2.s j a1]
      exact sj
    have own2 : ∀ (j : Nat) (dv : DV), e2[j]? = some (some dv) → ownish dv = true → ∃ dv0, env[j]? = some (some dv0) ∧ ownish dv0 = true := fun j dv ej oj => by
      obtain ⟨a1, b1⟩ := k2.o j dv ej oj
      exact st.o j dv b1 oj
    -- a step in the turn, seen from the start
    have lift : ∀ {e4 : DEnv} {Z4 H4 : Hp}, Stp σ2 e2 Zn H2 e4 Z4 H4 → Stp σ env Z H (wipeE e4 vs) Z4 H4 := fun {e4 Z4 H4} b => by
      refine ⟨stn.z.trans b.z, fun q o hq n f => b.h q o (stn.h q o hq n f) n (free2 q f), fun q h4 h0 hh f => ?_, fun j dv ej oj => ?_, fun q hq => b.k q (stn.k q hq)⟩
      · by_cases hz : Zn q = none
        · have h1 : H2 q ≠ none := stn.k q hh
          exact b.n q h4 hz h1 (free2 q f)
        · exact stn.n q hz h0 hh f
      · obtain ⟨a1, b1⟩ := b.o j dv (wipeE_in _ _ _ _ ej).2 oj
        exact own2 j a1 b1.1 b1.2
    refine ⟨Zn, e2, tb, e3, r2, t2, fun Z3 H3 r3 s3 => ?_⟩
    have hD3 : H3 D = some (.lst acc) := s3.h D _ hDn nt_lst (free2 D frD)
    have zD3 : Z3 D = none := by
      cases hh : Z3 D with
      | none => rfl
      | some o => exact absurd (free2 D frD) (s3.n D (by rw [hh]; simp) zDn (by rw [hDn]; simp))
    cases tb with
    | false =>
      refine iteF ⟨Z3, wipeE e3 vs, acc, ad, rest, (sz.trans gr.z).trans s3.z, ?_, fun j dv e => (wipeE_in _ _ _ _ e).1, lift s3, hD3, zD3, Nat.le_succ_of_le hla, DDsm dacc (gr.z.trans s3.z), el, eq⟩
      have := r3.wipe vs
      rw [wst] at this
      exact this
    | true =>
      obtain ⟨⟨yv, e4⟩, y2, el⟩ := bnd el
      obtain ⟨⟨rr, e5⟩, l2, el⟩ := mpd el
      cases el
      refine iteT ⟨Z3, e3, yv, e4, r3, y2, fun v Z4 H4 r4 s4 d4 => ?_⟩
      have s34 := s3.trans s4
      have hD4 : H4 D = some (.lst acc) := s34.h D _ hDn nt_lst (free2 D frD)
      have zD4 : Z4 D = none := by
        cases hh : Z4 D with
        | none => rfl
        | some o => exact absurd (free2 D frD) (s34.n D (by rw [hh]; simp) zDn (by rw [hDn]; simp))
      have hlt : acc.length < sizeLine := Nat.lt_of_lt_of_le (Nat.lt_of_le_of_lt hla hi) (Nat.le_trans hlim lim_le)
      refine ⟨acc, hD4, hlt, Z4, wipeE e4 vs, acc ++ [v], ad ++ [yv], rr, (sz.trans gr.z).trans s34.z, ?_, fun j dv e => (wipeE_in _ _ _ _ e).1, ?_, upd_same, zD4, ?_, dds_app (DDsm dacc (gr.z.trans s34.z)) (.cons d4 .nil), l2, ?_⟩
      · have pk := pok_upd r4.zh zD4 hD4 (.lst (acc ++ [v]))
        have rp := r4.poke0 (s34.fre (free2 D frD)) (r.gh.free hD0) (fun z => (r.pp D z).1 hD0) pk (by rw [upd_same]; simp)
        have := rp.wipe vs
        rw [wst] at this
        exact this
      · have b := lift s34
        refine ⟨b.z, fun q o hq n f => ?_, b.n, b.o, fun q hq => ?_⟩
        · rw [upd_ne (fun z => by rw [z, hD0] at hq; cases hq)]
          exact b.h q o hq n f
        · by_cases hqD : q = D
          · subst hqD; rw [upd_same]; simp
          · rw [upd_ne hqD]; exact b.k q hq
      · rw [List.length_append]; exact Nat.succ_le_succ hla
      · rw [eq, List.append_assoc]; rfl
  · rintro Hc ⟨Zc, ec, acc, ad, rest, sz, rc, nv, st, hDc, zDc, hla, dacc, el, eq⟩
    rw [List.drop_length] at el
    cases el
    rw [List.append_nil] at eq
    subst eq
    exact q D acc Zc Hc (rc.unwipe nv) st hD0 zDc hDc dacc
end
end DL
end L2


set_option Elab.async false
set_option maxRecDepth 100000
set_option maxHeartbeats 4000000
set_option autoImplicit false
namespace L2
namespace DL
open PySem PySem.Spec PyProof.Rows
variable [Lab]
section
variable {X : Cx} {F : Fm} {a b c e tg iter elt : Expr} {es ifs : List Expr} {pos p pn : Pos} {x y : Str} {f fe : DEnv → Option (PyData × DEnv)} {fa fi : DEnv → Option (List PyData × DEnv)} {ft : DEnv → Option (Bool × DEnv)} {scope : Scope} {ts : List Nat} {g : PyData → DEnv → Option DEnv}
theorem pn_lc (own : List (Str × Nat)) (hN : X.N.Nodup) (hi : PDI X F tg iter fi) (ok : BlkOk X.N X.env.scope scope own)
    (hg : ∀ (s : Shared) (H : Hp) (C : Addr) (cl : List (Str × Addr)) (fp : List Addr), PGN (X.blk s H scope (compEnvC scope cl C X.env) fp) F tg ts g) (ht : ∀ (s : Shared) (H : Hp) (C : Addr) (cl : List (Str × Addr)) (fp : List Addr), PDTs (X.blk s H scope (compEnvC scope cl C X.env) fp) F ifs ft)
    (he : ∀ (s : Shared) (H : Hp) (C : Addr) (cl : List (Str × Addr)) (fp : List Addr), PD (X.blk s H scope (compEnvC scope cl C X.env) fp) F elt fe) (hts : ∀ i ∈ ts, i ∈ own.map (·.2) := by decide) (hc : X.calm = true := by rfl) (hs : ∀ x, foldedSetIterable iter X.env x = pure x := by intro _; rfl) :
    PN X F (.ListComp elt [⟨tg, iter, ifs, 0⟩] scope pos) (nLc fi g ft fe (own.map (·.2))) :=
  pe_imp (pe_lc (g := tGN X.K F ts g) (tt := tDT X.K F ft) (te := tD X.K F fe) hc hN hi ok hg ht he hs) fun _ _ _ h => lc_read hts h
end

/-! ### defs by their bodies -/
def startE (n : Nat) (ds : List PyData) : DEnv := ds.map (fun d => some (.fr d)) ++ List.replicate (n - ds.length) none
def runF (n N : Nat) (g : DEnv → Option DFlow) (ds : List PyData) : Option PyData := if ds.length = n then (match g (startE N ds) with
  | some (.rt d _) => some d
  | some (.nx _) => some .none
  | _ => none) else none
theorem runF_len {n N : Nat} {g : DEnv → Option DFlow} (ds : List PyData) (r : PyData) (h : runF n N g ds = some r) : ds.length = n := by
  unfold runF at h
  split at h
  · assumption
  · cases h
def runN (n N : Nat) (g : DEnv → Option DFlow) (ds : List PyData) : Option (List PyData) := if ds.length = n then (match g (startE N ds) with
  | some (.rn d _) => some d
  | _ => none) else none
theorem runN_len {n N : Nat} {g : DEnv → Option DFlow} (ds : List PyData) (r : List PyData) (h : runN n N g ds = some r) : ds.length = n := by
  unfold runN at h
  split at h
  · assumption
  · cases h
def rf0 (env : DEnv) : Option (List PyData) := match env with
  | some (.rf es) :: _ => some es
  | _ => none
def runR (n N : Nat) (g : DEnv → Option DFlow) (es ds : List PyData) : Option (PyData × List PyData) := if ds.length + 1 = n then (match g (some (.rf es) :: startE (N - 1) ds) with
  | some (.rt d env) => (rf0 env).map fun x => (d, x)
  | some (.nx env) => (rf0 env).map fun x => (.none, x)
  | _ => none) else none
theorem runR_len {n N : Nat} {g : DEnv → Option DFlow} (es ds : List PyData) (r : PyData × List PyData) (h : runR n N g es ds = some r) : ds.length + 1 = n := by
  unfold runR at h
  split at h
  · assumption
  · cases h
theorem startE_len {N : Nat} {ds : List PyData} (h : ds.length ≤ N) : (startE N ds).length = N := by
  unfold startE
  rw [List.length_append, List.length_map, List.length_replicate]
  omega
theorem start_len {N : List Str} {vs : List V} (h : vs.length ≤ N.length) : (start N vs).length = N.length := by
  unfold start
  rw [List.length_append, List.length_map, List.length_replicate]
  omega
theorem startE_get {n i : Nat} {ds : List PyData} {dv : DV} (h : (startE n ds)[i]? = some (some dv)) : ∃ d, ds[i]? = some d ∧ dv = .fr d := by
  unfold startE at h
  by_cases hi : i < ds.length
  · rw [List.getElem?_append_left (by rw [List.length_map]; exact hi), List.getElem?_map, List.getElem?_eq_getElem hi] at h
    cases h
    exact ⟨_, List.getElem?_eq_getElem hi, rfl⟩
  · rw [List.getElem?_append_right (by rw [List.length_map]; omega), List.getElem?_replicate] at h
    split at h <;> cases h
theorem start_get {N : List Str} {vs : List V} {i : Nat} {v : V} (h : vs[i]? = some v) : (start N vs)[i]? = some (some v) := by
  obtain ⟨hl, hx⟩ := List.getElem?_eq_some_iff.mp h
  unfold start
  rw [List.getElem?_append_left (by rw [List.length_map]; exact hl), List.getElem?_map, h]
  rfl
section
variable {P : Program} {w : World} {K : PySem.W.Frag} {mg : Str → Option Value} {base : Heap} {x qual : Str} {st : Stmt} {f : Addr} {fd : FuncData} {N ps : List Str} {k : Nat} {g : DEnv → Option DFlow}
/-- what a body's derivation is asked for -/
abbrev BodyOk (P : Program) (w : World) (K : PySem.W.Frag) (mg : Str → Option Value) (base : Heap) (N : List Str) (qual : Str) (st : Stmt) (f : Addr) (cv : Value) (k : Nat) (g : DEnv → Option DFlow) : Prop :=
  ∀ (cdv : Value) (A : Around) (outer : List Env) (s : Shared) (H : Hp) (E : XK) (F : Fm), cdv = cv → F.W = W0 → GdOk (A.deeper (envOfC qual (defScope st) s.heap.objs.size f cdv)) → Room k (A.deeper (envOfC qual (defScope st) s.heap.objs.size f cdv)) →
    PDSs (cxOf CX0 P w K mg base N qual (defScope st) f cdv A outer s H E).nox F (defBody st) g
theorem pure_start {Z H : Hp} {vs : List V} {ds : List PyData} (sz : Same Z H) (tb : TB H) (hd : DDs K Z vs ds) (hl : vs.length ≤ N.length) : Rel K ⟨Z, H, fun _ => False, W0⟩ Z H (start N vs) (startE N.length ds) := by
  have hvd := dds_len hd
  refine ⟨Same.refl Z, sz, Same.refl H, fun q h => .inl h, fun q h => h.elim, by rw [start_len hl, startE_len (by omega)], fun i dv e => ?_, fun i j di dj q ei ej oi => ?_, tb⟩
  · obtain ⟨d, e1, rfl⟩ := startE_get e
    obtain ⟨v, e2, e3⟩ := dds_get hd e1
    exact ⟨v, start_get e2, e3⟩
  · obtain ⟨d, e1, rfl⟩ := startE_get ei
    cases oi
theorem fn_pure (D : Fun K x qual st f fd) (S : FnScope N ps (defScope st)) (hb : BodyOk P w K mg base N qual st f fd.code k g) : FnG P w K mg base (k + 1) f fd ps (spF K ps.length (runF ps.length N.length g)) := by
  refine fng_of D S (fun vs H Q E h => h.1) fun cdv A outer s H vs Q E hcv hg hr h => ?_
  obtain ⟨hl, Z, ds, r, sz, tb, hd, e, q⟩ := h
  have hN : ps.length ≤ N.length := by
    have := congrArg List.length S.pre
    rw [List.length_take] at this
    omega
  refine ⟨_, hb cdv A outer s H E ⟨Z, H, fun _ => False, W0⟩ hcv rfl hg hr, Z, startE N.length ds, ?_⟩
  have r0 := pure_start (K := K) (N := N) sz tb hd (by omega)
  have fin : ∀ {Z' H' : Hp} {σ' : St} {e' : DEnv}, Rel K ⟨Z, H, fun _ => False, W0⟩ Z' H' σ' e' → Grow Z H Z' H' := fun {Z' H' σ' e'} r' => ⟨r'.z0, r'.zh, r'.gh, fun _ => r'.tb, fun q hq => (r'.nw q hq).imp id (·.1)⟩
  unfold runF at e
  split at e
  case isFalse => cases e
  generalize hh : g (startE N.length ds) = o at e
  match o, e with
  | some (.rt d e'), e =>
    cases e
    exact ⟨_, r0, rfl, fun v σ' Z' H' r' s' dd => q v Z' H' (fin r') dd⟩
  | some (.nx e'), e =>
    cases e
    exact ⟨_, r0, rfl, fun σ' Z' H' r' s' => q .non Z' H' (fin r') .non⟩
theorem fn_new (D : Fun K x qual st f fd) (S : FnScope N ps (defScope st)) (hb : BodyOk P w K mg base N qual st f fd.code k g) : FnG P w K mg base (k + 1) f fd ps (spN K ps.length (runN ps.length N.length g)) := by
  refine fng_of D S (fun vs H Q E h => h.1) fun cdv A outer s H vs Q E hcv hg hr h => ?_
  obtain ⟨hl, Z, ds, r, sz, tb, hd, e, q⟩ := h
  have hN : ps.length ≤ N.length := by
    have := congrArg List.length S.pre
    rw [List.length_take] at this
    omega
  refine ⟨_, hb cdv A outer s H E ⟨Z, H, fun _ => False, W0⟩ hcv rfl hg hr, Z, startE N.length ds, ?_⟩
  have r0 := pure_start (K := K) (N := N) sz tb hd (by omega)
  unfold runN at e
  split at e
  case isFalse => cases e
  generalize hh : g (startE N.length ds) = o at e
  match o, e with
  | some (.rn d e'), e =>
    cases e
    exact ⟨_, r0, rfl, fun p xs σ' Z' H' r' s' hz hg' hp hh' dd => q p xs Z' H' ⟨r'.z0, r'.zh, r'.gh, fun _ => r'.tb, fun q hq => (r'.nw q hq).imp id (·.1)⟩ hg' hz hh' dd⟩
theorem fn_ref (D : Fun K x qual st f fd) (S : FnScope N ps (defScope st)) (hb : BodyOk P w K mg base N qual st f fd.code k g) : FnG P w K mg base (k + 1) f fd ps (spR K ps.length (runR ps.length N.length g)) := by
  refine fng_of D S (fun vs H Q E h => h.1) fun cdv A outer s H vs Q E hcv hg hr h => ?_
  obtain ⟨hl, Z, p, ws, xs, es, ds, r, es', rfl, sz, tb, zp, hp, hx, hd, e, q⟩ := h
  have hN : ps.length ≤ N.length := by
    have := congrArg List.length S.pre
    rw [List.length_take] at this
    omega
  have hwd := dds_len hd
  rw [List.length_cons] at hl
  refine ⟨_, hb cdv A outer s H E ⟨Z, fun q => if q = p then none else H q, fun q => q = p, W0⟩ hcv rfl hg hr, Z, some (.rf es) :: startE (N.length - 1) ds, ?_⟩
  have r0 : Rel K ⟨Z, fun q => if q = p then none else H q, fun q => q = p, W0⟩ Z H (start N (.ref p :: ws)) (some (.rf es) :: startE (N.length - 1) ds) := by
    refine ⟨Same.refl Z, sz, ⟨fun q o h _ => ?_, fun q h => ?_⟩, fun q h => .inl h, fun q h => ?_, ?_, fun i dv e => ?_, fun i j di dj q ei ej oi oj si sj => ?_, tb⟩
    · dsimp only at h
      split at h
      · cases h
      · exact h
    · dsimp only at h
      split at h
      · exact absurd rfl h
      · exact h
    · dsimp only at h
      subst h
      exact ⟨by rw [hp]; simp, zp, if_pos rfl⟩
    · rw [List.length_cons, startE_len (by omega), start_len (by rw [List.length_cons]; omega)]
      omega
    · cases i with
      | zero =>
        cases e
        exact ⟨p, xs, start_get rfl, rfl, hp, hx⟩
      | succ i =>
        rw [List.getElem?_cons_succ] at e
        obtain ⟨d, e1, rfl⟩ := startE_get e
        obtain ⟨v, e2, e3⟩ := dds_get hd e1
        exact ⟨v, start_get (by rw [List.getElem?_cons_succ]; exact e2), e3⟩
    · have z : ∀ (i : Nat) (dv : DV), (some (.rf es) :: startE (N.length - 1) ds)[i]? = some (some dv) → ownish dv = true → i = 0 := fun i dv e o => by
        cases i with
        | zero => rfl
        | succ i =>
          rw [List.getElem?_cons_succ] at e
          obtain ⟨d, e1, rfl⟩ := startE_get e
          cases o
      rw [z i di ei oi, z j dj ej oj]
  have fin : ∀ {Z' H' : Hp} {σ' : St} {e' : DEnv} {v : V}, Rel K ⟨Z, fun q => if q = p then none else H q, fun q => q = p, W0⟩ Z' H' σ' e' → rf0 e' = some es' → DD K Z' v r → Q v H' := fun {Z' H' σ' e' v} r' h0 dd => by
    match e', h0, r' with
    | some (.rf es2) :: rest, h0, r' =>
      cases h0
      obtain ⟨p', xs', a1, a2, a3, a4⟩ := r'.sl 0 _ rfl
      have a2 : p' = p := a2
      subst a2
      refine q v xs' Z' H' ⟨r'.z0, r'.zh, fun b o hb h n => r'.gh.h b o ?_ n, fun b hb h => r'.gh.k b ?_, fun _ => r'.tb, fun b hb => ?_⟩ a3 a4 dd
      · show (if b = p' then none else H b) = some o
        rw [if_neg hb]; exact h
      · show (if b = p' then none else H b) ≠ none
        rw [if_neg hb]; exact h
      · rcases r'.nw b hb with h | ⟨h, h2⟩
        · exact .inl h
        · have h : (if b = p' then none else H b) = none := h
          rw [if_neg h2] at h
          exact .inr h
  unfold runR at e
  split at e
  case isFalse => cases e
  generalize hh : g (some (.rf es) :: startE (N.length - 1) ds) = o at e
  match o, e with
  | some (.rt d e'), e =>
    obtain ⟨x0, h0, h⟩ := mpd e
    cases h
    exact ⟨_, r0, rfl, fun v σ' Z' H' r' s' dd => fin r' h0 dd⟩
  | some (.nx e'), e =>
    obtain ⟨x0, h0, h⟩ := mpd e
    cases h
    exact ⟨_, r0, rfl, fun σ' Z' H' r' s' => fin (v := .non) r' h0 .non⟩
theorem fn_F {n n' : Nat} (D : Fun K x qual st f fd) (S : FnScope N ps (defScope st)) (h1 : ps.length = n) (h2 : N.length = n') (hb : BodyOk P w K mg base N qual st f fd.code k g) : FnG P w K mg base (k + 1) f fd ps (spF K n (runF n n' g)) := by
  subst h1 h2
  exact fn_pure D S hb
theorem fn_N {n n' : Nat} (D : Fun K x qual st f fd) (S : FnScope N ps (defScope st)) (h1 : ps.length = n) (h2 : N.length = n') (hb : BodyOk P w K mg base N qual st f fd.code k g) : FnG P w K mg base (k + 1) f fd ps (spN K n (runN n n' g)) := by
  subst h1 h2
  exact fn_new D S hb
theorem fn_R {n n' : Nat} (D : Fun K x qual st f fd) (S : FnScope N ps (defScope st)) (h1 : ps.length = n) (h2 : N.length = n') (hb : BodyOk P w K mg base N qual st f fd.code k g) : FnG P w K mg base (k + 1) f fd ps (spR K n (runR n n' g)) := by
  subst h1 h2
  exact fn_ref D S hb
end
end DL
end L2


set_option Elab.async false
set_option maxRecDepth 100000
set_option maxHeartbeats 4000000
set_option autoImplicit false
namespace L2
namespace DL
open PySem PySem.Spec PyProof.Rows
variable [Lab]
section
variable {X : Cx}
/-! ### operators on data -/
def addD : PyData → PyData → Option PyData
  | .int i, .int j => some (.int (i + j))
  | .str a, .str b => if a.length + b.length ≤ lim then some (.str (a ++ b)) else none
  | .tuple a, .tuple b => if a.length + b.length ≤ lim then some (.tuple (a ++ b)) else none
  | .list a, .list b => if a.length + b.length ≤ lim then some (.list (a ++ b)) else none
  | _, _ => none
theorem od_add : OpD X (binaryOp .Add) addD := by
  intro pins s σ H x y v u Q I rx ry h
  obtain ⟨Z, a, b, d, sz, ha, hb, e, q⟩ := h
  have hlim : lim = 100000 := rfl
  have hsl := sizeLine_eq
  match a, b, ha, hb, e with
  | .int i, .int j, ha, hb, e =>
    cases e; cases ha.int_inv; cases hb.int_inv
    exact op_add pins s σ H _ _ v u Q I rx ry ⟨i, j, rfl, rfl, q _ Z H (Grow.refl sz) (.int _)⟩
  | .str i, .str j, ha, hb, e =>
    change (if i.length + j.length ≤ lim then some (PyData.str (i ++ j)) else none) = some d at e
    split at e
    case isFalse => cases e
    cases e; cases ha.str_inv; cases hb.str_inv
    exact op_add_str pins s σ H _ _ v u Q I rx ry ⟨i, j, rfl, rfl, by omega, q _ Z H (Grow.refl sz) (.str _)⟩
  | .tuple i, .tuple j, ha, hb, e =>
    change (if i.length + j.length ≤ lim then some (PyData.tuple (i ++ j)) else none) = some d at e
    split at e
    case isFalse => cases e
    cases e
    cases ha with
    | @tup p xs _ hx dx =>
      cases hb with
      | @tup p' ys _ hy dy =>
        have l1 := dds_len dx
        have l2 := dds_len dy
        refine op_catA pins s σ H _ _ v u Q I rx ry ⟨p, p', xs, ys, rfl, rfl, same_sqT sz hx, same_sqT sz hy, by omega, fun e0 => ?_, fun n0 e0 => ?_, fun n0 n1 p hp => ?_⟩
        · have : i = [] := by cases i with | nil => rfl | cons _ _ => rw [e0] at l1; cases l1
          rw [this] at q
          exact q _ Z H (Grow.refl sz) (.tup hy dy)
        · have : j = [] := by cases j with | nil => rfl | cons _ _ => rw [e0] at l2; cases l2
          rw [this, List.append_nil] at q
          exact q _ Z H (Grow.refl sz) (.tup hx dx)
        · exact q _ _ _ (grow_new sz hp _) (new_tup sz hp (dds_app dx dy))
  | .list i, .list j, ha, hb, e =>
    change (if i.length + j.length ≤ lim then some (PyData.list (i ++ j)) else none) = some d at e
    split at e
    case isFalse => cases e
    cases e
    cases ha with
    | @lst p xs _ hx dx =>
      cases hb with
      | @lst p' ys _ hy dy =>
        have l1 := dds_len dx
        have l2 := dds_len dy
        cases rx
        cases ry
        obtain ⟨z, its, n, r, e1⟩ := (same_ls sz hx).isL I
        obtain ⟨z2, its2, n2, r2, e2⟩ := (same_ls sz hy).isL I
        have k1 := r.length
        have k2 := r2.length
        refine PySem.P.add_list e1 e2 ?_ (by rw [List.size_toArray, List.size_toArray]; omega)
        have ea : its.toArray ++ its2.toArray = (its ++ its2).toArray := by simp
        rw [ea]
        exact ⟨.ref _, _, I.lnew (t' := s.toks) (r.append r2) (by rw [List.length_append]; omega), rfl, q _ _ _ (grow_new sz I.fresh _) (new_lst sz I.fresh (dds_app dx dy))⟩
def intD (c : Int → Int → Bool) (o : Int → Int → PyData) : PyData → PyData → Option PyData
  | .int i, .int j => if c i j then some (o i j) else none
  | _, _ => none
theorem od_int {f : Value → Value → Sem Value} {C : Int → Int → Prop} {g : Int → Int → V} {c : Int → Int → Bool} {o : Int → Int → PyData} (h : OpR X f (rI C g)) (hc : ∀ i j, c i j = true → C i j) (hd : ∀ K Z i j, DD K Z (g i j) (o i j)) : OpD X f (intD c o) := by
  intro pins s σ H x y v u Q I rx ry h0
  obtain ⟨Z, a, b, d, sz, ha, hb, e, q⟩ := h0
  match a, b, ha, hb, e with
  | .int i, .int j, ha, hb, e =>
    change (if c i j then some (o i j) else none) = some d at e
    split at e
    case isFalse => cases e
    rename_i hcc
    cases e; cases ha.int_inv; cases hb.int_inv
    exact h pins s σ H _ _ v u Q I rx ry ⟨i, j, rfl, rfl, hc i j hcc, q _ Z H (Grow.refl sz) (hd _ _ _ _)⟩
theorem op_rI0 {f : Value → Value → Sem Value} {g : Int → Int → V} (h : OpR X f (rI0 g)) : OpR X f (rI (fun _ _ => True) g) := fun pins s σ H x y v u Q I rx ry ⟨i, j, a, b, _, q⟩ => h pins s σ H x y v u Q I rx ry ⟨i, j, a, b, q⟩
abbrev cTrue (_ _ : Int) : Bool := true
abbrev cMul (i j : Int) : Bool := decide (i.natAbs < 18446744073709551616) || decide (j.natAbs < 18446744073709551616)
abbrev cDiv (_ j : Int) : Bool := decide (0 < j) && decide (j < 1073741824)
abbrev cMod (_ j : Int) : Bool := decide (0 < j)
abbrev cPow (i j : Int) : Bool := decide (0 ≤ j) && decide (j ≤ 1000) && decide (i.natAbs < 1000)
abbrev subD := intD cTrue fun i j => .int (i - j)
abbrev mulD := intD cMul fun i j => .int (i * j)
abbrev fdivD := intD cDiv fun i j => .int (i / j)
abbrev modD := intD cMod fun i j => .int (i % j)
abbrev powD := intD cPow fun i j => .int (i ^ j.toNat)
abbrev ltD := intD cTrue fun i j => .bool (decide (i < j))
abbrev leD := intD cTrue fun i j => .bool (decide (i ≤ j))
abbrev gtD := intD cTrue fun i j => .bool (decide (j < i))
abbrev geD := intD cTrue fun i j => .bool (decide (j ≤ i))
theorem od_sub : OpD X (binaryOp .Sub) subD := od_int (op_rI0 op_sub) (fun _ _ _ => trivial) fun _ _ _ _ => .int _
theorem od_mul : OpD X (binaryOp .Mult) mulD := od_int op_mul (fun i j h => by
  rw [cMul, Bool.or_eq_true, decide_eq_true_eq, decide_eq_true_eq] at h
  unfold CMul
  rcases h with h | h
  · left; omega
  · right; omega) fun _ _ _ _ => .int _
theorem od_fdiv : OpD X (binaryOp .FloorDiv) fdivD := od_int op_fdiv (fun i j h => by
  rw [cDiv, Bool.and_eq_true, decide_eq_true_eq, decide_eq_true_eq] at h
  exact h) fun _ _ _ _ => .int _
theorem od_mod : OpD X (binaryOp .Mod) modD := od_int op_mod (fun i j h => of_decide_eq_true h) fun _ _ _ _ => .int _
theorem od_pow : OpD X (binaryOp .Pow) powD := od_int op_pow (fun i j h => by
  rw [cPow, Bool.and_eq_true, Bool.and_eq_true, decide_eq_true_eq, decide_eq_true_eq, decide_eq_true_eq] at h
  unfold CPow
  omega) fun _ _ _ _ => .int _
theorem od_lt : OpD X (compareOp .Lt) ltD := od_int (op_rI0 op_lt) (fun _ _ _ => trivial) fun _ _ _ _ => .bl _
theorem od_le : OpD X (compareOp .LtE) leD := od_int (op_rI0 op_le) (fun _ _ _ => trivial) fun _ _ _ _ => .bl _
theorem od_gt : OpD X (compareOp .Gt) gtD := od_int (op_rI0 op_gt) (fun _ _ _ => trivial) fun _ _ _ _ => .bl _
theorem od_ge : OpD X (compareOp .GtE) geD := od_int (op_rI0 op_ge) (fun _ _ _ => trivial) fun _ _ _ _ => .bl _
/-- what may be compared -/
def shD (d : PyData) : Bool := SeqAt.shaped d && !d.hasDict
theorem shD_sh {d : PyData} (h : shD d = true) : SeqAt.shaped d = true := (Bool.and_eq_true_iff.mp h).1
theorem shD_nd {d : PyData} (h : shD d = true) : d.hasDict = false := by
  have := (Bool.and_eq_true_iff.mp h).2
  rwa [Bool.not_eq_true'] at this
/-- are they equal? -/
def eqB : PyData → PyData → Option Bool
  | .int i, .int j => some (decide (i = j))
  | .str i, .str j => some (decide (i = j))
  | a, b => if shD a && shD b then some (PyData.eqv a b) else none
def eqD (a b : PyData) : Option PyData := (eqB a b).map .bool
def neD (a b : PyData) : Option PyData := (eqB a b).map fun k => .bool (!k)
theorem eq_run {op : CmpOp} {neg : Bool → Bool} (h1 : OpR X (compareOp op) (fun x y H Q => scal x y = true ∧ Q (.bl (neg (decide (x = y)))) H)) (h2 : OpR X (compareOp op) (fun x y H Q => ∃ d e, Dp X.K H x d ∧ Dp X.K H y e ∧ SeqAt.shaped d = true ∧ SeqAt.shaped e = true ∧ Q (.bl (neg (PyData.eqv d e))) H)) :
    OpD X (compareOp op) (fun a b => (eqB a b).map fun k => .bool (neg k)) := by
  intro pins s σ H x y v u Q I rx ry h
  obtain ⟨Z, a, b, d, sz, ha, hb, e, q⟩ := h
  obtain ⟨k, ek, rfl⟩ := mpd e
  have deep : (if shD a && shD b then some (PyData.eqv a b) else none) = some k → wpAny (model X.prog X.w) X.A (compareOp op v u) (EP X pins σ Q) X.xe s := fun e => by
    split at e
    case isFalse => cases e
    rename_i hs
    rw [Bool.and_eq_true] at hs
    cases e
    exact h2 pins s σ H x y v u Q I rx ry ⟨a, b, DD.dp _ _ (shD_nd hs.1) (DDm ha sz), DD.dp _ _ (shD_nd hs.2) (DDm hb sz), shD_sh hs.1, shD_sh hs.2, q _ Z H (Grow.refl sz) (.bl _)⟩
  unfold eqB at ek
  split at ek
  · cases ek; cases ha.int_inv; cases hb.int_inv
    refine h1 pins s σ H _ _ v u Q I rx ry ⟨rfl, ?_⟩
    rename_i i j
    have : decide (V.int i = V.int j) = decide (i = j) := by
      by_cases z : i = j
      · subst z; simp
      · rw [decide_eq_false z, decide_eq_false (fun w => z (V.int.inj w))]
    rw [this]
    exact q _ Z H (Grow.refl sz) (.bl _)
  · cases ek; cases ha.str_inv; cases hb.str_inv
    refine h1 pins s σ H _ _ v u Q I rx ry ⟨rfl, ?_⟩
    rename_i i j
    have : decide (V.str i = V.str j) = decide (i = j) := by
      by_cases z : i = j
      · subst z; simp
      · rw [decide_eq_false z, decide_eq_false (fun w => z (V.str.inj w))]
    rw [this]
    exact q _ Z H (Grow.refl sz) (.bl _)
  · exact deep ek
theorem od_eq {k : Nat} (hr : Room k X.A) : OpD X (compareOp .Eq) eqD := eq_run (neg := id) op_eq (op_eqD hr.units)
theorem od_ne {k : Nat} (hr : Room k X.A) : OpD X (compareOp .NotEq) neD := eq_run (neg := fun k => !k) op_ne (op_neD hr.units)
def inB (d c : PyData) : Option Bool := (seqD c).bind fun ds => if shD d && shD c then some (ds.any fun z => PyData.eqv z d) else none
def inD (d c : PyData) : Option PyData := (inB d c).map .bool
theorem room_in {k : Nat} {A : Around} (hr : Room k A) {d : PyData} {ds : List PyData} (h : SeqAt.shaped d = true) : A.units + 1 + min (PyData.depthAll ds) d.depth < cLine := by
  have h1 := SeqAt.depth_of_shaped h
  have h2 : min (PyData.depthAll ds) d.depth ≤ d.depth := Nat.min_le_right _ _
  have := hr.un
  omega
theorem od_in {k : Nat} (hr : Room k X.A) : OpD X (compareOp .In) inD := by
  intro pins s σ H x y v u Q I rx ry h
  obtain ⟨Z, a, b, d, sz, ha, hb, e, q⟩ := h
  obtain ⟨kk, ek, rfl⟩ := mpd e
  obtain ⟨ds, e1, ek⟩ := bnd ek
  split at ek
  case isFalse => cases ek
  rename_i hs
  rw [Bool.and_eq_true] at hs
  cases ek
  obtain ⟨as, r1⟩ := Dp.reads I a x v (DD.dp _ _ (shD_nd hs.1) (DDm ha sz)) rx
  obtain ⟨bs, r2⟩ := Dp.reads I b y u (DD.dp _ _ (shD_nd hs.2) (DDm hb sz)) ry
  have qq := q _ Z H (Grow.refl sz) (.bl _)
  match b, e1, r2, hs with
  | .list es, e1, r2, hs =>
    cases e1
    exact SeqAt.in_list_reads r2 r1 (SeqAt.canLay_of_shaped (shD_sh hs.2)) (SeqAt.canLay_of_shaped (shD_sh hs.1)) (room_in hr (shD_sh hs.1)) ⟨.bl _, H, I, rfl, qq⟩
  | .tuple es, e1, r2, hs =>
    cases e1
    exact SeqAt.in_tuple_reads r2 r1 (SeqAt.canLay_of_shaped (shD_sh hs.2)) (SeqAt.canLay_of_shaped (shD_sh hs.1)) (room_in hr (shD_sh hs.1)) ⟨.bl _, H, I, rfl, qq⟩
theorem inD_scal (a b d : PyData) (h : inD a b = some d) : scalD d = true := by obtain ⟨k, _, rfl⟩ := mpd h; rfl
theorem eqD_scal (a b d : PyData) (h : eqD a b = some d) : scalD d = true := by obtain ⟨k, _, rfl⟩ := mpd h; rfl
theorem neD_scal (a b d : PyData) (h : neD a b = some d) : scalD d = true := by obtain ⟨k, _, rfl⟩ := mpd h; rfl

/-! ### chains a < b < c -/
variable {F : Fm} {a b c e : Expr} {es : List Expr} {pos p pn p2 : Pos} {f g k : DEnv → Option (PyData × DEnv)} {fa : DEnv → Option (List PyData × DEnv)} {x y : Str}
def fChain (o o' : PyData → PyData → Option PyData) (f g k : DEnv → Option (PyData × DEnv)) (env : DEnv) : Option (PyData × DEnv) :=
  (f env).bind fun x => (g x.2).bind fun y => (o x.1 y.1).bind fun z => match z with
    | .bool true => (k y.2).bind fun w => (o' y.1 w.1).map fun d => (d, w.2)
    | .bool false => some (.bool false, y.2)
    | _ => none
theorem pd_chain {op op' : CmpOp} {o o' : PyData → PyData → Option PyData} (ho : OpD X (compareOp op) o) (ho' : OpD X (compareOp op') o') (ha : PD X F a f) (hb : PD X F b g) (hc : PD X F c k) (hm : lastMarks [op, op'] [b, c] = false := by with_unfolding_all rfl) :
    PD X F (.Compare a [op, op'] [b, c] pos) (fChain o o' f g k) := pe_imp (pe_chain ho ho' ha hb hc hm) fun σ H Q h => by
  obtain ⟨Z, env, d, env', r, e, q⟩ := h
  obtain ⟨⟨x, e1⟩, h1, h⟩ := bnd e
  obtain ⟨⟨y, e2⟩, h2, h⟩ := bnd h
  obtain ⟨z, h3, h⟩ := bnd h
  refine ⟨Z, env, x, e1, r, h1, fun v1 Z1 H1 r1 s1 d1 => ⟨Z1, e1, y, e2, r1, h2, fun v2 Z2 H2 r2 s2 d2 => ⟨Z2, x, y, z, r2.zh, DDm d1 s2.z, d2, h3, fun vz Z3 H3 gr dz => ?_⟩⟩⟩
  have s12 := s1.trans s2
  match z, h, dz with
  | .bool true, h, dz =>
    obtain ⟨⟨w, e3⟩, h4, h⟩ := bnd h
    obtain ⟨d', h5, h⟩ := mpd h
    cases h
    cases dz.bool_inv
    refine ⟨true, rfl, iteT ⟨Z3, e2, w, e3, r2.grow gr, h4, fun v3 Z4 H4 r4 s4 d4 => ⟨Z4, y, w, d, r4.zh, DDm (DDm d2 gr.z) s4.z, d4, h5, fun v5 Z5 H5 g5 d5 => ?_⟩⟩⟩
    exact q v5 Z5 H5 (r4.grow g5) (((s12.trans gr.stp).trans s4).trans g5.stp) d5
  | .bool false, h, dz =>
    cases h
    cases dz.bool_inv
    exact ⟨false, rfl, iteF (q _ Z3 H3 (r2.grow gr) (s12.trans gr.stp) (.bl false))⟩
/-! ### built-in functions on data -/
theorem dds1 {K : PySem.W.Frag} {Z : Hp} {vs : List V} {d : PyData} (h : DDs K Z vs [d]) : ∃ v, vs = [v] ∧ DD K Z v d := by
  cases h with
  | cons h1 h2 => cases h2; exact ⟨_, rfl, h1⟩
theorem dds2 {K : PySem.W.Frag} {Z : Hp} {vs : List V} {d e : PyData} (h : DDs K Z vs [d, e]) : ∃ v w, vs = [v, w] ∧ DD K Z v d ∧ DD K Z w e := by
  cases h with
  | cons h1 h2 =>
    obtain ⟨w, rfl, h3⟩ := dds1 h2
    exact ⟨_, w, rfl, h1, h3⟩
def lenD : List PyData → Option PyData
  | [.list ds] => some (.int ds.length)
  | [.tuple ds] => some (.int ds.length)
  | [.str x] => if x.length ≤ lim then some (.int x.length) else none
  | _ => none
theorem cd_len : CallD X (.builtin "len") lenD := by
  intro pins s σ H xs us Q I r h
  obtain ⟨Z, ds, d, sz, hd, e, q⟩ := h
  match ds, hd, e with
  | [.list ds], hd, e =>
    cases e
    obtain ⟨v, rfl, h1⟩ := dds1 hd
    cases h1 with
    | @lst a ys _ hr ha => exact call_len_seq pins s σ H _ us Q I r ⟨a, ys, rfl, .inl (same_ls sz hr).sq, by rw [dds_len ha]; exact q _ Z H (Grow.refl sz) (.int _)⟩
  | [.tuple ds], hd, e =>
    cases e
    obtain ⟨v, rfl, h1⟩ := dds1 hd
    cases h1 with
    | @tup a ys _ hr ha => exact call_len_seq pins s σ H _ us Q I r ⟨a, ys, rfl, .inr (same_sqT sz hr), by rw [dds_len ha]; exact q _ Z H (Grow.refl sz) (.int _)⟩
  | [.str x], hd, e =>
    change (if x.length ≤ lim then some (PyData.int x.length) else none) = some d at e
    split at e
    case isFalse => cases e
    rename_i hx
    cases e
    obtain ⟨v, rfl, h1⟩ := dds1 hd
    cases h1.str_inv
    exact call_len_str pins s σ H _ us Q I r ⟨x, rfl, Nat.le_trans hx lim_le, q _ Z H (Grow.refl sz) (.int _)⟩
/-- len(name): the list as it stands -/
def fLenN (j : Nat) (env : DEnv) : Option (PyData × DEnv) := (rdB j env).bind fun d => (lenD [d]).map fun n => (n, env)
theorem pd_lenN (j : Nat) (hm : X.mg "len" = none) (hN : X.N[j]? = some y := by rfl) (hv : Vis X.env.scope y := by first | exact Or.inl rfl | exact Or.inr (Or.inl rfl) | exact Or.inr (Or.inr rfl)) (hd : (y == ("__debug__" : Str)) = false := by decide)
    (hcd : (y == ("__classdict__" : Str)) = false := by decide) (hg : Gl X "len" := by rfl) (he : starEach [.Name y pn] X.env = (false, eval (.Name y pn) X.env) :: starEach [] X.env := by rfl) (hpl : (backTo pos (starEach [] X.env)).any (·.1) = false := by rfl) :
    PD X F (.Call (.Name "len" p) [.Name y pn] [] pos) (fLenN j) :=
  pe_imp (pe_callB cd_len hg hm PySem.boot_len (pa_cons (pe_var hN hv hd hcd) pa_nil he) (by decide) (by decide) he hpl) fun σ H Q h => by
    obtain ⟨Z, env, d, env', r, e, q⟩ := h
    obtain ⟨d0, h1, e⟩ := bnd e
    obtain ⟨n, h2, e⟩ := mpd e
    cases e
    obtain ⟨v, sv, dv⟩ := r.rdB h1
    refine ⟨v, sv, H, [d0], d, Same.refl H, .cons dv .nil, h2, fun w Z' H' gr dd => ?_⟩
    have gr' : Grow Z H Z H' := ⟨Same.refl _, r.zh.trans gr.h, gr.h, gr.t, fun _ z => .inl z⟩
    refine q w Z H' (r.grow gr') gr'.stp (dd.scal ?_)
    match d0, h2 with
    | .list _, h2 => cases h2; rfl
    | .tuple _, h2 => cases h2; rfl
    | .str x, h2 =>
      change (if x.length ≤ lim then some (PyData.int x.length) else none) = some d at h2
      split at h2 <;> cases h2
      rfl
def absD : List PyData → Option PyData
  | [.int i] => some (.int (if i < 0 then -i else i))
  | _ => none
theorem cd_abs : CallD X (.builtin "abs") absD := by
  intro pins s σ H xs us Q I r h
  obtain ⟨Z, ds, d, sz, hd, e, q⟩ := h
  match ds, hd, e with
  | [.int i], hd, e =>
    cases e
    obtain ⟨v, rfl, h1⟩ := dds1 hd
    cases h1.int_inv
    exact call_abs pins s σ H _ us Q I r ⟨i, rfl, q _ Z H (Grow.refl sz) (.int _)⟩
def maxD : List PyData → Option PyData
  | [.int i, .int j] => some (.int (if j > i then j else i))
  | _ => none
def minD : List PyData → Option PyData
  | [.int i, .int j] => some (.int (if j < i then j else i))
  | _ => none
theorem cd_max (hc : X.calm = true) : CallD X (.builtin "max") maxD := by
  intro pins s σ H xs us Q I r h
  obtain ⟨Z, ds, d, sz, hd, e, q⟩ := h
  match ds, hd, e with
  | [.int i, .int j], hd, e =>
    cases e
    obtain ⟨v, w, rfl, h1, h2⟩ := dds2 hd
    cases h1.int_inv
    cases h2.int_inv
    exact call_max2 hc pins s σ H _ us Q I r ⟨i, j, rfl, q _ Z H (Grow.refl sz) (.int _)⟩
theorem cd_min (hc : X.calm = true) : CallD X (.builtin "min") minD := by
  intro pins s σ H xs us Q I r h
  obtain ⟨Z, ds, d, sz, hd, e, q⟩ := h
  match ds, hd, e with
  | [.int i, .int j], hd, e =>
    cases e
    obtain ⟨v, w, rfl, h1, h2⟩ := dds2 hd
    cases h1.int_inv
    cases h2.int_inv
    exact call_min2 hc pins s σ H _ us Q I r ⟨i, j, rfl, q _ Z H (Grow.refl sz) (.int _)⟩
def tupleD : List PyData → Option PyData
  | [.list ds] => some (.tuple ds)
  | [.tuple ds] => some (.tuple ds)
  | _ => none
theorem cd_tuple : CallD X (.type "tuple") tupleD := by
  intro pins s σ H xs us Q I r h
  obtain ⟨Z, ds, d, sz, hd, e, q⟩ := h
  match ds, hd, e with
  | [.list ds], hd, e =>
    cases e
    obtain ⟨v, rfl, h1⟩ := dds1 hd
    cases h1 with
    | @lst a ys _ hr ha => exact call_tuple_of pins s σ H _ us Q I r ⟨a, ys, rfl, .inl ⟨(same_ls sz hr).sq, fun l hl => q _ _ _ (grow_new sz hl _) (new_tup sz hl ha)⟩⟩
  | [.tuple ds], hd, e =>
    cases e
    obtain ⟨v, rfl, h1⟩ := dds1 hd
    cases h1 with
    | @tup a ys _ hr ha => exact call_tuple_of pins s σ H _ us Q I r ⟨a, ys, rfl, .inr ⟨same_sqT sz hr, q _ Z H (Grow.refl sz) (.tup hr ha)⟩⟩
def boolsD : List PyData → Option (List Bool)
  | [] => some []
  | .bool b :: r => (boolsD r).map (b :: ·)
  | _ => none
theorem bools_of {K : PySem.W.Frag} {Z : Hp} : ∀ {vs : List V} {ds : List PyData} {bs : List Bool}, DDs K Z vs ds → boolsD ds = some bs → vs = bs.map V.bl
  | _, [], bs, h, e => by cases e; cases h; rfl
  | _, .bool b :: r, bs, h, e => by
    obtain ⟨cs, e1, rfl⟩ := mpd e
    cases h with
    | cons h1 h2 =>
      cases h1.bool_inv
      rw [bools_of h2 e1]
      rfl
  | _, .none :: _, _, _, e => by cases e
  | _, .int _ :: _, _, _, e => by cases e
  | _, .str _ :: _, _, _, e => by cases e
  | _, .list _ :: _, _, _, e => by cases e
  | _, .tuple _ :: _, _, _, e => by cases e
  | _, .dict _ :: _, _, _, e => by cases e
def allD : List PyData → Option PyData
  | [.list ds] => (boolsD ds).map fun bs => .bool (bs.all id)
  | _ => none
theorem cd_all (hc : X.calm = true) : CallD X (.builtin "all") allD := by
  intro pins s σ H xs us Q I r h
  obtain ⟨Z, ds, d, sz, hd, e, q⟩ := h
  match ds, hd, e with
  | [.list ds], hd, e =>
    obtain ⟨bs, e1, rfl⟩ := mpd e
    obtain ⟨v, rfl, h1⟩ := dds1 hd
    cases h1 with
    | @lst a ys _ hr ha =>
      have := bools_of ha e1
      subst this
      exact cr_all hc pins s σ H _ us Q I r ⟨a, bs, rfl, (same_ls sz hr).sq, q _ Z H (Grow.refl sz) (.bl _)⟩
/-! repr -/
abbrev reprOk (d : PyData) : Bool := d.showable && !d.hasDict && decide (d.shown.length ≤ sizeLine) && decide (d.depth ≤ 64)
/-! ### subscripts -/
def ixD : PyData → PyData → Option PyData
  | .list ds, .int i => atI ds i
  | .tuple ds, .int i => atI ds i
  | _, _ => none
theorem dds_at {K : PySem.W.Frag} {Z : Hp} {vs : List V} {ds : List PyData} {i : Int} {d : PyData} (h : DDs K Z vs ds) (e : atI ds i = some d) : ∃ v, atI vs i = some v ∧ DD K Z v d := by
  unfold atI at e ⊢
  rw [dds_len h]
  obtain ⟨j, e1, e2⟩ := bnd e
  obtain ⟨v, e3, e4⟩ := dds_get h e2
  exact ⟨v, by rw [e1]; exact e3, e4⟩
theorem id_ix : IxR X (r2D X.K ixD) := by
  intro value slice pins s σ H x y v u Q I rx ry h hs
  obtain ⟨Z, a, b, d, sz, ha, hb, e, q⟩ := h
  match a, b, ha, hb, e with
  | .list ds, .int i, ha, hb, e =>
    cases hb.int_inv
    cases ha with
    | @lst p xs _ hr hd =>
      obtain ⟨w, e1, e2⟩ := dds_at hd e
      exact ix_list value slice pins s σ H _ _ v u Q I rx ry ⟨p, xs, i, w, rfl, rfl, (same_ls sz hr).sq, e1, q w Z H (Grow.refl sz) e2⟩ hs
  | .tuple ds, .int i, ha, hb, e =>
    cases hb.int_inv
    cases ha with
    | @tup p xs _ hr hd =>
      obtain ⟨w, e1, e2⟩ := dds_at hd e
      exact ix_tup value slice pins s σ H _ _ v u Q I rx ry ⟨p, xs, i, w, rfl, rfl, same_sqT sz hr, e1, q w Z H (Grow.refl sz) e2⟩ hs
theorem pd_ix (ha : PD X F a f) (hb : PD X F b g) (hs : PlainIx b := by exact fun _ _ => rfl) : PD X F (.Subscript a b pos) (fBin ixD f g) := pe_imp (pe_ix id_ix ha hb hs) fun _ _ _ h => bin_read h
/-- name[i]: the list as it stands -/
def fIxN (j : Nat) (f : DEnv → Option (PyData × DEnv)) (env : DEnv) : Option (PyData × DEnv) := (rdB j env).bind fun _ => (f env).bind fun x => (rdB j x.2).bind fun d => (ixD d x.1).map fun z => (z, x.2)
theorem pd_ixN (j : Nat) (hb : PD X F b f) (hN : X.N[j]? = some y := by rfl) (hv : Vis X.env.scope y := by first | exact Or.inl rfl | exact Or.inr (Or.inl rfl) | exact Or.inr (Or.inr rfl)) (hd : (y == ("__debug__" : Str)) = false := by decide)
    (hcd : (y == ("__classdict__" : Str)) = false := by decide) (hs : PlainIx b := by exact fun _ _ => rfl) : PD X F (.Subscript (.Name y pn) b pos) (fIxN j f) :=
  pe_imp (pe_ix (ix_list.or ix_tup) (pe_var hN hv hd hcd) hb hs) fun σ H Q h => by
    obtain ⟨Z, env, d, env', r, e, q⟩ := h
    obtain ⟨d0, h0, e⟩ := bnd e
    obtain ⟨⟨i, e1⟩, h1, e⟩ := bnd e
    obtain ⟨d1, h2, e⟩ := bnd e
    obtain ⟨z, h3, e⟩ := mpd e
    cases e
    obtain ⟨v, sv, _⟩ := r.rdB h0
    refine ⟨v, sv, Z, env, i, e1, r, h1, fun w Z1 H1 r1 s1 dw => ?_⟩
    unfold rdB at h2
    split at h2
    · rename_i dd ee
      cases h2
      obtain ⟨v', sv', dv⟩ := r1.sl j _ ee
      rw [sv] at sv'
      cases sv'
      match d1, i, dv, dw, h3 with
      | .list ds, .int i, dv, dw, h3 =>
        cases dw.int_inv
        cases dv with
        | @lst p xs _ hr hd =>
          obtain ⟨w, e1, e2⟩ := dds_at hd h3
          exact .inl ⟨p, xs, i, w, rfl, rfl, (same_ls r1.zh hr).sq, e1, q w Z1 H1 r1 s1 e2⟩
      | .tuple ds, .int i, dv, dw, h3 =>
        cases dw.int_inv
        cases dv with
        | @tup p xs _ hr hd =>
          obtain ⟨w, e1, e2⟩ := dds_at hd h3
          exact .inr ⟨p, xs, i, w, rfl, rfl, same_sqT r1.zh hr, e1, q w Z1 H1 r1 s1 e2⟩
    · rename_i ds ee
      cases h2
      obtain ⟨p, xs, sv', _, _, _, hp, hd⟩ := r1.sl j _ ee
      rw [sv] at sv'
      cases sv'
      match i, dw, h3 with
      | .int i, dw, h3 =>
        cases dw.int_inv
        obtain ⟨w, e1, e2⟩ := dds_at hd h3
        exact .inl ⟨p, xs, i, w, rfl, rfl, SqL.of hp, e1, q w Z1 H1 r1 s1 e2⟩
    · rename_i ds ee
      cases h2
      obtain ⟨p, xs, sv', _, hp, hd⟩ := r1.sl j _ ee
      rw [sv] at sv'
      cases sv'
      match i, dw, h3 with
      | .int i, dw, h3 =>
        cases dw.int_inv
        obtain ⟨w, e1, e2⟩ := dds_at hd h3
        exact .inl ⟨p, xs, i, w, rfl, rfl, SqL.of hp, e1, q w Z1 H1 r1 s1 e2⟩
    · cases h2; cases h3
    · cases h2

/-! ### slices -/
def cutD (ds : List PyData) (lo hi : Option Int) : List PyData := (ds.drop (HT.sIx ds.length 0 lo)).take (HT.sIx ds.length ds.length hi - HT.sIx ds.length 0 lo)
theorem dds_cut {K : PySem.W.Frag} {Z : Hp} {vs : List V} {ds : List PyData} (h : DDs K Z vs ds) (lo hi : Option Int) : DDs K Z (cutV vs lo hi) (cutD ds lo hi) := by
  unfold cutV cutD
  rw [dds_len h]
  exact dds_take _ (dds_drop _ h)
def slD (d : PyData) (lo hi : Option Int) : Option PyData := match d with
  | .list ds => some (.list (cutD ds lo hi))
  | .tuple ds => some (.tuple (cutD ds lo hi))
  | _ => none
def rSlD (K : PySem.W.Frag) : V → Option Int → Option Int → Hp → VK → Prop := fun x lo hi H Q => ∃ Z a d, Same Z H ∧ DD K Z x a ∧ slD a lo hi = some d ∧ ∀ v Z' H', Grow Z H Z' H' → DD K Z' v d → Q v H'
theorem sl_data : SlR X (rSlD X.K) := by
  intro pins s σ H x v vl vu lo hi sl Q I rx hs pl pu h
  obtain ⟨Z, a, d, sz, ha, e, q⟩ := h
  match a, ha, e with
  | .list ds, ha, e =>
    cases e
    cases ha with
    | @lst p xs _ hr hd => exact sl_list pins s σ H _ v vl vu lo hi sl Q I rx hs pl pu ⟨p, xs, rfl, (same_ls sz hr).sq, fun p hp => q _ _ _ (grow_new sz hp _) (new_lst sz hp (dds_cut hd lo hi))⟩
  | .tuple ds, ha, e =>
    cases e
    cases ha with
    | @tup p xs _ hr hd =>
      refine sl_tupA pins s σ H _ v vl vu lo hi sl Q I rx hs pl pu ⟨p, xs, rfl, same_sqT sz hr, fun w => ?_, fun _ p hp => q _ _ _ (grow_new sz hp _) (new_tup sz hp (dds_cut hd lo hi))⟩
      have hl := dds_len hd
      have : cutD ds lo hi = ds := by
        unfold cutD
        rw [← hl, w.1, w.2, hl]
        simp
      rw [this] at q
      exact q _ Z H (Grow.refl sz) (.tup hr hd)
def tDO (K : PySem.W.Frag) (F : Fm) (f : DEnv → Option (Option Int × DEnv)) : TO := fun σ H Q => ∃ Z env d env', Rel K F Z H σ env ∧ f env = some (d, env') ∧ ∀ Z' H', Rel K F Z' H' σ env' → Stp σ env Z H env' Z' H' → Q d H'
def PDO (X : Cx) (F : Fm) (e : Option Expr) (f : DEnv → Option (Option Int × DEnv)) : Prop := PO X e (tDO X.K F f)
theorem po_imp {X : Cx} {e : Option Expr} {t t' : TO} (h : PO X e t) (w : ∀ σ H Q, t' σ H Q → t σ H Q) : PO X e t' := ⟨fun pins s σ H Q I q => h.run pins s σ H Q I (w σ H Q q)⟩
def oNone (env : DEnv) : Option (Option Int × DEnv) := some (none, env)
def oSome (f : DEnv → Option (PyData × DEnv)) (env : DEnv) : Option (Option Int × DEnv) := (f env).bind fun x => match x.1 with
  | .int i => some (some i, x.2)
  | _ => none
theorem do_none : PDO X F none oNone := po_imp po_none fun σ H Q h => by
  obtain ⟨Z, env, d, env', r, e, q⟩ := h
  cases e
  exact q Z H r Stp.refl
theorem do_some (ha : PD X F e f) : PDO X F (some e) (oSome f) := po_imp (po_some ha) fun σ H Q h => by
  obtain ⟨Z, env, d, env', r, e, q⟩ := h
  obtain ⟨⟨i, e1⟩, h1, e⟩ := bnd e
  match i, h1, e with
  | .int i, h1, e =>
    cases e
    refine ⟨Z, env, .int i, e1, r, h1, fun v Z1 H1 r1 s1 d1 => ?_⟩
    cases d1.int_inv
    exact ⟨i, rfl, q Z1 H1 r1 s1⟩
def fSl (f : DEnv → Option (PyData × DEnv)) (fl fh : DEnv → Option (Option Int × DEnv)) (env : DEnv) : Option (PyData × DEnv) := (f env).bind fun x => (fl x.2).bind fun l => (fh l.2).bind fun h => (slD x.1 l.1 h.1).map fun d => (d, h.2)
theorem pd_slice {lo hi : Option Expr} {fl fh : DEnv → Option (Option Int × DEnv)} (ha : PD X F e f) (hl : PDO X F lo fl) (hh : PDO X F hi fh) : PD X F (.Subscript e (.Slice lo hi none p2) pos) (fSl f fl fh) := pe_imp (pe_slice sl_data ha hl hh) fun σ H Q h => by
  obtain ⟨Z, env, d, env', r, e, q⟩ := h
  obtain ⟨⟨a, e1⟩, h1, e⟩ := bnd e
  obtain ⟨⟨l, e2⟩, h2, e⟩ := bnd e
  obtain ⟨⟨u, e3⟩, h3, e⟩ := bnd e
  obtain ⟨z, h4, e⟩ := mpd e
  cases e
  refine ⟨Z, env, a, e1, r, h1, fun v Z1 H1 r1 s1 d1 => ⟨Z1, e1, l, e2, r1, h2, fun Z2 H2 r2 s2 => ⟨Z2, e2, u, e3, r2, h3, fun Z3 H3 r3 s3 => ⟨Z3, a, d, r3.zh, DDm (DDm d1 s2.z) s3.z, h4, fun w Z' H' gr dd => ?_⟩⟩⟩⟩
  exact q w Z' H' (r3.grow gr) (((s1.trans s2).trans s3).trans gr.stp) dd

theorem dds_ints {K : PySem.W.Frag} {Z : Hp} : ∀ ns : List Int, DDs K Z (ns.map V.int) (ns.map PyData.int)
  | [] => .nil
  | n :: ns => .cons (.int n) (dds_ints ns)
/-! ### isinstance(e, T), T a built-in type -/
def tyN : PyData → String
  | .none => "NoneType"
  | .bool _ => "bool"
  | .int _ => "int"
  | .str _ => "str"
  | .list _ => "list"
  | .tuple _ => "tuple"
  | .dict _ => "dict"
def isiT (T t : String) : Bool := t == T || (t == "bool" && T == "int")
/-- the types of values, those of my own dicts too -/
def TyY (K : PySem.W.Frag) (H : Hp) (x : V) (t : Value) : Prop := TyX K H x t ∨ (∃ (a : Addr) (o : Obj), x = .ref a ∧ t = .type "dict" ∧ H a = some (DnO a o) ∧ o.cls = .type "dict") ∨ ∃ (a C : Addr), x = .ref a ∧ t = .ref C ∧ KEx K C ∧ (H a = some (ExO a (.ref C) none) ∨ ∃ dx fs, H a = some (ExO a (.ref C) (some dx)) ∧ H dx = some (.xd fs))
theorem exo_inst {X : Cx} {pins : List (Addr × Obj)} {σ : St} {H : Hp} {s : Shared} {a C : Addr} (I : Inv X pins σ H s) (h : H a = some (ExO a (.ref C) none) ∨ ∃ dx fs, H a = some (ExO a (.ref C) (some dx)) ∧ H dx = some (.xd fs)) : ∃ (oe : Obj) (od : Option Obj), PySem.W.InstAt s.heap a oe C od := by
  rcases h with h | ⟨dx, fs, h, h2⟩
  · obtain ⟨⟨oe, vs, e1, e2, e3, e4⟩, _, _⟩ := (show ObjOk X.prog X.w H s.heap a (ExO a (.ref C) none) from I.hok a _ h)
    exact ⟨oe, none, e1, e2, by unfold PySem.W.notCls; rw [e4] <;> rfl, by rw [e3]; trivial⟩
  · obtain ⟨⟨oe, vs, e1, e2, e3, e4⟩, _, _⟩ := (show ObjOk X.prog X.w H s.heap a (ExO a (.ref C) (some dx)) from I.hok a _ h)
    obtain ⟨mA, hns, _⟩ := (show ObjOk X.prog X.w H s.heap dx (.xd fs) from I.hok dx _ h2)
    obtain ⟨od, ho, _⟩ := lookIn_ns hns
    exact ⟨oe, some od, e1, e2, by unfold PySem.W.notCls; rw [e4] <;> rfl, by rw [e3]; exact ho⟩
theorem kit_ofY {X : Cx} {pins : List (Addr × Obj)} {σ : St} {H : Hp} {s : Shared} {x : V} {u t : Value} (I : Inv X pins σ H s) (rx : RelV x u) (ty : TyY X.K H x t) : ∃ P : Heap → Prop, PySem.W.KitX X.K u t P ∧ P s.heap ∧ u ≠ .builtin "__main__.__loader__#opaque" := by
  rcases ty with ty | ⟨a, o, rfl, rfl, ea, hc⟩ | ⟨a, C, rfl, rfl, k, ea⟩
  · exact kit_of I rx ty
  · cases (show u = Value.ref a from rx)
    obtain ⟨h1, _⟩ := (show ObjOk X.prog X.w H s.heap a (DnO a o) from I.hok a _ ea)
    exact ⟨_, PySem.W.kitx_dict, ⟨o, h1, hc⟩, fun z => nomatch z⟩
  · cases (show u = Value.ref a from rx)
    obtain ⟨oe, od, J⟩ := exo_inst I ea
    exact ⟨_, PySem.W.kitx_exc (ox := oe) (od := od) k.hcl k.hga k.hgt k.hsub k.ha k.hn k.htk k.hm, J, fun z => nomatch z⟩
def rIsiY (K : PySem.W.Frag) : List V → Hp → VK → Prop := fun xs H Q => ∃ (x c : V) (t u : Value) (b : Bool), xs = [x, c] ∧ ClsV c u ∧ TyY K H x t ∧ PySem.W.kitOne K t u = some b ∧ Q (.bl b) H
theorem call_isiY {X : Cx} : CallR X (.builtin "isinstance") (rIsiY X.K) := by
  intro pins s σ H xs us Q I r h
  obtain ⟨x, c, t, u, b, rfl, k, ty, e, q⟩ := h
  obtain ⟨u1, u2, rfl, r1, r2⟩ := vals2 r
  have e2 := k.eq r2
  subst e2
  obtain ⟨P, Z, p, hx⟩ := kit_ofY I r1 ty
  exact PySem.W.kia_one Z I.kIn p e hx fun tk => ⟨.bl b, H, I.tok tk, rfl, q⟩
abbrev fiveT : List String := ["bool", "int", "str", "list", "tuple"]
abbrev KitOk (K : PySem.W.Frag) (T : String) : Prop := ∀ t ∈ ["NoneType", "bool", "int", "str", "list", "tuple", "dict"], PySem.W.kitOne K (.type t) (.type T) = some (isiT T t)
theorem dd_ty {K : PySem.W.Frag} {H : Hp} {v : V} {d : PyData} {T : String} (kit : KitOk K T) (hT : T ∈ fiveT) (h : DD K H v d) : ∃ t, TyY K H v t ∧ PySem.W.kitOne K t (.type T) = some (isiT T (tyN d)) := by
  have nod : isiT T "dict" = false := by
    simp only [fiveT, List.mem_cons, List.not_mem_nil, or_false] at hT
    rcases hT with rfl | rfl | rfl | rfl | rfl <;> rfl
  cases h with
  | non => exact ⟨_, .inl <| .base .non, kit _ (by simp [tyN])⟩
  | bl b => exact ⟨_, .inl <| .base (.bl b), kit _ (by simp [tyN])⟩
  | int i => exact ⟨_, .inl <| .base (.int i), kit _ (by simp [tyN])⟩
  | str x => exact ⟨_, .inl <| .base (.str x), kit _ (by simp [tyN])⟩
  | lst hr _ =>
    rcases hr with (h | ⟨o, h⟩) | ⟨its, n, h, _⟩
    · exact ⟨_, .inl <| .base (.lst h), kit _ (by simp [tyN])⟩
    · exact ⟨_, .inl <| .base (.frz h), kit _ (by simp [tyN])⟩
    · exact ⟨_, .inl <| .kList h rfl, kit _ (by simp [tyN])⟩
  | tup hr _ =>
    rcases hr with (h | ⟨o, h⟩) | ⟨o, its, n, h, c, _⟩
    · exact ⟨_, .inl <| .base (.tup h), kit _ (by simp [tyN])⟩
    · exact ⟨_, .inl <| .fTuple h, kit _ (by simp [tyN])⟩
    · exact ⟨_, .inl <| .kTuple h c, kit _ (by simp [tyN])⟩
  | dct e _ => exact ⟨_, .inl <| .base (.dK e), kit _ (by simp [tyN])⟩
  | dcn e hf _ => exact ⟨_, .inr <| .inl ⟨_, _, rfl, rfl, e, hf.ex.1⟩, kit _ (by simp [tyN])⟩
  | exc e1 e2 k _ _ => exact ⟨_, .inr <| .inr ⟨_, _, rfl, rfl, k, .inr ⟨_, _, e1, e2⟩⟩, (k.isT T hT).trans (congrArg some nod.symm)⟩
  | exn e1 k => exact ⟨_, .inr <| .inr ⟨_, _, rfl, rfl, k, .inl e1⟩, (k.isT T hT).trans (congrArg some nod.symm)⟩
def fIsi (T : String) (f : DEnv → Option (PyData × DEnv)) (env : DEnv) : Option (PyData × DEnv) := (f env).map fun x => (.bool (isiT T (tyN x.1)), x.2)
theorem pd_isi {T : String} {tn : Str} (kit : KitOk X.K T) (hm : X.mg "isinstance" = none) (hmT : X.mg tn = none) (hvT : bootBuiltins tn = some (.type T)) (ha : PD X F e f) (hg : Gl X "isinstance" := by rfl) (hgT : Gl X tn := by rfl) (hnT : tn ≠ "__name__" := by decide) (hdT : (tn == ("__debug__" : Str)) = false := by decide) (h5 : T ∈ fiveT := by decide)
    (he : starEach [e, .Name tn pn] X.env = (false, eval e X.env) :: starEach [.Name tn pn] X.env := by rfl) (he2 : starEach [.Name tn pn] X.env = (false, eval (.Name tn pn) X.env) :: starEach [] X.env := by rfl) (hpl : (backTo pos (starEach [.Name tn pn] X.env)).any (·.1) = false := by rfl) :
    PD X F (.Call (.Name "isinstance" p) [e, .Name tn pn] [] pos) (fIsi T f) :=
  pe_imp (pe_callB call_isiY hg hm (by decide +kernel) (pa_cons ha (pa_cons (pe_bltn (v := .ty T) hgT hmT hvT rfl hnT hdT) pa_nil he2) he) (by decide) (by decide) he hpl) fun σ H Q h => by
    obtain ⟨Z, env, d, env', r, e, q⟩ := h
    obtain ⟨⟨i, e1⟩, h1, e⟩ := mpd e
    cases e
    refine ⟨Z, env, i, e1, r, h1, fun v Z1 H1 r1 s1 d1 => ?_⟩
    obtain ⟨t, ty, kt⟩ := dd_ty kit h5 (DDm d1 r1.zh)
    exact ⟨v, .ty T, _, _, _, rfl, .ty T, ty, kt, q _ Z1 H1 r1 s1 (.bl _)⟩
end

/-! ### the end: the law's call -/
/-- tracked at the start: the script, and the tables cs.2 -/
structure St0 (K : PySem.W.Frag) (h : Heap) (cs : List (Addr × Addr)) (a : Addr) (vs : List Value) (ns : List Int) (H : Hp) : Prop where
  at_a : H a = some (.frz { cls := .type "list", data := .seq vs.toArray } (.lst (ns.map V.int))) ∧ K.lookup a = none ∨ H a = none
  at_t : ∀ q, (∃ c, (c, q) ∈ cs) → H q = some (.tbl #[])
  els : ∀ b, b ≠ a → (¬ ∃ c, (c, b) ∈ cs) → H b = none
  ls : LsR K H a (ns.map V.int)
theorem law_callG {P : Program} {w : World} {K : PySem.W.Frag} {mg mb : Str → Option Value} {k : Nat} {fa a : Addr} {fd : FuncData} {x : Str} {m : List PyData → Option PyData} {s1 : Shared} {vs : List Value} {ns : List Int} {cs : List (Addr × Addr)}
    (KX : K.In s1.heap) (hns : s1.heap.Ns mainGlobals mg) (hb : s1.heap.Ns builtinsNs mb) (hbb : ∀ y : Str, y ≠ "__name__" → mb y = bootBuiltins y) (hlim : s1.heap.NoLimit) (hg : s1.gens = #[])
    (tbs : ∀ c q, (c, q) ∈ cs → s1.heap.get? q = some { cls := .none, data := .fields #[] } ∧ K.lookup q = none ∧ PySem.W.CodeHd s1.heap c q)
    (hbm : ∃ (bm : Addr) (ob : Obj), mg "__builtins__" = some (.ref bm) ∧ bm ≠ builtinsNs ∧ s1.heap.get? bm = some ob ∧ ob.cls = .type "module" ∧ ob.dict = some builtinsNs ∧ ob.data = .plain)
    (ha : s1.heap.get? a = some { cls := .type "list", data := .seq vs.toArray }) (hi : IntsAre vs ns) (hl : ns.length ≤ sizeLine) (hr : Room k callerA) (hlab : ∀ q ∈ Lab.T, ∃ c, (c, q.1) ∈ cs)
    (G : ∀ base : Heap, K.In base → base.Ns mainGlobals mg → (∀ c q, (c, q) ∈ cs → LamX.TabB base mg c q) → FnG P w K mg base k fa fd [x] (spF K 1 m)) (hbind : ∀ (s : Shared) (u : Value), BindsTo s fd ⟨[u], []⟩ [(x, u)])
    (hm : m [.list (ns.map PyData.int)] = some (.bool true)) :
    codeAny (model P w) callerA (.call (.ref fa) ⟨[.ref a], []⟩) (fun r s' => r = .ok (.ret (.bool true)) ∧ OldK s1.heap s'.heap ∧ s'.os = s1.os ∧ AllBare s'.gens) s1 := by
  classical
  have rv := vals_ints hi
  have aT : ¬ ∃ c, (c, a) ∈ cs := fun ⟨c, hc⟩ => by
    have q := (tbs c a hc).1
    rw [ha] at q
    have z' : Data.seq vs.toArray _ = Data.fields #[] := congrArg Obj.data (Option.some.inj q)
    cases z'
  have core : ∀ H : Hp, St0 K s1.heap cs a vs ns H → HOk P w H s1.heap →
      codeAny (model P w) callerA (.call (.ref fa) ⟨[.ref a], []⟩) (fun r s' => r = .ok (.ret (.bool true)) ∧ OldK s1.heap s'.heap ∧ s'.os = s1.os ∧ AllBare s'.gens) s1 := by
   intro H S0 hok
   -- an object that is neither the script nor a table
   have und : ∀ {b : Addr} {o : Obj}, s1.heap.get? b = some o → (∀ us n, o.data ≠ .seq us n) → o.data ≠ .fields #[] → (hidT s1.heap H).get? b = some o := fun {b o} e h1 h2 => by
     refine hidT_get e (S0.els b (fun z => ?_) fun ⟨c, hc⟩ => ?_)
     · rw [z, ha] at e
       cases e
       exact h1 _ _ rfl
     · rw [(tbs c b hc).1] at e
       cases e
       exact h2 rfl
   have nsK : ∀ {b : Addr} {m' : Str → Option Value}, s1.heap.Ns b m' → (hidT s1.heap H).Ns b m' := fun {b m'} ⟨o, es, ep, e, d, r⟩ => ⟨o, es, ep, und e (fun _ _ z => by rw [d] at z; cases z) (fun z => by rw [d] at z; cases z), d, r⟩
   have hKb : K.In (hidT s1.heap H) := fun b o e => hidT_get (KX b o e) (by
      by_cases z : b = a
      · subst z
        rcases S0.at_a with ⟨_, Ha⟩ | Ha
        · rw [Ha] at e; cases e
        · exact Ha
      · exact S0.els b z fun ⟨c, hc⟩ => by rw [(tbs c b hc).2.1] at e; cases e)
   have hM : Mod K mg (hidT s1.heap H) := by
     refine ⟨hKb, nsK hns, ⟨mb, nsK hb, hbb⟩, ?_⟩
     obtain ⟨mc, h1, h2⟩ := hlim
     exact ⟨mc, nsK h1, h2⟩
   have gT : ∀ c q, (c, q) ∈ cs → LamX.TabB (hidT s1.heap H) mg c q := fun c q hc => by
     obtain ⟨t1, _, o, us, fl, x1, x2, x3, x4, x5, x6, e1, r1, r2, r3⟩ := tbs c q hc
     refine ⟨⟨o, us, fl, x1, x2, x3, x4, x5, x6, und e1 (fun _ _ z => by rw [r2] at z; cases z) (fun z => ?_), r1, r2, r3⟩, ?_, fun z => ?_⟩
     · rw [r2] at z
       cases z
       have := r3.1
       simp at this
     · obtain ⟨bm, ob, b1, b2, b3, b4, b5, b6⟩ := hbm
       refine ⟨bm, ob, b1, b2, fun z => ?_, fun z => ?_, und b3 (fun _ _ z => by rw [b6] at z; cases z) (fun z => by rw [b6] at z; cases z), b4, b5, b6⟩
       · obtain ⟨og, es, ep, e, hd, _⟩ := hns
         rw [z, e] at b3
         cases b3
         rw [hd] at b6
         cases b6
       · rw [z, t1] at b3
         cases b3
         cases b6
     · obtain ⟨og, es, ep, e, hd, _⟩ := hns
       rw [z, t1] at e
       cases e
       cases hd
   have e0 : Env0 P w K mg (hidT s1.heap H) callerA [] s1 H := by
     refine ⟨rfl, hM, fun b o e => of_hidT e, Nat.le_of_eq (hidT_size _ _), trivial, fun b hb => ?_, hok, .of_eq hg⟩
     cases (show b ∈ ([] : List Addr) from hb)
   have tb : TB H := fun q hq => LamX.TabS.nil (S0.at_t q.1 (hlab q hq))
   refine codeAny_mono ((G _ hKb (nsK hns) gT).run callerA [] s1 H ⟨[.ref a], []⟩ [.ref a] [.ref a] (fun v _ => v = .bl true) E0 (fun _ => rfl) hr e0 (hbind s1 (.ref a)) (.cons rfl .nil) ⟨rfl, H, _, _, Same.refl H, tb, .cons (.lst S0.ls (dds_ints ns)) .nil, hm, fun v Z' H' gr dd => dd.bool_inv⟩) fun r s' h => ?_
   cases r with
   | error e => cases h
   | ok fl =>
     cases fl with
     | next => cases h
     | brk => cases h
     | cont => cases h
     | ret u =>
       obtain ⟨v, H', os, bare, un, hok', r', q⟩ := h
       cases (show v = .bl true from q)
       cases (show u = Value.bool true from r')
       have kept : ∀ b o, (¬ ∃ c, (c, b) ∈ cs) → s1.heap.get? b = some o → s'.heap.get? b = some o := fun b o nb e => by
         have plain : H b = none → s'.heap.get? b = some o := fun hn => by
           refine un.keep b o e hn (fun z => ?_) (fun z => by cases z)
           cases (show b ∈ ([] : List Addr) from z)
         by_cases hba : b = a
         · subst hba
           rcases S0.at_a with ⟨Ha, _⟩ | Ha
           · obtain ⟨e1, _⟩ := hok b _ Ha
             obtain ⟨e2, _⟩ := hok' b _ (un.frzs b _ _ Ha)
             rw [e] at e1; cases e1
             exact e2
           · exact plain Ha
         · exact plain (S0.els b hba nb)
       have tabs : ∀ b, (∃ c, (c, b) ∈ cs) → ∃ more : Array Value, s'.heap.get? b = some { cls := .none, data := .fields more } := fun b hb => by
         obtain ⟨more, z⟩ := un.tbls b #[] (S0.at_t b hb)
         exact ⟨_, hok' b _ z⟩
       refine ⟨rfl, ⟨fun b o e => ?_, fun b o e => ?_⟩, os, bare⟩
       · by_cases hb : ∃ c, (c, b) ∈ cs
         · obtain ⟨more, hmore⟩ := tabs b hb
           obtain ⟨c, hc⟩ := hb
           obtain ⟨t1, _, hd⟩ := tbs c b hc
           have e' := e.symm.trans t1
           cases e'
           refine .inr (.inl ⟨(hd.tab t1).isCodeTable, rfl, #[], more, rfl, ?_⟩)
           rw [Array.empty_append]
           exact hmore
         · exact .inl (kept b o hb e)
       · by_cases hb : ∃ c, (c, b) ∈ cs
         · obtain ⟨more, hmore⟩ := tabs b hb
           exact ⟨_, hmore⟩
         · exact ⟨o, kept b o hb e⟩
  cases hk : K.lookup a with
  | some o =>
    have e := KX a o hk
    rw [ha] at e
    cases e
    refine core (fun b => if ∃ c, (c, b) ∈ cs then some (.tbl #[]) else none) ⟨.inr (if_neg aT), fun q h => if_pos h, fun b _ h => if_neg h, .inr ⟨vs, _, hk, by rw [List.length_map]; exact hl, rv⟩⟩ fun b u z => ?_
    by_cases h : ∃ c, (c, b) ∈ cs
    · have z' := (if_pos h).symm.trans z
      cases z'
      obtain ⟨c, hc⟩ := h
      exact (tbs c b hc).1
    · have z' := (if_neg h).symm.trans z
      cases z'
  | none =>
    refine core (fun b => if b = a then some (.frz { cls := .type "list", data := .seq vs.toArray } (.lst (ns.map V.int))) else if ∃ c, (c, b) ∈ cs then some (.tbl #[]) else none) ⟨.inl ⟨if_pos rfl, hk⟩, fun q h => ?_, fun b hb h => (if_neg hb).trans (if_neg h), .inl (.inr ⟨_, if_pos rfl⟩)⟩ fun b u z => ?_
    · have : q ≠ a := fun z => aT (z ▸ h)
      exact (if_neg this).trans (if_pos h)
    · by_cases e : b = a
      · subst e
        have z' := (if_pos rfl).symm.trans z
        cases z'
        exact ⟨ha, by rw [List.length_map]; exact hl, vs, _, rv, ha⟩
      · have z1 := (if_neg e).symm.trans z
        by_cases h : ∃ c, (c, b) ∈ cs
        · have z' := (if_pos h).symm.trans z1
          cases z'
          obtain ⟨c, hc⟩ := h
          exact (tbs c b hc).1
        · have z' := (if_neg h).symm.trans z1
          cases z'
end DL
end L2


set_option Elab.async false
set_option maxRecDepth 100000
set_option maxHeartbeats 4000000
set_option autoImplicit false
namespace L2
namespace DL
open PySem PySem.Spec PyProof.Rows
variable [Lab]
/-! ### enumerate over a tuple -/
theorem meets_enum1 {v : Value} {o : Obj} {B : Heap → Prop} (b : PySem.Begins v o B) :
    Meets (Builtin.«enumerate.__new__» ⟨[.type "enumerate", v], []⟩) (fun _ R s => B s.heap ∧
      R (.ok (.ret (.ref (s.heap.push o).objs.size))) { s with heap := (s.heap.push o).push { cls := .type "enumerate", data := .fields #[.none, .bool false, .ref s.heap.objs.size, rawInt 0, .none, .none] } }) :=
  .of_wp fun prog w A R s h => by
    obtain ⟨hp, g, d, tk, os⟩ := s
    obtain ⟨h1, h⟩ := h
    have hsub := sub_enumerate
    have q1 : ∀ {A' : Around} {E : Value → Shared → Prop} {Q : Value → Shared → Prop}, Q (.ref hp.objs.size) ⟨hp.push o, g, d, tk, os⟩ → wpAny (model prog w) A' (pyIter v) Q E ⟨hp, g, d, tk, os⟩ :=
      fun q => b.iter prog w _ _ ⟨hp, g, d, tk, os⟩ _ h1 q
    wp_walk using q1
    refine wpAny_stack_any fun st => wpAny_pure ?_
    split
    · rename_i c _ _ _ _ _
      cases (c == Value.type "enumerate") <;> (wp_walk using q1; exact ⟨_, rfl, h⟩)
    · wp_walk using q1
      exact ⟨_, rfl, h⟩
theorem call_enumT {prog : Program} {w : World} {A : Around} {E : Value → Shared → Prop} {s : Shared} {t : Addr} {items : Array Value} {Q : Value → Shared → Prop} (ht : s.heap.IsTuple t items)
    (h : ∀ h', IsEnum h' (s.heap.objs.size + 1) s.heap.objs.size 0 .none → h'.IsTupleIter s.heap.objs.size t 0 → (∀ b o, s.heap.get? b = some o → h'.get? b = some o) → Q (.ref (s.heap.objs.size + 1)) { s with heap := h' }) :
    wpAny (model prog w) A (call (.type "enumerate") [.ref t]) Q E s := by
  refine callType_new F.called_enumerate (by decide) (F.typeCall_enumerate_1 _) (F.newCall_enumerate_1 _) (fun obj => F.args_object_init_2 obj _) F.entry_enumerate_new (meets_enum1 (begins_tuple t items)) ⟨ht, ?_⟩
  have z : (s.heap.push { cls := .type "tuple_iterator", data := .fields #[.ref t, .int 0 0] }).objs.size = s.heap.objs.size + 1 := Heap.size_push ..
  show _ ∧ _
  rw [z]
  have e : IsEnum ((s.heap.push { cls := .type "tuple_iterator", data := .fields #[.ref t, .int 0 0] }).push { cls := .type "enumerate", data := .fields #[.none, .bool false, .ref s.heap.objs.size, rawInt 0, .none, .none] }) (s.heap.objs.size + 1) s.heap.objs.size 0 .none := by
    have q := Heap.get?_push_size (s.heap.push { cls := .type "tuple_iterator", data := .fields #[.ref t, .int 0 0] }) (o := { cls := .type "enumerate", data := .fields #[.none, .bool false, .ref s.heap.objs.size, rawInt 0, .none, .none] }) rfl
    rw [z] at q
    exact q
  exact ⟨⟨_, e, rfl⟩, h _ e ⟨_, Heap.get?_push_of_some _ (Heap.get?_push_size _ rfl), rfl, rfl⟩ fun b o x => Heap.get?_push_of_some _ (Heap.get?_push_of_some _ x)⟩
def Iet (K : PySem.W.Frag) (a : Addr) : It :=
  ⟨fun i H => ∃ (xs : List V) (x : V), SqT K H a xs ∧ xs[i]? = some x, fun i H v H' => ∃ T x, v = .ref T ∧ H T = none ∧ H' = upd H T (.tup [.int (i : Nat), x]) ∧ ∀ xs, SqT K H a xs → xs[i]? = some x, fun i H => ∃ xs : List V, SqT K H a xs ∧ xs.length = i⟩
theorem turn_enumT {P : Program} {w : World} {K : PySem.W.Frag} {elts : List Expr} {kk : Nat} {tpos : Pos} (a e it : Addr) :
    Turn P w K (.Tuple elts kk tpos) (Iet K a) [e, it] e (fun i h => (∃ old, IsEnum h e it ((i : Nat) : Int) old) ∧ h.IsTupleIter it a i ∧ e ≠ it) where
  mem := by simp
  obj := fun i h st b hb => by
    obtain ⟨⟨old, he⟩, ⟨o, ho, _, hd⟩, _⟩ := st
    rcases (show b = e ∨ b = it by simpa using hb) with z | z
    · rw [z]; exact ⟨_, he, fun v q => nomatch q⟩
    · rw [z]; exact ⟨o, ho, fun v q => by rw [hd] at q; cases q⟩
  keep := fun i h h' st k => by
    obtain ⟨⟨old, he⟩, hi, hne⟩ := st
    exact ⟨⟨old, k e (by simp) _ he⟩, hi.at fun o q => k it (by simp) o q, hne⟩
  item := by
    intro X hP hw hK hc i pins s σ H E I hf st hg
    subst hP hw hK
    obtain ⟨⟨old, he⟩, hit, hne⟩ := st
    obtain ⟨xs, x, hq, hx⟩ := hg
    obtain ⟨its, rv, p, hz⟩ := I.tuple hq
    obtain ⟨u, hu, ru⟩ := rv.get hx
    have hel : e < s.heap.objs.size := Heap.lt_size he
    have hil : it < s.heap.objs.size := by obtain ⟨_, q, _⟩ := hit; exact Heap.lt_size q
    have hae : e ≠ a := fun z => by
      obtain ⟨o, h1, h2, _⟩ := p
      rw [← z] at h1
      have he' : s.heap.get? e = some _ := he
      rw [he'] at h1
      cases h1
      exact absurd (Value.type.inj h2) (by decide)
    have hai : a ≠ it := fun z => by
      obtain ⟨o, h1, h2, _⟩ := p
      obtain ⟨o', h3, h4, _⟩ := hit
      rw [z, h3] at h1
      cases h1
      rw [h4] at h2
      exact absurd (Value.type.inj h2) (by decide)
    have hlt : i < its.toArray.size := by
      obtain ⟨hl, _⟩ := List.getElem?_eq_some_iff.mp hu
      simpa using hl
    refine wpAny_pyNext_enum_itemD (Draws.tuple (A := X.A.in1) (I.ok.hd hc) it a hai its.toArray) he ⟨hit, p⟩ hlt hne (by simp; exact ⟨hne, hae⟩) fun y h' tk hy ho hst hT hsz hk => ?_
    have ey : y = u := by
      have : its.toArray[i]? = some u := by simpa using hu
      rw [this] at hy
      exact (Option.some.inj hy).symm
    subst ey
    refine ⟨_, rfl, wpAny_letOwnedTupleGo_enum (s := { s with heap := h', toks := tk + 1 }) ho fun h'' he' sb => ?_⟩
    have hT2 : h''.get? s.heap.objs.size = some { cls := .type "tuple", data := .seq #[.int i tk, y] } := (sb.2 _ (Nat.ne_of_gt hel)).trans hT
    have new : ObjOk X.prog X.w (upd H s.heap.objs.size (.tup [.int (i : Nat), x])) h'' s.heap.objs.size (.tup [.int (i : Nat), x]) := by
      refine ⟨by show 2 ≤ sizeLine; decide, [.int i tk, y], .cons ⟨_, rfl⟩ (.cons ru .nil), ⟨_, hT2, rfl, _, rfl⟩⟩
    have I1 : Inv X pins σ (upd H s.heap.objs.size (.tup [.int (i : Nat), x])) { s with heap := h'', toks := tk + 1 } := by
      refine I.turnedNew (ch := [e, it]) (fun b ob hb q => ?_) hf (Nat.le_refl _) new
      have nbe : b ≠ e := fun z => hb (by simp [z])
      have nbi : b ≠ it := fun z => hb (by simp [z])
      exact (sb.2 b nbe).trans (hk b ob nbe nbi q)
    refine ⟨.ref s.heap.objs.size, _, I1, rfl, ⟨_, x, rfl, I.hok.fresh (Nat.le_refl _), rfl, fun ys hy => by rw [I.tuple_inj hy hq]; exact hx⟩, ⟨⟨y, ?_⟩, hst.1.at fun o q => (sb.2 it (Ne.symm hne)).trans q, hne⟩, fun b hb => ?_⟩
    · rw [show ((i + 1 : Nat) : Int) = (i : Int) + 1 by omega]
      exact he'
    · have hb' : b < s.heap.objs.size := by
        rcases (show b = e ∨ b = it by simpa using hb) with z | z
        · rw [z]; exact hel
        · rw [z]; exact hil
      rw [upd_ne (Nat.ne_of_lt hb')]
      exact (hf b hb).1
  done := by
    intro X hP hw hK hc i pins s σ H E I hf st hg
    subst hP hw hK
    obtain ⟨⟨old, he⟩, hit, hne⟩ := st
    obtain ⟨xs, hq, hx⟩ := hg
    obtain ⟨its, rv, p, hz⟩ := I.tuple hq
    obtain ⟨f0, f1, f2, f3, f4, f5⟩ := hf it (by simp)
    have hl := rv.length
    have hai : a ≠ it := fun z => by
      obtain ⟨o, h1, h2, _⟩ := p
      obtain ⟨o', h3, h4, _⟩ := hit
      rw [z, h3] at h1
      cases h1
      rw [h4] at h2
      exact absurd (Value.type.inj h2) (by decide)
    have hsz : its.toArray.size = i := by rw [List.size_toArray]; omega
    refine wpAny_pyNext_enum_endD (Draws.tuple (A := X.A.in1) (I.ok.hd hc) it a hai its.toArray) he ⟨by rw [hsz]; exact hit, p⟩ fun h' eb => ?_
    exact ⟨rfl, I.turned (t' := s.toks) (fun b o hb q => eb b o hb q) f0 f1 f3 f4 f5⟩
  self := fun A i s Q E st h => by
    obtain ⟨⟨_, he⟩, _⟩ := st
    exact wpAny_pyIter_enum he h
def iEnumT (K : PySem.W.Frag) (ta : TA) : TI := fun σ H R => ta σ H fun vs H1 => ∃ a xs, vs = [.ref a] ∧ SqT K H1 a xs ∧ R (Iet K a) H1
theorem pi_enumT {X : Cx} {e : Expr} {ta : TA} {p pos tpos : Pos} {elts : List Expr} {kk : Nat} (hg : Gl X "enumerate") (hm : X.mg "enumerate" = none) (ha : PA X [e] ta) (hs : starEach [e] X.env = [(false, eval e X.env)] := by rfl) :
    PI X (.Tuple elts kk tpos) (.Call (.Name "enumerate" p) [e] [] pos) (iEnumT X.K ta) := by
  refine ⟨fun pins s σ H R I h => Call_ (ld_blt I hg hm boot_enumerate (PyProof.Rows.callWith_type1 (thn (ha.run pos pins s σ H _ I h) ?_) hs rfl))⟩
  rintro us s1 ⟨vs, H1, I1, r1, a, xs, rfl, hq, q⟩
  cases r1 with
  | cons r rr =>
    cases rr
    cases r
    obtain ⟨its, rv, p', hz⟩ := I1.tuple hq
    refine call_enumT p' fun h' he hit hk => wpAny_pyIter_enum he ?_
    have I2 : Inv X pins σ H1 { s1 with heap := h' } := I1.kept (t' := s1.toks) hk
    refine ⟨s1.heap.objs.size + 1, [s1.heap.objs.size + 1, s1.heap.objs.size], _, _, H1, rfl, I2, turn_enumT a (s1.heap.objs.size + 1) s1.heap.objs.size, ⟨⟨.none, he⟩, hit, Nat.succ_ne_self _⟩, fun b hb => ?_, q⟩
    have hle : s1.heap.objs.size ≤ b := by
      rcases (show b = s1.heap.objs.size + 1 ∨ b = s1.heap.objs.size by simpa using hb) with z | z <;> rw [z]
      · exact Nat.le_add_right _ _
      · exact Nat.le_refl _
    exact I1.fpOk hle (I1.hok.fresh hle)
theorem walk_enumT {K : PySem.W.Frag} {a : Addr} {xs : List V} : Walk (Iet K a) xs.length (fun H => SqT K H a xs) (YPair (fun i => some (.int (i : Nat))) (fun i => xs[i]?)) := by
  refine ⟨fun i _ hi q => ⟨xs, xs[i], q, by simp [hi]⟩, fun _ q => ⟨xs, q, rfl⟩, fun i H v H' _ q y => ?_⟩
  obtain ⟨T, x, h1, h2, h3, h4⟩ := y
  exact ⟨T, .int (i : Nat), x, h1, h2, h3, rfl, h4 xs q⟩
theorem wd_enumT {K : PySem.W.Frag} {Z : Hp} {a : Addr} {xs : List V} {ds : List PyData} (h : SqT K Z a xs) (hd : DDs K Z xs ds) : WalkD K (Iet K a) Z (enumD ds) := by
  refine ⟨_, _, ((enumD_len ds).trans (dds_len hd).symm) ▸ walk_enumT (K := K) (a := a) (xs := xs), fun H s => same_sqT s h, fun i H x H' Zc hi y s1 s2 => ?_⟩
  obtain ⟨T, u, v, rfl, nT, rfl, e1, e2⟩ := y
  cases e1
  obtain ⟨d, e3, e4⟩ := dds_get' hd e2
  exact ⟨_, _, grow_new s2 nT _, enumD_get e3, new_tup s2 nT (.cons (.int _) (.cons (DDm e4 s1) .nil))⟩
def enumTA : List PyData → Option (List PyData)
  | [.list ds] => some (enumD ds)
  | [.tuple ds] => some (enumD ds)
  | _ => none
theorem di_enumA {X : Cx} {F : Fm} {e : Expr} {fa : DEnv → Option (List PyData × DEnv)} {p pos : Pos} {elts : List Expr} {kk : Nat} {tpos : Pos} (hm : X.mg "enumerate" = none) (ha : PDA X F [e] fa) (hg : Gl X "enumerate" := by rfl) (hs : starEach [e] X.env = [(false, eval e X.env)] := by rfl) :
    PDI X F (.Tuple elts kk tpos) (.Call (.Name "enumerate" p) [e] [] pos) (iArg enumTA fa) := pi_imp (pi_orr (pi_enum hg hm ha hs) (pi_enumT hg hm ha hs)) fun σ H Q h => by
  obtain ⟨Z, env, ds, env', r, e, q⟩ := h
  obtain ⟨⟨d, e1⟩, h1, h⟩ := bnd e
  obtain ⟨ds', h2, h⟩ := mpd h
  cases h
  match d, h1, h2 with
  | [.list js], h1, h2 =>
    cases h2
    refine .inl ⟨Z, env, _, e1, r, h1, fun vs Z1 H1 r1 s1 d1 => ?_⟩
    obtain ⟨v, rfl, d2⟩ := dds1 d1
    cases d2 with
    | @lst a xs _ hr hd => exact ⟨a, xs, rfl, (same_ls r1.zh hr).sq, q _ Z1 H1 r1 s1 (wd_enum hr hd)⟩
  | [.tuple js], h1, h2 =>
    cases h2
    refine .inr ⟨Z, env, _, e1, r, h1, fun vs Z1 H1 r1 s1 d1 => ?_⟩
    obtain ⟨v, rfl, d2⟩ := dds1 d1
    cases d2 with
    | @tup a xs _ hr hd => exact ⟨a, xs, rfl, same_sqT r1.zh hr, q _ Z1 H1 r1 s1 (wd_enumT hr hd)⟩
/-! ### isinstance over written types -/
theorem kit_int (K : PySem.W.Frag) : KitOk K "int" := by
  intro t ht
  simp only [List.mem_cons, List.not_mem_nil, or_false] at ht
  rcases ht with rfl | rfl | rfl | rfl | rfl | rfl | rfl <;> rfl
theorem kit_bool (K : PySem.W.Frag) : KitOk K "bool" := by
  intro t ht
  simp only [List.mem_cons, List.not_mem_nil, or_false] at ht
  rcases ht with rfl | rfl | rfl | rfl | rfl | rfl | rfl <;> rfl
theorem kit_str (K : PySem.W.Frag) : KitOk K "str" := by
  intro t ht
  simp only [List.mem_cons, List.not_mem_nil, or_false] at ht
  rcases ht with rfl | rfl | rfl | rfl | rfl | rfl | rfl <;> rfl
theorem kit_tuple (K : PySem.W.Frag) : KitOk K "tuple" := by
  intro t ht
  simp only [List.mem_cons, List.not_mem_nil, or_false] at ht
  rcases ht with rfl | rfl | rfl | rfl | rfl | rfl | rfl <;> rfl
/-! ### tests that compare -/
section
variable {X : Cx} {F : Fm} {a b c e : Expr} {pos p : Pos} {f g k : DEnv → Option (PyData × DEnv)}
def IsB (o : PyData → PyData → Option PyData) : Prop := ∀ a b d, o a b = some d → ∃ k, d = .bool k
theorem tst_read {K : PySem.W.Frag} {t : TE} {f : DEnv → Option (PyData × DEnv)} (hb : ∀ env d e, f env = some (d, e) → ∃ k, d = .bool k) (ht : ∀ σ H Q, tD K F f σ H Q → t σ H Q) {σ : St} {H : Hp} {Q : Bool → Hp → Prop} (h : tDT K F (fTst f) σ H Q) : tTest t σ H Q := by
  obtain ⟨Z, env, d, env', r, e, q⟩ := h
  obtain ⟨⟨x, e1⟩, h1, h⟩ := bnd e
  obtain ⟨k, h2, h⟩ := mpd h
  cases h
  obtain ⟨k', rfl⟩ := hb _ _ _ h1
  cases h2
  exact ht σ H _ ⟨Z, env, _, e1, r, h1, fun v Z1 H1 r1 s1 d1 => ⟨_, d1.bool_inv, q Z1 H1 r1 s1⟩⟩
theorem fBin_b {o : PyData → PyData → Option PyData} (hb : IsB o) (env : DEnv) (d : PyData) (e : DEnv) (h : fBin o f g env = some (d, e)) : ∃ k, d = .bool k := by
  obtain ⟨x, _, h⟩ := bnd h
  obtain ⟨y, _, h⟩ := bnd h
  obtain ⟨z, h1, h⟩ := mpd h
  cases h
  exact hb _ _ _ h1
theorem pdt_cmp {op : CmpOp} {o : PyData → PyData → Option PyData} (ho : OpD X (compareOp op) o) (hb : IsB o) (ha : PD X F a f) (hc : PD X F b g) (hm : behindInMarks op b = false := by first | exact nomark _ | rfl) : PDT X F (.Compare a [op] [b] pos) (fTst (fBin o f g)) :=
  pt_imp (pt_cmpR ho ha hc hm) fun _ _ _ h => tst_read (fBin_b hb) (fun _ _ _ h => bin_read h) h
theorem cmpN_read {K : PySem.W.Frag} {o : PyData → PyData → Option PyData} {i : Nat} (hs : ∀ a b d, o a b = some d → scalD d = true) {σ : St} {H : Hp} {Q : VK} (h : tD K F (fCmpN o f i) σ H Q) : tOp (r2D K o) (tD K F f) (tVar i) σ H Q := by
  obtain ⟨Z, env, d, env', r, e, q⟩ := h
  obtain ⟨⟨x, e1⟩, h1, h⟩ := bnd e
  obtain ⟨y, h2, h⟩ := bnd h
  obtain ⟨d', h3, h⟩ := mpd h
  cases h
  refine ⟨Z, env, x, e1, r, h1, fun v1 Z1 H1 r1 s1 d1 => ?_⟩
  obtain ⟨v, ev, dv⟩ := r1.rdB h2
  refine ⟨v, ev, H1, x, y, d, Same.refl H1, DDm d1 r1.zh, dv, h3, fun v' Z' H' gr dd => ?_⟩
  have gr' : Grow Z1 H1 Z1 H' := ⟨Same.refl _, r1.zh.trans gr.h, gr.h, gr.t, fun _ z => .inl z⟩
  exact q v' Z1 H' (r1.grow gr') (s1.trans gr'.stp) (dd.scal (hs _ _ _ h3))
theorem pdt_cmpN {op : CmpOp} {o : PyData → PyData → Option PyData} (ho : OpD X (compareOp op) o) (hs : ∀ a b d, o a b = some d → scalD d = true) (hb : IsB o) (ha : PD X F a f) (i : Nat) {x : Str} (hm : behindInMarks op (.Name x p) = false := by first | exact nomark _ | rfl)
    (hN : X.N[i]? = some x := by rfl) (hv : Vis X.env.scope x := by first | exact Or.inl rfl | exact Or.inr (Or.inl rfl) | exact Or.inr (Or.inr rfl)) (hd : (x == ("__debug__" : Str)) = false := by decide)
    (hcd : (x == ("__classdict__" : Str)) = false := by decide) : PDT X F (.Compare a [op] [.Name x p] pos) (fTst (fCmpN o f i)) :=
  pt_imp (pt_cmpR ho ha (pe_var hN hv hd hcd) hm) fun _ _ _ h => tst_read (fun env d e h => by
    obtain ⟨x, _, h⟩ := bnd h
    obtain ⟨y, _, h⟩ := bnd h
    obtain ⟨z, h1, h⟩ := mpd h
    cases h
    exact hb _ _ _ h1) (fun _ _ _ h => cmpN_read hs h) h
theorem eqD_b : IsB eqD := fun a b d h => by obtain ⟨k, _, rfl⟩ := mpd h; exact ⟨_, rfl⟩
theorem neD_b : IsB neD := fun a b d h => by obtain ⟨k, _, rfl⟩ := mpd h; exact ⟨_, rfl⟩
theorem inD_b : IsB inD := fun a b d h => by obtain ⟨k, _, rfl⟩ := mpd h; exact ⟨_, rfl⟩
theorem intD_b {c : Int → Int → Bool} {o : Int → Int → Bool} : IsB (intD c fun i j => .bool (o i j)) := fun a b d h => by
  match a, b, h with
  | .int i, .int j, h =>
    change (if c i j then some (PyData.bool (o i j)) else none) = some d at h
    split at h <;> cases h
    exact ⟨_, rfl⟩
def fNeg (f : DEnv → Option (PyData × DEnv)) (env : DEnv) : Option (PyData × DEnv) := (f env).bind fun x => match x.1 with
  | .int i => some (.int (-i), x.2)
  | _ => none
theorem pd_neg (ha : PD X F a f) : PD X F (.UnaryOp .USub a pos) (fNeg f) := pe_imp (pe_un un_neg ha) fun σ H Q h => by
  obtain ⟨Z, env, d, env', r, e, q⟩ := h
  obtain ⟨⟨x, e1⟩, h1, h⟩ := bnd e
  match x, h1, h with
  | .int i, h1, h =>
    cases h
    refine ⟨Z, env, .int i, e1, r, h1, fun v Z1 H1 r1 s1 d1 => ?_⟩
    cases d1.int_inv
    exact ⟨i, rfl, q _ Z1 H1 r1 s1 (.int _)⟩
end
end DL
end L2


set_option Elab.async false
set_option maxRecDepth 100000
set_option maxHeartbeats 4000000
set_option autoImplicit false
namespace L2
namespace DL
open PySem PySem.Spec PyProof.Rows
variable [Lab]
section
variable {X : Cx} {F : Fm} {a b c e tg iter : Expr} {es : List Expr} {s : Stmt} {ss s2 : List Stmt} {pos p pn : Pos} {x y : Str} {f g : DEnv → Option (PyData × DEnv)} {fa fn : DEnv → Option (List PyData × DEnv)} {ft : DEnv → Option (Bool × DEnv)} {h1 h2 : DEnv → Option DFlow}
def intsD : List PyData → Option (List Int)
  | [] => some []
  | .int b :: r => (intsD r).map (b :: ·)
  | _ => none
theorem ints_of {K : PySem.W.Frag} {Z : Hp} : ∀ {vs : List V} {ds : List PyData} {bs : List Int}, DDs K Z vs ds → intsD ds = some bs → vs = bs.map V.int
  | _, [], bs, h, e => by cases e; cases h; rfl
  | _, .int b :: r, bs, h, e => by
    obtain ⟨cs, e1, rfl⟩ := mpd e
    cases h with
    | cons h1 h2 =>
      cases h1.int_inv
      rw [ints_of h2 e1]
      rfl
  | _, .none :: _, _, _, e => by cases e
  | _, .bool _ :: _, _, _, e => by cases e
  | _, .str _ :: _, _, _, e => by cases e
  | _, .list _ :: _, _, _, e => by cases e
  | _, .tuple _ :: _, _, _, e => by cases e
  | _, .dict _ :: _, _, _, e => by cases e
def sumD : List PyData → Option PyData
  | [.list ds] => (intsD ds).map fun bs => .int bs.sum
  | _ => none
theorem cd_sum (hc : X.calm = true) : CallD X (.builtin "sum") sumD := by
  intro pins s σ H xs us Q I r h
  obtain ⟨Z, ds, d, sz, hd, e, q⟩ := h
  match ds, hd, e with
  | [.list ds], hd, e =>
    obtain ⟨bs, e1, rfl⟩ := mpd e
    obtain ⟨v, rfl, h1⟩ := dds1 hd
    cases h1 with
    | @lst a ys _ hr ha =>
      have := ints_of ha e1
      subst this
      exact cr_sum hc pins s σ H _ us Q I r ⟨a, bs, rfl, (same_ls sz hr).sq, q _ Z H (Grow.refl sz) (.int _)⟩
end
/-! ### small data -/
structure Sm (k w : Nat) (d : PyData) : Prop where
  lay : d.canLay0 = true
  sh : d.showable = true
  nd : d.hasDict = false
  sho : d.intsShort 13 = true
  dp : d.depth ≤ k
  wt : d.weight ≤ w
theorem Sm.mono {k w k' w' : Nat} {d : PyData} (h : Sm k w d) (hk : k ≤ k') (hw : w ≤ w') : Sm k' w' d := ⟨h.lay, h.sh, h.nd, h.sho, Nat.le_trans h.dp hk, Nat.le_trans h.wt hw⟩
theorem sm_all {k w : Nat} : ∀ (ds : List PyData), (∀ d ∈ ds, Sm k w d) → PyData.canLayAll0 ds = true ∧ PyData.showableAll ds = true ∧ PyData.hasDictAll ds = false ∧ PyData.intsShortAll 13 ds = true ∧ PyData.depthAll ds ≤ k ∧ PyData.weightAll ds ≤ ds.length * (w + 1)
  | [], _ => ⟨rfl, rfl, rfl, rfl, Nat.zero_le _, by simp [PyData.weightAll]⟩
  | d :: ds, h => by
    obtain ⟨a, b, c, e, f, g⟩ := sm_all ds fun x hx => h x (List.mem_cons_of_mem _ hx)
    have hd := h d List.mem_cons_self
    refine ⟨by simp [PyData.canLayAll0, hd.lay, a], by simp [PyData.showableAll, hd.sh, b], by simp [PyData.hasDictAll, hd.nd, c], by simp [PyData.intsShortAll, hd.sho, e], ?_, ?_⟩
    · simp only [PyData.depthAll]
      exact Nat.max_le.mpr ⟨hd.dp, f⟩
    · simp only [PyData.weightAll, List.length_cons, Nat.succ_mul]
      have := hd.wt
      omega
theorem Sm.tuple {k w n : Nat} {ds : List PyData} (h : ∀ d ∈ ds, Sm k w d) (hn : ds.length ≤ n) : Sm (k + 1) (n * (w + 1)) (.tuple ds) := by
  obtain ⟨a, b, c, e, f, g⟩ := sm_all ds h
  exact ⟨a, b, c, e, Nat.succ_le_succ f, Nat.le_trans g (Nat.mul_le_mul_right _ hn)⟩
theorem Sm.list {k w n : Nat} {ds : List PyData} (h : ∀ d ∈ ds, Sm k w d) (hn : ds.length ≤ n) : Sm (k + 1) (n * (w + 1)) (.list ds) := by
  obtain ⟨a, b, c, e, f, g⟩ := sm_all ds h
  exact ⟨a, b, c, e, Nat.succ_le_succ f, Nat.le_trans g (Nat.mul_le_mul_right _ hn)⟩
theorem Sm.shaped {k w : Nat} {d : PyData} (h : Sm k w d) (hk : k ≤ 64) : SeqAt.shaped d = true := by
  unfold SeqAt.shaped
  rw [h.lay, decide_eq_true (Nat.le_trans h.dp hk)]
  rfl
theorem Sm.repr {k w : Nat} {d : PyData} (h : Sm k w d) (hk : k ≤ 64) (hw : w ≤ 1048576) : reprOk d = true := by
  have hl : PyData.layable0 d = true := by
    unfold PyData.layable0
    rw [h.lay, decide_eq_true (Nat.le_trans h.dp hk), decide_eq_true (Nat.le_trans h.wt hw)]
    rfl
  have h1 := PyProof.Rows.shown_le13 hl h.sho
  have h2 : d.shown.length ≤ sizeLine := Nat.le_trans h1 (by decide)
  rw [reprOk, h.sh, h.nd, decide_eq_true h2, decide_eq_true (Nat.le_trans h.dp hk)]
  rfl
theorem Sm.shD {k w : Nat} {d : PyData} (h : Sm k w d) (hk : k ≤ 64) : DL.shD d = true := by
  unfold DL.shD
  rw [h.shaped hk, h.nd]
  rfl
/-! ### evaluating a mirror step by step -/
theorem ev_cb {o : List PyData → Option PyData} {fa : DEnv → Option (List PyData × DEnv)} {env e1 : DEnv} {ds : List PyData} {d : PyData} (h : fa env = some (ds, e1)) (h2 : o ds = some d) : fCB o fa env = some (d, e1) := by
  unfold fCB; rw [h]; show (o ds).map _ = _; rw [h2]; rfl
theorem ev_frz {fa : DEnv → Option (List PyData × DEnv)} {env e1 : DEnv} {ds : List PyData} (h : fa env = some (ds, e1)) : fFrz fa env = some (.list ds, e1) := by
  unfold fFrz; rw [h]; rfl
theorem ev_cons {f : DEnv → Option (PyData × DEnv)} {fa : DEnv → Option (List PyData × DEnv)} {env e1 e2 : DEnv} {d : PyData} {ds : List PyData} (h : f env = some (d, e1)) (h2 : fa e1 = some (ds, e2)) : fCons f fa env = some (d :: ds, e2) := by
  unfold fCons; rw [h]; show (fa e1).map _ = _; rw [h2]; rfl
theorem ev_nil {env : DEnv} : fNil env = some ([], env) := rfl
theorem ev_seq {f g : DEnv → Option DFlow} {env e1 : DEnv} {fl : DFlow} (h : f env = some (.nx e1)) (h2 : g e1 = some fl) : sSeq f g env = some fl := by
  unfold sSeq; rw [h]; exact h2
theorem ev_for {fi : DEnv → Option (List PyData × DEnv)} {g : PyData → DEnv → Option DEnv} {b : DEnv → Option DFlow} {env e1 : DEnv} {ds : List PyData} {fl : DFlow} (h : fi env = some (ds, e1)) (h2 : forD g b ds e1 = some fl) : sFor fi g b env = some fl := by
  unfold sFor; rw [h]; exact h2
theorem ev_ret {f : DEnv → Option (PyData × DEnv)} {env e1 : DEnv} {d : PyData} (h : f env = some (d, e1)) : sRet f env = some (.rt d e1) := by
  unfold sRet; rw [h]; rfl
theorem ev_ifT {ft : DEnv → Option (Bool × DEnv)} {h1 h2 : DEnv → Option DFlow} {env e1 : DEnv} {fl : DFlow} (h : ft env = some (true, e1)) (h' : h1 e1 = some fl) : sIf ft h1 h2 env = some fl := by
  unfold sIf; rw [h]; exact h'
theorem ev_ifF {ft : DEnv → Option (Bool × DEnv)} {h1 h2 : DEnv → Option DFlow} {env e1 : DEnv} {fl : DFlow} (h : ft env = some (false, e1)) (h' : h2 e1 = some fl) : sIf ft h1 h2 env = some fl := by
  unfold sIf; rw [h]; exact h'
theorem ev_tst {f : DEnv → Option (PyData × DEnv)} {env e1 : DEnv} {d : PyData} {k : Bool} (h : f env = some (d, e1)) (h2 : truthD d = some k) : fTst f env = some (k, e1) := by
  unfold fTst; rw [h]; show (truthD d).map _ = _; rw [h2]; rfl
theorem ev_bin {o : PyData → PyData → Option PyData} {f g : DEnv → Option (PyData × DEnv)} {env e1 e2 : DEnv} {a b d : PyData} (h : f env = some (a, e1)) (h2 : g e1 = some (b, e2)) (h3 : o a b = some d) : fBin o f g env = some (d, e2) := by
  unfold fBin; rw [h]; show (g e1).bind _ = _; rw [h2]; show (o a b).map _ = _; rw [h3]; rfl
theorem ev_cmpN {o : PyData → PyData → Option PyData} {f : DEnv → Option (PyData × DEnv)} {i : Nat} {env e1 : DEnv} {a b d : PyData} (h : f env = some (a, e1)) (h2 : rdB i e1 = some b) (h3 : o a b = some d) : fCmpN o f i env = some (d, e1) := by
  unfold fCmpN; rw [h]; show (rdB i e1).bind _ = _; rw [h2]; show (o a b).map _ = _; rw [h3]; rfl
theorem ev_seqI {f : DEnv → Option (PyData × DEnv)} {env e1 : DEnv} {d : PyData} {ds : List PyData} (h : f env = some (d, e1)) (h2 : seqD d = some ds) : iSeq f env = some (ds, e1) := by
  unfold iSeq; rw [h]; show (seqD d).map _ = _; rw [h2]; rfl
theorem ev_lst {fa : DEnv → Option (List PyData × DEnv)} {env e1 : DEnv} {ds : List PyData} (h : fa env = some (ds, e1)) (h2 : ds.length ≤ lim) : fLst fa env = some (ds, e1) := by
  unfold fLst; rw [h]; exact if_pos h2
theorem ev_forN {g : PyData → DEnv → Option DEnv} {b : DEnv → Option DFlow} {d : PyData} {ds : List PyData} {env e1 e2 : DEnv} {fl : DFlow} (hg : g d env = some e1) (hb : b e1 = some (.nx e2)) (h : forD g b ds e2 = some fl) : forD g b (d :: ds) env = some fl := by
  rw [forD, hg]; show (b e1).bind _ = _; rw [hb]; exact h
/-- what is known of the law's def at the head's heap -/
def LawG (l : PySem.W.OpenLaw) (w : World) (K : PySem.W.Frag) (k : Nat) (x : Str) (m : List PyData → Option PyData) (mg : Str → Option Value) (fa : Addr) (h : Heap) : Prop :=
  ∃ (fd : FuncData) (cs : List (Addr × Addr)) (L : Lab), (∀ c q, (c, q) ∈ cs → h.get? q = some { cls := .none, data := .fields #[] } ∧ K.lookup q = none ∧ PySem.W.CodeHd h c q) ∧ (∀ q ∈ L.T, ∃ c, (c, q.1) ∈ cs) ∧
    (∀ (s : Shared) (u : Value), BindsTo s fd ⟨[u], []⟩ [(x, u)]) ∧ ∀ base : Heap, K.In base → base.Ns mainGlobals mg → (∀ c q, (c, q) ∈ cs → LamX.TabB base mg c q) → FnG l.prog w K mg base k fa fd [x] (spF K 1 m)
omit [Lab] in
theorem walk_g {l : PySem.W.OpenLaw} {n k : Nat} {q : Program} {loose : List Str} {XP : (Str → Option Value) → Heap → Prop} {YP : World → Heap → Prop} {d : DefRec} {K : Params → PySem.W.Frag} {m : List PyData → Option PyData} {x : Str}
    (hn : l.most = some n) (hn2 : n ≤ sizeLine) (hdf : d.params.defaults = []) (hr : Room k callerA) (hY : ∀ (w : World) (h : Heap), YP w h → (K w.params).In h)
    (G : ∀ (w : World) (mg : Str → Option Value) (fa : Addr) (h : Heap), YP w h → (K w.params).In h → h.Ns mainGlobals mg → mg d.name = some (.ref fa) → LawG l w (K w.params) k x m mg fa h)
    (hm : ∀ ns : List Int, ns.length ≤ n → m [.list (ns.map PyData.int)] = some (.bool true)) :
    PySem.W.WalkO q loose XP YP l.row.toRowW d [] (fun f vs => PySem.call f vs) := by
  refine Att.attach_call hn hdf fun w s0 s1 mg mb fa o pm cd doc a vs ns Gr Y ho hd hcd hmg hobj hints hlen hg => ?_
  have KX := hY w _ Y
  obtain ⟨fd, cs, L, h1, h2, hb, hF⟩ := G w mg fa _ Y KX Gr.T.g hmg
  letI := L
  exact law_callG KX Gr.T.g Gr.T.b Gr.T.builtins Gr.T.nolimit hg h1 Gr.T.bmain hobj hints (Nat.le_trans hlen hn2) hr h2 hF hb (hm ns hlen)
omit [Lab] in
theorem cInt [LabW] {K : PySem.W.Frag} {h : Heap} {mg : Str → Option Value} (X : K.In h) (G : h.Ns mainGlobals mg) {x : Str} {i : Int} {t : Tok} (a : PySem.W.nsIn K mainGlobals x = some (some (.int i t))) : ∃ uv : Value × V, mg x = some uv.1 ∧ RelV uv.2 uv.1 ∧ ∀ Z, DD K Z uv.2 (.int i) :=
  ⟨(.int i t, .int i), PySem.W.mg_of X G a, ⟨t, rfl⟩, fun _ => .int i⟩
omit [Lab] in
theorem cStrs [LabW] {K : PySem.W.Frag} {h : Heap} {mg : Str → Option Value} (X : K.In h) (G : h.Ns mainGlobals mg) {x : Str} {p : Addr} {oc : Value} {od : Option Addr} {its : Array Value} {n : Nat} {sl : Array (Option Value)} {ss : List Str} (a : PySem.W.nsIn K mainGlobals x = some (some (.ref p)))
    (l : K.lookup p = some ⟨oc, od, .seq its n, sl⟩) (hc : oc = .type "tuple") (hz : its.size ≤ sizeLine) (hv : Vals (ss.map V.str) its.toList) : ∃ uv : Value × V, mg x = some uv.1 ∧ RelV uv.2 uv.1 ∧ ∀ Z, DD K Z uv.2 (.tuple (ss.map PyData.str)) := by
  refine ⟨(.ref p, .ref p), PySem.W.mg_of X G a, rfl, fun Z => .tup (.inr ⟨_, its, n, l, hc, rfl, hz, hv⟩) ?_⟩
  clear hv
  induction ss with
  | nil => exact .nil
  | cons s ss ih => exact .cons (.str s) ih
end DL
end L2


set_option Elab.async false
set_option maxRecDepth 100000
set_option maxHeartbeats 4000000
set_option autoImplicit false
namespace L2
namespace DL
open PySem PySem.Spec PyProof.Rows
variable [Lab]
/-! ### exceptions: what a def may let out -/
inductive XR where
  | ok (d : PyData) | ex (c a : Str) (d : PyData)
inductive DX where
  | ok (d : PyData) (env : DEnv) | ex (c a : Str) (d : PyData) (env : DEnv)
/-- a wish by the classes' names, as one by their addresses -/
def wx (C : Str → Addr) (W : Str → Option Addr → St → Hp → Prop) : WX := fun cls d σ H => ∃ c, cls = .ref (C c) ∧ W c d σ H
structure FnX (P : Program) (w : World) (K : PySem.W.Frag) (mg : Str → Option Value) (base : Heap) (k : Nat) (f : Addr) (fd : FuncData) (ps : List Str) (sp : Sp) : Prop where
  len : ∀ vs H Q E, sp vs H Q E → vs.length = ps.length
  run : ∀ (A : Around) (outer : List Env) (s : Shared) (H : Hp) (args : Args) (us : List Value) (vs : List V) (Q : VK) (E : XK),
    GdOk A → Room k A → Env0 P w K mg base A outer s H → BindsTo s fd args (ps.zip us) → Vals vs us → sp vs H Q E →
    codeAny (model P w) A (.call (.ref f) args) (CR (L2.CX P w) outer P w H s Q E) s
theorem FnX.mono {P : Program} {w : World} {K : PySem.W.Frag} {mg : Str → Option Value} {base : Heap} {j k : Nat} {f : Addr} {fd : FuncData} {ps : List Str} {sp : Sp}
    (G : FnX P w K mg base j f fd ps sp) (h : j ≤ k) : FnX P w K mg base k f fd ps sp :=
  ⟨G.len, fun A outer s H args us vs Q E hg hr => G.run A outer s H args us vs Q E hg (hr.mono h)⟩
section
variable {P : Program} {w : World} {K : PySem.W.Frag} {mg : Str → Option Value} {base : Heap}
theorem fnx_of {x qual : Str} {st : Stmt} {f : Addr} {fd : FuncData} {N ps : List Str} {k : Nat} {sp : Sp} (D : Fun K x qual st f fd) (S : FnScope N ps (defScope st)) (len : ∀ vs H Q E, sp vs H Q E → vs.length = ps.length)
    (hbody : ∀ (cdv : Value) (A : Around) (outer : List Env) (s : Shared) (H : Hp) (vs : List V) (Q : VK) (E : XK), cdv = fd.code → GdOk A →
      Room k (A.deeper (envOfC qual (defScope st) s.heap.objs.size f cdv)) → sp vs H Q E →
      ∃ t, PSs (cxOf (L2.CX P w) P w K mg base N qual (defScope st) f cdv A outer s H E) (defBody st) t ∧ t { nx := fun _ H' => Q .non H', rt := Q } (start N vs) H) :
    FnX P w K mg base (k + 1) f fd ps sp := by
  obtain ⟨oc, od, kV, doc, pm, an, cdv, ct, osl, rfl, lk, hcd⟩ := D.ex
  refine ⟨len, fun A outer s H args us vs Q E hgd hr e0 hb rv hsp => ?_⟩
  have sl := len vs H Q E hsp
  have kin : K.In s.heap := e0.mod.kin.keeps fun b o q => (e0.bs b o q).1
  have nol : s.heap.NoLimit := e0.mod.nolimit.keeps fun b o q => (e0.bs b o q).1
  have kinds : ∀ y ∈ ps.zip us, (defScope st).names.lookup y.1 = some .local ∨
      ((defScope st).names.lookup y.1 = some .cell ∧ ((cellsFrom (s.heap.objs.size + 1) (defScope st).names []).lookup y.1).isSome = true) := by
    rintro ⟨n, z⟩ hy
    rcases S.par n (List.of_mem_zip hy).1 with e | e
    · exact .inl e
    · exact .inr ⟨e, PySem.W.cellsFrom_some _ _ _ (.inl e)⟩
  refine codeAny_call_function hr.depth (kin _ _ lk) rfl S.co S.gen rfl (PySem.W.codeRec_of kin hcd) (hb _ _ _ _ (wpAny_newFunctionEnv_cells S.kind kinds fun env he s1 x1 => ?_))
  subst he
  obtain ⟨t, ht, hq⟩ := hbody cdv A outer s H vs Q E rfl hgd (hr.deeper _) hsp
  have J0 : Inv (cxOf (L2.CX P w) P w K mg base N qual (defScope st) f cdv A outer s H E) [] (start N vs) H s1 := inv_start S hr.hd e0 sl rv x1
  refine ⟨nol.keeps x1.toInCall.keep, codeAny_func (wpAny_mono (ht.run [] s1 (start N vs) H _ J0 hq) (fun fl s' hs => ?_) fun e s' hs => hs)⟩
  cases fl with
  | ret u => obtain ⟨v, s2, H', J, r1, q⟩ := hs; exact ⟨v, H', J.os, J.bare, J.base, J.hok, r1, q⟩
  | next => obtain ⟨s2, H', J, q⟩ := hs; exact ⟨V.non, H', J.os, J.bare, J.base, J.hok, rfl, q⟩
  | brk => obtain ⟨_, _, _, q⟩ := hs; cases q
  | cont => obtain ⟨_, _, _, q⟩ := hs; cases q
end
section
variable {X : Cx} {F : Fm} {W : WX} {k : Nat} {f : Addr} {fd : FuncData} {ps ks : List Str} {sp : Sp} {x : Str} {p pos : Pos} {e : Expr} {es : List Expr} {t tk : TA} {kws : List Keyword}
theorem run_x {pins : List (Addr × Obj)} {σ : St} {H : Hp} {s : Shared} {Q : VK} {args : Args} {us : List Value} {vs : List V} (tk : Takes X W) (G : FnX X.prog X.w X.K X.mg X.base k f fd ps sp) (hg : GdOk X.A) (hr : Room k X.A)
    (hb : BindsTo s fd args (ps.zip us)) (I : Inv X pins σ H s) (rv : Vals vs us) (h : sp vs H Q fun cls d H' => W cls d σ H') : wpAny (model X.prog X.w) X.A (call (.ref f) args.pos args.kw) (EP X pins σ Q) X.xe s := by
  refine wpAny_call (codeAny_mono (G.run X.A X.stack s H args us vs Q _ hg hr I.env0 hb rv h) fun r s' hq => ?_)
  cases r with
  | error z => exact tk _ _ (XE.of_call I (fun _ _ _ h => h) hq)
  | ok fl =>
    cases fl with
    | ret u => exact I.after hq
    | next => cases hq
    | brk => cases hq
    | cont => cases hq
theorem pe_xcall (tk : Takes X W) (G : FnX X.prog X.w X.K X.mg X.base k f fd ps sp) (hgd : GdOk X.A) (hr : Room k X.A) (hm : X.mg x = some (.ref f)) (hk : PySem.W.keepIn X.K (.ref f) = true) (hb : Binds X.K fd ps [])
    (ha : PA X (e :: es) t) (hg : Gl X x := by rfl) (hdb : (x == ("__debug__" : Str)) = false := by decide)
    (he : starEach (e :: es) X.env = (false, eval e X.env) :: starEach es X.env := by rfl) (hpl : (backTo pos (starEach es X.env)).any (·.1) = false := by rfl) :
    PE X (.Call (.Name x p) (e :: es) [] pos) (fun σ H Q => t σ H fun vs H1 => sp vs H1 Q fun cls d H' => W cls d σ H') := by
  refine ⟨fun pins s σ H Q I h => wpAny_Call_Name_kw (ld_glob I hg hm (PySem.W.callWith_K (h₀ := X.base) I.ok.mod.kin hk (thn (ha.run pos pins s σ H _ I h) ?_) he hpl) hdb)⟩
  rintro us s1 ⟨vs, H1, I1, rv, q⟩
  have hl : us.length = ps.length := by rw [← rv.length]; exact G.len _ _ _ _ q
  refine ⟨I1.kIn, run_x (args := ⟨us, []⟩) (us := us) tk G hgd hr ?_ I1 rv q⟩
  have := hb s1 us I1.kIn (by rw [List.append_nil]; exact hl)
  rw [List.append_nil] at this
  exact this
end

/-! ### the promise -/
def FinX (K : PySem.W.Frag) (C : Str → Addr) (Z H : Hp) (Q : VK) (E : XK) : XR → Prop
  | .ok d => ∀ v Z' H', Grow Z H Z' H' → DD K Z' v d → Q v H'
  | .ex c a d => ∀ v p Z' H', Grow Z H Z' H' → H p = none → Z' p = none → H' p = some (.xd [(a, v)]) → DD K Z' v d → E (.ref (C c)) (some p) H'
def spX (K : PySem.W.Frag) (C : Str → Addr) (n : Nat) (m : List PyData → Option XR) : Sp := fun vs H Q E => vs.length = n ∧ ∃ Z ds r, Same Z H ∧ TB H ∧ DDs K Z vs ds ∧ m ds = some r ∧ FinX K C Z H Q E r
def okX (o : Option XR) : Option PyData := match o with
  | some (.ok d) => some d
  | _ => none
theorem okX_eq {o : Option XR} {d : PyData} (h : okX o = some d) : o = some (.ok d) := by
  match o, h with
  | some (.ok _), h => cases h; rfl
/-- called where it does not raise -/
theorem fng_of_x {P : Program} {w : World} {K : PySem.W.Frag} {mg : Str → Option Value} {base : Heap} {C : Str → Addr} {k n : Nat} {f : Addr} {fd : FuncData} {ps : List Str} {m : List PyData → Option XR} (G : FnX P w K mg base k f fd ps (spX K C n m)) (hn : n = ps.length) :
    FnG P w K mg base k f fd ps (spF K n fun ds => okX (m ds)) := by
  refine ⟨fun vs H Q E h => h.1.trans hn, fun A outer s H args us vs Q E hgd hr e0 hb rv h => ?_⟩
  obtain ⟨hl, Z, ds, r, sz, tb, hd, e, q⟩ := h
  refine codeAny_mono (G.run A outer s H args us vs Q (fun _ _ _ => False) hgd hr e0 hb rv ⟨hl, Z, ds, .ok r, sz, tb, hd, okX_eq e, q⟩) fun r s' hq => ?_
  cases r with
  | error z =>
    obtain ⟨_, _, _, _, _, _, _, _, _, _, _, _, z⟩ := hq
    exact z.elim
  | ok fl =>
    cases fl with
    | ret u => exact hq
    | next => cases hq
    | brk => cases hq
    | cont => cases hq

/-! ### readings that may raise -/
def FinE (K : PySem.W.Frag) (F : Fm) (Z : Hp) (env : DEnv) (σ : St) (H : Hp) (Q : VK) : DX → Prop
  | .ok d e' => ∀ v Z' H', Rel K F Z' H' σ e' → Stp σ env Z H e' Z' H' → DD K Z' v d → Q v H'
  | .ex c a d e' => ∀ v p Z' H', Rel K F Z' H' σ e' → Stp σ env Z H e' Z' H' → H p = none → Z' p = none → F.G p = none → ¬ F.P p → H' p = some (.xd [(a, v)]) → DD K Z' v d → F.W c (some p) σ H'
def tDX (K : PySem.W.Frag) (F : Fm) (f : DEnv → Option DX) : TE := fun σ H Q => ∃ Z env r, Rel K F Z H σ env ∧ f env = some r ∧ FinE K F Z env σ H Q r
def PDX (X : Cx) (F : Fm) (e : Expr) (f : DEnv → Option DX) : Prop := PE X e (tDX X.K F f)
def toX (env : DEnv) : XR → DX
  | .ok d => .ok d env
  | .ex c a d => .ex c a d env
def fCX (m : List PyData → Option XR) (fa : DEnv → Option (List PyData × DEnv)) (env : DEnv) : Option DX := (fa env).bind fun x => (m x.1).map (toX x.2)
section
variable {X : Cx} {F : Fm} {C : Str → Addr} {k n : Nat} {f : Addr} {fd : FuncData} {ps ks : List Str} {x : Str} {p pos : Pos} {e : Expr} {es : List Expr} {fa : DEnv → Option (List PyData × DEnv)} {fx : DEnv → Option DX}
theorem pdx_call {m : List PyData → Option XR} (tk : Takes X (wx C F.W)) (G : FnX X.prog X.w X.K X.mg X.base k f fd ps (spX X.K C n m)) (hn : ∀ ds r, m ds = some r → ds.length = n) (hgd : GdOk X.A) (hr : Room k X.A) (hm : X.mg x = some (.ref f)) (hk : PySem.W.keepIn X.K (.ref f) = true) (hb : Binds X.K fd ps [])
    (ha : PDA X F (e :: es) fa) (hg : Gl X x := by rfl) (hdb : (x == ("__debug__" : Str)) = false := by decide)
    (he : starEach (e :: es) X.env = (false, eval e X.env) :: starEach es X.env := by rfl) (hpl : (backTo pos (starEach es X.env)).any (·.1) = false := by rfl) :
    PDX X F (.Call (.Name x p) (e :: es) [] pos) (fCX m fa) :=
  pe_imp (pe_xcall tk G hgd hr hm hk hb ha hg hdb he hpl) fun σ H Q h => by
    obtain ⟨Z, env, r0, r, e, q⟩ := h
    obtain ⟨⟨xs, e1⟩, h1, h⟩ := bnd e
    obtain ⟨y, h2, h⟩ := mpd h
    subst h
    refine ⟨Z, env, xs, e1, r, h1, fun vs Z1 H1 r1 s1 d1 => ⟨(dds_len d1).trans (hn _ _ h2), Z1, xs, y, r1.zh, r1.tb, d1, h2, ?_⟩⟩
    cases y with
    | ok d => exact fun v Z' H' gr dd => q v Z' H' (r1.grow gr) (s1.trans gr.stp) dd
    | ex c a d => exact fun v p Z' H' gr h0 hz hp dd => ⟨c, rfl, q v p Z' H' (r1.grow gr) (s1.trans gr.stp) (s1.new h0) hz (r1.gh.free h0) (fun z => (r1.pp p z).1 h0) hp dd⟩
/-! ### statements of them -/
def sExprX (f : DEnv → Option DX) (env : DEnv) : Option DFlow := (f env).map fun r => match r with
  | .ok _ e => .nx e
  | .ex c a d e => .ex c a d e
def sSetX (i : Nat) (f : DEnv → Option DX) (env : DEnv) : Option DFlow := (f env).map fun r => match r with
  | .ok d e => .nx (e.set i (some (.fr d)))
  | .ex c a d e => .ex c a d e
theorem ds_exprX (ha : PDX X F e fx) (hs : swapsWith e none pos.line X.env = pure false := by rfl) : PDS X F (.Expr e pos) (sExprX fx) := ps_imp (ps_expr ha hs) fun D σ H h => by
  obtain ⟨Z, env, fl, r, e, q⟩ := h
  obtain ⟨y, h1, h⟩ := mpd e
  subst h
  refine ⟨Z, env, y, r, h1, ?_⟩
  cases y with
  | ok d e1 => exact fun v Z' H' r' s' _ => q σ Z' H' r' s'.z
  | ex c a d e1 => exact fun v p Z' H' r' s' _ hz hg hp hx dd => q v p σ Z' H' r' s'.z hz hg hp hx dd
theorem ds_setX (i : Nat) {pos' : Pos} (ha : PDX X F e fx) (hN : X.N.Nodup) (hi : X.N[i]? = some x := by rfl) (hx : Loc X.env.scope x := by first | exact Or.inl rfl | exact Or.inr rfl) (hs : swapsWith e (some (.Name x pos')) pos.line X.env = pure false := by rfl)
    (hf : X.fn x = true ∨ X.env.scope.names.lookup x = some .local := by first | exact .inl rfl | exact .inr rfl | assumption) : PDS X F (.Assign [.Name x pos'] e pos) (sSetX i fx) := ps_imp (ps_set hN hi hx ha hs hf) fun D σ H h => by
  obtain ⟨Z, env, fl, r, e, q⟩ := h
  obtain ⟨y, h1, h⟩ := mpd e
  subst h
  refine ⟨Z, env, y, r, h1, ?_⟩
  cases y with
  | ok d e1 => exact fun v Z' H' r' s' dd => q _ Z' H' (r'.store i dd) s'.z
  | ex c a d e1 => exact fun v p Z' H' r' s' _ hz hg hp hx dd => q v p σ Z' H' r' s'.z hz hg hp hx dd
end

/-! ### defs that may raise -/
def runX (n N : Nat) (g : DEnv → Option DFlow) (ds : List PyData) : Option XR := if ds.length = n then (match g (startE N ds) with
  | some (.rt d _) => some (.ok d)
  | some (.nx _) => some (.ok .none)
  | some (.ex c a d _) => some (.ex c a d)
  | _ => none) else none
theorem runX_len {n N : Nat} {g : DEnv → Option DFlow} (ds : List PyData) (r : XR) (h : runX n N g ds = some r) : ds.length = n := by
  unfold runX at h
  split at h
  · assumption
  · cases h
theorem okX_len {n N : Nat} {g : DEnv → Option DFlow} (ds : List PyData) (r : PyData) (h : okX (runX n N g ds) = some r) : ds.length = n := runX_len ds _ (okX_eq h)
section
variable {P : Program} {w : World} {K : PySem.W.Frag} {mg : Str → Option Value} {base : Heap} {x qual : Str} {st : Stmt} {f : Addr} {fd : FuncData} {N ps : List Str} {k : Nat} {g : DEnv → Option DFlow} {C : Str → Addr}
/-- what a body's derivation is asked for -/
abbrev BodyX (C : Str → Addr) (P : Program) (w : World) (K : PySem.W.Frag) (mg : Str → Option Value) (base : Heap) (N : List Str) (qual : Str) (st : Stmt) (f : Addr) (cv : Value) (k : Nat) (g : DEnv → Option DFlow) : Prop :=
  ∀ (cdv : Value) (A : Around) (outer : List Env) (s : Shared) (H : Hp) (E : XK) (F : Fm), cdv = cv → Takes (cxOf (L2.CX P w) P w K mg base N qual (defScope st) f cdv A outer s H E) (wx C F.W) →
    PassesOwn (model P w) (cxOf (L2.CX P w) P w K mg base N qual (defScope st) f cdv A outer s H E).A (cxOf (L2.CX P w) P w K mg base N qual (defScope st) f cdv A outer s H E).env (cxOf (L2.CX P w) P w K mg base N qual (defScope st) f cdv A outer s H E).xe →
    GdOk (A.deeper (envOfC qual (defScope st) s.heap.objs.size f cdv)) → Room k (A.deeper (envOfC qual (defScope st) s.heap.objs.size f cdv)) →
    PDSs (cxOf (L2.CX P w) P w K mg base N qual (defScope st) f cdv A outer s H E) F (defBody st) g
theorem pure_startW {Z H : Hp} {vs : List V} {ds : List PyData} {W : Str → Option Addr → St → Hp → Prop} (sz : Same Z H) (tb : TB H) (hd : DDs K Z vs ds) (hl : vs.length ≤ N.length) : Rel K ⟨Z, H, fun _ => False, W⟩ Z H (start N vs) (startE N.length ds) := by
  have r := pure_start (K := K) (N := N) sz tb hd hl
  exact ⟨r.z0, r.zh, r.gh, r.nw, r.pp, r.len, fun i dv e => by have := r.sl i dv e; cases dv <;> exact this, r.inj, r.tb⟩
theorem fn_X (D : Fun K x qual st f fd) (S : FnScope N ps (defScope st)) {n m : Nat} (hn : ps.length = n) (hN' : N.length = m) (hb : BodyX C P w K mg base N qual st f fd.code k g) : FnX P w K mg base (k + 1) f fd ps (spX K C n (runX n m g)) := by
  subst hn hN'
  refine fnx_of D S (fun vs H Q E h => h.1) fun cdv A outer s H vs Q E hcv hg hr h => ?_
  obtain ⟨hl, Z, ds, r, sz, tb, hd, e, q⟩ := h
  have hN : ps.length ≤ N.length := by
    have := congrArg List.length S.pre
    rw [List.length_take] at this
    omega
  refine ⟨_, hb cdv A outer s H E ⟨Z, H, fun _ => False, fun c d _ H' => E (.ref (C c)) d H'⟩ hcv ?_ (passes_of rfl) hg hr, Z, startE N.length ds, ?_⟩
  · refine (takes_of (E := E) rfl rfl rfl rfl).imp fun cls d σ H' h => ?_
    obtain ⟨c, rfl, h⟩ := h
    exact h
  have r0 := pure_startW (K := K) (N := N) (W := fun c d _ H' => E (.ref (C c)) d H') sz tb hd (by omega)
  have fin : ∀ {Z' H' : Hp} {σ' : St} {e' : DEnv}, Rel K ⟨Z, H, fun _ => False, fun c d _ H' => E (.ref (C c)) d H'⟩ Z' H' σ' e' → Grow Z H Z' H' := fun {Z' H' σ' e'} r' => ⟨r'.z0, r'.zh, r'.gh, fun _ => r'.tb, fun q hq => (r'.nw q hq).imp id (·.1)⟩
  unfold runX at e
  split at e
  case isFalse => cases e
  generalize hh : g (startE N.length ds) = o at e
  match o, e with
  | some (.rt d e'), e =>
    cases e
    exact ⟨_, r0, rfl, fun v σ' Z' H' r' s' dd => q v Z' H' (fin r') dd⟩
  | some (.nx e'), e =>
    cases e
    exact ⟨_, r0, rfl, fun σ' Z' H' r' s' => q .non Z' H' (fin r') .non⟩
  | some (.ex c a d e'), e =>
    cases e
    exact ⟨_, r0, rfl, fun v p σ' Z' H' r' s' hz hg' hp' hx dd => q v p Z' H' (fin r') hg' hz hx dd⟩
end

/-! ### try .. except X: .. -/
theorem Rel.wish {K : PySem.W.Frag} {F : Fm} {Z H : Hp} {σ : St} {env : DEnv} {W : Str → Option Addr → St → Hp → Prop} (r : Rel K F Z H σ env) : Rel K { F with W := W } Z H σ env :=
  ⟨r.z0, r.zh, r.gh, r.nw, r.pp, r.len, fun i dv e => by have := r.sl i dv e; cases dv <;> exact this, r.inj, r.tb⟩
theorem Rel.unwish {K : PySem.W.Frag} {F : Fm} {Z H : Hp} {σ : St} {env : DEnv} {W : Str → Option Addr → St → Hp → Prop} (r : Rel K { F with W := W } Z H σ env) : Rel K F Z H σ env :=
  ⟨r.z0, r.zh, r.gh, r.nw, r.pp, r.len, fun i dv e => by have := r.sl i dv e; cases dv <;> exact this, r.inj, r.tb⟩
def sTry (mt : Str → Option Bool) (gb gh : DEnv → Option DFlow) (env : DEnv) : Option DFlow := (gb env).bind fun fl => match fl with
  | .ex c a d e => (mt c).bind fun b => if b then gh e else some (.ex c a d e)
  | fl => some fl
theorem ds_try {X : Cx} {F : Fm} {C : Str → Addr} {x : Str} {cv : Value} {body suite : List Stmt} {b₀ : Stmt} {np pos pos' : Pos} {mt : Str → Option Bool} {gb gh : DEnv → Option DFlow} (hmt : ∀ c b, mt c = some b → PySem.W.exmOne X.K (.ref (C c)) cv = some b)
    (hs : X.stack = X.env :: X.outer) (hf : X.env.frame = some X.env.locals) (hc : Names X x cv) (tk : Takes X (wx C F.W))
    (hb : ∀ (F' : Fm) (pn : List (Addr × Obj)) (xe : Value → Shared → Prop), Takes (X.tr pn xe) (wx C F'.W) → PassesOwn (model X.prog X.w) X.A X.env xe → PDSs (X.tr pn xe) F' body gb)
    (hsu : ∀ (a : Addr) (oe : Obj) (cls : Value) (d : Option Addr) (pn : List (Addr × Obj)), Zc cls d oe → (∃ vs, oe.data = .fields vs) → PDSs (X.suite a ((a, oe) :: pn)) F (b₀ :: suite) gh) :
    PDS X F (.Try body [.ExceptHandler (some (.Name x np)) none (b₀ :: suite) pos'] [] [] pos) (sTry mt gb gh) := by
  refine ps_imp (ps_try_only (tb := fun W => tDS X.K { F with W := fun c d σ H => W (.ref (C c)) d σ H } gb) (ts := fun _ _ _ => tDS X.K F gh) hs hf hc tk (fun W pn xe tk' hp => hb _ pn xe (tk'.imp fun cls d σ H h => ?_) hp) fun a oe cls d pn hz hv => hsu a oe cls d pn hz hv) fun D σ H h => ?_
  · obtain ⟨c, rfl, h⟩ := h
    exact h
  · obtain ⟨Z, env, fl, r, e, q⟩ := h
    obtain ⟨f1, h1, h⟩ := bnd e
    refine ⟨Z, env, f1, r.wish, h1, ?_⟩
    cases f1 with
    | nx e1 => cases h; exact fun σ' Z' H' r' s' => q σ' Z' H' r'.unwish s'
    | rt d e1 => cases h; exact fun v σ' Z' H' r' s' dd => q v σ' Z' H' r'.unwish s' dd
    | rn ds e1 => cases h; exact fun p xs σ' Z' H' r' s' a1 a2 a3 a4 dd => q p xs σ' Z' H' r'.unwish s' a1 a2 a3 a4 dd
    | bk e1 => cases h; exact fun σ' Z' H' r' s' => q σ' Z' H' r'.unwish s'
    | ct e1 => cases h; exact fun σ' Z' H' r' s' => q σ' Z' H' r'.unwish s'
    | ex c a d e1 =>
      obtain ⟨b, h2, h⟩ := bnd h
      refine fun v p σ' Z' H' r' s' a1 a2 a3 a4 dd => ⟨b, hmt c b h2, fun hbt a0 _ => ?_, fun hbf => ?_⟩
      · rw [hbt] at h
        exact ⟨Z', e1, fl, r'.unwish, h, q.mono s'⟩
      · rw [hbf] at h
        cases h
        exact ⟨c, rfl, q v p σ' Z' H' r'.unwish s' a1 a2 a3 a4 dd⟩
theorem takes_W0 {X : Cx} {C : Str → Addr} {F : Fm} (h : F.W = W0) : Takes X (wx C F.W) := takes0.imp fun cls d σ H z => by
  obtain ⟨c, _, z⟩ := z
  rw [h] at z
  exact z

/-! ### raise X(e), X an own class over ValueError that keeps its one argument -/
/-- what such an __init__ does -/
def spI (C : Addr) (an : Str) : Sp := fun vs H Q _ => ∃ a y, vs = [.ref a, y] ∧ H a = some (exo a C none) ∧ ∀ dx, H dx = none → dx ≠ a → Q .non (upd (upd H dx (exd dx [(an, y)])) a (exo a C (some dx)))
theorem init_ok {P : Program} {w : World} {K : PySem.W.Frag} {mg : Str → Option Value} {base : Heap} {qual : Str} {st : Stmt} {fI C : Addr} {fd : FuncData} {an : Str} {p1 p2 p3 p4 : Pos} (D : Fun K "__init__" qual st fI fd) (S : FnScope ["self", an] ["self", an] (defScope st)) (T : OexC K C) (hno : PySem.W.findIn K (.ref C) an = some none)
    (hbd : defBody st = [.Assign [.Attribute (.Name "self" p1) an p2] (.Name an p3) p4]) (hv1 : Vis (defScope st) "self") (hv2 : Vis (defScope st) an) (hd : (an == ("__debug__" : Str)) = false) (hcd : (an == ("__classdict__" : Str)) = false) :
    FnOk P w K mg base CX0 1 fI fd ["self", an] (spI C an) := by
  refine D.ok S (fun vs H Q E h => by obtain ⟨a, y, rfl, _⟩ := h; rfl) fun cdv A outer s H vs Q E hr h => ?_
  obtain ⟨a, y, rfl, ha, q⟩ := h
  rw [hbd]
  refine ⟨_, pss_one (ps_ost (pe_var (i := 0) rfl hv1) (pe_var (i := 1) rfl hv2 hd hcd)), ?_⟩
  exact ⟨y, rfl, .ref a, rfl, a, C, rfl, T, hno, .inl ⟨ha, fun dx h1 h2 => q dx h1 h2⟩⟩
def sRaise (c an : Str) (f : DEnv → Option (PyData × DEnv)) (env : DEnv) : Option DFlow := (f env).map fun x => .ex c an x.1 x.2
theorem upd_back {H : Hp} {a dx : Addr} {o1 o2 o3 : HO} {x : HO} (ha : H a = none) (hne : dx ≠ a) : upd (del (upd (upd (upd H a o1) dx o2) a o3) a) dx x = upd H dx x := by
  funext b
  by_cases h1 : b = dx
  · subst h1; rw [upd_same, upd_same]
  · rw [upd_ne h1, upd_ne h1]
    by_cases h2 : b = a
    · subst h2; rw [del_same, ha]
    · rw [del_ne h2, upd_ne h2, upd_ne h1, upd_ne h2]
theorem ds_raise {X : Cx} {F : Fm} {C : Str → Addr} {cn an : Str} {fI : Addr} {fd : FuncData} {p pos pos' : Pos} {e : Expr} {f : DEnv → Option (PyData × DEnv)} (hc : X.calm = true) (tk : Takes X (wx C F.W)) (T : OexC X.K (C cn)) (iC : PySem.W.findIn X.K (.ref (C cn)) "__init__" = some (some (.ref fI))) (tI : PySem.W.typeIn X.K (.ref fI) = some (.type "function"))
    (F1 : FnOk X.prog X.w X.K X.mg X.base CX0 1 fI fd ["self", an] (spI (C cn) an)) (hr : Room 2 X.A) (hb : Binds X.K fd ["self", an] []) (hm : X.mg cn = some (.ref (C cn))) (ha : PD X F e f) (hg : Gl X cn := by rfl)
    (hdb : (cn == ("__debug__" : Str)) = false := by decide) (he : starEach [e] X.env = (false, eval e X.env) :: starEach [] X.env := by rfl) (hpl : (backTo pos (starEach [] X.env)).any (·.1) = false := by rfl) :
    PDS X F (.Raise (some (.Call (.Name cn p) [e] [] pos)) none pos') (sRaise cn an f) :=
  ps_imp (ps_raise hc tk (pmk_oex T iC tI F1 hr hb .nil (fun _ _ _ _ _ _ _ z => z.elim) hg hm (pa_cons ha pa_nil he) hdb he hpl)) fun D σ H h => by
    obtain ⟨Z, env, fl, r, e, q⟩ := h
    obtain ⟨⟨d, e1⟩, h1, h⟩ := mpd e
    subst h
    refine ⟨Z, env, d, e1, r, h1, fun v Z1 H1 r1 s1 dd => ⟨by show 1 ≤ 1000; decide, fun a na => ⟨a, v, rfl, upd_same, fun dx hdx hne => ⟨rfl, dx, [(an, v)], upd_same, ?_, ?_, cn, rfl, ?_⟩⟩⟩⟩
    · rw [upd_ne hne, upd_same]
    · rw [upd_ne hne] at hdx; exact hdx
    · rw [upd_ne hne] at hdx
      rw [upd_back na hne]
      have hS : Same H1 (upd H1 dx (.xd [(an, v)])) := .of (same_new hdx _)
      have gr : Grow Z1 H1 Z1 (upd H1 dx (.xd [(an, v)])) := ⟨Same.refl _, r1.zh.trans hS, hS, fun t => t.ext (same_new hdx _), fun _ z => .inl z⟩
      exact q v dx σ Z1 _ (r1.grow gr) s1.z (r1.zh.free hdx) (r1.gh.free hdx) (fun z => (r1.pp dx z).1 hdx) upd_same dd

/-! ### {}, is, tuple * n, int(b) -/
section
variable {X : Cx} {F : Fm} {pos : Pos}
theorem pd_dict0 : PD X F (.Dict [] [] pos) (fC (.dict [])) := pe_imp pe_dnewK fun σ H Q h => by
  obtain ⟨Z, env, d, env', r, e, q⟩ := h
  cases e
  refine fun p hp => ?_
  have gr := grow_new r.zh hp (.dK [])
  exact q _ _ _ (r.grow gr) gr.stp (.dct upd_same .nil)
theorem dds_app2 {K : PySem.W.Frag} {Z : Hp} : ∀ {vs ws : List V} {ds es : List PyData}, DDs K Z vs ds → DDs K Z ws es → DDs K Z (vs ++ ws) (ds ++ es)
  | _, _, [], _, h, h2 => by cases h; exact h2
  | _, _, _ :: _, _, h, h2 => by
    cases h with
    | cons a b => exact .cons a (dds_app2 b h2)
theorem dds_rep {K : PySem.W.Frag} {Z : Hp} {vs : List V} {ds : List PyData} (h : DDs K Z vs ds) : ∀ n : Nat, DDs K Z (List.replicate n vs).flatten (List.replicate n ds).flatten
  | 0 => .nil
  | n + 1 => by
    rw [List.replicate_succ, List.replicate_succ, List.flatten_cons, List.flatten_cons]
    exact dds_app2 h (dds_rep h n)
def intOfD : List PyData → Option PyData
  | [.int i] => some (.int i)
  | [.bool b] => some (.int (if b then 1 else 0))
  | _ => none
theorem cd_intOf : CallD X (.type "int") intOfD := by
  intro pins s σ H xs us Q I r h
  obtain ⟨Z, ds, d, sz, hd, e, q⟩ := h
  match ds, hd, e with
  | [.int i], hd, e =>
    cases e
    obtain ⟨v, rfl, h1⟩ := dds1 hd
    cases h1.int_inv
    exact call_int1 pins s σ H _ us Q I r (.inl ⟨i, rfl, q _ Z H (Grow.refl sz) (.int _)⟩)
  | [.bool b], hd, e =>
    cases e
    obtain ⟨v, rfl, h1⟩ := dds1 hd
    cases h1
    exact call_int1 pins s σ H _ us Q I r (.inr ⟨b, rfl, q _ Z H (Grow.refl sz) (.int _)⟩)
end
/-! ### classes by name -/
def clsOf {α : Type} (l : List (Str × α)) (d : α) (c : Str) : α := match l with
  | [] => d
  | (n, a) :: l => if c = n then a else clsOf l d c
omit [Lab] in
theorem oex_mk {K : PySem.W.Frag} {C : Addr} {nm q N bs bm sn sub ab col dd k0 k1 k2 k3 k5} (l : K.lookup C = some (excClassObj nm q C N bs bm true sn sub ab col dd k0 k1 k2 k3 k5 "ValueError.__new__")) (r : PySem.HandSPX.refsVE bm = true)
    (sa : PySem.W.findIn K (.ref C) "__setattr__" = some (some (.builtin "object.__setattr__"))) (ex : PySem.W.subIn K (.ref C) (.type "BaseException") = some true) (ty : PySem.W.typeIn K (.ref C) = some (.type "type")) (k : PySem.W.keepIn K (.ref C) = true) : OexC K C :=
  ⟨⟨nm, q, N, bs, bm, sn, sub, ab, col, dd, k0, k1, k2, k3, k5, l, r⟩, sa, ex, ty, k⟩
end DL
end L2


set_option Elab.async false
set_option maxRecDepth 100000
set_option maxHeartbeats 4000000
set_option autoImplicit false
namespace L2
namespace DL
open PySem PySem.Spec PyProof.Rows
variable [Lab]
/-! ### comparisons whose left side is a name: its list as it stands -/
section
variable {X : Cx} {F : Fm} {a b c e : Expr} {pos p : Pos} {f g k : DEnv → Option (PyData × DEnv)}
def fCmpL (o : PyData → PyData → Option PyData) (i : Nat) (g : DEnv → Option (PyData × DEnv)) (env : DEnv) : Option (PyData × DEnv) := (rdB i env).bind fun _ => (g env).bind fun y => (rdB i y.2).bind fun x => (o x y.1).map fun d => (d, y.2)
theorem cmpL_read {K : PySem.W.Frag} {o : PyData → PyData → Option PyData} {i : Nat} (hs : ∀ a b d, o a b = some d → scalD d = true) {σ : St} {H : Hp} {Q : VK} (h : tD K F (fCmpL o i g) σ H Q) : tOp (r2D K o) (tVar i) (tD K F g) σ H Q := by
  obtain ⟨Z, env, d, env', r, e, q⟩ := h
  obtain ⟨x0, h0, h⟩ := bnd e
  obtain ⟨⟨y, e1⟩, h1, h⟩ := bnd h
  obtain ⟨x, h2, h⟩ := bnd h
  obtain ⟨d', h3, h⟩ := mpd h
  cases h
  obtain ⟨v, ev, _⟩ := r.rdB h0
  refine ⟨v, ev, Z, env, y, e1, r, h1, fun v2 Z1 H1 r1 s1 d2 => ?_⟩
  obtain ⟨v', ev', dv⟩ := r1.rdB h2
  rw [ev] at ev'
  cases ev'
  refine ⟨H1, x, y, d, Same.refl H1, dv, DDm d2 r1.zh, h3, fun v' Z' H' gr dd => ?_⟩
  have gr' : Grow Z1 H1 Z1 H' := ⟨Same.refl _, r1.zh.trans gr.h, gr.h, gr.t, fun _ z => .inl z⟩
  exact q v' Z1 H' (r1.grow gr') (s1.trans gr'.stp) (dd.scal (hs _ _ _ h3))
theorem pdt_cmpL {op : CmpOp} {o : PyData → PyData → Option PyData} (ho : OpD X (compareOp op) o) (hs : ∀ a b d, o a b = some d → scalD d = true) (hb : IsB o) (i : Nat) (hc : PD X F b g) {x : Str} (hm : behindInMarks op b = false := by first | exact nomark _ | rfl)
    (hN : X.N[i]? = some x := by rfl) (hv : Vis X.env.scope x := by first | exact Or.inl rfl | exact Or.inr (Or.inl rfl) | exact Or.inr (Or.inr rfl)) (hd : (x == ("__debug__" : Str)) = false := by decide)
    (hcd : (x == ("__classdict__" : Str)) = false := by decide) : PDT X F (.Compare (.Name x p) [op] [b] pos) (fTst (fCmpL o i g)) :=
  pt_imp (pt_cmpR ho (pe_var hN hv hd hcd) hc hm) fun _ _ _ h => tst_read (fun env d e h => by
    obtain ⟨x, _, h⟩ := bnd h
    obtain ⟨y, _, h⟩ := bnd h
    obtain ⟨y, _, h⟩ := bnd h
    obtain ⟨z, h1, h⟩ := mpd h
    cases h
    exact hb _ _ _ h1) (fun _ _ _ h => cmpL_read hs h) h
/-! ### a tuple beside () -/
def eqTE : PyData → PyData → Option PyData
  | .tuple a, .tuple [] => some (.bool a.isEmpty)
  | a, b => eqD a b
theorem od_eqTE {k : Nat} (hr : Room k X.A) : OpD X (compareOp .Eq) eqTE := by
  intro pins s σ H x y v u Q I rx ry h
  obtain ⟨Z, a, b, d, sz, ha, hb, e, q⟩ := h
  unfold eqTE at e
  split at e
  · rename_i as
    cases e
    cases ha with
    | @tup p xs _ hx dx =>
      cases hb with
      | @tup p' ys _ hy dy =>
        cases dy
        obtain ⟨its, rv, t1, _⟩ := I.tuple (same_sqT sz hx)
        obtain ⟨its', rv', t2, _⟩ := I.tuple (same_sqT sz hy)
        cases rv'
        cases rx
        cases ry
        have hl := dds_len dx
        have hl2 := rv.length
        refine SeqAt.RcAt.tuples (e := fun _ => true) t1 t2 (by have := hr.units; omega) (fun j _ h2 => absurd h2 (by simp)) _ _ _ _ ?_
        refine ⟨.bl as.isEmpty, H, I, ?_, q _ Z H (Grow.refl sz) (.bl _)⟩
        show Value.bool _ = Value.bool _
        congr 1
        cases as with
        | nil =>
          have : its = [] := by
            cases its with
            | nil => rfl
            | cons _ _ => rw [hl2] at hl; exact nomatch hl
          subst this
          rfl
        | cons _ _ =>
          cases its with
          | nil => rw [hl2] at hl; exact nomatch hl
          | cons _ _ => simp
  · exact od_eq hr pins s σ H x y v u Q I rx ry ⟨Z, a, b, d, sz, ha, hb, e, q⟩
theorem eqTE_b : IsB eqTE := fun a b d h => by
  unfold eqTE at h
  split at h
  · cases h; exact ⟨_, rfl⟩
  · exact eqD_b _ _ _ h
/-! ### list + list, new -/
def nAdd (f g : DEnv → Option (PyData × DEnv)) (env : DEnv) : Option (List PyData × DEnv) := (f env).bind fun x => (g x.2).bind fun y => match x.1, y.1 with
  | .list a, .list b => if a.length + b.length ≤ lim then some (a ++ b, y.2) else none
  | _, _ => none
def rAddL (K : PySem.W.Frag) : R2 := fun x y H Q => ∃ Z a b, Same Z H ∧ DD K Z x (.list a) ∧ DD K Z y (.list b) ∧ a.length + b.length ≤ lim ∧ ∀ p xs, H p = none → DDs K Z xs (a ++ b) → Q (.ref p) (upd H p (.lst xs))
theorem op_addL : OpR X (binaryOp .Add) (rAddL X.K) := by
  intro pins s σ H x y v u Q I rx ry h
  obtain ⟨Z, i, j, sz, ha, hb, hle, q⟩ := h
  have hlim : lim = 100000 := rfl
  have hsl := sizeLine_eq
  cases ha with
  | @lst p xs _ hx dx =>
    cases hb with
    | @lst p' ys _ hy dy =>
      have l1 := dds_len dx
      have l2 := dds_len dy
      cases rx
      cases ry
      obtain ⟨z, its, n, r, e1⟩ := (same_ls sz hx).isL I
      obtain ⟨z2, its2, n2, r2, e2⟩ := (same_ls sz hy).isL I
      have k1 := r.length
      have k2 := r2.length
      refine PySem.P.add_list e1 e2 ?_ (by rw [List.size_toArray, List.size_toArray]; omega)
      have ea : its.toArray ++ its2.toArray = (its ++ its2).toArray := by simp
      rw [ea]
      exact ⟨.ref _, _, I.lnew (t' := s.toks) (r.append r2) (by rw [List.length_append]; omega), rfl, q _ _ I.fresh (dds_app dx dy)⟩
theorem pn_addL (ha : PD X F a f) (hb : PD X F b g) : PN X F (.BinOp a .Add b pos) (nAdd f g) := pe_imp (pe_op op_addL ha hb) fun σ H Q h => by
  obtain ⟨Z, env, d, env', r, e, q⟩ := h
  obtain ⟨⟨x, e1⟩, h1, h⟩ := bnd e
  obtain ⟨⟨y, e2⟩, h2, h⟩ := bnd h
  refine ⟨Z, env, x, e1, r, h1, fun v1 Z1 H1 r1 s1 d1 => ⟨Z1, e1, y, e2, r1, h2, fun v2 Z2 H2 r2 s2 d2 => ?_⟩⟩
  match x, y, d1, d2, h with
  | .list a, .list b, d1, d2, h =>
    change (if a.length + b.length ≤ lim then some (a ++ b, e2) else none) = some (d, env') at h
    split at h
    case isFalse => cases h
    rename_i hl
    cases h
    refine ⟨Z2, a, b, r2.zh, DDm d1 s2.z, d2, hl, fun p xs hp hd => ?_⟩
    have gr := grow_own r2.zh hp (.lst xs)
    exact q p xs _ _ (r2.grow gr) ((s1.trans s2).trans gr.stp) ((s1.trans s2).new hp) (r2.zh.free hp) upd_same hd
end
end DL
end L2


set_option Elab.async false
set_option maxRecDepth 100000
set_option maxHeartbeats 4000000
set_option autoImplicit false
namespace L2
namespace DL
open PySem PySem.Spec PyProof.Rows
variable [Lab]
theorem ev_seqR {f g : DEnv → Option DFlow} {env e1 : DEnv} {d : PyData} (h : f env = some (.rt d e1)) : sSeq f g env = some (.rt d e1) := by
  unfold sSeq; rw [h]; rfl
theorem ev_seqX {f g : DEnv → Option DFlow} {env e1 : DEnv} {c a : Str} {d : PyData} (h : f env = some (.ex c a d e1)) : sSeq f g env = some (.ex c a d e1) := by
  unfold sSeq; rw [h]; rfl
theorem ev_or1 {f g : DEnv → Option (Bool × DEnv)} {env e1 : DEnv} (h : f env = some (true, e1)) : fOr f g env = some (true, e1) := by
  unfold fOr; rw [h]; rfl
theorem ev_or0 {f g : DEnv → Option (Bool × DEnv)} {env e1 e2 : DEnv} {k : Bool} (h : f env = some (false, e1)) (h2 : g e1 = some (k, e2)) : fOr f g env = some (k, e2) := by
  unfold fOr; rw [h]; exact h2
theorem ev_and0 {f g : DEnv → Option (Bool × DEnv)} {env e1 : DEnv} (h : f env = some (false, e1)) : fAnd f g env = some (false, e1) := by
  unfold fAnd; rw [h]; rfl
theorem ev_and1 {f g : DEnv → Option (Bool × DEnv)} {env e1 e2 : DEnv} {k : Bool} (h : f env = some (true, e1)) (h2 : g e1 = some (k, e2)) : fAnd f g env = some (k, e2) := by
  unfold fAnd; rw [h]; exact h2
theorem ev_not {f : DEnv → Option (Bool × DEnv)} {env e1 : DEnv} {k : Bool} (h : f env = some (k, e1)) : fNot f env = some (!k, e1) := by
  unfold fNot; rw [h]; rfl
theorem ev_cr {j : Nat} {m : List PyData → List PyData → Option (PyData × List PyData)} {fa : DEnv → Option (List PyData × DEnv)} {env e1 : DEnv} {es0 es es' ds : List PyData} {d : PyData} (h0 : rdO j env = some es0) (h : fa env = some (ds, e1)) (h1 : rdO j e1 = some es) (h2 : m es ds = some (d, es')) : fCR j m fa env = some (d, wrO j es' e1) := by
  unfold fCR; rw [h0]; show (fa env).bind _ = _; rw [h]; show (rdO j e1).bind _ = _; rw [h1]; show (m es ds).map _ = _; rw [h2]; rfl
theorem ev_runF {n N : Nat} {g : DEnv → Option DFlow} {ds : List PyData} {d : PyData} {env : DEnv} (hl : ds.length = n) (h : g (startE N ds) = some (.rt d env)) : runF n N g ds = some d := by
  unfold runF; rw [if_pos hl, h]
theorem ev_runX {n N : Nat} {g : DEnv → Option DFlow} {ds : List PyData} {d : PyData} {env : DEnv} (hl : ds.length = n) (h : g (startE N ds) = some (.rt d env)) : runX n N g ds = some (.ok d) := by
  unfold runX; rw [if_pos hl, h]
theorem ev_runR {n N : Nat} {g : DEnv → Option DFlow} {es es' ds : List PyData} {d : PyData} {env : DEnv} (hl : ds.length + 1 = n) (h : g (some (.rf es) :: startE (N - 1) ds) = some (.rt d (some (.rf es') :: env))) : runR n N g es ds = some (d, es') := by
  unfold runR; rw [if_pos hl, h]; rfl
theorem ev_setE {i : Nat} {f : DEnv → Option (PyData × DEnv)} {env e1 e2 : DEnv} {d : PyData} (h : f env = some (d, e1)) (he : e1.set i (some (.fr d)) = e2) : sSet i f env = some (.nx e2) := by
  unfold sSet; rw [h, ← he]; rfl
theorem ev_crE {j : Nat} {m : List PyData → List PyData → Option (PyData × List PyData)} {fa : DEnv → Option (List PyData × DEnv)} {env e1 e2 : DEnv} {es0 es es' ds : List PyData} {d : PyData} (h0 : rdO j env = some es0) (h : fa env = some (ds, e1)) (h1 : rdO j e1 = some es) (h2 : m es ds = some (d, es')) (he : wrO j es' e1 = e2) : fCR j m fa env = some (d, e2) := by
  rw [← he]; exact ev_cr h0 h h1 h2
theorem bools_map {α : Type} (p : α → Bool) : ∀ ds : List α, boolsD (ds.map fun d => PyData.bool (p d)) = some (ds.map p)
  | [] => rfl
  | d :: ds => by
    show (boolsD (ds.map fun d => PyData.bool (p d))).map (p d :: ·) = _
    rw [bools_map p ds]
    rfl
theorem all_map {α : Type} (p : α → Bool) (ds : List α) : allD [.list (ds.map fun d => PyData.bool (p d))] = some (.bool (ds.all p)) := by
  show (boolsD (ds.map fun d => PyData.bool (p d))).map _ = _
  rw [bools_map]
  show some (PyData.bool ((ds.map p).all id)) = _
  rw [List.all_map]
  rfl
theorem rangeD_succ (lo : Int) (n : Nat) : rangeD lo (n + 1) = .int lo :: rangeD (lo + 1) n := by
  unfold rangeD
  rw [List.range_succ_eq_map, List.map_cons, List.map_map]
  congr 1
  · simp
  · refine List.map_congr_left fun i _ => ?_
    show PyData.int (lo + ((i + 1 : Nat) : Int)) = PyData.int (lo + 1 + (i : Int))
    congr 1
    omega
/-! ### data that may be laid -/
structure Ly (k : Nat) (d : PyData) : Prop where
  lay : d.canLay0 = true
  nd : d.hasDict = false
  dp : d.depth ≤ k
theorem Ly.mono {k k' : Nat} {d : PyData} (h : Ly k d) (hk : k ≤ k') : Ly k' d := ⟨h.lay, h.nd, Nat.le_trans h.dp hk⟩
theorem ly_all {k : Nat} : ∀ (ds : List PyData), (∀ d ∈ ds, Ly k d) → PyData.canLayAll0 ds = true ∧ PyData.hasDictAll ds = false ∧ PyData.depthAll ds ≤ k
  | [], _ => ⟨rfl, rfl, Nat.zero_le _⟩
  | d :: ds, h => by
    obtain ⟨a, b, c⟩ := ly_all ds fun x hx => h x (List.mem_cons_of_mem _ hx)
    have hd := h d List.mem_cons_self
    refine ⟨by simp [PyData.canLayAll0, hd.lay, a], by simp [PyData.hasDictAll, hd.nd, b], ?_⟩
    simp only [PyData.depthAll]
    exact Nat.max_le.mpr ⟨hd.dp, c⟩
theorem Ly.tuple {k : Nat} {ds : List PyData} (h : ∀ d ∈ ds, Ly k d) : Ly (k + 1) (.tuple ds) := by
  obtain ⟨a, b, c⟩ := ly_all ds h
  exact ⟨a, b, Nat.succ_le_succ c⟩
theorem Ly.list {k : Nat} {ds : List PyData} (h : ∀ d ∈ ds, Ly k d) : Ly (k + 1) (.list ds) := by
  obtain ⟨a, b, c⟩ := ly_all ds h
  exact ⟨a, b, Nat.succ_le_succ c⟩
theorem ly_int (i : Int) : Ly 0 (.int i) := ⟨rfl, rfl, Nat.le_refl _⟩
theorem Ly.sh {k : Nat} {d : PyData} (h : Ly k d) (hk : k ≤ 64) : shD d = true := by
  unfold shD SeqAt.shaped
  rw [h.lay, h.nd, decide_eq_true (Nat.le_trans h.dp hk)]
  rfl
theorem ly_ints (is : List Int) : ∀ d ∈ is.map PyData.int, Ly 0 d := fun d hd => by
  obtain ⟨i, _, rfl⟩ := List.mem_map.mp hd
  exact ly_int i
end DL
end L2


set_option Elab.async false
set_option maxRecDepth 100000
set_option maxHeartbeats 4000000
set_option autoImplicit false
namespace L2
namespace DL
open PySem PySem.Spec PyProof.Rows
variable [Lab]
section
variable {X : Cx} {pins : List (Addr × Obj)} {σ : St} {H : Hp} {s : Shared}
omit [Lab] in
theorem newFr (I : Inv X pins σ H s) {f : Addr} (hf : s.heap.objs.size ≤ f) : f ∉ frs X.stack := fun z => by
  rcases List.mem_cons.mp (I.stkSub _ z) with e | e
  · have h1 : X.env.locals < s.heap.objs.size := I.lt
    exact Nat.lt_irrefl _ (Nat.lt_of_lt_of_le (by rw [e]; exact h1) hf)
  · exact I.nofs hf e
end
/-! ### a lambda of one parameter, called by a built-in -/
/-- its names: the parameter, captured ones, globals -/
structure Lam1 (sc scope : Scope) (y : Str) : Prop where
  kind : scope.kind = .function
  co : scope.isCoroutine = false
  gen : scope.isGenerator = false
  loc : ∀ z ∈ scope.names, z.2 = .local → z.1 = y
  own : ∀ z ∈ scope.names, z.2 ≠ .cell
  par : scope.names.lookup y = some .local
  free : ∀ z ∈ scope.names, z.2 = .free → sc.names.lookup z.1 = some .cell ∨ sc.names.lookup z.1 = some .free
omit [Lab] in
theorem Lam1.has {X : Cx} {scope : Scope} {y : Str} (L : Lam1 X.env.scope scope y) (ok : X.Ok) : ∀ z ∈ scope.names, z.2 = .free → ∃ c, X.env.cells.lookup z.1 = some c := fun z hz e => ok.has _ (L.free z hz e)
/-- the context of its body -/
abbrev lam1Cx (X : Cx) (A : Around) (outer : List Env) (s : Shared) (H : Hp) (E : XK) (scope : Scope) (f c' : Addr) (y : Str) : Cx := { LamX.lamCx X A outer s H E scope f c' with N := X.N ++ [y] }
section
variable {X : Cx} {pins : List (Addr × Obj)} {σ : St} {H : Hp} {s : Shared}
end
end DL
end L2


set_option Elab.async false
set_option maxRecDepth 100000
set_option maxHeartbeats 4000000
set_option autoImplicit false
namespace L2
namespace DL
open PySem PySem.Spec PyProof.Rows PySem.Calls
variable [Lab]
/-! ### what a lambda's body sees of the slots -/
def frzO : Option DV → Option DV
  | some (.fr d) => some (.fr d)
  | _ => none
def frzE (env : DEnv) : DEnv := env.map frzO
/-- the key of an item -/
def keyOf (fb : DEnv → Option (PyData × DEnv)) (env : DEnv) (d : PyData) : Option PyData := (fb (frzE env ++ [some (.fr d)])).map (·.1)
/-! ### objects of a built-in's own -/
structure Nu (X : Cx) (pins : List (Addr × Obj)) (a : Addr) : Prop where
  l : a ≠ X.env.locals
  s0 : X.s_0.heap.objs.size ≤ a
  c : ∀ x c, X.env.cells.lookup x = some c → c ≠ a
  p : ∀ q ∈ X.pn ++ pins, q.1 ≠ a
  f : a ∉ frs X.stack
section
variable {X : Cx} {pins : List (Addr × Obj)} {σ : St} {H : Hp} {s : Shared}
omit [Lab] in
theorem Nu.new (I : Inv X pins σ H s) {a : Addr} (h : s.heap.objs.size ≤ a) : Nu X pins a := by
  refine ⟨fun z => ?_, Nat.le_trans I.sz h, fun x c e z => ?_, fun q hq z => ?_, newFr I h⟩
  · have := I.lt
    rw [← z] at this
    exact Nat.lt_irrefl _ (Nat.lt_of_lt_of_le this h)
  · obtain ⟨w, o, ho, _⟩ := I.cell x c e
    rw [z] at ho
    exact Nat.lt_irrefl _ (Nat.lt_of_lt_of_le (Heap.lt_size ho) h)
  · have ho := (I.pin q hq).1
    rw [z] at ho
    exact Nat.lt_irrefl _ (Nat.lt_of_lt_of_le (Heap.lt_size ho) h)
end
end DL
end L2


set_option Elab.async false
set_option maxRecDepth 100000
set_option maxHeartbeats 4000000
set_option autoImplicit false
namespace L2
namespace DL
open PySem PySem.Spec PyProof.Rows PySem.Calls
variable [Lab]
section
variable {X : Cx} {pins : List (Addr × Obj)} {σ : St} {H : Hp} {s : Shared} {F : Fm}
/-- what a key function is asked for -/
structure KeyFn (X : Cx) (F : Fm) (A : Around) (k : Nat) (y : Str) (scope : Scope) (params : Arguments) (body : Expr) (fb : DEnv → Option (PyData × DEnv)) (f c' : Addr) : Prop where
  L : Lam1 X.env.scope scope y
  fr : A.frames = some X.stack
  rm : Room (k + 1) A
  ny : y ∉ X.N
  bind : ∀ (u : Value) (q : Str) (cl : List (Str × Addr)) (pm cv ctv : Value), bindArgs (PySem.W.kla_fn "<lambda>" q params body scope cl pm cv ctv) ⟨[u], []⟩ = pure [(y, u)]
  body : ∀ (s : Shared) (H : Hp), Room k (A.deeper (LamX.lamEnv X scope s.heap.objs.size f c')) → PD (lam1Cx X A X.stack s H (fun _ _ _ => False) scope f c' y) F body fb
structure KeysOk (A : Around) (fb : DEnv → Option (PyData × DEnv)) (env : DEnv) (ds ks : List PyData) : Prop where
  key : ∀ (i : Nat) (d q : PyData), ds[i]? = some d → ks[i]? = some q → keyOf fb env d = some q
  len : ks.length = ds.length
  alike : PySem.W.AllAlike ks
  sortable : PySem.W.Sortable ks
  nd : ∀ d ∈ ks, d.hasDict = false
  dp : ∀ d, d ∈ ks → A.units + d.depth < cLine
end
end DL
end L2


set_option Elab.async false
set_option maxRecDepth 100000
set_option maxHeartbeats 4000000
set_option autoImplicit false
namespace L2
namespace DL
open PySem PySem.Spec PyProof.Rows PySem.Calls
variable [Lab]
section
variable {X : Cx} {pins : List (Addr × Obj)} {σ : St} {H : Hp} {s : Shared} {F : Fm}
end
end DL
end L2


set_option Elab.async false
set_option maxRecDepth 100000
set_option maxHeartbeats 4000000
set_option autoImplicit false
namespace L2
namespace DL
open PySem PySem.Spec PyProof.Rows PySem.Calls
variable [Lab]
section
variable {prog : Program} {w : World} {A : Around} {E : Value → Shared → Prop} {s : Shared}
end
section
variable {X : Cx} {F : Fm} {e : Expr} {f : DEnv → Option (PyData × DEnv)}
end
end DL
end L2


set_option Elab.async false
set_option maxRecDepth 100000
set_option maxHeartbeats 4000000
set_option autoImplicit false
namespace L2
namespace DL
open PySem PySem.Spec PyProof.Rows PySem.Calls
variable [Lab]
/-! ### sorted(t), t a tuple or a list of ints -/
section
variable {X : Cx} {F : Fm} {e : Expr} {f : DEnv → Option (PyData × DEnv)}
end
end DL
end L2


set_option Elab.async false
set_option maxRecDepth 100000
set_option maxHeartbeats 4000000
set_option autoImplicit false
namespace L2
namespace DL
open PySem PySem.Spec PyProof.Rows PySem.Calls
variable [Lab]
section
variable {X : Cx} {F : Fm} {e : Expr} {f : DEnv → Option (PyData × DEnv)}
end
end DL
end L2


set_option Elab.async false
set_option maxRecDepth 100000
set_option maxHeartbeats 4000000
set_option autoImplicit false
namespace L2
namespace DL
open PySem PySem.Spec PyProof.Rows PySem.Calls
variable [Lab]
section
variable {X : Cx} {F : Fm} {e : Expr} {f g : DEnv → Option (PyData × DEnv)} {y : Str} {p pn pos : Pos}
end
end DL
end L2


set_option Elab.async false
set_option maxRecDepth 100000
set_option maxHeartbeats 4000000
set_option autoImplicit false
namespace L2
namespace DL
open PySem PySem.Spec PyProof.Rows
section
variable [Lab]
variable {X : Cx} {F : Fm}
abbrev cDivB (_ j : Int) : Bool := decide (0 < j) && decide (j < 10000000000000000000000000000000000000000)
def divmodB : List PyData → Option PyData
  | [.int i, .int j] => if cDivB i j then some (.tuple [.int (i / j), .int (i % j)]) else none
  | _ => none
theorem cd_divmodB : CallD X (.builtin "divmod") divmodB := by
  intro pins s σ H xs us Q I r h
  obtain ⟨Z, ds, d, sz, hd, e, q⟩ := h
  match ds, hd, e with
  | [.int i, .int j], hd, e =>
    change (if cDivB i j then some (PyData.tuple [.int (i / j), .int (i % j)]) else none) = some d at e
    split at e
    case isFalse => cases e
    rename_i hc
    rw [cDivB, Bool.and_eq_true, decide_eq_true_eq, decide_eq_true_eq] at hc
    cases e
    obtain ⟨v, w, rfl, h1, h2⟩ := dds2 hd
    cases h1.int_inv
    cases h2.int_inv
    have hb : CDivP i j := ⟨hc.1, PyProof.noPylong_of_log2 (by
      refine Nat.lt_of_lt_of_le (PySem.Flt.log2_lt_of (k := 200) (by decide) ?_) (by decide)
      have p : (10000000000000000000000000000000000000000 : Nat) < 2 ^ 200 := by decide +kernel
      have : j.natAbs < 10000000000000000000000000000000000000000 := by omega
      omega)⟩
    exact call_divmodW pins s σ H _ us Q I r ⟨i, j, rfl, hb, fun p hp => q _ _ _ (grow_new sz hp _) (new_tup sz hp (.cons (.int _) (.cons (.int _) .nil)))⟩
/-! ### three at once; bodies that are never reached -/
variable {s : Stmt} {ss : List Stmt} {fa : DEnv → Option (List PyData × DEnv)}
theorem dss_never : PDSs X F ss sNone := pss_imp pss_never fun D σ H h => by
  obtain ⟨Z, env, fl, r, e, q⟩ := h
  cases e
def sPar3 (i j l : Nat) (fa : DEnv → Option (List PyData × DEnv)) (env : DEnv) : Option DFlow := (fa env).bind fun x => match x.1 with
  | [u, v, w] => some (.nx (((x.2.set i (some (.fr u))).set j (some (.fr v))).set l (some (.fr w))))
  | _ => none
theorem ds_par3 (i j l : Nat) (ha : PS X s (tPar3 i j l (tDA X.K F fa))) : PDS X F s (sPar3 i j l fa) := ps_imp ha fun D σ H h => by
  obtain ⟨Z, env, fl, r, e, q⟩ := h
  obtain ⟨⟨d, e1⟩, h1, h⟩ := bnd e
  match d, h, h1 with
  | [u, v, w], h, h1 =>
    cases h
    refine ⟨Z, env, [u, v, w], e1, r, h1, fun vs Z' H' r' s' dd => ?_⟩
    cases dd with
    | cons d1 dr =>
      cases dr with
      | cons d2 dm =>
        cases dm with
        | cons d3 dn =>
          cases dn
          exact ⟨_, _, _, rfl, q _ Z' H' (((r'.store i d1).store j d2).store l d3) s'.z⟩
end
end DL
end L2


set_option Elab.async false
set_option maxRecDepth 100000
set_option maxHeartbeats 4000000
set_option autoImplicit false
namespace L2
namespace DL
open PySem PySem.Spec PyProof.Rows
variable [Lab]
section
variable {X : Cx} {F : Fm} {a b e : Expr} {pos p pn : Pos} {x y : Str} {f g : DEnv → Option (PyData × DEnv)}
/-! ### xs.index(data) -/
def idxE : List PyData → PyData → Option Nat
  | [], _ => none
  | z :: zs, d => if PyData.eqv z d then some 0 else (idxE zs d).map (· + 1)
theorem idxE_is : ∀ {zs : List PyData} {d : PyData} {j : Nat}, idxE zs d = some j → (∃ z, zs[j]? = some z ∧ PyData.eqv z d = true) ∧ ∀ (m : Nat) (z' : PyData), m < j → zs[m]? = some z' → PyData.eqv z' d = false
  | [], _, _, h => by cases h
  | z :: zs, d, j, h => by
    unfold idxE at h
    split at h
    · rename_i c; cases h; exact ⟨⟨z, rfl, c⟩, fun m _ hm => absurd hm (Nat.not_lt_zero _)⟩
    · rename_i c
      obtain ⟨i, h1, rfl⟩ := mpd h
      obtain ⟨⟨w, a1, a2⟩, b⟩ := idxE_is h1
      refine ⟨⟨w, by simpa using a1, a2⟩, fun m z' hm hz => ?_⟩
      cases m with
      | zero => simp at hz; subst hz; simpa using c
      | succ m => exact b m z' (by omega) (by simpa using hz)
def fIdxD (j : Nat) (f : DEnv → Option (PyData × DEnv)) (env : DEnv) : Option (PyData × DEnv) :=
  (rdO j env).bind fun _ => (f env).bind fun x => (rdO j x.2).bind fun es => if shD (.list es) && shD x.1 then (idxE es x.1).map fun i => (.int (i : Nat), x.2) else none
end
end DL
end L2


set_option Elab.async false
set_option maxRecDepth 100000
set_option maxHeartbeats 4000000
set_option autoImplicit false
namespace L2
namespace DL
open PySem PySem.Spec PyProof.Rows
variable [Lab]
/-! ### evaluating, once more -/
theorem ev_tup {fa : DEnv → Option (List PyData × DEnv)} {env e1 : DEnv} {ds : List PyData} (h : fa env = some (ds, e1)) (h2 : ds.length ≤ lim) : fTup fa env = some (.tuple ds, e1) := by
  unfold fTup; rw [h]; exact if_pos h2
theorem ev_ixN {j : Nat} {f : DEnv → Option (PyData × DEnv)} {env e1 : DEnv} {d0 d i z : PyData} (h0 : rdB j env = some d0) (h : f env = some (i, e1)) (h1 : rdB j e1 = some d) (h2 : ixD d i = some z) : fIxN j f env = some (z, e1) := by
  unfold fIxN; rw [h0]; show (f env).bind _ = _; rw [h]; show (rdB j e1).bind _ = _; rw [h1]; show (ixD d i).map _ = _; rw [h2]; rfl
theorem ev_andV {f g : DEnv → Option (PyData × DEnv)} {env e1 : DEnv} {r : Option (PyData × DEnv)} (h : f env = some (.bool true, e1)) (h2 : g e1 = r) : fAndV f g env = r := by
  unfold fAndV; rw [h]; exact h2
theorem ev_andV0 {f g : DEnv → Option (PyData × DEnv)} {env e1 : DEnv} (h : f env = some (.bool false, e1)) : fAndV f g env = some (.bool false, e1) := by
  unfold fAndV; rw [h]; rfl
theorem ev_orV1 {f g : DEnv → Option (PyData × DEnv)} {env e1 : DEnv} (h : f env = some (.bool true, e1)) : fOrV f g env = some (.bool true, e1) := by
  unfold fOrV; rw [h]; rfl
theorem ev_orV0 {f g : DEnv → Option (PyData × DEnv)} {env e1 : DEnv} {r : Option (PyData × DEnv)} (h : f env = some (.bool false, e1)) (h2 : g e1 = r) : fOrV f g env = r := by
  unfold fOrV; rw [h]; exact h2
theorem ev_iArg {o : List PyData → Option (List PyData)} {fa : DEnv → Option (List PyData × DEnv)} {env e1 : DEnv} {ds r : List PyData} (h : fa env = some (ds, e1)) (h2 : o ds = some r) : iArg o fa env = some (r, e1) := by
  unfold iArg; rw [h]; show (o ds).map _ = _; rw [h2]; rfl
theorem ev_oS {f : DEnv → Option (PyData × DEnv)} {env e1 : DEnv} {i : Int} (h : f env = some (.int i, e1)) : oSome f env = some (some i, e1) := by
  unfold oSome; rw [h]; rfl
theorem ev_lenN {j : Nat} {env : DEnv} {d n : PyData} (h : rdB j env = some d) (h2 : lenD [d] = some n) : fLenN j env = some (n, env) := by
  unfold fLenN; rw [h]; show (lenD [d]).map _ = _; rw [h2]; rfl
theorem ev_iff {ft : DEnv → Option (Bool × DEnv)} {f g : DEnv → Option (PyData × DEnv)} {env e1 : DEnv} {k : Bool} {r : Option (PyData × DEnv)} (h : ft env = some (k, e1)) (h2 : (if k then f e1 else g e1) = r) : fIf ft f g env = r := by
  unfold fIf; rw [h]; exact h2
theorem ev_app {j : Nat} {f : DEnv → Option (PyData × DEnv)} {env e1 e2 : DEnv} {es0 es : List PyData} {d : PyData} (h0 : rdO j env = some es0) (h : f env = some (d, e1)) (h1 : rdO j e1 = some es) (hl : es.length < lim) (he : wrO j (es ++ [d]) e1 = e2) : sApp j f env = some (.nx e2) := by
  unfold sApp; rw [h0]; show (f env).bind _ = _; rw [h]; show (rdO j e1).bind _ = _; rw [h1]; show (if es.length < lim then _ else _) = _; rw [if_pos hl, he]
theorem ev_expr {f : DEnv → Option (PyData × DEnv)} {env e1 : DEnv} {d : PyData} (h : f env = some (d, e1)) : sExpr f env = some (.nx e1) := by
  unfold sExpr; rw [h]; rfl
theorem ev_setN {i : Nat} {f : DEnv → Option (List PyData × DEnv)} {env e1 e2 : DEnv} {ds : List PyData} (h : f env = some (ds, e1)) (he : e1.set i (some (.ow ds)) = e2) : sSetN i f env = some (.nx e2) := by
  unfold sSetN; rw [h, ← he]; rfl
theorem ev_par {i j : Nat} {fa : DEnv → Option (List PyData × DEnv)} {env e1 e2 : DEnv} {u v : PyData} (h : fa env = some ([u, v], e1)) (he : (e1.set i (some (.fr u))).set j (some (.fr v)) = e2) : sPar i j fa env = some (.nx e2) := by
  unfold sPar; rw [h, ← he]; rfl
theorem ev_nAdd {f g : DEnv → Option (PyData × DEnv)} {env e1 e2 : DEnv} {a b : List PyData} (h : f env = some (.list a, e1)) (h2 : g e1 = some (.list b, e2)) (hl : a.length + b.length ≤ lim) : nAdd f g env = some (a ++ b, e2) := by
  unfold nAdd; rw [h]; show (g e1).bind _ = _; rw [h2]; exact if_pos hl
/-- a comprehension over images, with a test -/
theorem lc_flt {α : Type} {i : Nat} {ft : DEnv → Option (Bool × DEnv)} {fe : DEnv → Option (PyData × DEnv)} {e q : α → PyData} {p : α → Bool} {env : DEnv} (hw : env.set i none = env) : ∀ xs : List α, (∀ x ∈ xs, ft (env.set i (some (.fr (e x)))) = some (p x, env.set i (some (.fr (e x))))) →
    (∀ x ∈ xs, p x = true → fe (env.set i (some (.fr (e x)))) = some (q x, env.set i (some (.fr (e x))))) → lcD (gSet i) ft fe [i] (xs.map e) env = some ((xs.filter p).map q, env)
  | [], _, _ => rfl
  | x :: xs, h1, h2 => by
    have ih := lc_flt hw xs (fun y hy => h1 y (List.mem_cons_of_mem _ hy)) fun y hy => h2 y (List.mem_cons_of_mem _ hy)
    rw [List.map_cons, lcD]
    show (ft (env.set i (some (.fr (e x))))).bind _ = _
    rw [h1 x List.mem_cons_self]
    show (if p x = true then _ else _) = _
    cases hp : p x with
    | true =>
      rw [if_pos rfl, List.filter_cons_of_pos hp]
      show (fe (env.set i (some (.fr (e x))))).bind _ = _
      rw [h2 x List.mem_cons_self hp]
      show (lcD (gSet i) ft fe [i] (xs.map e) ((env.set i (some (.fr (e x)))).set i none)).map _ = _
      rw [List.set_set, hw, ih]
      rfl
    | false =>
      rw [if_neg (by decide), List.filter_cons_of_neg (by rw [hp]; decide)]
      show lcD (gSet i) ft fe [i] (xs.map e) ((env.set i (some (.fr (e x)))).set i none) = _
      rw [List.set_set, hw, ih]
theorem lc_img {α : Type} {i : Nat} {fe : DEnv → Option (PyData × DEnv)} {e q : α → PyData} {env : DEnv} (hw : env.set i none = env) (xs : List α) (h2 : ∀ x ∈ xs, fe (env.set i (some (.fr (e x)))) = some (q x, env.set i (some (.fr (e x))))) : lcD (gSet i) fYes fe [i] (xs.map e) env = some (xs.map q, env) := by
  have := lc_flt (ft := fYes) (p := fun _ => true) hw xs (fun _ _ => rfl) fun x hx _ => h2 x hx
  rwa [List.filter_eq_self.mpr (fun _ _ => rfl)] at this
theorem ev_lc {fi : DEnv → Option (List PyData × DEnv)} {g : PyData → DEnv → Option DEnv} {ft : DEnv → Option (Bool × DEnv)} {fe : DEnv → Option (PyData × DEnv)} {vs : List Nat} {env e1 e2 e3 : DEnv} {ds rs : List PyData} (h : fi env = some (ds, e1)) (hl : ds.length ≤ lim) (hw : wipeE e1 vs = e2) (h2 : lcD g ft fe vs ds e2 = some (rs, e3)) : nLc fi g ft fe vs env = some (rs, e3) := by
  unfold nLc; rw [h]; show (if ds.length ≤ lim then _ else _) = _; rw [if_pos hl, hw, h2]
/-! ### equal data, where there are no truths and no dicts -/
mutual
def nbD : PyData → Bool
  | .none => true
  | .int _ => true
  | .str _ => true
  | .list ds => nbDs ds
  | .tuple ds => nbDs ds
  | _ => false
def nbDs : List PyData → Bool
  | [] => true
  | d :: ds => nbD d && nbDs ds
end
mutual
theorem eqv_nb : ∀ (x y : PyData), nbD x = true → nbD y = true → PyData.eqv x y = true → x = y
  | .none, y, _, hy, h => by cases y <;> first | rfl | cases h
  | .int i, y, _, hy, h => by
    cases y with
    | int j => rw [PyData.eqv, beq_iff_eq] at h; rw [h]
    | bool _ => cases hy
    | _ => cases h
  | .str i, y, _, hy, h => by
    cases y with
    | str j => rw [PyData.eqv, beq_iff_eq] at h; rw [h]
    | _ => cases h
  | .list xs, y, hx, hy, h => by
    cases y with
    | list ys => rw [PyData.eqv] at h; rw [eqvAll_nb xs ys hx hy h]
    | _ => cases h
  | .tuple xs, y, hx, hy, h => by
    cases y with
    | tuple ys => rw [PyData.eqv] at h; rw [eqvAll_nb xs ys hx hy h]
    | _ => cases h
theorem eqvAll_nb : ∀ (xs ys : List PyData), nbDs xs = true → nbDs ys = true → PyData.eqvAll xs ys = true → xs = ys
  | [], ys, _, _, h => by
    cases ys with
    | nil => rfl
    | cons _ _ => cases h
  | x :: xs, ys, hx, hy, h => by
    cases ys with
    | nil => cases h
    | cons y ys =>
      rw [PyData.eqvAll, Bool.and_eq_true] at h
      rw [nbDs, Bool.and_eq_true] at hx hy
      rw [eqv_nb x y hx.1 hy.1 h.1, eqvAll_nb xs ys hx.2 hy.2 h.2]
end
theorem nbDs_all : ∀ {ds : List PyData}, (∀ d ∈ ds, nbD d = true) → nbDs ds = true
  | [], _ => rfl
  | d :: ds, h => by rw [nbDs, h d List.mem_cons_self, nbDs_all fun x hx => h x (List.mem_cons_of_mem _ hx)]; rfl
/-- == of two such -/
theorem eqB_nb {k k' : Nat} {a b : PyData} (ha : Ly k a) (hb : Ly k' b) (hk : k ≤ 64) (hk' : k' ≤ 64) (na : nbD a = true) (nb : nbD b = true) : ∃ r, eqB a b = some r ∧ (r = true ↔ a = b) := by
  have deep : eqB a b = some (PyData.eqv a b) → ∃ r, eqB a b = some r ∧ (r = true ↔ a = b) := fun e => ⟨_, e, fun h => eqv_nb a b na nb h, fun h => by rw [h]; exact SeqAt.eqv_refl _ hb.lay⟩
  have sh : (if shD a && shD b then some (PyData.eqv a b) else none) = some (PyData.eqv a b) := by
    rw [ha.sh hk, hb.sh hk']; rfl
  unfold eqB at deep ⊢
  split
  · exact ⟨_, rfl, by rw [decide_eq_true_eq]; exact ⟨fun h => by rw [h], fun h => PyData.int.inj h⟩⟩
  · exact ⟨_, rfl, by rw [decide_eq_true_eq]; exact ⟨fun h => by rw [h], fun h => PyData.str.inj h⟩⟩
  · exact ⟨_, sh, fun h => eqv_nb _ _ na nb h, fun h => by rw [h]; exact SeqAt.eqv_refl _ hb.lay⟩
theorem eqB_self {k : Nat} {a : PyData} (ha : Ly k a) (hk : k ≤ 64) : eqB a a = some true := by
  unfold eqB
  split
  · simp_all
  · simp_all
  · rw [ha.sh hk, SeqAt.eqv_refl _ ha.lay]; rfl
/-! ### what repr writes may be laid -/
theorem ok_app {a b : Str} (ha : PyData.strOk a = true) (hb : PyData.strOk b = true) : PyData.strOk (a ++ b) = true := by
  unfold PyData.strOk at *
  show ((a.cps ++ b.cps).all _) = true
  rw [Array.all_append, ha, hb]
  rfl
theorem ok_of (x : String) : PyData.strOk (Str.ofString x) = true := by
  rw [PyData.strOk, Str.ofString_eq_toList]
  simp only [List.all_toArray, List.all_map, List.all_eq_true]
  intro c _
  have := c.valid
  simp only [Function.comp, decide_eq_true_eq]
  show c.val.toNat < 0x110000
  rcases this with h | h
  · exact Nat.lt_trans h (by decide)
  · exact h.2
theorem ok_join {sep : Str} (hs : PyData.strOk sep = true) : ∀ ts : List Str, (∀ t ∈ ts, PyData.strOk t = true) → PyData.strOk (Str.join sep ts) = true
  | [], _ => by simp [Str.join, Str.empty, PyData.strOk]
  | [x], h => h x List.mem_cons_self
  | x :: y :: r, h => ok_app (ok_app (h x List.mem_cons_self) hs) (ok_join hs (y :: r) fun t ht => h t (List.mem_cons_of_mem _ ht))
theorem ok_from : ∀ (ts : List Str) (k : Nat) (acc : Str), PyData.strOk acc = true → (∀ t ∈ ts, PyData.strOk t = true) → PyData.strOk (textFrom k acc ts) = true
  | [], _, _, h, _ => h
  | t :: r, k, acc, h, hs => ok_from r (k + 1) _ (ok_app (ok_app h (ok_of _)) (hs t List.mem_cons_self)) fun x hx => hs x (List.mem_cons_of_mem _ hx)
/-! all its texts' shown forms may be laid -/
mutual
def wordsOk : PyData → Bool
  | .str x => PyData.strOk (reprText x)
  | .list ds => wordsOkAll ds
  | .tuple ds => wordsOkAll ds
  | .dict _ => false
  | _ => true
def wordsOkAll : List PyData → Bool
  | [] => true
  | d :: ds => wordsOk d && wordsOkAll ds
end
mutual
theorem ok_shown : ∀ d : PyData, wordsOk d = true → PyData.strOk d.shown = true
  | .none, _ => ok_of _
  | .bool b, _ => by cases b <;> exact ok_of _
  | .int i, _ => ok_of _
  | .str x, h => h
  | .list xs, h => ok_app (ok_from _ _ _ (ok_of _) (ok_shownAll xs h)) (ok_of _)
  | .tuple xs, h => ok_app (ok_app (ok_of _) (ok_join (ok_of _) _ (ok_shownAll xs h))) (ok_of _)
  | .dict _, h => nomatch h
theorem ok_shownAll : ∀ ds : List PyData, wordsOkAll ds = true → ∀ t ∈ PyData.shownAll ds, PyData.strOk t = true
  | [], _, _, h => nomatch h
  | d :: ds, h, t, ht => by
    rw [wordsOkAll, Bool.and_eq_true] at h
    rcases List.mem_cons.mp ht with rfl | ht
    · exact ok_shown d h.1
    · exact ok_shownAll ds h.2 t ht
end
theorem wordsOk_all : ∀ {ds : List PyData}, (∀ d ∈ ds, wordsOk d = true) → wordsOkAll ds = true
  | [], _ => rfl
  | d :: ds, h => by rw [wordsOkAll, h d List.mem_cons_self, wordsOk_all fun x hx => h x (List.mem_cons_of_mem _ hx)]; rfl
theorem ly_shown {d : PyData} (h : wordsOk d = true) : Ly 0 (.str d.shown) := ⟨ok_shown d h, rfl, Nat.le_refl _⟩
end DL
end L2


set_option Elab.async false
set_option maxRecDepth 100000
set_option maxHeartbeats 4000000
set_option autoImplicit false
namespace L2
namespace DL
open PySem PySem.Spec PyProof.Rows
variable [Lab]
section
variable {X : Cx} {F : Fm} {a b c e tg iter elt : Expr} {es ifs : List Expr} {pos p pn : Pos} {x y : Str} {f fe : DEnv → Option (PyData × DEnv)} {fa fi : DEnv → Option (List PyData × DEnv)} {ft : DEnv → Option (Bool × DEnv)} {scope : Scope} {ts : List Nat} {g : PyData → DEnv → Option DEnv}
def rdW (j : Nat) (env : DEnv) : Option (List PyData) := match env[j]? with
  | some (some (.ow ds)) => some ds
  | _ => none
/-- a comprehension over an owned list that its parts don't name: the list stays owned -/
def nLcH (j : Nat) (g : PyData → DEnv → Option DEnv) (ft : DEnv → Option (Bool × DEnv)) (fe : DEnv → Option (PyData × DEnv)) (vs : List Nat) (env : DEnv) : Option (List PyData × DEnv) := match rdW j env with
  | some ds => if ds.length ≤ lim then (lcD g ft fe vs ds (wipeE (env.set j none) vs)).map fun r => (r.1, r.2.set j (some (.ow ds))) else none
  | none => nLc (iSeq (rdF j)) g ft fe vs env
theorem Rel.forget {K : PySem.W.Frag} {Z H : Hp} {σ : St} {env : DEnv} (r : Rel K F Z H σ env) (i : Nat) : Rel K F Z H σ (env.set i none) := by
  refine ⟨r.z0, r.zh, r.gh, r.nw, r.pp, by rw [List.length_set]; exact r.len, fun j dv e => ?_, fun a b da db p ea eb oa ob sa sb => ?_, r.tb⟩
  · rcases get_set_some e with ⟨_, z⟩ | ⟨_, z⟩
    · cases z
    · exact r.sl j dv z
  · rcases get_set_some ea with ⟨_, z⟩ | ⟨_, z⟩
    · cases z
    · rcases get_set_some eb with ⟨_, w⟩ | ⟨_, w⟩
      · cases w
      · exact r.inj a b da db p z w oa ob sa sb
theorem Rel.regain {K : PySem.W.Frag} {Z H : Hp} {σ : St} {env : DEnv} {p : Addr} {xs : List V} {ds : List PyData} (r : Rel K F Z H σ env) (i : Nat) (sj : σ[i]? = some (some (V.ref p))) (f : Fre σ env p) (np : ¬ F.P p) (ng : F.G p = none) (hz : Z p = none) (hp : H p = some (.lst xs)) (hd : DDs K Z xs ds) : Rel K F Z H σ (env.set i (some (.ow ds))) := by
  have := r.storeN i f np ng hz hp hd
  rwa [show σ.set i (some (V.ref p)) = σ from by
    obtain ⟨h1, h2⟩ := List.getElem?_eq_some_iff.mp sj
    rw [← h2, List.set_getElem_self]] at this
theorem lc_readH {K : PySem.W.Frag} {ts vs : List Nat} {g : PyData → DEnv → Option DEnv} {fe : DEnv → Option (PyData × DEnv)} (hts : ∀ i ∈ ts, i ∈ vs) (jj : Nat) (hjj : jj ∉ vs) {σ : St} {H : Hp} {Q : VK} {Zx : Hp} {envx : DEnv} {dsx rsx : List PyData} {envx' : DEnv} (rx : Rel K F Zx H σ envx) (ex : rdW jj envx = some dsx) (hlim : dsx.length ≤ lim) (elx : lcD g ft fe vs dsx (wipeE (envx.set jj none) vs) = some (rsx, envx'))
    (qx : ∀ p xs Z' H', Rel K F Z' H' σ (envx'.set jj (some (.ow dsx))) → Stp σ envx Zx H (envx'.set jj (some (.ow dsx))) Z' H' → H p = none → Z' p = none → H' p = some (.lst xs) → DDs K Z' xs rsx → Q (.ref p) H') :
    tLc (iList K (tVar jj)) (tGN K F ts g) (tDT K F ft) (tD K F fe) vs σ H Q := by
  have ej : envx[jj]? = some (some (.ow dsx)) := by
    unfold rdW at ex
    split at ex
    · rename_i z; cases ex; exact z
    · cases ex
  obtain ⟨pp, xs, sj, npp, ngp, zp, hp, dp⟩ := rx.sl jj _ ej
  have r : Rel K F Zx H σ (envx.set jj none) := rx.forget jj
  have frp : Fre σ (envx.set jj none) pp := fun k dv ek ok sk => by
    rcases get_set_some ek with ⟨_, z⟩ | ⟨hne, z⟩
    · cases z
    · exact hne (rx.inj k jj _ _ pp z ej ok rfl sk sj)
  have free0 : ∀ q, Fre σ envx q → Fre σ (envx.set jj none) q := fun q f k dv ek ok => by
    rcases get_set_some ek with ⟨_, z⟩ | ⟨_, z⟩
    · cases z
    · exact f k dv z ok
  have own0 : ∀ (k : Nat) (dv : DV), (envx.set jj none)[k]? = some (some dv) → ownish dv = true → ∃ d0, envx[k]? = some (some d0) ∧ ownish d0 = true := fun k dv ek ok => by
    rcases get_set_some ek with ⟨_, z⟩ | ⟨_, z⟩
    · cases z
    · exact ⟨dv, z, ok⟩
  refine ⟨.ref pp, sj, pp, rfl, ⟨xs, SqL.of hp⟩, fun D hD => ?_⟩
  have hDp : D ≠ pp := fun z => by rw [z, hp] at hD; cases hD
  have zD1 : Zx D = none := r.zh.free hD
  have g1 : Grow Zx H Zx (upd H D (.lst [])) := grow_own r.zh hD _
  have frD : Fre σ (envx.set jj none) D := fre_new r hD
  have wk : Walk (Itl K pp) dsx.length (fun H => SqL K H pp xs) (YAt xs) := (dds_len dp) ▸ walk_list
  refine lc_it wk (fun i Hc => ∃ Zc ec acc ad rest, (Hc pp = some (.lst xs) ∧ Zc pp = none) ∧ Same Zx Zc ∧ Rel K F Zc Hc (wipe σ vs) ec ∧ (∀ (j : Nat) (dv : DV), ec[j]? = some (some dv) → j ∉ vs) ∧ Stp σ (envx.set jj none) Zx H ec Zc Hc ∧ Hc D = some (.lst acc) ∧ Zc D = none ∧ acc.length ≤ i ∧ DDs K Zc acc ad ∧
      lcD g ft fe vs (dsx.drop i) ec = some (rest, envx') ∧ rsx = ad ++ rest) ?_ ?_ ?_ ?_
  · refine ⟨Zx, wipeE (envx.set jj none) vs, [], [], rsx, ⟨by rw [upd_ne (fun z => hDp z.symm)]; exact hp, zp⟩, Same.refl _, (r.grow g1).wipe vs, fun j dv e => (wipeE_in _ _ _ _ e).1, ?_, upd_same, zD1, Nat.le_refl _, .nil, elx, rfl⟩
    have s2 := g1.stp (σ := σ) (env := envx.set jj none)
    exact ⟨s2.z, s2.h, s2.n, fun i dv e o => s2.o i dv (wipeE_in _ _ _ _ e).2 o, s2.k⟩
  · rintro i Hc hi ⟨Zc, ec, acc, ad, rest, hpc, sz, rc, _⟩
    exact SqL.of hpc.1
  · rintro i x Hc H2 hi ⟨Zc, ec, acc, ad, rest, hpc, sz, rc, nv, st, hDc, zDc, hla, dacc, el, eq⟩ y
    obtain ⟨rfl, y⟩ := y
    obtain ⟨d, hd, dd0⟩ := dds_get' dp y
    have dd : DD K Zc x d := DDm dd0 sz
    have ed : dsx.drop i = d :: dsx.drop (i + 1) := by
      obtain ⟨hl, hx⟩ := List.getElem?_eq_some_iff.mp hd
      rw [← hx]
      exact List.drop_eq_getElem_cons hl
    rw [ed] at el
    obtain ⟨e2, g2, el⟩ := bnd el
    obtain ⟨⟨tb, e3⟩, t2, el⟩ := bnd el
    refine ⟨Zc, ec, d, e2, rc, dd, g2, fun σ2 r2 k2 => ⟨?_, ?_⟩⟩
    · rw [wipe_eq (σ := wipe σ vs) (τ := σ2) k2.l (fun j hj => k2.s j fun z => hj (hts j z))]
      exact wipe_eq (wipe_length σ vs) fun j hj => wipe_get σ vs j hj
    have wst : wipe σ2 vs = wipe σ vs := by
      rw [wipe_eq (σ := wipe σ vs) (τ := σ2) k2.l (fun j hj => k2.s j fun z => hj (hts j z))]
      exact wipe_eq (wipe_length σ vs) fun j hj => wipe_get σ vs j hj
    have free2 : ∀ q, Fre σ (envx.set jj none) q → Fre σ2 e2 q := fun q f j dv ej oj sj => by
      obtain ⟨a1, b1⟩ := k2.o j dv ej oj
      obtain ⟨dv0, b2, o2⟩ := st.o j dv b1 oj
      refine f j dv0 b2 o2 ?_
      rw [← wipe_get σ vs j (nv j dv b1), ← k2.s j a1]
      exact sj
    have own2 : ∀ (j : Nat) (dv : DV), e2[j]? = some (some dv) → ownish dv = true → ∃ dv0, (envx.set jj none)[j]? = some (some dv0) ∧ ownish dv0 = true := fun j dv ej oj => by
      obtain ⟨a1, b1⟩ := k2.o j dv ej oj
      exact st.o j dv b1 oj
    have lift : ∀ {e4 : DEnv} {Z4 H4 : Hp}, Stp σ2 e2 Zc H2 e4 Z4 H4 → Stp σ (envx.set jj none) Zx H (wipeE e4 vs) Z4 H4 := fun {e4 Z4 H4} b => by
      refine ⟨st.z.trans b.z, fun q o hq n f => b.h q o (st.h q o hq n f) n (free2 q f), fun q h4 h0 hh f => ?_, fun j dv ej oj => ?_, fun q hq => b.k q (st.k q hq)⟩
      · by_cases hz : Zc q = none
        · exact b.n q h4 hz (st.k q hh) (free2 q f)
        · exact st.n q hz h0 hh f
      · obtain ⟨a1, b1⟩ := b.o j dv (wipeE_in _ _ _ _ ej).2 oj
        exact own2 j a1 b1.1 b1.2
    -- what is held, and what is piled up, stay in such a step
    have stay : ∀ {e4 : DEnv} {Z4 H4 : Hp} {q : Addr} {ys : List V}, Stp σ2 e2 Zc H2 e4 Z4 H4 → Fre σ (envx.set jj none) q → H2 q = some (.lst ys) → Zc q = none → H4 q = some (.lst ys) ∧ Z4 q = none := fun {e4 Z4 H4 q ys} b f hq zq => by
      refine ⟨b.h q _ hq nt_lst (free2 q f), ?_⟩
      cases hh : Z4 q with
      | none => rfl
      | some o => exact absurd (free2 q f) (b.n q (by rw [hh]; simp) zq (by rw [hq]; simp))
    refine ⟨Zc, e2, tb, e3, r2, t2, fun Z3 H3 r3 s3 => ?_⟩
    cases tb with
    | false =>
      refine iteF ⟨Z3, wipeE e3 vs, acc, ad, rest, stay s3 frp hpc.1 hpc.2, sz.trans s3.z, ?_, fun j dv e => (wipeE_in _ _ _ _ e).1, lift s3, (stay s3 frD hDc zDc).1, (stay s3 frD hDc zDc).2, Nat.le_succ_of_le hla, DDsm dacc s3.z, el, eq⟩
      have := r3.wipe vs
      rw [wst] at this
      exact this
    | true =>
      obtain ⟨⟨yv, e4⟩, y2, el⟩ := bnd el
      obtain ⟨⟨rr, e5⟩, l2, el⟩ := mpd el
      cases el
      refine iteT ⟨Z3, e3, yv, e4, r3, y2, fun v Z4 H4 r4 s4 d4 => ?_⟩
      have s34 := s3.trans s4
      obtain ⟨hD4, zD4⟩ := stay s34 frD hDc zDc
      obtain ⟨hp4, zp4⟩ := stay s34 frp hpc.1 hpc.2
      have hlt : acc.length < sizeLine := Nat.lt_of_lt_of_le (Nat.lt_of_le_of_lt hla hi) (Nat.le_trans hlim lim_le)
      refine ⟨acc, hD4, hlt, Z4, wipeE e4 vs, acc ++ [v], ad ++ [yv], rr, ⟨by rw [upd_ne (fun z => hDp z.symm)]; exact hp4, zp4⟩, sz.trans s34.z, ?_, fun j dv e => (wipeE_in _ _ _ _ e).1, ?_, upd_same, zD4, ?_, dds_app (DDsm dacc s34.z) (.cons d4 .nil), l2, ?_⟩
      · have pk := pok_upd r4.zh zD4 hD4 (.lst (acc ++ [v]))
        have rp := r4.poke0 (s34.fre (free2 D frD)) (r.gh.free hD) (fun z => (r.pp D z).1 hD) pk (by rw [upd_same]; simp)
        have := rp.wipe vs
        rw [wst] at this
        exact this
      · have b := lift s34
        refine ⟨b.z, fun q o hq n f => ?_, b.n, b.o, fun q hq => ?_⟩
        · rw [upd_ne (fun z => by rw [z, hD] at hq; cases hq)]
          exact b.h q o hq n f
        · by_cases hqD : q = D
          · subst hqD; rw [upd_same]; simp
          · rw [upd_ne hqD]; exact b.k q hq
      · rw [List.length_append]; exact Nat.succ_le_succ hla
      · rw [eq, List.append_assoc]; rfl
  · rintro Hc ⟨Zc, ec, acc, ad, rest, hpc, sz, rc, nv, st, hDc, zDc, hla, dacc, el, eq⟩
    rw [List.drop_length] at el
    cases el
    rw [List.append_nil] at eq
    subst eq
    have rr := (rc.unwipe nv).regain jj sj (st.fre frp) npp ngp hpc.2 hpc.1 (DDsm dp sz)
    refine qx D acc Zc Hc rr ⟨st.z, fun q o hq n f => st.h q o hq n (free0 q f), fun q h1 h2 h3 f => st.n q h1 h2 h3 (free0 q f), fun k dv ek ok => ?_, st.k⟩ hD zDc hDc dacc
    rcases get_set_some ek with ⟨rfl, _⟩ | ⟨_, z⟩
    · exact ⟨_, ej, rfl⟩
    · obtain ⟨d0, a, b⟩ := st.o k dv z ok
      exact own0 k d0 a b
theorem pn_lcH (j : Nat) {y : Str} {py : Pos} (own : List (Str × Nat)) (hN : X.N.Nodup) (ok : BlkOk X.N X.env.scope scope own)
    (hg : ∀ (s : Shared) (H : Hp) (C : Addr) (cl : List (Str × Addr)) (fp : List Addr), PGN (X.blk s H scope (compEnvC scope cl C X.env) fp) F tg ts g) (ht : ∀ (s : Shared) (H : Hp) (C : Addr) (cl : List (Str × Addr)) (fp : List Addr), PDTs (X.blk s H scope (compEnvC scope cl C X.env) fp) F ifs ft)
    (he : ∀ (s : Shared) (H : Hp) (C : Addr) (cl : List (Str × Addr)) (fp : List Addr), PD (X.blk s H scope (compEnvC scope cl C X.env) fp) F elt fe) (hjv : j ∉ own.map (·.2) := by decide) (hts : ∀ i ∈ ts, i ∈ own.map (·.2) := by decide) (hy : X.N[j]? = some y := by rfl) (hv : Vis X.env.scope y := by first | exact Or.inl rfl | exact Or.inr (Or.inl rfl) | exact Or.inr (Or.inr rfl))
    (hd : (y == ("__debug__" : Str)) = false := by decide) (hcd : (y == ("__classdict__" : Str)) = false := by decide) (hc : X.calm = true := by rfl) (hs : ∀ x, foldedSetIterable (.Name y py) X.env x = pure x := by intro _; rfl) :
    PN X F (.ListComp elt [⟨tg, .Name y py, ifs, 0⟩] scope pos) (nLcH j g ft fe (own.map (·.2))) :=
  pe_imp (pe_lc (g := tGN X.K F ts g) (tt := tDT X.K F ft) (te := tD X.K F fe) hc hN (pi_orr (pi_list (pe_var hy hv hd hcd)) (di_seq (pd_name j hy hv hd hcd))) ok hg ht he hs) fun σ H Q h => by
    obtain ⟨Z, env, d, env', r, e, q⟩ := h
    unfold nLcH at e
    split at e
    · rename_i ds hw
      split at e
      case isFalse => cases e
      rename_i hl
      obtain ⟨⟨rs, e1⟩, h1, h2⟩ := mpd e
      cases h2
      exact .inl (lc_readH hts j hjv r hw hl h1 q)
    · exact .inr (lc_read hts ⟨Z, env, d, env', r, e, q⟩)
theorem ev_lcH {j : Nat} {g : PyData → DEnv → Option DEnv} {ft : DEnv → Option (Bool × DEnv)} {fe : DEnv → Option (PyData × DEnv)} {vs : List Nat} {env e2 e3 e4 : DEnv} {ds rs : List PyData} (h : rdW j env = some ds) (hl : ds.length ≤ lim) (hw : wipeE (env.set j none) vs = e2) (h2 : lcD g ft fe vs ds e2 = some (rs, e3)) (he : e3.set j (some (.ow ds)) = e4) : nLcH j g ft fe vs env = some (rs, e4) := by
  unfold nLcH; rw [h]; show (if ds.length ≤ lim then _ else _) = _; rw [if_pos hl, hw, h2, ← he]; rfl
end
end DL
end L2


set_option Elab.async false
set_option maxRecDepth 100000
set_option maxHeartbeats 4000000
set_option autoImplicit false
namespace L2
namespace DL
open PySem PySem.Spec PyProof.Rows
variable [Lab]
theorem mm_b {a : Int} (ha : 2 ≤ a) {env : DEnv} {n : Nat} (h : fLenN 0 env = some (.int n, env)) : ∃ m : Int, fCB maxD (fCons (fC (.int 2)) (fCons (fCB minD (fCons (fLenN 0) (fCons (fC (.int a)) fNil))) fNil)) env = some (.int m, env) ∧ 2 ≤ m ∧ m ≤ a := by
  have e1 : fCB minD (fCons (fLenN 0) (fCons (fC (.int a)) fNil)) env = some (.int (if a < (n : Int) then a else n), env) := ev_cb (ev_cons h (ev_cons rfl ev_nil)) rfl
  generalize hx : (if a < (n : Int) then a else (n : Int)) = x at e1
  refine ⟨if 2 < x then x else 2, ev_cb (ev_cons rfl (ev_cons e1 ev_nil)) rfl, ?_, ?_⟩
  · split <;> omega
  · split <;> (split at hx <;> omega)
theorem law_fin {mr : List PyData → List PyData → Option (PyData × List PyData)} {mp : List PyData → Option (List PyData)} {mc : List PyData → Option PyData} {PO : List PyData → Prop} {ns : List Int} (hc : ∀ k : Int, 0 ≤ k → k ≤ 1000 → ∃ c : Int, mc [.list (ns.map .int), .int k] = some (.int c)) (hp : ∀ c : Int, ∃ es, mp [.int c] = some es ∧ PO es) (hr : ∀ es, PO es → ∃ es', mr es [] = some (.bool true, es'))
    {v : Nat} {fm : DEnv → Option (PyData × DEnv)} {env : DEnv} (hm : ∃ m : Int, fm env = some (.int m, env) ∧ 2 ≤ m ∧ m ≤ 8) (hv : env.set v none = env) (h0 : ∀ d, rdF 0 (env.set v (some (.fr d))) = some (.list (ns.map .int), env.set v (some (.fr d)))) (hvv : ∀ d, rdF v (env.set v (some (.fr d))) = some (d, env.set v (some (.fr d)))) :
    sRet (fCB allD (fCons (fFrz (nLc (iArg rng1 (fCons fm fNil)) (gSet v) fYes (fCRT mr (fCN mp (fCons (fCB mc (fCons (rdF 0) (fCons (rdF v) fNil))) fNil))) [v])) fNil)) env = some (.rt (.bool true) env) := by
  obtain ⟨m, e1, m1, m2⟩ := hm
  have e2 := lc_img (i := v) (fe := fCRT mr (fCN mp (fCons (fCB mc (fCons (rdF 0) (fCons (rdF v) fNil))) fNil))) (e := fun i : Nat => .int (0 + (i : Int))) (q := fun _ => .bool true) (env := env) hv (List.range m.toNat) fun k hk => by
    have hk := List.mem_range.mp hk
    obtain ⟨c, e3⟩ := hc (0 + (k : Int)) (by omega) (by omega)
    obtain ⟨es, e4, po⟩ := hp c
    obtain ⟨es', e5⟩ := hr es po
    have e6 : fCN mp (fCons (fCB mc (fCons (rdF 0) (fCons (rdF v) fNil))) fNil) (env.set v (some (.fr (.int (0 + (k : Int)))))) = some (es, env.set v (some (.fr (.int (0 + (k : Int)))))) := by
      unfold fCN
      rw [ev_cons (ev_cb (ev_cons (h0 _) (ev_cons (hvv _) ev_nil)) e3) ev_nil]
      show (mp [.int c]).map _ = _
      rw [e4]
      rfl
    unfold fCRT
    rw [e6]
    show (mr es []).map _ = _
    rw [e5]
    rfl
  have hrng : rng1 [.int m] = some ((List.range m.toNat).map fun i : Nat => .int (0 + (i : Int))) := by
    show (if m ≤ 1000000 ∧ _ then some (rangeD 0 m.toNat) else none) = _
    rw [if_pos (by omega)]
    rfl
  refine ev_ret (ev_cb (ev_cons (ev_frz (ev_lc (ev_iArg (ev_cons e1 ev_nil) hrng) ?_ hv e2)) ev_nil) ?_)
  · rw [List.length_map, List.length_range]
    show _ ≤ 100000
    omega
  · rw [all_map (fun _ : Nat => true)]
    simp
/-! ### a new list times a number -/
section
variable {X : Cx} {F : Fm} {a b : Expr} {pos : Pos} {g : DEnv → Option (PyData × DEnv)} {fn : DEnv → Option (List PyData × DEnv)}
def nRepL (fn : DEnv → Option (List PyData × DEnv)) (g : DEnv → Option (PyData × DEnv)) (env : DEnv) : Option (List PyData × DEnv) := (fn env).bind fun x => (g x.2).bind fun y => match y.1 with
  | .int k => if 0 ≤ k ∧ k ≤ 1000 ∧ x.1.length ≤ 100 then some ((List.replicate k.toNat x.1).flatten, y.2) else none
  | _ => none
theorem pn_repL (ha : PN X F a fn) (hb : PD X F b g) : PN X F (.BinOp a .Mult b pos) (nRepL fn g) := pe_imp (pe_op op_rep ha hb) fun σ H Q h => by
  obtain ⟨Z, env, d, env', r, e, q⟩ := h
  obtain ⟨⟨x, e1⟩, h1, h⟩ := bnd e
  obtain ⟨⟨y, e2⟩, h2, h⟩ := bnd h
  match y, h2, h with
  | .int k, h2, h =>
    change (if 0 ≤ k ∧ k ≤ 1000 ∧ x.length ≤ 100 then some ((List.replicate k.toNat x).flatten, e2) else none) = some (d, env') at h
    split at h
    case isFalse => cases h
    rename_i hc
    obtain ⟨rfl, rfl⟩ := Prod.mk.inj (Option.some.inj h)
    refine ⟨Z, env, x, e1, r, h1, fun p xs Z1 H1 r1 s1 h0 hz hp dd => ⟨Z1, e1, .int k, _, r1, h2, fun v2 Z2 H2 r2 s2 d2 => ?_⟩⟩
    cases d2.int_inv
    have fr1 : Fre σ e1 p := s1.fre (fre_new r h0)
    have hp2 : H2 p = some (.lst xs) := s2.h p _ hp nt_lst fr1
    have hl := dds_len dd
    have hle : xs.length * k.toNat ≤ sizeLine := by
      have : xs.length * k.toNat ≤ 100 * 1000 := Nat.mul_le_mul (by omega) (by omega)
      have := lim_le
      have : lim = 100000 := rfl
      omega
    refine ⟨p, k, xs, rfl, rfl, hp2, by omega, by omega, hle, fun q0 hq0 => ?_⟩
    have gr := grow_own r2.zh hq0 (.lst (List.replicate k.toNat xs).flatten)
    exact q q0 _ _ _ (r2.grow gr) ((s1.trans s2).trans gr.stp) ((s1.trans s2).new hq0) (r2.zh.free hq0) upd_same (dds_rep (DDsm dd s2.z) k.toNat)
theorem ev_repL {env e1 e2 : DEnv} {xs : List PyData} {k : Int} (h : fn env = some (xs, e1)) (h2 : g e1 = some (.int k, e2)) (hc : 0 ≤ k ∧ k ≤ 1000 ∧ xs.length ≤ 100) : nRepL fn g env = some ((List.replicate k.toNat xs).flatten, e2) := by
  unfold nRepL; rw [h]; show (g e1).bind _ = _; rw [h2]; exact if_pos hc
end
/-! ### a, b, c = two new lists and data -/
section
variable {X : Cx} {F : Fm} {s : Stmt} {fn gn : DEnv → Option (List PyData × DEnv)} {f : DEnv → Option (PyData × DEnv)}
theorem stay_lst {σ : St} {env env' : DEnv} {Z H Z' H' : Hp} {p : Addr} {xs : List V} (b : Stp σ env Z H env' Z' H') (f : Fre σ env p) (hp : H p = some (.lst xs)) (hz : Z p = none) : H' p = some (.lst xs) ∧ Z' p = none := by
  refine ⟨b.h p _ hp nt_lst f, ?_⟩
  cases hh : Z' p with
  | none => rfl
  | some o => exact absurd f (b.n p (by rw [hh]; simp) hz (by rw [hp]; simp))
end
/-! ### words and numbers are small -/
theorem Sm.le {k w : Nat} {d : PyData} (h : Sm k w d) {k' w' : Nat} (hk : k ≤ k' := by decide) (hw : w ≤ w' := by decide) : Sm k' w' d := h.mono hk hw
end DL
end L2


set_option Elab.async false
set_option maxRecDepth 100000
set_option maxHeartbeats 4000000
set_option autoImplicit false
namespace L2
namespace DL
open PySem PySem.Spec PyProof.Rows
/-! ### orders, commands, picks: what they are apart from data -/
def dirsD : List Str := ["up", "down"]
abbrev Ky := Int × Str
def kd (k : Ky) : PyData := .tuple [.int k.1, .str k.2]
structure KOk (n : Int) (ks : List Ky) : Prop where
  nd : (ks.map (·.1)).Nodup
  rg : ∀ k ∈ ks, 0 ≤ k.1 ∧ k.1 < n ∧ k.2 ∈ dirsD
abbrev KB := Int × Bool
abbrev Od := List KB × Bool
def dS (b : Bool) : Str := if b then "up" else "down"
def toKy (k : KB) : Ky := (k.1, dS k.2)
structure OOk (o : Od) : Prop where
  nd : (o.1.map (·.1)).Nodup
  rg : ∀ k ∈ o.1, 0 ≤ k.1 ∧ k.1 < 4
theorem dS_in (b : Bool) : dS b ∈ dirsD := by cases b <;> simp [dS, dirsD]
theorem OOk.k {o : Od} (h : OOk o) : KOk 4 (o.1.map toKy) := by
  refine ⟨?_, fun k hk => ?_⟩
  · rw [List.map_map]; exact h.nd
  · obtain ⟨x, hx, rfl⟩ := List.mem_map.mp hk
    exact ⟨(h.rg x hx).1, (h.rg x hx).2, dS_in _⟩
theorem nodup_le {α : Type} [DecidableEq α] : ∀ (l t : List α), l.Nodup → (∀ x ∈ l, x ∈ t) → l.length ≤ t.length
  | [], _, _, _ => Nat.zero_le _
  | a :: l, t, hn, hs => by
    have ha := hs a List.mem_cons_self
    rw [List.nodup_cons] at hn
    have := nodup_le l (t.erase a) hn.2 fun x hx => by
      have hne : x ≠ a := fun z => hn.1 (by rw [← z]; exact hx)
      exact (List.mem_erase_of_ne hne).mpr (hs x (List.mem_cons_of_mem _ hx))
    rw [List.length_erase_of_mem ha] at this
    have hp : 0 < t.length := List.length_pos_of_mem ha
    rw [List.length_cons]
    omega
theorem OOk.len {o : Od} (h : OOk o) : o.1.length ≤ 4 := by
  have := nodup_le (o.1.map (·.1)) [0, 1, 2, 3] h.nd fun c hc => by
    obtain ⟨k, hk, rfl⟩ := List.mem_map.mp hc
    obtain ⟨a, b⟩ := h.rg k hk
    simp only [List.mem_cons, List.not_mem_nil, or_false]
    omega
  rwa [List.length_map] at this
def nK (k : KB) : KB := (k.1, !k.2)
def flO (o : Od) : Od := (o.1.map nK, !o.2)
def offO (c : Int) (ks : List KB) : List KB := ks.filter fun k => !decide (k.1 = c)
def putO (c : Int) (d : Bool) (o : Od) : Od := ((c, d) :: offO c o.1, o.2)
theorem OOk.fl {o : Od} (h : OOk o) : OOk (flO o) := by
  refine ⟨?_, fun k hk => ?_⟩
  · show ((o.1.map nK).map (·.1)).Nodup
    rw [List.map_map]; exact h.nd
  · obtain ⟨x, hx, rfl⟩ := List.mem_map.mp hk
    exact h.rg x hx
theorem OOk.put {o : Od} (h : OOk o) {c : Int} (h0 : 0 ≤ c) (h1 : c < 4) (d : Bool) : OOk (putO c d o) := by
  refine ⟨?_, fun k hk => ?_⟩
  · show (c :: (offO c o.1).map (·.1)).Nodup
    rw [List.nodup_cons]
    refine ⟨fun z => ?_, ?_⟩
    · obtain ⟨k, hk, e⟩ := List.mem_map.mp z
      have := (List.mem_filter.mp hk).2
      simp [e] at this
    · exact List.Sublist.nodup (List.Sublist.map _ List.filter_sublist) h.nd
  · rcases List.mem_cons.mp hk with rfl | hk
    · exact ⟨h0, h1⟩
    · exact h.rg k (List.mem_filter.mp hk).1
inductive Pl where
  | sort (d : Bool) (c : Int) | rev | res | cut (f : Bool) (k : Int)
def PlOk : Pl → Prop
  | .sort _ c => 0 ≤ c ∧ c < 4
  | .cut _ k => 2 ≤ k ∧ k ≤ 29
  | _ => True
def cS (b : Bool) : Str := if b then "first" else "last"
def plE : Pl → PyData
  | .sort d c => .tuple [.str (dS d), .int c]
  | .rev => .tuple [.str "reverse"]
  | .res => .tuple [.str "restore"]
  | .cut f k => .tuple [.str (cS f), .int k]
abbrev Pk := Od × Int
def Cm : Nat → Type
  | 0 => Pl
  | n + 1 => Pl ⊕ (Int × List (Cm n))
def repE (t : Int) (ps : List PyData) : PyData := .tuple [.str "repeat", .int t, .tuple ps]
def cmE : (n : Nat) → Cm n → PyData
  | 0, p => plE p
  | _ + 1, .inl p => plE p
  | n + 1, .inr (t, ps) => repE t (ps.map (cmE n))
def CmOk (tm : Int) : (n : Nat) → Cm n → Prop
  | 0, p => PlOk p
  | _ + 1, .inl p => PlOk p
  | n + 1, .inr (t, ps) => 1 ≤ t ∧ t ≤ tm ∧ ∀ c ∈ ps, CmOk tm n c
def szC : (n : Nat) → Cm n → Nat
  | 0, _ => 1
  | _ + 1, .inl _ => 1
  | n + 1, .inr (_, ps) => 1 + (ps.map (szC n)).sum
/-! ### what turns do to an order -/
def offs (P ks : List KB) : List KB := ks.filter fun k => !decide (k.1 ∈ P.map (·.1))
def phi (b : Bool) (ks : List KB) : List KB := if b then ks.map nK else ks
structure ShF (f : Od → Od) (P : List KB) (b : Bool) : Prop where
  eq : ∀ o, f o = (P ++ phi b (offs P o.1), o.2.xor b)
end DL
end L2


set_option Elab.async false
set_option maxRecDepth 100000
set_option maxHeartbeats 4000000
set_option autoImplicit false
namespace L2
namespace DL
open PySem PySem.Spec PyProof.Rows
/-! ### picks, shortened -/
def keep : Int → List Pk → List Pk
  | _, [] => []
  | m, p :: ps => if p.2 < m then p :: keep p.2 ps else keep m ps
def minS : Int → List Pk → Int
  | m, [] => m
  | m, p :: ps => if p.2 < m then minS p.2 ps else minS m ps
def dedup : List Pk → List Pk
  | [] => []
  | [p] => [p]
  | p :: q :: r => if p.1 = q.1 then dedup (q :: r) else p :: dedup (q :: r)
def short (ps : List Pk) : List Pk := dedup (keep 30 ps)
structure SameS (a b : List Pk × Od) : Prop where
  o : a.2 = b.2
  k : ∀ m, keep m a.1 = keep m b.1 ∧ minS m a.1 = minS m b.1
end DL
end L2


set_option Elab.async false
set_option maxRecDepth 100000
set_option maxHeartbeats 4000000
set_option autoImplicit false
namespace L2
namespace DL
open PySem PySem.Spec PyProof.Rows PySem.Calls
variable [Lab]
section
variable {X : Cx} {F : Fm} {e a b : Expr} {f : DEnv → Option (PyData × DEnv)} {pos p : Pos}
end
end DL
end L2


set_option Elab.async false
set_option maxRecDepth 100000
set_option maxHeartbeats 4000000
set_option autoImplicit false
namespace L2
namespace DL
open PySem PySem.Spec PyProof.Rows PySem.Calls
variable [Lab]
section
variable {X : Cx} {F : Fm} {a e : Expr} {f : DEnv → Option (PyData × DEnv)} {pos p : Pos} {pins : List (Addr × Obj)} {σ : St} {H : Hp} {s : Shared}
end
end DL
end L2


set_option Elab.async false
set_option maxRecDepth 100000
set_option maxHeartbeats 4000000
set_option autoImplicit false
namespace L2
namespace DL
open PySem PySem.Spec PyProof.Rows
structure KvOk (n : Nat) (kv : Nat → List Int) : Prop where
  len : ∀ i j, i < n → j < n → (kv i).length = (kv j).length
  inj : ∀ i j, i < n → j < n → kv i = kv j → i = j
abbrev Tab := List (List Int)
def sg (d : Str) (x : Int) : Int := if d = "up" then x else -x
def cellT (t : Tab) (i : Nat) (c : Int) : Int := (t.getD i []).getD c.toNat 0
def kvs (t : Tab) (ks : List Ky) (i : Nat) : List Int := ks.map fun k => sg k.2 (cellT t i k.1)
def kv (t : Tab) (ks : List Ky) (s : Str) (i : Nat) : List Int := kvs t ks i ++ [sg s i]
structure TabW (w : Nat) (t : Tab) : Prop where
  l1 : 1 ≤ t.length
  l2 : t.length ≤ 30
  w1 : 1 ≤ w
  w5 : w ≤ 5
  row : ∀ r ∈ t, r.length = w
/-! ### places by an order -/
def kvO (t : Tab) (o : Od) (i : Nat) : List Int := kv t (o.1.map toKy) (dS o.2) i
structure KvA (key : Nat → List Int) : Prop where
  len : ∀ i j, (key i).length = (key j).length
  inj : ∀ i j, key i = key j → i = j
structure StandL (t : Tab) (x : List Nat × Od) (l : List Nat) : Prop where
  nd : x.1.Nodup
  so : x.1.Pairwise fun i j => kvO t x.2 i < kvO t x.2 j
  pm : x.1.Perm l
end DL
end L2


set_option Elab.async false
set_option maxRecDepth 100000
set_option maxHeartbeats 4000000
set_option autoImplicit false
namespace L2
namespace DL
open PySem PySem.Spec PyProof.Rows
local instance labNone_RnD : Lab := { w := none, T := [], gd := True }
end DL
end L2


set_option Elab.async false
set_option maxRecDepth 100000
set_option maxHeartbeats 4000000
set_option autoImplicit false
namespace L2
namespace DL
open PySem PySem.Spec PyProof.Rows PySem.Calls
variable [Lab]
section
variable {X : Cx} {F : Fm} {k n j : Nat} {f : Addr} {fd : FuncData} {ps ks : List Str} {x y : Str} {p pos pn : Pos} {e : Expr} {es : List Expr} {fa fb : DEnv → Option (List PyData × DEnv)}
end
end DL
end L2


set_option Elab.async false
set_option maxRecDepth 100000
set_option maxHeartbeats 4000000
set_option autoImplicit false
/-! ### a for loop in a generator -/
namespace L2
open PySem PySem.Spec PyProof.Rows GenW
section
variable {prog : Program} {w : World} {A : Around} {R : GenEnd} {Y : Protocol} {n : Nat} {s₀ : Shared} {c : Code} {fs : List Frame} {s : Shared} {env : Env} {K : Flow → Sem PySem.Fin} {J : Value → Sem PySem.Fin} {gd : Bool → Bool} {lv : List Value → List Value} {tg iter : Expr} {it : Value} {body : List Stmt} {pos : Pos}
end
section
variable {X : Cx} {tg iter : Expr} {body : List Stmt} {pos : Pos} {wi : TI} {g : TG} {tb : TGn}
end
end L2


set_option Elab.async false
set_option maxRecDepth 100000
set_option maxHeartbeats 4000000
set_option autoImplicit false
/-! ### generators' bodies over data -/
namespace L2
namespace DL
open PySem PySem.Spec PyProof.Rows GenW
variable [Lab]
section
variable {X : Cx} {F : Fm} {tg iter e : Expr} {s : Stmt} {ss : List Stmt} {pos yp : Pos} {f : DEnv → Option (PyData × DEnv)} {fi b fy fz : DEnv → Option (List PyData × DEnv)} {fs : DEnv → Option DFlow} {g : PyData → DEnv → Option DEnv}
end
section
variable {P : Program} {w : World} {K : PySem.W.Frag} {mg : Str → Option Value} {base : Heap} {x qual : Str} {st : Stmt} {f : Addr} {fd : FuncData} {N ps : List Str} {k : Nat} {g : DEnv → Option (List PyData × DEnv)}
end
section
variable {X : Cx} {F : Fm} {k n : Nat} {f : Addr} {fd : FuncData} {ps : List Str} {x nm : Str} {p p2 pos pos2 : Pos} {e : Expr} {es : List Expr} {fa : DEnv → Option (List PyData × DEnv)}
end
/-- repr may be written -/
class LabR [Lab] : Prop where
  on : Lab.gd
end DL
end L2


set_option Elab.async false
set_option maxRecDepth 100000
set_option maxHeartbeats 4000000
set_option autoImplicit false
namespace L2
namespace DL
open PySem PySem.Spec PyProof.Rows
section
variable [Lab]
variable {X : Cx} {F : Fm}
end
end DL
end L2


set_option Elab.async false
set_option maxRecDepth 100000
set_option maxHeartbeats 4000000
set_option autoImplicit false
namespace L2
namespace DL
open PySem PySem.Spec PyProof.Rows
section
variable [Lab]
variable {X : Cx} {F : Fm} {pos : Pos}
end
end DL
end L2


set_option Elab.async false
set_option maxRecDepth 100000
set_option maxHeartbeats 4000000
set_option autoImplicit false
namespace L2
namespace DL
open PySem PySem.Spec PyProof.Rows
section
variable [Lab]
end
end DL
end L2


set_option Elab.async false
set_option maxRecDepth 100000
set_option maxHeartbeats 4000000
set_option autoImplicit false
namespace L2
namespace DL
open PySem PySem.Spec PyProof.Rows
section
variable [Lab]
variable {X : Cx} {F : Fm} {e : Expr} {f : DEnv → Option (PyData × DEnv)}
end
end DL
end L2


set_option Elab.async false
set_option maxRecDepth 100000
set_option maxHeartbeats 4000000
set_option autoImplicit false
namespace L2
namespace DL
open PySem PySem.Spec PyProof.Rows
variable [Lab]
/-- reached from a start by steps, stores into the block's names and wipes -/
structure Frm (σ0 : St) (e0 : DEnv) (Z0 H0 : Hp) (σ : St) (e : DEnv) (Z H : Hp) : Prop where
  st : Stp σ0 e0 Z0 H0 e Z H
  ss : ∀ (j : Nat) (dv : DV), e[j]? = some (some dv) → ownish dv = true → σ[j]? = σ0[j]?
section
variable {F : Fm} {σ0 σ σ' : St} {e0 e e' : DEnv} {Z0 H0 Z H Z' H' : Hp} {D : Addr}
theorem Frm.free (f : Frm σ0 e0 Z0 H0 σ e Z H) {q : Addr} (h : Fre σ0 e0 q) : Fre σ e q := fun j dv ej oj sj => by
  obtain ⟨dv0, b, o⟩ := f.st.o j dv ej oj
  exact h j dv0 b o ((f.ss j dv ej oj).symm.trans sj)
theorem Frm.step (f : Frm σ0 e0 Z0 H0 σ e Z H) (b : Stp σ e Z H e' Z' H') : Frm σ0 e0 Z0 H0 σ e' Z' H' := by
  refine ⟨⟨f.st.z.trans b.z, fun q o hq n fr => b.h q o (f.st.h q o hq n fr) n (f.free fr), fun q h4 h0 hh fr => ?_, fun j dv ej oj => ?_, fun q hq => b.k q (f.st.k q hq)⟩, fun j dv ej oj => ?_⟩
  · by_cases hz : Z q = none
    · exact b.n q h4 hz (f.st.k q hh) (f.free fr)
    · exact f.st.n q hz h0 hh fr
  · obtain ⟨dv1, a, o⟩ := b.o j dv ej oj
    exact f.st.o j dv1 a o
  · obtain ⟨dv1, a, o⟩ := b.o j dv ej oj
    exact f.ss j dv1 a o
theorem Frm.wipe (f : Frm σ0 e0 Z0 H0 σ e Z H) (vs : List Nat) : Frm σ0 e0 Z0 H0 (L2.wipe σ vs) (wipeE e vs) Z H :=
  ⟨⟨f.st.z, f.st.h, f.st.n, fun j dv ej oj => f.st.o j dv (wipeE_in _ _ _ _ ej).2 oj, f.st.k⟩, fun j dv ej oj => by
    obtain ⟨a, b⟩ := wipeE_in _ _ _ _ ej
    rw [wipe_get _ _ _ a]; exact f.ss j dv b oj⟩
theorem Frm.tg {ts : List Nat} (f : Frm σ0 e0 Z0 H0 σ e Z H) (k : TgOk ts σ e σ' e') : Frm σ0 e0 Z0 H0 σ' e' Z H :=
  ⟨⟨f.st.z, f.st.h, f.st.n, fun j dv ej oj => f.st.o j dv (k.o j dv ej oj).2 oj, f.st.k⟩, fun j dv ej oj => by
    obtain ⟨a, b⟩ := k.o j dv ej oj
    rw [k.s j a]; exact f.ss j dv b oj⟩
theorem Frm.poke (f : Frm σ0 e0 Z0 H0 σ e Z H) (h0 : H0 D = none) (x : HO) : Frm σ0 e0 Z0 H0 σ e Z (upd H D x) :=
  ⟨⟨f.st.z, fun q o hq n fr => by rw [upd_ne (fun z => by rw [z, h0] at hq; cases hq)]; exact f.st.h q o hq n fr, f.st.n, f.st.o, fun q hq => by
    by_cases hqD : q = D
    · subst hqD; rw [upd_same]; simp
    · rw [upd_ne hqD]; exact f.st.k q hq⟩, f.ss⟩
end
section
variable {X : Cx} {F : Fm} {tg iter tg1 iter1 elt : Expr} {ifs ifs1 : List Expr} {pos : Pos} {y : Str} {fe : DEnv → Option (PyData × DEnv)} {fi fi1 : DEnv → Option (List PyData × DEnv)} {ft ft1 : DEnv → Option (Bool × DEnv)} {scope : Scope} {ts ts1 : List Nat} {g g1 : PyData → DEnv → Option DEnv}
end
end DL
end L2


set_option Elab.async false
set_option maxRecDepth 100000
set_option maxHeartbeats 4000000
set_option autoImplicit false
namespace L2
namespace DL
open PySem PySem.Spec PyProof.Rows
variable [Lab]
end DL
end L2


set_option Elab.async false
set_option maxRecDepth 100000
set_option maxHeartbeats 4000000
set_option autoImplicit false
namespace L2
namespace DL
open PySem PySem.Spec PyProof.Rows
variable [Lab]
section
variable {X : Cx} {F : Fm} {e : Expr} {y : Str} {pos pn tpos : Pos} {f fe : DEnv → Option (PyData × DEnv)}
end
end DL
end L2


set_option Elab.async false
set_option maxRecDepth 100000
set_option maxHeartbeats 4000000
set_option autoImplicit false
namespace L2
namespace DL
open PySem PySem.Spec PyProof.Rows
variable [Lab]
end DL
end L2


set_option Elab.async false
set_option maxRecDepth 100000
set_option maxHeartbeats 4000000
set_option autoImplicit false
namespace L2
namespace DL
open PySem PySem.Spec PyProof.Rows PySem.Calls
variable [Lab]
/-! ### any(l), l a list of ints -/
section
variable {X : Cx}
end
end DL
end L2


set_option Elab.async false
set_option maxRecDepth 100000
set_option maxHeartbeats 4000000
set_option autoImplicit false
namespace L2
namespace DL
open PySem PySem.Spec PyProof.Rows PySem.Calls
/-! ### nested keys -/
mutual
def nkOf : PyData → Option NestedKey
  | .none => some .none
  | .int i => some (.num i)
  | .str s => some (.text s)
  | .tuple ds => (nksOf ds).map .tup
  | .bool _ => none
  | .list _ => none
  | .dict _ => none
def nksOf : List PyData → Option (List NestedKey)
  | [] => some []
  | d :: ds => (nkOf d).bind fun k => (nksOf ds).map (k :: ·)
end
variable [Lab]
mutual
theorem nk_data : ∀ (d : PyData) (k : NestedKey), nkOf d = some k → k.data = d
  | .none, _, h => by cases h; rfl
  | .int _, _, h => by cases h; rfl
  | .str _, _, h => by cases h; rfl
  | .bool _, _, h => by cases h
  | .list _, _, h => by cases h
  | .dict _, _, h => by cases h
  | .tuple ds, k, h => by
    rw [nkOf] at h
    obtain ⟨ks, e, rfl⟩ := mpd h
    rw [NestedKey.data, nks_data ds ks e]
theorem nks_data : ∀ (ds : List PyData) (ks : List NestedKey), nksOf ds = some ks → NestedKey.datas ks = ds
  | [], _, h => by cases h; rfl
  | d :: ds, _, h => by
    rw [nksOf] at h
    obtain ⟨k, e1, h⟩ := bnd h
    obtain ⟨ks, e2, rfl⟩ := mpd h
    rw [NestedKey.datas, nk_data d k e1, nks_data ds ks e2]
end
mutual
theorem nk_of : ∀ k : NestedKey, nkOf k.data = some k
  | .none => rfl
  | .num _ => rfl
  | .text _ => rfl
  | .tup ks => by rw [NestedKey.data, nkOf, nks_of ks]; rfl
theorem nks_of : ∀ ks : List NestedKey, nksOf (NestedKey.datas ks) = some ks
  | [] => rfl
  | k :: ks => by rw [NestedKey.datas, nksOf, nk_of k, nks_of ks]; rfl
end
mutual
theorem dd_nk {X : Cx} {pins : List (Addr × Obj)} {σ : St} {H : Hp} {s : Shared} (I : Inv X pins σ H s) {Z : Hp} (sz : Same Z H) : ∀ (k : NestedKey) (v : V) (u : Value), DD X.K Z v k.data → RelV v u → NestedIs s.heap k u
  | .none, v, u, h, r => by cases h; cases (show u = Value.none from r); exact .none
  | .num i, v, u, h, r => by cases h; obtain ⟨t, rfl⟩ := (show ∃ t, u = Value.int i t from r); exact .int i t
  | .text x, v, u, h, r => by cases h; obtain ⟨t, rfl⟩ := (show ∃ t, u = Value.str x t from r); exact .text x t
  | .tup ks, v, u, h, r => by
    rw [NestedKey.data] at h
    cases h with
    | @tup a xs _ hs hd =>
      cases (show u = Value.ref a from r)
      obtain ⟨its, rv, ⟨o, h1, h2, n, h3⟩, _⟩ := I.tuple (same_sqT sz hs)
      exact .tup h1 h2 h3 (by simpa using dds_nk I sz ks xs its hd rv)
theorem dds_nk {X : Cx} {pins : List (Addr × Obj)} {σ : St} {H : Hp} {s : Shared} (I : Inv X pins σ H s) {Z : Hp} (sz : Same Z H) : ∀ (ks : List NestedKey) (vs : List V) (us : List Value), DDs X.K Z vs (NestedKey.datas ks) → Vals vs us → NestedAll s.heap ks us
  | [], _, _, h, r => by
    rw [NestedKey.datas] at h
    cases h; cases r; exact .nil
  | k :: ks, _, _, h, r => by
    rw [NestedKey.datas] at h
    cases h with
    | cons h1 h2 =>
      cases r with
      | cons r1 r2 => exact .cons (dd_nk I sz k _ _ h1 r1) (dds_nk I sz ks _ _ h2 r2)
end
/-! ### the dict as the library tells it -/
abbrev NEnt := NestedKey × Addr × V
end DL
end L2


set_option Elab.async false
set_option maxRecDepth 100000
set_option maxHeartbeats 4000000
set_option autoImplicit false
namespace L2
namespace DL
open PySem PySem.Spec PyProof.Rows PySem.Calls
variable [Lab]
/-! ### a display, its keys nested tuples -/
abbrev FD := DEnv → Option (PyData × DEnv)
end DL
end L2


set_option Elab.async false
set_option maxRecDepth 100000
set_option maxHeartbeats 4000000
set_option autoImplicit false
namespace L2
namespace DL
open PySem PySem.Spec PyProof.Rows PySem.Calls
variable [Lab]
/-! ### min(l, key=len) -/
section
variable {X : Cx} {pins : List (Addr × Obj)} {σ : St} {H : Hp}
/-- the least so far -/
structure Least (kf : Nat → Int) (i j : Nat) : Prop where
  lt : i < j
  le : ∀ k, k < j → kf i ≤ kf k ∧ (k < i → kf i < kf k)
omit [Lab] in
theorem Least.no {kf : Nat → Int} {i j : Nat} (h : Least kf i j) (n : ¬ kf j < kf i) : Least kf i (j + 1) := by
  refine ⟨by have := h.lt; omega, fun k hk => ?_⟩
  by_cases e : k = j
  · subst e
    exact ⟨by omega, fun z => by have := h.lt; omega⟩
  · exact h.le k (by omega)
omit [Lab] in
theorem Least.yes {kf : Nat → Int} {i j : Nat} (h : Least kf i j) (n : kf j < kf i) : Least kf j (j + 1) := by
  refine ⟨by omega, fun k hk => ?_⟩
  by_cases e : k = j
  · subst e
    exact ⟨Int.le_refl _, fun z => by omega⟩
  · have := (h.le k (by omega)).1
    exact ⟨by omega, fun z => by omega⟩
end
/-- the world that the dicts' hashes are of -/
class LabV (w : World) : Prop where
  eq : LabW.w = some w
end DL
end L2


set_option Elab.async false
set_option maxRecDepth 100000
set_option maxHeartbeats 4000000
set_option autoImplicit false
namespace L2
namespace DL
open PySem PySem.Spec PyProof.Rows
variable [Lab]
section
variable {X : Cx}
end
/-! ### a, b = a new list and data -/
section
variable {X : Cx} {F : Fm} {s : Stmt} {fn : DEnv → Option (List PyData × DEnv)} {f : DEnv → Option (PyData × DEnv)}
def sParND (i j : Nat) (fn : DEnv → Option (List PyData × DEnv)) (f : DEnv → Option (PyData × DEnv)) (env : DEnv) : Option DFlow := (fn env).bind fun x => (f x.2).map fun z => .nx ((z.2.set i (some (.ow x.1))).set j (some (.fr z.1)))
theorem ds_parND (i j : Nat) (hij : i ≠ j) (ha : PS X s (tPar i j (tCons (tDN X.K F fn) (tCons (tD X.K F f) tNil)))) : PDS X F s (sParND i j fn f) := ps_imp ha fun D σ H h => by
  obtain ⟨Z, env, fl, r, e, q⟩ := h
  obtain ⟨⟨d, e1⟩, h1, h⟩ := bnd e
  obtain ⟨⟨d3, e2⟩, h3, h⟩ := mpd h
  subst h
  refine ⟨Z, env, d, e1, r, h1, fun p xs Z1 H1 r1 s1 h0 hz hp dd => ⟨Z1, e1, d3, e2, r1, h3, fun v3 Z3 H3 r3 s3 dd3 => ⟨_, _, rfl, ?_⟩⟩⟩
  have fr1 : Fre σ e1 p := s1.fre (fre_new r h0)
  obtain ⟨hp3, zp3⟩ := stay_lst s3 fr1 hp hz
  have np : ¬ F.P p := fun z => (r.pp p z).1 h0
  have ng : F.G p = none := r.gh.free h0
  have ra := r3.storeN i (s3.fre fr1) np ng zp3 hp3 (DDsm dd s3.z)
  exact q _ Z3 H3 (ra.store j dd3) (s1.z.trans s3.z)
theorem ev_parND {i j : Nat} {env e1 e3 e4 : DEnv} {a : List PyData} {c : PyData} (h1 : fn env = some (a, e1)) (h3 : f e1 = some (c, e3)) (he : (e3.set i (some (.ow a))).set j (some (.fr c)) = e4) : sParND i j fn f env = some (.nx e4) := by
  unfold sParND; rw [h1]; show (f e1).map _ = _; rw [h3, ← he]; rfl
end
end DL
end L2


set_option Elab.async false
set_option maxRecDepth 100000
set_option maxHeartbeats 4000000
set_option autoImplicit false
namespace L2
namespace DL
open PySem PySem.Spec PyProof.Rows
variable [Lab]
/-! ### a call that reads an owned list and hands back data without lists: the list stays owned -/
mutual
def noL : PyData → Bool
  | .list _ => false
  | .dict _ => false
  | .tuple ds => noLs ds
  | _ => true
def noLs : List PyData → Bool
  | [] => true
  | d :: ds => noL d && noLs ds
end
/-- Z without the list at p -/
def offZ (Z : Hp) (p : Addr) : Hp := fun q => if q = p then none else Z q
theorem offZ_ne {Z : Hp} {p q : Addr} (h : q ≠ p) : offZ Z p q = Z q := if_neg h
mutual
theorem dd_off {K : PySem.W.Frag} {Z : Hp} {p : Addr} {xs : List V} (hp : Z p = some (.lst xs)) : ∀ (d : PyData) (v : V), noL d = true → DD K Z v d → DD K (offZ Z p) v d
  | .none, _, _, h => by cases h; exact .non
  | .bool _, _, _, h => by cases h; exact .bl _
  | .int _, _, _, h => by cases h; exact .int _
  | .str _, _, _, h => by cases h; exact .str _
  | .list _, _, n, _ => by cases n
  | .dict _, _, n, _ => by cases n
  | .tuple ds, _, n, h => by
    cases h with
    | tup hs hd =>
      refine .tup ?_ (dds_off hp ds _ n hd)
      rcases hs with h | h
      · refine .inl ?_
        rcases h with h | ⟨o, h⟩
        · exact .inl (by rw [offZ_ne (fun z => by rw [z, hp] at h; cases h)]; exact h)
        · exact .inr ⟨o, by rw [offZ_ne (fun z => by rw [z, hp] at h; cases h)]; exact h⟩
      · exact .inr h
theorem dds_off {K : PySem.W.Frag} {Z : Hp} {p : Addr} {xs : List V} (hp : Z p = some (.lst xs)) : ∀ (ds : List PyData) (vs : List V), noLs ds = true → DDs K Z vs ds → DDs K (offZ Z p) vs ds
  | [], _, _, h => by cases h; exact .nil
  | d :: ds, _, n, h => by
    obtain ⟨n1, n2⟩ := Bool.and_eq_true_iff.mp n
    cases h with
    | cons h1 h2 => exact .cons (dd_off hp d _ n1 h1) (dds_off hp ds _ n2 h2)
end
section
variable {X : Cx} {F : Fm} {k n : Nat} {f : Addr} {fd : FuncData} {ps : List Str} {x a y b : Str} {p pa py pb pos : Pos}
end
end DL
end L2


set_option Elab.async false
set_option maxRecDepth 100000
set_option maxHeartbeats 4000000
set_option autoImplicit false
namespace L2
namespace DL
open PySem PySem.Spec PyProof.Rows PySem.Calls
variable [Lab]
/-! ### a, b, c = a new dict, a new list, data -/
section
variable {X : Cx} {F : Fm} {s : Stmt} {fk : DEnv → Option (List (PyData × PyData) × DEnv)} {gn : DEnv → Option (List PyData × DEnv)} {f : DEnv → Option (PyData × DEnv)}
end
end DL
end L2


set_option Elab.async false
set_option maxRecDepth 100000
set_option maxHeartbeats 4000000
set_option autoImplicit false
namespace L2
namespace DL
open PySem PySem.Spec PyProof.Rows PySem.Calls
variable [Lab]
end DL
end L2


set_option Elab.async false
set_option maxRecDepth 100000
set_option maxHeartbeats 4000000
set_option autoImplicit false
namespace L2
namespace DL
open PySem PySem.Spec PyProof.Rows PySem.Calls
variable [Lab]
/-! ### xs[::-1], xs a list -/
section
variable {X : Cx} {F : Fm} {e : Expr} {f : DEnv → Option (PyData × DEnv)}
end
end DL
end L2


set_option Elab.async false
set_option maxRecDepth 100000
set_option maxHeartbeats 4000000
set_option autoImplicit false
namespace L2
open PySem PySem.Spec PyProof.Rows PySem.Calls
/-! ### set(t), t a tuple of ints -/
section
variable {X : Cx}
end
namespace DL
variable [Lab]
section
variable {X : Cx} {F : Fm} {e : Expr} {f : DEnv → Option (PyData × DEnv)}
end
end DL
end L2


set_option Elab.async false
set_option maxRecDepth 100000
set_option maxHeartbeats 4000000
set_option autoImplicit false
namespace L2
open PySem PySem.Spec PyProof.Rows PySem.Calls
section
variable {P : Program} {w : World} {A : Around} {E : Value → Shared → Prop} {s : Shared}
end
end L2


set_option Elab.async false
set_option maxRecDepth 100000
set_option maxHeartbeats 4000000
set_option autoImplicit false
namespace L2
open PySem PySem.Spec PyProof.Rows PySem.Calls
namespace DL
variable [DL.Lab]
end DL
section
variable [DL.Lab]
variable {X : Cx}
end
namespace DL
variable [DL.Lab]
section
variable {X : Cx} {F : Fm} {e : Expr} {f : DEnv → Option (PyData × DEnv)}
end
end DL
end L2


set_option Elab.async false
set_option maxRecDepth 100000
set_option maxHeartbeats 4000000
set_option autoImplicit false
namespace L2
namespace DL
open PySem PySem.Spec PyProof.Rows PySem.Calls
variable [Lab]
/-! ### list(range(i, j)), new -/
section
variable {X : Cx} {F : Fm} {a b : Expr} {f g : DEnv → Option (PyData × DEnv)}
end
end DL
end L2


set_option Elab.async false
set_option maxRecDepth 100000
set_option maxHeartbeats 4000000
set_option autoImplicit false
namespace L2
open PySem PySem.Spec PyProof.Rows PySem.Calls
section
variable {P : Program} {w : World} {A : Around} {E : Value → Shared → Prop} {s : Shared}
end
section
variable [DL.Lab]
variable {X : Cx}
end
end L2


set_option Elab.async false
set_option maxRecDepth 100000
set_option maxHeartbeats 4000000
set_option autoImplicit false
namespace L2
open PySem PySem.Spec PyProof.Rows PySem.Calls
namespace DL
variable [DL.Lab]
section
variable {X : Cx} {F : Fm} {e : Expr} {f : DEnv → Option (PyData × DEnv)}
end
end DL
end L2


set_option Elab.async false
set_option maxRecDepth 100000
set_option maxHeartbeats 4000000
set_option autoImplicit false
namespace L2
namespace DL
open PySem PySem.Spec PyProof.Rows PySem.Calls
variable [Lab]
section
variable {X : Cx} {F : Fm} {y : Str} {pn p cpos : Pos}
end
abbrev PK (K : PySem.W.Frag) (Z : Hp) : List (Key × V) → List (Key × PyData) → Prop := Paired fun a b => a.1 = b.1 ∧ DD K Z a.2 b.2
section
variable {X : Cx} {F : Fm} {o e1 e2 : Expr} {apos cpos : Pos} {f g h : FD}
end
section
variable {X : Cx} {F : Fm} {b : Expr} {nm : Str} {pos pn : Pos} {f : FD} {kvs : List (Str × PyData)}
end
end DL
end L2


set_option Elab.async false
set_option maxRecDepth 100000
set_option maxHeartbeats 4000000
set_option autoImplicit false
namespace L2
namespace DL
open PySem PySem.Spec PyProof.Rows PySem.Calls
variable [Lab]
section
variable {X : Cx} {pins : List (Addr × Obj)} {σ : St} {Fv : Fm}
/-- the state of the loop between two turns -/
structure MinS (X : Cx) (Fv : Fm) (pins : List (Addr × Obj)) (σ : St) (env : DEnv) (f c' I S l : Addr) (lo co : HO) (xs : List V) (ds : List PyData) (Z H : Hp) (s : Shared) : Prop where
  iv : Inv X pins σ H s
  rl : Rel X.K Fv Z H σ env
  hf : H f = some lo
  hc : H c' = some co
  hl : LsR X.K H l xs
  hd : DDs X.K Z xs ds
  fi : FpOk X pins H I
  fs : FpOk X pins H S
theorem MinS.at {env : DEnv} {f c' I S l : Addr} {lo co : HO} {xs : List V} {ds : List PyData} {Z H : Hp} {s s' : Shared} (m : MinS X Fv pins σ env f c' I S l lo co xs ds Z H s) (iv : Inv X pins σ H s') : MinS X Fv pins σ env f c' I S l lo co xs ds Z H s' :=
  ⟨iv, m.rl, m.hf, m.hc, m.hl, m.hd, m.fi, m.fs⟩
end
end DL
end L2


set_option Elab.async false
set_option maxRecDepth 100000
set_option maxHeartbeats 4000000
set_option autoImplicit false
namespace L2
namespace DL
open PySem PySem.Spec PyProof.Rows PySem.AutoSeq1
variable [Lab]
/-! ### xs.extend(tuple) -/
section
set_option maxRecDepth 8000
end
section
variable {X : Cx} {F : Fm} {a b e : Expr} {pos p pn : Pos} {x y : Str} {f g : DEnv → Option (PyData × DEnv)}
end
end DL
end L2


set_option Elab.async false
set_option maxRecDepth 100000
set_option maxHeartbeats 4000000
set_option autoImplicit false
namespace L2
namespace DL
open PySem PySem.Spec PyProof.Rows PySem.Calls
variable [Lab]
section
variable {X : Cx} {F : Fm} {e : Expr} {f : DEnv → Option (PyData × DEnv)}
end
end DL
end L2


set_option Elab.async false
set_option maxRecDepth 100000
set_option maxHeartbeats 4000000
set_option autoImplicit false
namespace L2
namespace DL
open PySem PySem.Spec PyProof.Rows PySem.Calls
variable [Lab]
/-! ### repr of data that may hold empty dicts -/
mutual
def emD : PyData → Bool
  | .list ds => emDs ds
  | .tuple ds => emDs ds
  | .dict kvs => kvs.isEmpty
  | _ => true
def emDs : List PyData → Bool
  | [] => true
  | d :: ds => emD d && emDs ds
end
abbrev reprOkE (d : PyData) : Bool := d.showable && emD d && decide (d.shown.length ≤ sizeLine) && decide (d.depth ≤ 64)
def reprE : List PyData → Option PyData
  | [d] => if reprOkE d then some (.str d.shown) else none
  | _ => none
section
variable {X : Cx} {pins : List (Addr × Obj)} {σ : St} {H : Hp} {s : Shared}
theorem dd_emp (I : Inv X pins σ H s) {v : V} (h : DD X.K H v (.dict [])) : ∃ a o es ep, v = .ref a ∧ (a == sysModules) = false ∧ s.heap.get? a = some o ∧ o.cls = .type "dict" ∧ o.data = .dict es ep ∧ es.toList = [] := by
  cases h with
  | @dct a xs _ e hi =>
    cases hi
    obtain ⟨_, hs, vs, rel, o, es, ep, ho, hx, hd, _, hp, _⟩ := dk_of I.hok e
    cases rel
    refine ⟨a, o, es, ep, rfl, hs, ho, hx.1, hd, ?_⟩
    generalize es.toList = l at hp
    cases hp
    rfl
  | @dcn a o xs _ e hf hk =>
    cases hk
    obtain ⟨w', es, ep, _, hd, hp⟩ := hf.es
    obtain ⟨hh, _, _⟩ := I.hok a _ e
    refine ⟨a, o, es, ep, rfl, hf.hd, hh, hf.ex.1, hd, ?_⟩
    generalize es.toList = l at hp
    cases hp
    rfl
/-- what is read is shown so -/
abbrev RkD (X : Cx) (s : Shared) (u : Value) (d : PyData) : Prop := (∃ as, Reads s.heap u d as) ∧ ∃ bs, ReadAtMost s.heap d.depth bs ∧ ReprK X.prog X.w bs s.heap d.depth u d.shown
abbrev RkDs (X : Cx) (s : Shared) (us : List Value) (ds : List PyData) : Prop := (∃ as, ReadsAll s.heap us ds as) ∧ ∃ bs, ReadAtMost s.heap (PyData.depthAll ds) bs ∧ ReprAllK X.prog X.w bs s.heap (PyData.depthAll ds) us (PyData.shownAll ds)
theorem rk_atom {u : Value} {d : PyData} (hr : Reads s.heap u d []) (hk : ∀ n, ReprK X.prog X.w [] s.heap n u d.shown) : RkD X s u d := ⟨⟨_, hr⟩, [], (fun _ h => nomatch h), hk _⟩
mutual
theorem dd_rk (I : Inv X pins σ H s) : ∀ (d : PyData) (v : V) (u : Value), DD X.K H v d → RelV v u → emD d = true → d.showable = true → d.shown.length ≤ sizeLine → RkD X s u d
  | .none, _, _, h, r, _, _, _ => by
    cases h
    cases r
    exact rk_atom .none fun n => ReprK.of_is ReprIs.none _ _ _
  | .bool b, _, _, h, r, _, _, _ => by
    cases h
    cases r
    exact rk_atom (.bool b) fun n => ReprK.of_is (ReprIs.bool b) _ _ _
  | .int i, _, _, h, r, _, c, _ => by
    cases h.int_inv
    obtain ⟨t, rfl⟩ := r
    exact rk_atom (.int i t) fun n => ReprK.of_is (ReprIs.int t (of_decide_eq_true c)) _ _ _
  | .str x, _, _, h, r, _, _, z => by
    cases h
    obtain ⟨t, rfl⟩ := r
    exact rk_atom (.str x t) fun n => ReprK.of_is (ReprIs.str x t z) _ _ _
  | .list ds, _, _, h, r, em, c, z => by
    cases h with
    | @lst a xs _ hs ha =>
      cases r
      obtain ⟨its, rv, ⟨o, n, ho, hc, _, hd⟩, _⟩ := I.list hs.sq
      have z1 : (listText (PyData.shownAll ds)).length ≤ sizeLine := z
      obtain ⟨⟨as, hr⟩, bs, hb, hk⟩ := dds_rk I ds xs its ha rv em c fun t ht => Nat.le_trans (listText_mem_le ht) z1
      have rd : Reads s.heap (.ref a) (.list ds) (a :: as) := .list ho hc hd hr
      have hna : a ∉ bs := not_mem_of_deeper rd (Nat.lt_succ_self _) hb
      refine ⟨⟨_, rd⟩, a :: bs, ReadAtMost.cons rd (Nat.le_succ _) hb, ?_⟩
      cases its with
      | nil =>
        cases hr
        exact ReprK.listEmpty ho hc hd
      | cons y l => exact ReprK.list ho hc hd hna (by simpa using hk.length_eq) fun i y e => hk.item i y (by simpa using e)
  | .tuple ds, _, _, h, r, em, c, z => by
    cases h with
    | @tup a xs _ hs ha =>
      cases r
      obtain ⟨its, rv, ⟨o, ho, hc, n, hd⟩, _⟩ := I.tuple hs
      have z1 : (tupleText (PyData.shownAll ds)).length ≤ sizeLine := z
      obtain ⟨⟨as, hr⟩, bs, hb, hk⟩ := dds_rk I ds xs its ha rv em c fun t ht => Nat.le_trans (tupleText_mem_le ht) z1
      have rd : Reads s.heap (.ref a) (.tuple ds) as := .tuple ho hc hd hr
      have hna : a ∉ bs := not_mem_of_deeper rd (Nat.lt_succ_self _) hb
      exact ⟨⟨_, rd⟩, a :: bs, ReadAtMost.cons rd (Nat.le_succ _) hb, ReprK.tuple ho hc hd hna hk⟩
  | .dict kvs, _, _, h, r, em, c, z => by
    have hk : kvs = [] := List.isEmpty_iff.mp em
    subst hk
    obtain ⟨a, o, es, ep, rfl, hsy, ho, hc, hd, he⟩ := dd_emp I h
    cases r
    have rd : Reads s.heap (.ref a) (.dict []) (a :: [] ++ []) := .dict ho hc hd (by rw [he]; exact .nil) (by rw [he]; exact .nil)
    refine ⟨⟨_, rd⟩, a :: [], ReadAtMost.cons (n := 0) (bs := []) rd (Nat.zero_le _) (fun _ h => nomatch h), ?_⟩
    exact ReprK.dict (d := 0) (ps := []) ho hc hd hsy (fun h => nomatch h) (by rw [he]; exact .nil)
theorem dds_rk (I : Inv X pins σ H s) : ∀ (ds : List PyData) (vs : List V) (us : List Value), DDs X.K H vs ds → Vals vs us → emDs ds = true → PyData.showableAll ds = true → (∀ t ∈ PyData.shownAll ds, t.length ≤ sizeLine) → RkDs X s us ds
  | [], _, _, h, r, _, _, _ => by
    cases h
    cases r
    exact ⟨⟨_, .nil⟩, [], (fun _ h => nomatch h), .nil⟩
  | d :: ds, _, _, h, r, em, c, z => by
    cases h with
    | cons h1 h2 =>
      cases r with
      | cons r1 r2 =>
        have em' : (emD d && emDs ds) = true := em
        have c' : (d.showable && PyData.showableAll ds) = true := c
        rw [Bool.and_eq_true] at em' c'
        obtain ⟨⟨as, q1⟩, b1, hb1, k1⟩ := dd_rk I d _ _ h1 r1 em'.1 c'.1 (z _ List.mem_cons_self)
        obtain ⟨⟨cs, q2⟩, b2, hb2, k2⟩ := dds_rk I ds _ _ h2 r2 em'.2 c'.2 fun t ht => z t (List.mem_cons_of_mem _ ht)
        refine ⟨⟨_, .cons q1 q2⟩, b1 ++ b2, ReadAtMost.append (hb1.mono (Nat.le_max_left _ _)) (hb2.mono (Nat.le_max_right _ _)), ?_⟩
        exact .cons ((k1.more fun b hb => List.mem_append_left _ hb).level_le (Nat.le_max_left _ _)) (k2.more_le (fun b hb => List.mem_append_right _ hb) (Nat.le_max_right _ _))
end
/-- the object at a, shown by its type's own -/
theorem dd_shows (I : Inv X pins σ H s) {d : PyData} {v : V} {a : Addr} (h : DD X.K H v d) (rv : RelV v (.ref a)) (em : emD d = true) (c : d.showable = true) (z : d.shown.length ≤ sizeLine) : ∃ T idr, ShowsBy X.prog X.w s.heap a d T idr := by
  cases h with
  | non => cases rv
  | bl b => cases rv
  | int i => obtain ⟨t, e⟩ := rv; cases e
  | str x => obtain ⟨t, e⟩ := rv; cases e
  | @lst a' xs ds hs ha =>
    cases rv
    obtain ⟨its, rv, ⟨o, n, ho, hc, _, hd⟩, _⟩ := I.list hs.sq
    have z1 : (listText (PyData.shownAll ds)).length ≤ sizeLine := z
    obtain ⟨⟨as, hr⟩, bs, hb, hk⟩ := dds_rk I ds xs its ha rv em c fun t ht => Nat.le_trans (listText_mem_le ht) z1
    have rd : Reads s.heap (.ref a) (.list ds) (a :: as) := .list ho hc hd hr
    have hna : a ∉ bs := not_mem_of_deeper rd (Nat.lt_succ_self _) hb
    refine ⟨"list", "list.__repr__", F.slot_list_repr.toG, F.slot_list_str, F.slot_list_format, fun s2 k => ⟨o, k _ _ ho, hc⟩, fun A2 E2 s2 Q2 hg hu k hQ => ?_⟩
    cases its with
    | nil =>
      cases hr
      exact call_list_repr_empty ⟨o, k _ _ ho, hc⟩ (k _ _ ho) hd (hQ s2.heap _ _ fun _ _ e => e)
    | cons y l => exact call_list_reprK ho hc hd hna (by simpa using hk.length_eq) (fun i y e => hk.item i y (by simpa using e)) hg (fun b _ => Clear.nil b) hu k hQ z1
  | @tup a' xs ds hs ha =>
    cases rv
    obtain ⟨its, rv, ⟨o, ho, hc, n, hd⟩, _⟩ := I.tuple hs
    have z1 : (tupleText (PyData.shownAll ds)).length ≤ sizeLine := z
    obtain ⟨⟨as, hr⟩, bs, hb, hk⟩ := dds_rk I ds xs its ha rv em c fun t ht => Nat.le_trans (tupleText_mem_le ht) z1
    have rd : Reads s.heap (.ref a) (.tuple ds) as := .tuple ho hc hd hr
    have hna : a ∉ bs := not_mem_of_deeper rd (Nat.lt_succ_self _) hb
    exact ⟨"tuple", "tuple.__repr__", F.slot_tuple_repr, F.slot_tuple_str, F.slot_tuple_format, fun s2 k => ⟨o, k _ _ ho, hc⟩, fun A2 E2 s2 Q2 hg hu k hQ => call_tuple_reprK ho hc hd hna hk hg (fun b _ => Clear.nil b) hu k hQ z1⟩
  | exc _ _ _ _ _ => cases em
  | exn _ _ => cases em
  | @dct a' xs kvs e hi =>
    have hk : kvs = [] := List.isEmpty_iff.mp em
    subst hk
    obtain ⟨a2, o, es, ep, e2, hsy, ho, hc, hd, he⟩ := dd_emp I (.dct e hi)
    cases e2
    cases rv
    exact ⟨"dict", "dict.__repr__", F.slot_dict_repr, F.slot_dict_str, F.slot_dict_format, fun s2 k => ⟨o, k _ _ ho, hc⟩, fun A2 E2 s2 Q2 hg hu k hQ => call_dict_reprK (as := []) (d := 0) (ps := []) ho hc hd hsy (fun h => nomatch h) (by rw [he]; exact .nil) hg (fun b _ => Clear.nil b) hu k hQ z⟩
  | @dcn a' o' xs kvs e hf hi =>
    have hk : kvs = [] := List.isEmpty_iff.mp em
    subst hk
    obtain ⟨a2, o, es, ep, e2, hsy, ho, hc, hd, he⟩ := dd_emp I (.dcn e hf hi)
    cases e2
    cases rv
    exact ⟨"dict", "dict.__repr__", F.slot_dict_repr, F.slot_dict_str, F.slot_dict_format, fun s2 k => ⟨o, k _ _ ho, hc⟩, fun A2 E2 s2 Q2 hg hu k hQ => call_dict_reprK (as := []) (d := 0) (ps := []) ho hc hd hsy (fun h => nomatch h) (by rw [he]; exact .nil) hg (fun b _ => Clear.nil b) hu k hQ z⟩
end
section
variable {X : Cx} {F : Fm}
theorem cd_reprE {k : Nat} (hr : Room k X.A) (hgd : GdOk X.A) (hl : Lab.gd) : CallD X (.builtin "repr") reprE := by
  have hg := hgd hl
  intro pins s σ H xs us Q I r h
  obtain ⟨Z, ds, d, sz, hd, e, q⟩ := h
  match ds, hd, e with
  | [a], hd, e =>
    change (if reprOkE a then some (PyData.str a.shown) else none) = some d at e
    split at e
    case isFalse => cases e
    rename_i hc
    simp only [reprOkE, Bool.and_eq_true, decide_eq_true_eq] at hc
    obtain ⟨⟨⟨c1, c2⟩, c3⟩, c4⟩ := hc
    cases e
    obtain ⟨v, rfl, h1⟩ := dds1 hd
    obtain ⟨u, rfl, rv⟩ := vals1 r
    have hun := hr.un
    have h2 := DDm h1 sz
    have fin : ∀ l, u = .ref l → wpAny (model X.prog X.w) X.A (call (.builtin "repr") [u]) (EP X pins σ Q) X.xe s := fun l hl => by
      subst hl
      obtain ⟨T, idr, S⟩ := dd_shows I h2 rv c2 c1 c3
      refine call_repr_slot (by omega) (S.typeIs s fun _ _ e => e) S.slotRepr (S.call X.A.in1 _ s _ hg (by show X.A.units + 1 + a.depth < cLine; omega) (fun _ _ e => e) fun h' u tk hk => ⟨_, _, rfl, ?_⟩)
      exact ⟨.str _, H, I.kept hk, ⟨_, rfl⟩, q _ Z H (Grow.refl sz) (.str _)⟩
    cases h1 with
    | non => cases rv; exact PySem.P.repr_of_none ⟨.str _, H, I.tok _, ⟨_, rfl⟩, q _ Z H (Grow.refl sz) (.str _)⟩
    | bl b => cases rv; exact PySem.P.repr_of_bool ⟨.str _, H, I.tok _, ⟨_, rfl⟩, q _ Z H (Grow.refl sz) (.str _)⟩
    | int i =>
      obtain ⟨t, rfl⟩ := rv
      exact PySem.P.repr_of_int (of_decide_eq_true c1) ⟨.str _, H, I.tok _, ⟨_, rfl⟩, q _ Z H (Grow.refl sz) (.str _)⟩
    | str z =>
      obtain ⟨t, rfl⟩ := rv
      exact PySem.P.repr_of_str ⟨.str _, H, I.tok _, ⟨_, rfl⟩, q _ Z H (Grow.refl sz) (.str _)⟩ c3
    | lst _ _ => exact fin _ rv
    | tup _ _ => exact fin _ rv
    | dct _ _ => exact fin _ rv
    | dcn _ _ _ => exact fin _ rv
    | exc _ _ _ _ _ => exact fin _ rv
    | exn _ _ => exact fin _ rv
end
end DL
end L2


set_option Elab.async false
set_option maxRecDepth 100000
set_option maxHeartbeats 4000000
set_option autoImplicit false
namespace L2
namespace DL
open PySem PySem.Spec PyProof.Rows
variable [Lab]
/-! ### a, b = data and a new list -/
section
variable {X : Cx} {F : Fm} {s : Stmt} {f : DEnv → Option (PyData × DEnv)} {gn : DEnv → Option (List PyData × DEnv)}
end
end DL
end L2


set_option Elab.async false
set_option maxRecDepth 100000
set_option maxHeartbeats 4000000
set_option autoImplicit false
namespace L2
namespace DL
open PySem PySem.Spec PyProof.Rows
/-! ### except (A, B): the clause's type is a tuple of names -/
theorem flyZ_keeps {B h h' : Heap} {l : List Env} {a : Addr} {Z : Obj → Prop} (x : HandSPX.FlyingZ B l a Z h) (k : ∀ b o, h.get? b = some o → h'.get? b = some o) : HandSPX.FlyingZ B l a Z h' := by
  obtain ⟨x1, x2, x3, oe, vs, T, oT, ts, e1, e2, e3, e4, e5, e6, e7, e8, e9⟩ := x
  exact ⟨fun b o q => k b o (x1 b o q), x2, x3.of_keeps fun b o q _ => ⟨o, k b o q, rfl⟩, oe, vs, T, oT, ts, k _ _ e1, e2, e3, e4, e5, e6, k _ _ e7, e8, e9⟩
def TupT (X : Cx) (t : Expr) (cl : List Value) : Prop :=
  ∀ (a : Addr) (oe : Obj) (pn : List (Addr × Obj)) (σ : St) (H : Hp) (s : Shared) (cls : Value) (b : Bool) (Q : Bool → Shared → Prop) (E : Value → Shared → Prop), Inv (X.suite a ((a, oe) :: pn)) [] σ H s → PySem.W.Looks (model X.prog X.w) s.heap (typeOf (.ref a)) cls → PySem.W.exmAny X.K cls cl = some b →
    (∀ h', (∀ q o, s.heap.get? q = some o → h'.get? q = some o) → Q b { s with heap := h' }) → wpAny (model X.prog X.w) (X.A.mark (some (.ref a))) (eval t X.env) (fun c s₁ => wpAny (model X.prog X.w) (X.A.mark (some (.ref a))) (excMatches (.ref a) c) Q E s₁) E s
section
variable {X : Cx}
theorem name_ld {x : Str} {c : Value} {np : Pos} (hc : Names X x c) {a : Addr} {pn : List (Addr × Obj)} {σ : St} {H : Hp} {s : Shared} (I : Inv (X.suite a pn) [] σ H s) {Q : Value → Shared → Prop} {E : Value → Shared → Prop} (q : Q c s) :
    wpAny (model X.prog X.w) (X.A.mark (some (.ref a))) (eval (.Name x np) X.env) Q E s := by
  obtain ⟨hg, hdbg, hm | ⟨hm, hv, hnn⟩⟩ := hc
  · exact ld_glob (X := X.suite a pn) I hg hm q hdbg
  · exact ld_blt (X := X.suite a pn) I hg hm hv q hnn hdbg
theorem tupT3 {x1 x2 x3 : Str} {c1 c2 c3 : Value} {p1 p2 p3 tp : Pos} {kk : Nat} (h1 : Names X x1 c1) (h2 : Names X x2 c2) (h3 : Names X x3 c3) : TupT X (.Tuple [.Name x1 p1, .Name x2 p2, .Name x3 p3] kk tp) [c1, c2, c3] := by
  intro a oe pn σ H s cls b Q E I LT he q
  refine wpAny_Tuple (wpAny_items_cons (name_ld h1 I (wpAny_items_cons (name_ld h2 I (wpAny_items_cons (name_ld h3 I (wpAny_items_nil ⟨by size_fits, ?_⟩)))))))
  have kp : ∀ q o, s.heap.get? q = some o → (s.heap.push { cls := .type "tuple", data := .seq [c1, c2, c3].toArray }).get? q = some o := fun _ _ z => Heap.get?_push_of_some _ z
  exact (PySem.W.exm_tup3 (I.kIn.keeps kp) (LT.keeps kp) (Heap.get?_push_size s.heap rfl) he).here (q _ kp)
end
/-- no clause is left: the frame holds the exception -/
theorem none_left {prog : Program} {w : World} {A : Around} {E : Value → Shared → Prop} {s : Shared} {Q : Flow → Shared → Prop} {B : Heap} {env : Env} {l : List Env} {a L : Addr} {Z : Obj → Prop} (hf : env.frame = some L) (fl : HandSPX.FlyingZ B l a Z s.heap)
    (k : ∀ h', HandSPX.HeldZ B l a Z L h' → s.heap.UpToSlots h' → E (.ref a) { s with heap := h' }) : wpAny (model prog w) A (handleBy (.ref a) env []) Q E s := by
  obtain ⟨_, _, _, oe, vs, T, oT, ts, ae, az, ad, a1, _⟩ := id fl
  apply wpAny_handleBy_nil
  unfold PySem.passOn
  refine wpAny_bind (wpAny_field ae ad a1 ?_)
  have nn : ¬ ((Value.ref T == Value.none) = true) := by simp
  have up : wpAny (model prog w) A (setFlight (.ref a) env.frame) (fun _ s1 => wpAny (model prog w) A (throw (.ref a) : Sem Flow) Q E s1) E s := hf ▸ HandSPX.setFlight_upZ fl fun h1 hh u1 => wpAny_throw (k h1 hh u1)
  rw [if_neg nn]
  first
    | exact wpAny_bind (wpAny_pure (wpAny_bind up))
    | exact wpAny_bind up
section
variable {X : Cx} {t : Expr} {cl : List Value} {body suite : List Stmt} {b₀ : Stmt} {pos pos' : Pos} {tb : WX → TS} {ts : Addr → Value → Option Addr → TS} {Wout : WX}
end
theorem exm3 {K : PySem.W.Frag} {cls c1 c2 c3 : Value} {a b c : Bool} (h1 : PySem.W.exmOne K cls c1 = some a) (h2 : PySem.W.exmOne K cls c2 = some b) (h3 : PySem.W.exmOne K cls c3 = some c) : PySem.W.exmAny K cls [c1, c2, c3] = some (a || (b || c)) := by
  simp only [PySem.W.exmAny, h1, h2, h3, Bool.or_false]
def mt2 (m1 m2 : Str → Option Bool) (c : Str) : Option Bool := (m1 c).bind fun a => (m2 c).map fun b => a || b
def mt3 (m1 m2 m3 : Str → Option Bool) (c : Str) : Option Bool := (m1 c).bind fun a => (mt2 m2 m3 c).map fun b => a || b
theorem mtk3 {K : PySem.W.Frag} {C : Str → Addr} {m1 m2 m3 : Str → Option Bool} {v1 v2 v3 : Value} (h1 : ∀ c b, m1 c = some b → PySem.W.exmOne K (.ref (C c)) v1 = some b) (h2 : ∀ c b, m2 c = some b → PySem.W.exmOne K (.ref (C c)) v2 = some b) (h3 : ∀ c b, m3 c = some b → PySem.W.exmOne K (.ref (C c)) v3 = some b) : ∀ c b, mt3 m1 m2 m3 c = some b → PySem.W.exmAny K (.ref (C c)) [v1, v2, v3] = some b := fun c b h => by
  obtain ⟨a, e1, h⟩ := Option.bind_eq_some_iff.mp h
  obtain ⟨y, e4, h⟩ := Option.map_eq_some_iff.mp h
  obtain ⟨a2, e2, h'⟩ := Option.bind_eq_some_iff.mp e4
  obtain ⟨a3, e3, h'⟩ := Option.map_eq_some_iff.mp h'
  subst h' h
  exact exm3 (h1 c a e1) (h2 c a2 e2) (h3 c a3 e3)
section
variable [Lab]
end
end DL
end L2


set_option Elab.async false
set_option maxRecDepth 100000
set_option maxHeartbeats 4000000
set_option autoImplicit false
namespace L2
namespace DL
open PySem PySem.Spec PyProof.Rows
variable [Lab]
/-! ### calls that may raise within an expression -/
section
variable {X : Cx} {F : Fm} {a b c e : Expr} {rest : List Expr} {pos : Pos} {f g : DEnv → Option DX} {fd : DEnv → Option (PyData × DEnv)} {ft : DEnv → Option (Bool × DEnv)}
theorem FinE.mono {K : PySem.W.Frag} {Z Z1 : Hp} {env e1 : DEnv} {σ : St} {H H1 : Hp} {Q : VK} {r : DX} (q : FinE K F Z env σ H Q r) (s : Stp σ env Z H e1 Z1 H1) : FinE K F Z1 e1 σ H1 Q r := by
  cases r with
  | ok d e' => exact fun v Z' H' r' s' dd => q v Z' H' r' (s.trans s') dd
  | ex c a d e' => exact fun v p Z' H' r' s' x0 x1 x2 x3 x4 dd => q v p Z' H' r' (s.trans s') (s.new x0) x1 x2 x3 x4 dd
/-- a if c else b, a and b may raise -/
def fIfX (ft : DEnv → Option (Bool × DEnv)) (f g : DEnv → Option DX) (env : DEnv) : Option DX := (ft env).bind fun x => if x.1 then f x.2 else g x.2
theorem pdx_if (hc : PDT X F c ft) (ha : PDX X F a f) (hb : PDX X F b g) : PDX X F (.IfExp c a b pos) (fIfX ft f g) := pe_imp (pe_ifExp hc ha hb) fun σ H Q h => by
  obtain ⟨Z, env, r, rl, e, q⟩ := h
  obtain ⟨⟨x, e1⟩, h1, h⟩ := bnd e
  refine ⟨Z, env, x, e1, rl, h1, fun Z1 H1 r1 s1 => ?_⟩
  cases x with
  | true => exact iteT ⟨Z1, e1, r, r1, h, q.mono s1⟩
  | false => exact iteF ⟨Z1, e1, r, r1, h, q.mono s1⟩
end
/-! ### their evaluation -/
section
variable {f g : DEnv → Option DX} {fd : DEnv → Option (PyData × DEnv)} {ft : DEnv → Option (Bool × DEnv)} {env e1 e2 : DEnv}
theorem ev_cX {m : List PyData → Option XR} {fa : DEnv → Option (List PyData × DEnv)} {ds : List PyData} {r : XR} (h : fa env = some (ds, e1)) (h2 : m ds = some r) : fCX m fa env = some (toX e1 r) := by
  unfold fCX; rw [h]; show (m ds).map _ = _; rw [h2]; rfl
theorem ev_ifX {k : Bool} {r : DX} (h : ft env = some (k, e1)) (h2 : (if k then f e1 else g e1) = some r) : fIfX ft f g env = some r := by unfold fIfX; rw [h]; exact h2
end
end DL
end L2


set_option Elab.async false
set_option maxRecDepth 100000
set_option maxHeartbeats 4000000
set_option autoImplicit false
namespace L2
namespace DL
open PySem PySem.Spec PyProof.Rows
section
variable [Lab]
end
end DL
end L2


set_option Elab.async false
set_option maxRecDepth 100000
set_option maxHeartbeats 4000000
set_option autoImplicit false
namespace L2
namespace DL
open PySem PySem.Spec PyProof.Rows
variable [Lab]
end DL
end L2


set_option Elab.async false
set_option maxRecDepth 100000
set_option maxHeartbeats 4000000
set_option autoImplicit false
namespace L2
namespace DL
open PySem PySem.Spec PyProof.Rows
variable [Lab]
end DL
end L2


set_option Elab.async false
set_option maxRecDepth 100000
set_option maxHeartbeats 4000000
set_option autoImplicit false
namespace L2
namespace DL
open PySem PySem.Spec PyProof.Rows
variable [Lab]
/-! ### a, b, c = data, a new list, data -/
section
variable {X : Cx} {F : Fm} {s : Stmt} {gn : DEnv → Option (List PyData × DEnv)} {fd f : DEnv → Option (PyData × DEnv)}
end
end DL
end L2


/-! own exceptions over LookupError, each with its one attribute -/
set_option maxRecDepth 4000
namespace PySem
namespace OEL
open PySem.W PySem.Calls PyProof.Rows PySem.HandSPX
abbrev leTail : List Value := [.type "LookupError", .type "Exception", .type "BaseException", .type "object"]
def isRf : Value → Bool
  | .ref _ => true
  | _ => false
/-- own classes, then the mro of LookupError -/
def leB : List Value → Bool
  | [] => false
  | a :: r => (isRf a && leB r) || (a :: r == leTail)
inductive LeM : List Value → Prop where
  | tail : LeM leTail
  | ref (c : Addr) {l : List Value} (h : LeM l) : LeM (.ref c :: l)
theorem LeM.contains (X : String) {l : List Value} (h : LeM l) : l.contains (.type X) = leTail.contains (.type X) := by
  induction h with
  | tail => rfl
  | ref c h ih => rw [List.contains_cons, ih]; rfl
theorem LeM.some {l : List Value} (h : LeM l) : l.isEmpty = false := by
  cases h <;> rfl
section
open Builtin Builtin.ObjectAttr
variable {prog : Program} {w : World} {A : Around} {E : Value → Shared → Prop} {R : Result → Shared → Prop} {hp : Heap} {g : Array GenState} {d : Drawn} {t : Nat} {os : OsState}
end
end OEL
end PySem
namespace L2
open PySem PySem.Spec PyProof.Rows PySem.OEL
/-- what is known of an own class over LookupError -/
structure OexL (K : PySem.W.Frag) (C : Addr) : Prop where
  cls : ∃ nm q N bs bm sn sub ab col dd k0 k1 k2 k3 k5, K.lookup C = some (excClassObj nm q C N bs bm true sn sub ab col dd k0 k1 k2 k3 k5 "LookupError.__new__") ∧ leB bm = true
  sa : PySem.W.findIn K (.ref C) "__setattr__" = some (some (.builtin "object.__setattr__"))
  exC : PySem.W.subIn K (.ref C) (.type "BaseException") = some true
  tyC : PySem.W.typeIn K (.ref C) = some (.type "type")
  kC : PySem.W.keepIn K (.ref C) = true
section
variable {X : Cx} {pins : List (Addr × Obj)} {σ : St} {H : Hp} {s : Shared} {a C dx : Addr} {f : Str} {y : V} {u : Value} {Q : Unit → Shared → Prop} {E : Value → Shared → Prop} {A : Around}
end
namespace DL
variable [Lab]
end DL
end L2


set_option Elab.async false
set_option maxRecDepth 100000
set_option maxHeartbeats 4000000
set_option autoImplicit false
namespace L2
namespace DL
open PySem PySem.Spec PyProof.Rows PySem.Calls
variable [Lab]
/-! ### len(set(t)), t a tuple of ints -/
section
variable {X : Cx} {F : Fm} {e : Expr} {f : DEnv → Option (PyData × DEnv)}
end
end DL
end L2


set_option Elab.async false
set_option maxRecDepth 100000
set_option maxHeartbeats 4000000
set_option autoImplicit false
namespace L2
namespace DL
open PySem PySem.Spec PyProof.Rows
/-! ### exceptions are kept -/
theorem exo_okD {P : Program} {w : World} {H : Hp} {h : Heap} {a : Addr} {cls : Value} {d : Option Addr} {oe : Obj} {vs : Array Value} (e : h.get? a = some oe) (z : Zc cls d oe) (hd : oe.data = .fields vs) : ObjOk P w H h a (ExO a cls d) :=
  ⟨⟨oe, vs, e, z.1, z.2, hd⟩, ⟨oe, e⟩, fun _ _ ⟨o, v, q, r⟩ k => ⟨o, v, k o q, r⟩⟩
section
variable {X : Cx} {pins : List (Addr × Obj)} {σ : St} {H : Hp} {s : Shared}
/-- an object that is there, but was not at the entry, is known from now on -/
theorem inv_hold (I : Inv X pins σ H s) {a : Addr} {o : HO} (na : H a = none) (ok : ObjOk X.prog X.w (upd H a o) s.heap a o) (n0 : X.s_0.heap.get? a = none) (nL : a ≠ X.env.locals) (nc : ∀ x c, X.env.cells.lookup x = some c → c ≠ a) (np : ∀ p ∈ X.pn ++ pins, p.1 ≠ a) : Inv X pins σ (upd H a o) s := by
  have ne0 : ∀ b ob, X.s_0.heap.get? b = some ob → b ≠ a := fun b ob e z => by
    rw [z, n0] at e
    cases e
  have neN : ∀ b u, H b = some u → b ≠ a := fun b u e => ne_of_none e na
  refine ⟨I.ok, I.os, I.bare, ⟨I.base.keep, I.base.slot, fun b ob e n hx => ?_, I.base.there, fun b xs e => ?_, fun b ob u e => ?_, fun b ps e => ?_⟩, I.loc, I.cell, ?_, fun x c e => ?_, fun p hp => ?_, fun b u e => ?_, I.len⟩
  · rw [upd_ne (ne0 b ob e)]; exact I.base.free b ob e n hx
  · have q := I.base.tups b xs e
    rw [upd_ne (neN b _ q)]; exact q
  · have q := I.base.frzs b ob u e
    rw [upd_ne (neN b _ q)]; exact q
  · obtain ⟨m, q⟩ := I.base.tbls b ps e
    exact ⟨m, by rw [upd_ne (neN b _ q)]; exact q⟩
  · rw [upd_ne nL.symm]; exact I.free
  · rw [upd_ne (nc x c e)]; exact I.freeC x c e
  · obtain ⟨e, n, ne, nf, d⟩ := I.pin p hp
    exact ⟨e, by rw [upd_ne (np p hp)]; exact n, ne, nf, d⟩
  · by_cases hb : b = a
    · subst hb
      rw [upd_same] at e
      cases e
      exact ok
    · rw [upd_ne hb] at e
      exact (I.hok b u e).stay (fun _ _ _ q => q) (fun c q => by rw [upd_ne (neN c _ q)]; exact q) fun c xs q => by rw [upd_ne (neN c _ q)]; exact q
theorem inv_suite0 (I : Inv X pins σ H s) (a : Addr) : Inv (X.suite a (X.pn ++ pins)) [] σ H s :=
  ⟨I.ok.suite _ _, I.os, I.bare, I.base, I.loc, I.cell, I.free, I.freeC, fun p hp => I.pin p (by rw [List.append_nil] at hp; exact hp), I.hok, I.len⟩
theorem inv_unsuite0 {a : Addr} {pn' : List (Addr × Obj)} (I : Inv (X.suite a (X.pn ++ pins)) pn' σ H s) (ok : X.Ok) : Inv X pins σ H s :=
  ⟨ok, I.os, I.bare, I.base, I.loc, I.cell, I.free, I.freeC, fun p hp => I.pin p (List.mem_append_left _ hp), I.hok, I.len⟩
end
/-- what such a clause wishes of an exception of the body: slot i is the name's, the exception is known from then on -/
def wHold (K : PySem.W.Frag) (cl : List Value) (i : Nat) (ts : Addr → Value → Option Addr → TS) (Wout : WX) (D : Ends) : WX := fun cls d σ H =>
  ∃ b, PySem.W.exmAny K cls cl = some b ∧ (b = true → ∀ a, H a = none → ts a cls d { nx := fun σ' H' => D.nx (σ'.set i none) H', rt := D.rt, bk := fun σ' H' => D.bk (σ'.set i none) H', ct := fun σ' H' => D.ct (σ'.set i none) H' } (σ.set i (some (.ref a))) (upd H a (ExO a cls d))) ∧ (b = false → Wout cls d σ H)
section
variable {X : Cx} {t : Expr} {n : Str} {cl : List Value} {i : Nat} {body suite : List Stmt} {b₀ : Stmt} {pos pos' : Pos} {tb : WX → TS} {ts : Addr → Value → Option Addr → TS} {Wout : WX}
theorem ps_try_hold (hs : X.stack = X.env :: X.outer) (hf : X.env.frame = some X.env.locals) (hex : X.ex = []) (hN : X.N.Nodup) (hi : X.N[i]? = some n) (hln : X.env.kindOf n = some .local) (hc : TupT X t cl) (tk : Takes X Wout)
    (hb : ∀ (W : WX) (pn : List (Addr × Obj)) (xe : Value → Shared → Prop), Takes (X.tr pn xe) W → PassesOwn (model X.prog X.w) X.A X.env xe → PSs (X.tr pn xe) body (tb W))
    (hsu : ∀ (a : Addr) (cls : Value) (d : Option Addr) (pn : List (Addr × Obj)), PSs (X.suite a pn) (b₀ :: suite) (ts a cls d)) :
    PS X (.Try body [.ExceptHandler (some t) (some n) (b₀ :: suite) pos'] [] [] pos) (fun D σ H => tb (wHold X.K cl i ts Wout D) D σ H) := by
  constructor
  intro pins s σ H D I h
  have ok := I.ok
  have hloc : Loc X.env.scope n := .inl hln
  have fr : X.A.frames = some (X.env :: X.outer) := ok.frames.trans (congrArg some hs)
  refine wpAny_Try_except (wpAny_mono ((hb (wHold X.K cl i ts Wout D) (X.pn ++ pins) (fun e s₁ => wpAny (model X.prog X.w) X.A (noteFrame e X.env) (fun _ s₂ => wpAny (model X.prog X.w) X.A (setFlight e none) (fun _ s₃ =>
    wpAny (model X.prog X.w) X.A (handleBy e X.env [.ExceptHandler (some t) (some n) (b₀ :: suite) pos']) (SP X pins D) X.xe s₃) X.xe s₂) X.xe s₁) (fun u s' xx => ?_) PassesOwn.looking).run [] s σ H D (I.toTry _) h) (fun f s1 hsp => ?_) fun e s1 he => he)
  · obtain ⟨a, B, sI, pins', σ', H', cls, d, rfl, J0, nb, up, sky, na, os, ag, b, hb1, yes, no⟩ := xx
    have J := J0.ofTry ok
    rw [hs] at sky
    have aB : B.get? a = none := by
      rcases sky with ⟨_, z, _⟩ | z | z
      · exact z
      · exact z.2.1
      · exact z.2.1
    show wpAny (model X.prog X.w) X.A (noteFrame (.ref a) X.env) _ _ _
    refine Sky.land Zc.steady fr hf sky fun h3 fl up3 => ?_
    obtain ⟨oe, vs, ae, az, ad⟩ := fl.there
    have J3 : Inv X pins σ' H' { s' with heap := h3 } := J.landed nb fl.1 (up.trans up3) os ag
    have away : a ∉ frs (X.env :: X.outer) := fun hm => by
      obtain ⟨_, o', e', nf⟩ := fl.2.2.1.mem hm
      rw [ae] at e'
      cases e'
      exact nf _ ad
    have aI : sI.heap.get? a = none := by
      cases q : sI.heap.get? a with
      | none => rfl
      | some o =>
        have := nb a o q (by rw [hs]; exact away)
        rw [aB] at this
        cases this
    have a0 : X.s_0.heap.get? a = none := by
      cases q : X.s_0.heap.get? a with
      | none => rfl
      | some o =>
        obtain ⟨o', z⟩ := J.base.there a o q (by rw [hex]; exact fun z => nomatch z)
        rw [aI] at z
        cases z
    have aC : ∀ x c, X.env.cells.lookup x = some c → c ≠ a := fun x c e z => by
      obtain ⟨v, o, ho, _⟩ := J.cell x c e
      rw [z, aI] at ho
      cases ho
    have aP : ∀ p ∈ X.pn ++ pins, p.1 ≠ a := fun p hp z => by
      have := (J.pin p hp).1
      rw [z, aI] at this
      cases this
    have aL : a ≠ X.env.locals := fun z => away (List.mem_filterMap.mpr ⟨X.env, List.mem_cons_self, by rw [hf, z]⟩)
    have aF : a ∉ X.fs := fun hm => by
      obtain ⟨e, he, q⟩ := List.mem_filterMap.mp hm
      exact away (List.mem_filterMap.mpr ⟨e, List.mem_cons_of_mem _ he, q⟩)
    refine wpAny_handleBy_cons (codeAny_handlers_test (hc a oe _ σ' H' _ cls b _ _ (J3.suite ae ad na aL aF) (fun A Q E s k q => wpAny_typeOf_ref (k _ _ ae) (by rw [az.1]; exact q)) hb1 fun h4 kp => ?_)) (by intro q; cases q)
    have fl4 := flyZ_keeps fl kp
    cases b with
    | true =>
      refine codeAny_handlers_suite_as (HandSPX.lands_againZ fl4 fun h5 fl5 up5 => ?_)
      obtain ⟨oe5, vs5, ae5, az5, ad5⟩ := fl5.there
      have J5 : Inv X pins σ' H' { s' with heap := h5 } := J.landed nb fl5.1 (((up.trans up3).trans (Heap.UpToSlots.of_keeps kp)).trans up5) os ag
      have J6 : Inv X pins σ' (upd H' a (ExO a cls d)) { s' with heap := h5 } := inv_hold J5 na (exo_okD ae5 az5 ad5) a0 aL aC aP
      refine store_ok (X := X.suite a (X.pn ++ pins)) (v := .ref a) (inv_suite0 J6 a) hN hi hloc rfl (fun s5 S5 => ?_) (.inr hln)
      have end_ : ∀ {s6 : Shared} {σ6 : St} {H6 : Hp} {Q : Shared → Prop}, Inv (X.suite a (X.pn ++ pins)) [] σ6 H6 s6 → (∀ s7, Inv X pins (σ6.set i none) H6 s7 → Q s7) →
          wpAny (model X.prog X.w) X.A (do bindName X.env n .none; unbindBehindTheSuite X.env n pos') (fun _ s7 => Q s7) X.xe s6 := fun {s6 σ6 H6 Q} S6 hq => gone_ok (inv_unsuite0 S6 ok) hN hi hln hq
      refine wpAny_mono ((hsu a cls d (X.pn ++ pins)).run [] _ _ _ _ S5 (yes rfl a na)) (fun f s6 hsp => ?_) fun _ _ z => False.elim z
      cases f with
      | ret u => obtain ⟨v, σ6, H6, S, r, q⟩ := hsp; exact end_ S fun s7 J7 => ⟨_, _, _, J7, r, q⟩
      | next => obtain ⟨σ6, H6, S, q⟩ := hsp; exact end_ S fun s7 J7 => ⟨_, _, J7, q⟩
      | brk => obtain ⟨σ6, H6, S, q⟩ := hsp; exact end_ S fun s7 J7 => ⟨_, _, J7, q⟩
      | cont => obtain ⟨σ6, H6, S, q⟩ := hsp; exact end_ S fun s7 J7 => ⟨_, _, J7, q⟩
    | false =>
      show wpAny _ X.A (handleBy (.ref a) X.env []) _ _ _
      refine none_left hf fl4 fun h5 hh5 up5 => tk _ _ ?_
      exact ⟨a, B, sI, pins, σ', H', cls, d, rfl, J, nb, ((up.trans up3).trans (Heap.UpToSlots.of_keeps kp)).trans up5, .inr (.inr (by rw [hs]; exact hh5)), na, os, ag, no rfl⟩
  · cases f with
    | ret u => obtain ⟨v, σ', H', J, r, q⟩ := hsp; exact ⟨v, σ', H', J.ofTry ok, r, q⟩
    | next => obtain ⟨σ', H', J, q⟩ := hsp; exact wpAny_execs_nil ⟨σ', H', J.ofTry ok, q⟩
    | brk => obtain ⟨σ', H', J, q⟩ := hsp; exact ⟨σ', H', J.ofTry ok, q⟩
    | cont => obtain ⟨σ', H', J, q⟩ := hsp; exact ⟨σ', H', J.ofTry ok, q⟩
end
end DL
end L2


set_option Elab.async false
set_option maxRecDepth 100000
set_option maxHeartbeats 4000000
set_option autoImplicit false
namespace L2
namespace DL
open PySem PySem.Spec PyProof.Rows
variable [Lab]
/-! ### an exception in a slot -/
/-- an exception's dict is known from now on -/
theorem rel_adopt {K : PySem.W.Frag} {F : Fm} {Z H : Hp} {σ : St} {env : DEnv} {p : Addr} {fs : List (Str × V)} (r : Rel K F Z H σ env) (hz : Z p = none) (hg : F.G p = none) (hp : ¬ F.P p) (hh : H p = some (.xd fs)) : Rel K F (upd Z p (.xd fs)) H σ env := by
  have hZ : Same Z (upd Z p (.xd fs)) := .of (same_new hz _)
  refine ⟨r.z0.trans hZ, ⟨fun b x q n => ?_, fun b q => ?_⟩, r.gh, fun q hq => ?_, fun q hq => ?_, r.len, fun j dv ej => ?_, r.inj, r.tb⟩
  · by_cases hb : b = p
    · subst hb; rw [upd_same] at q; cases q; exact hh
    · rw [upd_ne hb] at q; exact r.zh.h b x q n
  · by_cases hb : b = p
    · subst hb; rw [hh]; simp
    · rw [upd_ne hb] at q; exact r.zh.k b q
  · by_cases hb : q = p
    · subst hb; exact .inr ⟨hg, hp⟩
    · rw [upd_ne hb] at hq; exact r.nw q hq
  · obtain ⟨a, b, c⟩ := r.pp q hq
    refine ⟨a, ?_, c⟩
    rw [upd_ne (show q ≠ p from fun z => hp (by rw [← z]; exact hq))]; exact b
  · have s := r.sl j dv ej
    cases dv with
    | fr d => obtain ⟨v, a, b⟩ := s; exact ⟨v, a, DDm b hZ⟩
    | ow es =>
      obtain ⟨p', xs', a1, a2, a3, a4, a5, a6⟩ := s
      have hne : p' ≠ p := fun z => by rw [z, hh] at a5; cases a5
      exact ⟨p', xs', a1, a2, a3, by rw [upd_ne hne]; exact a4, a5, DDsm a6 hZ⟩
    | rf es =>
      obtain ⟨p', xs', a1, a2, a5, a6⟩ := s
      exact ⟨p', xs', a1, a2, a5, DDsm a6 hZ⟩
    | fn n => exact s
    | dk es =>
      obtain ⟨p', o', xs', a1, a2, a3, a4, a5, a6, a7⟩ := s
      have hne : p' ≠ p := fun z => by rw [z, hh] at a5; cases a5
      exact ⟨p', o', xs', a1, a2, a3, by rw [upd_ne hne]; exact a4, a5, a6, ddk_mono hZ _ _ a7⟩
/-- the classes whose exceptions a clause may keep, each with its attribute -/
structure ExKp (K : PySem.W.Frag) (mt : Str → Option Bool) (at' : Str → Str) : Prop where
  k : ∀ c, mt c = some true → KEx K (LabW.C c)
  n : ∀ c, mt c = some true → PySem.W.findIn K (.ref (LabW.C c)) (at' c) = some none
theorem dd_exc {K : PySem.W.Frag} {Z H : Hp} {a p : Addr} {c an : Str} {v : V} {d : PyData} (s : Same Z H) (k : KEx K (LabW.C c)) (hn : PySem.W.findIn K (.ref (LabW.C c)) an = some none) (h0 : H a = none) (hp : Z p = some (.xd [(an, v)])) (hd : DD K Z v d) :
    DD K (upd Z a (ExO a (.ref (LabW.C c)) (some p))) (.ref a) (excD c an d) :=
  .exc upd_same (by rw [upd_ne (ne_of_none hp (s.free h0))]; exact hp) k hn (DDm hd (.of (same_new (s.free h0) _)))
/-! ### try .. except (A, B, C) as e: .. -/
def sTryAs (mt : Str → Option Bool) (at' : Str → Str) (i : Nat) (gb gh : DEnv → Option DFlow) (env : DEnv) : Option DFlow := (gb env).bind fun fl => match fl with
  | .ex c a d e => (mt c).bind fun b => if b then if a = at' c then (gh (e.set i (some (.fr (excD c a d))))).bind fun f2 => match f2 with
      | .nx e2 => some (.nx (e2.set i none))
      | .bk e2 => some (.bk (e2.set i none))
      | .ct e2 => some (.ct (e2.set i none))
      | .rt d e2 => some (.rt d e2)
      | .rn d e2 => some (.rn d e2)
      | .ex _ _ _ _ => none
    else none else some (.ex c a d e)
  | fl => some fl
theorem ds_tryAs {X : Cx} {F : Fm} {t : Expr} {n : Str} {i : Nat} {cl : List Value} {body suite : List Stmt} {b₀ : Stmt} {pos pos' : Pos} {mt : Str → Option Bool} {at' : Str → Str} {gb gh : DEnv → Option DFlow} (hmt : ∀ c b, mt c = some b → PySem.W.exmAny X.K (.ref (LabW.C c)) cl = some b) (hk : ExKp X.K mt at')
    (hs : X.stack = X.env :: X.outer) (hf : X.env.frame = some X.env.locals) (hex : X.ex = []) (hN : X.N.Nodup) (hi : X.N[i]? = some n) (hln : X.env.kindOf n = some .local) (hc : TupT X t cl) (tk : Takes X (wx LabW.C F.W))
    (hb : ∀ (F' : Fm) (pn : List (Addr × Obj)) (xe : Value → Shared → Prop), Takes (X.tr pn xe) (wx LabW.C F'.W) → PassesOwn (model X.prog X.w) X.A X.env xe → PDSs (X.tr pn xe) F' body gb)
    (hsu : ∀ (a : Addr) (pn : List (Addr × Obj)), PDSs (X.suite a pn) F (b₀ :: suite) gh) :
    PDS X F (.Try body [.ExceptHandler (some t) (some n) (b₀ :: suite) pos'] [] [] pos) (sTryAs mt at' i gb gh) := by
  refine ps_imp (ps_try_hold (tb := fun W => tDS X.K { F with W := fun c d σ H => W (.ref (LabW.C c)) d σ H } gb) (ts := fun _ _ _ => tDS X.K F gh) hs hf hex hN hi hln hc tk (fun W pn xe tk' hp => hb _ pn xe (tk'.imp fun cls d σ H h => ?_) hp) fun a cls d pn => hsu a pn) fun D σ H h => ?_
  · obtain ⟨c, rfl, h⟩ := h
    exact h
  · obtain ⟨Z, env, fl, r, e, q⟩ := h
    obtain ⟨f1, h1, h⟩ := bnd e
    refine ⟨Z, env, f1, r.wish, h1, ?_⟩
    cases f1 with
    | nx e1 => cases h; exact fun σ' Z' H' r' s' => q σ' Z' H' r'.unwish s'
    | rt d e1 => cases h; exact fun v σ' Z' H' r' s' dd => q v σ' Z' H' r'.unwish s' dd
    | rn ds e1 => cases h; exact fun p xs σ' Z' H' r' s' a1 a2 a3 a4 dd => q p xs σ' Z' H' r'.unwish s' a1 a2 a3 a4 dd
    | bk e1 => cases h; exact fun σ' Z' H' r' s' => q σ' Z' H' r'.unwish s'
    | ct e1 => cases h; exact fun σ' Z' H' r' s' => q σ' Z' H' r'.unwish s'
    | ex c a d e1 =>
      obtain ⟨b, h2, h⟩ := bnd h
      refine fun v p σ' Z' H' r' s' a1 a2 a3 a4 dd => ⟨b, hmt c b h2, fun hbt a0 na => ?_, fun hbf => ?_⟩
      · subst hbt
        rw [if_pos rfl] at h
        split at h
        case isFalse => cases h
        rename_i hat
        subst hat
        obtain ⟨f2, h3, h⟩ := bnd h
        have r1 := rel_adopt r'.unwish a1 a2 a3 a4
        have z1 : Same Z' (upd Z' p (.xd [(at' c, v)])) := .of (same_new a1 _)
        have gr := grow_new r1.zh na (ExO a0 (.ref (LabW.C c)) (some p))
        have r2 := (r1.grow gr).store i (dd_exc r1.zh (hk.k c h2) (hk.n c h2) na upd_same (DDm dd z1))
        refine ⟨_, _, f2, r2, h3, ?_⟩
        have zz := (s'.trans z1).trans gr.z
        cases f2 with
        | nx e2 => cases h; exact fun σ6 Z6 H6 r6 s6 => q _ Z6 H6 (r6.drop i) (zz.trans s6)
        | bk e2 => cases h; exact fun σ6 Z6 H6 r6 s6 => q _ Z6 H6 (r6.drop i) (zz.trans s6)
        | ct e2 => cases h; exact fun σ6 Z6 H6 r6 s6 => q _ Z6 H6 (r6.drop i) (zz.trans s6)
        | rt d e2 => cases h; exact fun v σ6 Z6 H6 r6 s6 dd => q v σ6 Z6 H6 r6 (zz.trans s6) dd
        | rn ds e2 => cases h; exact fun p xs σ6 Z6 H6 r6 s6 => q p xs σ6 Z6 H6 r6 (zz.trans s6)
        | ex c a d e2 => cases h
      · subst hbf
        rw [if_neg (by decide)] at h
        cases h
        exact ⟨c, rfl, q v p σ' Z' H' r'.unwish s' a1 a2 a3 a4 dd⟩
/-! ### isinstance(e, C), C a class of exceptions -/
def fIsC (m : Str → Option Bool) (f : DEnv → Option (PyData × DEnv)) (env : DEnv) : Option (PyData × DEnv) := (f env).bind fun x => match x.1 with
  | .dict [(.dict [], .tuple [.str c, .str _, _])] => (m c).map fun b => (.bool b, x.2)
  | .dict [(.dict [], .tuple [.str c])] => (m c).map fun b => (.bool b, x.2)
  | _ => none
section
variable {X : Cx} {F : Fm} {e : Expr} {f : DEnv → Option (PyData × DEnv)} {p pn pos : Pos}
theorem ddi_dict {K : PySem.W.Frag} {H : Hp} {xs : List (Key × V)} {kvs : List (PyData × PyData)} {x y : PyData} {r : List (PyData × PyData)} (h : DDi K H xs kvs) (e : kvs = (.dict [], y) :: r) : False := by
  cases h with
  | nil => cases e
  | @cons k v xs vd kvs h1 h2 => cases k <;> cases e
theorem ddk_dict {K : PySem.W.Frag} {H : Hp} {xs : List NEnt} {kvs : List (PyData × PyData)} {y : PyData} {r : List (PyData × PyData)} (h : DDk K H xs kvs) (e : kvs = (.dict [], y) :: r) : False := by
  cases h with
  | nil => cases e
  | @cons k a v xs kd vd kvs h0 h1 h2 h3 =>
    cases e
    cases k <;> cases h0
theorem dd_ex1 {K : PySem.W.Frag} {H : Hp} {x : V} {c an : Str} {d : PyData} (h : DD K H x (excD c an d)) : ∃ a dx v, x = .ref a ∧ H a = some (ExO a (.ref (LabW.C c)) (some dx)) ∧ H dx = some (.xd [(an, v)]) ∧ KEx K (LabW.C c) ∧ PySem.W.findIn K (.ref (LabW.C c)) an = some none ∧ DD K H v d := by
  cases h with
  | dct _ hi => exact (ddi_dict (x := .none) hi rfl).elim
  | dcn _ _ hi => exact (ddk_dict hi rfl).elim
  | exc e1 e2 k n hd => exact ⟨_, _, _, rfl, e1, e2, k, n, hd⟩
theorem dd_ex0 {K : PySem.W.Frag} {H : Hp} {x : V} {c : Str} (h : DD K H x (exnD c)) : ∃ a, x = .ref a ∧ H a = some (ExO a (.ref (LabW.C c)) none) ∧ KEx K (LabW.C c) := by
  cases h with
  | dct _ hi => exact (ddi_dict (x := .none) hi rfl).elim
  | dcn _ _ hi => exact (ddk_dict hi rfl).elim
  | exn e1 k => exact ⟨_, rfl, e1, k⟩
theorem pd_isC {tn : Str} {m : Str → Option Bool} {cx : V} {cv : Value} (hcl : ClsV cx cv) (hm' : ∀ c b, m c = some b → PySem.W.kitOne X.K (.ref (LabW.C c)) cv = some b) (hn : PE X (.Name tn pn) (tC cx)) (hm : X.mg "isinstance" = none) (ha : PD X F e f) (hg : Gl X "isinstance" := by rfl)
    (he : starEach [e, .Name tn pn] X.env = (false, eval e X.env) :: starEach [.Name tn pn] X.env := by rfl) (he2 : starEach [.Name tn pn] X.env = (false, eval (.Name tn pn) X.env) :: starEach [] X.env := by rfl) (hpl : (backTo pos (starEach [.Name tn pn] X.env)).any (·.1) = false := by rfl) :
    PD X F (.Call (.Name "isinstance" p) [e, .Name tn pn] [] pos) (fIsC m f) :=
  pe_imp (pe_callB call_isiY hg hm (by decide +kernel) (pa_cons ha (pa_cons hn pa_nil he2) he) (by decide) (by decide) he hpl) fun σ H Q h => by
    obtain ⟨Z, env, d, env', r, e, q⟩ := h
    obtain ⟨⟨i, e1⟩, h1, e⟩ := bnd e
    refine ⟨Z, env, i, e1, r, h1, fun v Z1 H1 r1 s1 d1 => ?_⟩
    dsimp only at e
    split at e
    · rename_i c an d0
      obtain ⟨b, h2, e⟩ := mpd e
      cases e
      obtain ⟨a, dx, w, rfl, e1, e2, k, _, _⟩ := dd_ex1 (DDm d1 r1.zh)
      exact ⟨_, cx, _, cv, b, rfl, hcl, .inr (.inr ⟨a, _, rfl, rfl, k, .inr ⟨dx, _, e1, e2⟩⟩), hm' c b h2, q _ Z1 H1 r1 s1 (.bl _)⟩
    · rename_i c
      obtain ⟨b, h2, e⟩ := mpd e
      cases e
      obtain ⟨a, rfl, e1, k⟩ := dd_ex0 (DDm d1 r1.zh)
      exact ⟨_, cx, _, cv, b, rfl, hcl, .inr (.inr ⟨a, _, rfl, rfl, k, .inl e1⟩), hm' c b h2, q _ Z1 H1 r1 s1 (.bl _)⟩
    · cases e
/-! ### e.f -/
def fExA (n : Str) (f : DEnv → Option (PyData × DEnv)) (env : DEnv) : Option (PyData × DEnv) := (f env).bind fun x => match x.1 with
  | .dict [(.dict [], .tuple [.str _, .str an, d])] => if an = n then some (d, x.2) else none
  | _ => none
theorem pd_exA {n : Str} (ha : PD X F e f) (hb : attributeBase e n X.env (eval e X.env) = eval e X.env := by rfl) : PD X F (.Attribute e n pos) (fExA n f) := by
  refine ⟨fun pins s σ H Q I h => ?_⟩
  obtain ⟨Z, env, d, env', r, e, q⟩ := h
  obtain ⟨⟨i, e1⟩, h1, e⟩ := bnd e
  dsimp only at e
  split at e
  case h_2 => cases e
  rename_i c an d0
  split at e
  case isFalse => cases e
  rename_i han
  cases e
  subst han
  refine attr_of hb (thn (ha.run pins s σ H (fun v H1 => ∃ Z1, Rel X.K F Z1 H1 σ env' ∧ Stp σ env Z H env' Z1 H1 ∧ DD X.K Z1 v (excD c an d)) I ⟨Z, env, _, env', r, h1, fun v Z1 H1 r1 s1 d1 => ⟨Z1, r1, s1, d1⟩⟩) fun u s1 hh => ?_)
  obtain ⟨x, H1, I1, rx, Z1, r1, st, d1⟩ := hh
  obtain ⟨a, dx, w, rfl, e1', e2, k, hn, dw⟩ := dd_ex1 d1
  obtain rfl : u = Value.ref a := rx
  have f1 := r1.zh.h _ _ e1' nt_exo
  have f2 := r1.zh.h _ _ e2 nt_xd
  obtain ⟨⟨oe, vs, g1, g2, g3, g4⟩, _, _⟩ := (show ObjOk X.prog X.w H1 s1.heap a (ExO a (.ref (LabW.C c)) (some dx)) from I1.hok a _ f1)
  obtain ⟨mA, hns, hr⟩ := (show ObjOk X.prog X.w H1 s1.heap dx (.xd [(an, w)]) from I1.hok dx _ f2)
  obtain ⟨od, ho, hl⟩ := lookIn_ns hns
  obtain ⟨u, hu, ru⟩ := RelO.some_of (v := w) (o := mA an) (by
    have := hr an
    rw [show ([(an, w)] : List (Str × V)).lookup an = some w by simp [List.lookup]] at this
    exact this)
  have J : PySem.W.InstAt s1.heap a oe (LabW.C c) (some od) := ⟨g1, g2, by unfold PySem.W.notCls; rw [g4] <;> rfl, by rw [g3]; exact ho⟩
  exact HandSPX.exc_get I1.kIn J k.hga k.hgt k.hsub (PySem.W.findObj_own k.hdct hn rfl (by rw [hl, hu])) (handed_of ru) ⟨w, H1, I1.tok _, ru, q w Z1 H1 r1 st dw⟩
end
/-! ### xs.count(e) -/
def rCountD (K : PySem.W.Frag) : V → List V → Hp → VK → Prop := fun x xs H Q => ∃ (a : Addr) (y : V) (d : PyData) (ds : List PyData), x = V.ref a ∧ xs = [y] ∧ Dp K H (V.ref a) (.list ds) ∧ Dp K H y d ∧
  SeqAt.shaped (.list ds) = true ∧ SeqAt.shaped d = true ∧ Q (.int (ds.countP fun z => PyData.eqv z d : Nat)) H
omit [Lab] in
theorem mt_countD {X : Cx} (hu : X.A.units + 65 < cLine) : MtR X "list.count" (rCountD X.K) := by
  intro pins s σ H x xs v us Q I rx rxs h
  obtain ⟨a, y, d, ds, rfl, rfl, hl, hy, sl, sd, q⟩ := h
  cases rx
  cases rxs with
  | cons ry rt =>
    rename_i uy ut
    cases rt
    obtain ⟨bs, r1⟩ := Dp.reads I d y uy hy ry
    have hxs : PyData.canLayAll0 ds = true := SeqAt.canLay_of_shaped sl
    have hroom : X.A.units + 1 + min (PyData.depthAll ds) d.depth < cLine := room_in_shaped sd hu
    cases hl with
    | lst hs ha =>
      obtain ⟨its, rv, ⟨⟨cls, dd, data, sls⟩, n, ho, hc, hdn, hdt⟩, hlen⟩ := I.list hs
      simp only at hc hdt
      subst hc hdt
      obtain ⟨as, h4⟩ := Dp.readsAll I ds _ its ha rv
      have hmap : its.map (SeqAt.readOf s.heap) = ds := SeqAt.readsAll_map ds its as hxs h4
      refine call_meets PySem.F.slot_list_count ⟨_, ho, rfl⟩ PySem.F.entry_list_count (PySem.F.args_list_count_2 _ _)
        (SeqAt.list_countAt a its.toArray n dd sls uy (fun u => PyData.eqv (SeqAt.readOf s.heap u) d)) ⟨ho, SeqAt.items_eqAt (vs := its.toArray) (show ReadsAll s.heap its.toArray.toList ds as from h4) r1 hxs (SeqAt.canLay_of_shaped sd) hroom, ?_⟩
      have e : (its.toArray.toList.countP fun u => PyData.eqv (SeqAt.readOf s.heap u) d) = ds.countP fun z => PyData.eqv z d := by
        rw [← hmap, List.countP_map]
        rfl
      rw [e]
      exact ⟨.int _, H, I.tok _, ⟨_, rfl⟩, q⟩
def fCntD (j : Nat) (f : DEnv → Option (PyData × DEnv)) (env : DEnv) : Option (PyData × DEnv) :=
  (rdO j env).bind fun _ => (f env).bind fun x => (rdO j x.2).bind fun es => if shD (.list es) && shD x.1 then some (.int (es.countP fun z => PyData.eqv z x.1 : Nat), x.2) else none
section
variable {X : Cx} {F : Fm} {e : Expr} {f : DEnv → Option (PyData × DEnv)} {p pn pos : Pos} {y : Str}
end
end DL
end L2


set_option Elab.async false
set_option maxRecDepth 100000
set_option maxHeartbeats 4000000
set_option autoImplicit false
namespace L2
namespace DL
open PySem PySem.Spec PyProof.Rows PySem.Calls
variable [Lab]
/-! ### a lambda handed to a def that catches what it raises -/
section
variable {X : Cx} {pins : List (Addr × Obj)} {σ : St} {H : Hp} {s : Shared}
end
abbrev RestOk (P : Program) (w : World) (K : PySem.W.Frag) (mg : Str → Option Value) (base : Heap) (N : List Str) (qual : Str) (st : Stmt) (f : Addr) (cv : Value) (k : Nat) (rest : List Stmt) (g : DEnv → Option DFlow) : Prop :=
  ∀ (cdv : Value) (A : Around) (outer : List Env) (s : Shared) (H : Hp) (E : XK) (F : Fm), cdv = cv → F.W = W0 → GdOk (A.deeper (envOfC qual (defScope st) s.heap.objs.size f cdv)) → Room k (A.deeper (envOfC qual (defScope st) s.heap.objs.size f cdv)) →
    PDSs (cxOf CX0 P w K mg base N qual (defScope st) f cdv A outer s H E).nox F rest g
section
variable {X : Cx} {F : Fm} {mt : Str → Option Bool} {at' : Str → Str} {cl : List Value} {x a y n : Str} {g c P : Addr} {k i j nS : Nat} {stg : Stmt} {fdg : FuncData} {Ng : List Str} {t : Expr} {rest : List Stmt} {gr : DEnv → Option DFlow} {fX : DEnv → Option DX}
  {params : Arguments} {body : Expr} {scope : Scope} {p lpos pos p1 p2 p3 p4 p5 p6 p7 p8 p9 p10 p11 : Pos} {j0 : Nat}
end
/-! ### checks of classes -/
section
omit [Lab]
def kexB (K : PySem.W.Frag) (C : Addr) : Bool :=
  (PySem.W.clsIn K C).isSome && (decide (PySem.W.findIn K (.ref C) "__getattribute__" = some (some (.builtin "BaseException.__getattribute__"))) && (decide (PySem.W.findIn K (.ref C) "__getattr__" = some none) && (decide (PySem.W.subIn K (.ref C) (.type "BaseException") = some true) && (PySem.W.hasDictIn K C &&
  (decide (PySem.W.findIn K (.ref C) "__class__" = some (some (.builtin "object.__class__"))) && (decide (PySem.W.specialIn K (.builtin "object.__class__") "__get__" = some (some (.builtin "getset_descriptor.__get__"))) && (decide (PySem.W.takesIn K (.builtin "object.__class__") = some true) && (decide (PySem.W.mroIn K C (.type "object") = some true) &&
  fiveT.all fun T => decide (PySem.W.kitOne K (.ref C) (.type T) = some false)))))))))
theorem kexB_ok {K : PySem.W.Frag} {C : Addr} (h : kexB K C = true) : KEx K C := by
  unfold kexB at h
  simp only [Bool.and_eq_true, decide_eq_true_eq, List.all_eq_true] at h
  obtain ⟨h1, h2, h3, h4, h5, h6, h7, h8, h9, h10⟩ := h
  exact ⟨h1, h2, h3, h4, h5, h6, h7, h8, h9, h10⟩
def kitTab (K : PySem.W.Frag) (l : List (Addr × Value × Bool)) : Bool := l.all fun x => decide (PySem.W.kitOne K (.ref x.1) x.2.1 = some x.2.2)
end
theorem RestOk.mono {P : Program} {w : World} {K : PySem.W.Frag} {mg : Str → Option Value} {base : Heap} {N : List Str} {qual : Str} {st : Stmt} {f : Addr} {cv : Value} {k k' : Nat} {rest : List Stmt} {g : DEnv → Option DFlow} (h : RestOk P w K mg base N qual st f cv k rest g) (hk : k ≤ k') : RestOk P w K mg base N qual st f cv k' rest g :=
  fun cdv A outer s H E F hcv hW hgd hr => h cdv A outer s H E F hcv hW hgd (hr.mono hk)
/-! ### f(a=.., b=..), f may raise -/
section
variable {X : Cx} {F : Fm} {W : WX} {C : Str → Addr} {k n : Nat} {f : Addr} {fd : FuncData} {ps ks : List Str} {sp : Sp} {x : Str} {p pos : Pos} {tk' : TA} {kws : List Keyword} {fk : DEnv → Option (List PyData × DEnv)} {gU : List Value → List Value} {gW : List V → List V}
omit [Lab] in
theorem pe_xcallK0 [Lab] (tk : Takes X W) (G : FnX X.prog X.w X.K X.mg X.base k f fd ps sp) (hgd : GdOk X.A) (hr : Room k X.A) (hm : X.mg x = some (.ref f)) (hk : PySem.W.keepIn X.K (.ref f) = true)
    (hb : ∀ (s : Shared) (ws : List Value), (gU ws).length = ps.length → BindsTo s fd ⟨[], ks.zip ws⟩ (ps.zip (gU ws))) (hrel : ∀ {zs : List V} {ws : List Value}, Vals zs ws → Vals (gW zs) (gU ws))
    (hkw : L2.PK X kws tk') (hg : Gl X x := by rfl) (hall : (backToKw pos (keywordEach kws X.env)).all (·.1.isSome) = true := by rfl) (hks : (backToKw pos (keywordEach kws X.env)).filterMap (·.1) = ks := by rfl)
    (hdb : (x == ("__debug__" : Str)) = false := by decide)
    (hpl : ((backTo pos (starEach [] X.env)).any (·.1) || (backToKw pos (keywordEach kws X.env)).any (·.1.isNone)) = false := by rfl) :
    PE X (.Call (.Name x p) [] kws pos) (fun σ H Q => tk' σ H fun zs H2 => sp (gW zs) H2 Q fun cls d H' => W cls d σ H') := by
  refine ⟨fun pins s σ H Q I h => wpAny_Call_Name_kw (ld_glob I hg hm (PySem.W.callWith_KW0 (h₀ := X.base) I.ok.mod.kin hk hall (thn (hkw.run pos pins s σ H _ I h) ?_) hpl) hdb)⟩
  rintro ws s2 ⟨zs, H2, I2, rz, q2⟩
  have r2 := hrel rz
  have hl : (gU ws).length = ps.length := by rw [← r2.length]; exact G.len _ _ _ _ q2
  refine ⟨I2.kIn, ?_⟩
  rw [hks]
  exact run_x (args := ⟨[], ks.zip ws⟩) (us := gU ws) tk G hgd hr (hb s2 ws hl) I2 r2 q2
def fCXK0 (gD : List PyData → List PyData) (m : List PyData → Option XR) (fk : DEnv → Option (List PyData × DEnv)) (env : DEnv) : Option DX := (fk env).bind fun x => (m (gD x.1)).map (toX x.2)
theorem pdx_callK0 {m : List PyData → Option XR} (gD : List PyData → List PyData) (hgD : ∀ (K : PySem.W.Frag) (Z : Hp) (vs : List V) (ds : List PyData), DDs K Z vs ds → DDs K Z (gW vs) (gD ds)) (tk : Takes X (wx C F.W)) (G : FnX X.prog X.w X.K X.mg X.base k f fd ps (spX X.K C n m)) (hn : ∀ ds r, m ds = some r → ds.length = n) (hgd : GdOk X.A) (hr : Room k X.A) (hm : X.mg x = some (.ref f)) (hk : PySem.W.keepIn X.K (.ref f) = true)
    (hb : ∀ (s : Shared) (ws : List Value), (gU ws).length = ps.length → BindsTo s fd ⟨[], ks.zip ws⟩ (ps.zip (gU ws))) (hrel : ∀ {zs : List V} {ws : List Value}, Vals zs ws → Vals (gW zs) (gU ws))
    (hkw : PDK X F kws fk) (hg : Gl X x := by rfl) (hall : (backToKw pos (keywordEach kws X.env)).all (·.1.isSome) = true := by rfl) (hks : (backToKw pos (keywordEach kws X.env)).filterMap (·.1) = ks := by rfl)
    (hdb : (x == ("__debug__" : Str)) = false := by decide)
    (hpl : ((backTo pos (starEach [] X.env)).any (·.1) || (backToKw pos (keywordEach kws X.env)).any (·.1.isNone)) = false := by rfl) :
    PDX X F (.Call (.Name x p) [] kws pos) (fCXK0 gD m fk) :=
  pe_imp (pe_xcallK0 tk G hgd hr hm hk hb hrel hkw hg hall hks hdb hpl) fun σ H Q h => by
    obtain ⟨Z, env, r0, r, e, q⟩ := h
    obtain ⟨⟨xs, e1⟩, h1, h⟩ := bnd e
    obtain ⟨y, h2, h⟩ := mpd h
    subst h
    refine ⟨Z, env, xs, e1, r, h1, fun vs Z1 H1 r1 s1 d1 => ?_⟩
    have d2 := hgD _ _ _ _ d1
    refine ⟨(dds_len d2).trans (hn _ _ h2), Z1, gD xs, y, r1.zh, r1.tb, d2, h2, ?_⟩
    cases y with
    | ok d => exact fun v Z' H' gr dd => q v Z' H' (r1.grow gr) (s1.trans gr.stp) dd
    | ex c a d => exact fun v p Z' H' gr h0 hz hp dd => ⟨c, rfl, q v p Z' H' (r1.grow gr) (s1.trans gr.stp) (s1.new h0) hz (r1.gh.free h0) (fun z => (r1.pp p z).1 h0) hp dd⟩
end
end DL
end L2


set_option Elab.async false
set_option maxRecDepth 100000
set_option maxHeartbeats 4000000
set_option autoImplicit false
namespace L2
namespace DL
open PySem PySem.Spec PyProof.Rows
variable [Lab]
section
variable {X : Cx} {F : Fm} {a e : Expr} {fa f : DEnv → Option (PyData × DEnv)} {p pos : Pos}
end
end DL
end L2


set_option Elab.async false
set_option maxRecDepth 100000
set_option maxHeartbeats 4000000
set_option autoImplicit false
namespace PySem
namespace HandSPX
open PySem.W PySem.Calls PyProof.Rows
section
variable {M : Model} {prog : Program} {w : World} {A : Around} {E : Value → Shared → Prop} {R : Result → Shared → Prop} {h : Heap} {g : Array GenState} {d : Drawn} {t : Nat} {os : OsState}
variable {nm q : Str} {C N : Addr} {bs bm bmB : List Value} {hdct : Bool} {sn : List Str} {sub : List Value} {ab : Bool} {col : Option Bool} {dd : Option Addr} {k0 k1 k2 k3 k5 : Option Value} {B newId initId : String}
end
end HandSPX
end PySem


/-! own exceptions over ArithmeticError, each with its one attribute -/
set_option maxRecDepth 4000
namespace PySem
namespace OEA
open PySem.W PySem.Calls PyProof.Rows PySem.HandSPX
abbrev leTail : List Value := [.type "ArithmeticError", .type "Exception", .type "BaseException", .type "object"]
def isRf : Value → Bool
  | .ref _ => true
  | _ => false
/-- own classes, then the mro of ArithmeticError -/
def leB : List Value → Bool
  | [] => false
  | a :: r => (isRf a && leB r) || (a :: r == leTail)
inductive LeM : List Value → Prop where
  | tail : LeM leTail
  | ref (c : Addr) {l : List Value} (h : LeM l) : LeM (.ref c :: l)
theorem LeM.contains (X : String) {l : List Value} (h : LeM l) : l.contains (.type X) = leTail.contains (.type X) := by
  induction h with
  | tail => rfl
  | ref c h ih => rw [List.contains_cons, ih]; rfl
theorem LeM.some {l : List Value} (h : LeM l) : l.isEmpty = false := by
  cases h <;> rfl
section
open Builtin Builtin.ObjectAttr
variable {prog : Program} {w : World} {A : Around} {E : Value → Shared → Prop} {R : Result → Shared → Prop} {hp : Heap} {g : Array GenState} {d : Drawn} {t : Nat} {os : OsState}
end
end OEA
end PySem
namespace L2
open PySem PySem.Spec PyProof.Rows PySem.OEA
/-- what is known of an own class over ArithmeticError -/
structure OexA (K : PySem.W.Frag) (C : Addr) : Prop where
  cls : ∃ nm q N bs bm sn sub ab col dd k0 k1 k2 k3 k5, K.lookup C = some (excClassObj nm q C N bs bm true sn sub ab col dd k0 k1 k2 k3 k5 "ArithmeticError.__new__") ∧ leB bm = true
  sa : PySem.W.findIn K (.ref C) "__setattr__" = some (some (.builtin "object.__setattr__"))
  exC : PySem.W.subIn K (.ref C) (.type "BaseException") = some true
  tyC : PySem.W.typeIn K (.ref C) = some (.type "type")
  kC : PySem.W.keepIn K (.ref C) = true
section
variable {X : Cx} {pins : List (Addr × Obj)} {σ : St} {H : Hp} {s : Shared} {a C dx : Addr} {f : Str} {y : V} {u : Value} {Q : Unit → Shared → Prop} {E : Value → Shared → Prop} {A : Around}
end
namespace DL
variable [Lab]
end DL
end L2


set_option Elab.async false
set_option maxRecDepth 100000
set_option maxHeartbeats 4000000
set_option autoImplicit false
namespace L2
open PySem PySem.Spec PyProof.Rows
section
variable {X : Cx} {pins : List (Addr × Obj)} {σ : St} {H : Hp}
end
namespace DL
variable [Lab]
/-- a table of truths by the classes' names -/
def tabI : List (Str × Bool) → Str → Option Bool
  | [], _ => none
  | x :: l, c => if c = x.1 then some x.2 else tabI l c
omit [Lab] in
theorem tabI_ok {K : PySem.W.Frag} {C : Str → Addr} {v : Value} {l : List (Str × Bool)} (h : kitTab K (l.map fun x => (C x.1, v, x.2)) = true) : ∀ c b, tabI l c = some b → PySem.W.kitOne K (.ref (C c)) v = some b := by
  induction l with
  | nil => intro c b e; cases e
  | cons x l ih =>
    intro c b e
    unfold tabI at e
    unfold kitTab at h
    rw [List.map_cons, List.all_cons, Bool.and_eq_true] at h
    split at e
    · rename_i z
      cases e
      rw [z]
      exact of_decide_eq_true h.1
    · exact ih h.2 c b e
end DL
end L2


set_option Elab.async false
set_option maxRecDepth 100000
set_option maxHeartbeats 4000000
set_option autoImplicit false
namespace L2
namespace DL
open PySem PySem.Spec PyProof.Rows
variable [Lab]
structure CalV (P : Program) (w : World) (K : PySem.W.Frag) (mg : Str → Option Value) (base : Heap) (C : Str → Addr) (k nA : Nat) (ps ks : List Str) (gU : List Value → List Value) (n : Str) (m : List PyData → Option XR) : Prop where
  g : ∃ fd, FnX P w K mg base k (LabW.C n) fd ps (spX K C nA m) ∧ Binds K fd ps [] ∧ ∀ (s : Shared) (ws : List Value), (gU ws).length = ps.length → BindsTo s fd ⟨[], ks.zip ws⟩ (ps.zip (gU ws))
  kp : PySem.W.keepIn K (.ref (LabW.C n)) = true
  ln : ∀ ds r, m ds = some r → ds.length = nA
section
variable {X : Cx} {F : Fm} {W : WX} {C : Str → Addr} {k nA i : Nat} {ps ks : List Str} {x : Str} {p pos : Pos} {e : Expr} {es : List Expr} {t : TA} {kws : List Keyword} {fa fk : DEnv → Option (List PyData × DEnv)} {gU : List Value → List Value} {gW : List V → List V} {ms : List (Str × (List PyData → Option XR))}
end
end DL
end L2


set_option Elab.async false
set_option maxRecDepth 100000
set_option maxHeartbeats 4000000
set_option autoImplicit false
namespace L2
namespace DL
open PySem PySem.Spec PyProof.Rows
variable [Lab]
structure RoomW (k : Nat) (A : Around) : Prop where
  dp : A.depth + 3 * k + 5 < recursionLimit
  un : A.units + 16 * k + 200 < cLine
section
omit [Lab]
theorem RoomW.mono {j k : Nat} {A : Around} (r : RoomW k A) (h : j ≤ k) : RoomW j A := ⟨by have := r.dp; omega, by have := r.un; omega⟩
theorem RoomW.deeper {k : Nat} {A : Around} (r : RoomW (k + 1) A) (env : Env) : RoomW k (A.deeper env) :=
  ⟨by have := r.dp; show A.depth + 1 + 3 * k + 5 < _; omega, by have := r.un; show A.units + 3 + 16 * k + 200 < _; omega⟩
theorem RoomW.depth {k : Nat} {A : Around} (r : RoomW k A) : A.depth < recursionLimit := by have := r.dp; omega
theorem roomW_of {k : Nat} {A : Around} (r : Room k A) : RoomW k A := ⟨r.dp, r.un⟩
end
omit [Lab] in
theorem RoomW.units {k : Nat} {A : Around} (r : RoomW k A) : A.units + 64 < cLine := by have := r.un; omega
omit [Lab] in
theorem RoomW.mark {k : Nat} {A : Around} (r : RoomW k A) (v : Option Value) : RoomW k (A.mark v) := ⟨r.dp, r.un⟩
section
variable {X : Cx} {F : Fm}
theorem od_eqW {k : Nat} (hr : RoomW k X.A) : OpD X (compareOp .Eq) eqD := eq_run (neg := id) op_eq (op_eqD hr.units)
theorem od_neW {k : Nat} (hr : RoomW k X.A) : OpD X (compareOp .NotEq) neD := eq_run (neg := fun k => !k) op_ne (op_neD hr.units)
theorem cd_reprEW {k : Nat} (hr : RoomW k X.A) (hgd : GdOk X.A) (hl : Lab.gd) : CallD X (.builtin "repr") reprE := by
  have hg := hgd hl
  intro pins s σ H xs us Q I r h
  obtain ⟨Z, ds, d, sz, hd, e, q⟩ := h
  match ds, hd, e with
  | [a], hd, e =>
    change (if reprOkE a then some (PyData.str a.shown) else none) = some d at e
    split at e
    case isFalse => cases e
    rename_i hc
    simp only [reprOkE, Bool.and_eq_true, decide_eq_true_eq] at hc
    obtain ⟨⟨⟨c1, c2⟩, c3⟩, c4⟩ := hc
    cases e
    obtain ⟨v, rfl, h1⟩ := dds1 hd
    obtain ⟨u, rfl, rv⟩ := vals1 r
    have hun := hr.un
    have h2 := DDm h1 sz
    have fin : ∀ l, u = .ref l → wpAny (model X.prog X.w) X.A (call (.builtin "repr") [u]) (EP X pins σ Q) X.xe s := fun l hl => by
      subst hl
      obtain ⟨T, idr, S⟩ := dd_shows I h2 rv c2 c1 c3
      refine call_repr_slot (by omega) (S.typeIs s fun _ _ e => e) S.slotRepr (S.call X.A.in1 _ s _ hg (by show X.A.units + 1 + a.depth < cLine; omega) (fun _ _ e => e) fun h' u tk hk => ⟨_, _, rfl, ?_⟩)
      exact ⟨.str _, H, I.kept hk, ⟨_, rfl⟩, q _ Z H (Grow.refl sz) (.str _)⟩
    cases h1 with
    | non => cases rv; exact PySem.P.repr_of_none ⟨.str _, H, I.tok _, ⟨_, rfl⟩, q _ Z H (Grow.refl sz) (.str _)⟩
    | bl b => cases rv; exact PySem.P.repr_of_bool ⟨.str _, H, I.tok _, ⟨_, rfl⟩, q _ Z H (Grow.refl sz) (.str _)⟩
    | int i =>
      obtain ⟨t, rfl⟩ := rv
      exact PySem.P.repr_of_int (of_decide_eq_true c1) ⟨.str _, H, I.tok _, ⟨_, rfl⟩, q _ Z H (Grow.refl sz) (.str _)⟩
    | str z =>
      obtain ⟨t, rfl⟩ := rv
      exact PySem.P.repr_of_str ⟨.str _, H, I.tok _, ⟨_, rfl⟩, q _ Z H (Grow.refl sz) (.str _)⟩ c3
    | lst _ _ => exact fin _ rv
    | tup _ _ => exact fin _ rv
    | dct _ _ => exact fin _ rv
    | dcn _ _ _ => exact fin _ rv
    | exc _ _ _ _ _ => exact fin _ rv
    | exn _ _ => exact fin _ rv
end
section
variable {X : Cx} {F : Fm} {e : Expr} {f : DEnv → Option (PyData × DEnv)} {p pn pos : Pos} {y : Str}
theorem pd_cntDW {k : Nat} (hr : RoomW k X.A) (j : Nat) (ha : PD X F e f) (hN : X.N[j]? = some y := by rfl) (hv : Vis X.env.scope y := by first | exact Or.inl rfl | exact Or.inr (Or.inl rfl) | exact Or.inr (Or.inr rfl)) (hd : (y == ("__debug__" : Str)) = false := by decide)
    (hcd : (y == ("__classdict__" : Str)) = false := by decide)
    (hfew : ((backTo pos (starEach [e] X.env)).all (fun x => !x.1) && (backToKw pos (keywordEach [] X.env)).all (fun x => x.1.isSome)
      && decide ([e].length + ([] : List Keyword).length + (if ([] : List Keyword).isEmpty then 0 else 1) < 30)) = true := by rfl)
    (hline : (p.endLine == pos.line) = true := by rfl) (hs : starEach [e] X.env = (false, eval e X.env) :: starEach [] X.env := by rfl) (hplain : (backTo pos (starEach [] X.env)).any (·.1) = false := by rfl) :
    PD X F (.Call (.Attribute (.Name y pn) "count" p) [e] [] pos) (fCntD j f) :=
  pe_imp (pe_bm PySem.F.plainAttrs_list PySem.F.slot_list_count PySem.F.type_list_count (mt_countD (by have := hr.un; omega)) (pe_var hN hv hd hcd) (pa_cons ha pa_nil hs) rfl hfew hline hs hplain) fun σ H Q h => by
  obtain ⟨Z, env, d, env', r, e, q⟩ := h
  obtain ⟨z0, h0, e⟩ := bnd e
  obtain ⟨⟨x, e1⟩, h1, h⟩ := bnd e
  obtain ⟨zs, h2, hh⟩ := bnd h
  clear h
  dsimp only at hh
  split at hh
  case isFalse => cases hh
  rename_i hsh
  obtain ⟨rfl, rfl⟩ := Prod.mk.inj (Option.some.inj hh)
  rw [Bool.and_eq_true] at hsh
  obtain ⟨p, xs, sj, _, hp0, _, _⟩ := r.poke h0
  refine ⟨.ref p, sj, own_ty hp0, Z, env, x, e1, r, h1, fun v Z1 H1 r1 s1 d1 => ?_⟩
  obtain ⟨p', xs', sj', zp, hp, dp, fin⟩ := r1.poke h2
  rw [sj] at sj'
  cases sj'
  have dl : DD X.K H1 (.ref p) (.list zs) := .lst (.inl (Rd.of hp)) (DDsm dp r1.zh)
  unfold shD at hsh
  simp only [Bool.and_eq_true, Bool.not_eq_true'] at hsh
  exact ⟨p, v, x, zs, rfl, rfl, dl.dp _ _ hsh.1.2, (DDm d1 r1.zh).dp _ _ hsh.2.2, hsh.1.1, hsh.2.1, q _ Z1 H1 r1 s1 (.int _)⟩
theorem pd_idxDW {k : Nat} (hr : RoomW k X.A) (j : Nat) (ha : PD X F e f) (hN : X.N[j]? = some y := by rfl) (hv : Vis X.env.scope y := by first | exact Or.inl rfl | exact Or.inr (Or.inl rfl) | exact Or.inr (Or.inr rfl)) (hd : (y == ("__debug__" : Str)) = false := by decide)
    (hcd : (y == ("__classdict__" : Str)) = false := by decide)
    (hfew : ((backTo pos (starEach [e] X.env)).all (fun x => !x.1) && (backToKw pos (keywordEach [] X.env)).all (fun x => x.1.isSome)
      && decide ([e].length + ([] : List Keyword).length + (if ([] : List Keyword).isEmpty then 0 else 1) < 30)) = true := by rfl)
    (hline : (p.endLine == pos.line) = true := by rfl) (hs : starEach [e] X.env = (false, eval e X.env) :: starEach [] X.env := by rfl) (hplain : (backTo pos (starEach [] X.env)).any (·.1) = false := by rfl) :
    PD X F (.Call (.Attribute (.Name y pn) "index" p) [e] [] pos) (fIdxD j f) :=
  pe_imp (pe_bm PySem.F.plainAttrs_list PySem.F.slot_list_index PySem.F.type_list_index (mt_indexD (by have := hr.un; omega)) (pe_var hN hv hd hcd) (pa_cons ha pa_nil hs) rfl hfew hline hs hplain) fun σ H Q h => by
  obtain ⟨Z, env, d, env', r, e, q⟩ := h
  obtain ⟨z0, h0, e⟩ := bnd e
  obtain ⟨⟨x, e1⟩, h1, h⟩ := bnd e
  obtain ⟨zs, h2, hh⟩ := bnd h
  clear h
  dsimp only at hh
  split at hh
  case isFalse => cases hh
  rename_i hsh
  obtain ⟨i, h3, h4⟩ := mpd hh
  obtain ⟨rfl, rfl⟩ := Prod.mk.inj h4
  rw [Bool.and_eq_true] at hsh
  obtain ⟨p, xs, sj, _, hp0, _, _⟩ := r.poke h0
  refine ⟨.ref p, sj, own_ty hp0, Z, env, x, e1, r, h1, fun v Z1 H1 r1 s1 d1 => ?_⟩
  obtain ⟨p', xs', sj', zp, hp, dp, fin⟩ := r1.poke h2
  rw [sj] at sj'
  cases sj'
  obtain ⟨⟨w, k1, k2⟩, k3⟩ := idxE_is h3
  have dl : DD X.K H1 (.ref p) (.list zs) := .lst (.inl (Rd.of hp)) (DDsm dp r1.zh)
  unfold shD at hsh
  simp only [Bool.and_eq_true, Bool.not_eq_true'] at hsh
  exact ⟨p, v, x, zs, i, w, rfl, rfl, dl.dp _ _ hsh.1.2, (DDm d1 r1.zh).dp _ _ hsh.2.2, hsh.1.1, hsh.2.1, k1, k2, k3, q _ Z1 H1 r1 s1 (.int _)⟩
end
/-! ### defs that are called within an except suite, and raise nothing -/
def cxW (P : Program) (w : World) (K : PySem.W.Frag) (mg : Str → Option Value) (base : Heap) (N : List Str) (qual : Str) (scope : Scope) (f : Addr) (cd : Value) (A : Around) (outer : List Env) (s : Shared) (H : Hp) (E : XK) : Cx :=
  { cxOf CX0 P w K mg base N qual scope f cd A outer s H E with calm := false }
omit [Lab] in
theorem inv_startW {P : Program} {w : World} {K : PySem.W.Frag} {mg : Str → Option Value} {base : Heap} {N ps : List Str} {qual : Str} {scope : Scope} {f : Addr} {cd : Value} {A : Around} {outer : List Env} {s s1 : Shared} {H : Hp} {E : XK} {us : List Value} {vs : List V}
    (S : FnScope N ps scope) (e0 : Env0 P w K mg base A outer s H) (hl : vs.length = ps.length) (r : Vals vs us)
    (x : InCallC s s.heap.objs.size (bindL (envOfC qual scope s.heap.objs.size f cd).kindOf (ps.zip us) fun _ => none) (cellsFrom (s.heap.objs.size + 1) scope.names []) (bindC (envOfC qual scope s.heap.objs.size f cd).kindOf (ps.zip us) fun _ => none) s1) :
    Inv (cxW P w K mg base N qual scope f cd A outer s H E) [] (start N vs) H s1 := by
  have hpl : ps.length ≤ N.length := by have := congrArg List.length S.pre; rw [List.length_take] at this; omega
  obtain ⟨h1, tk, rfl, hk⟩ := x.done
  have noA : ∀ b : Addr, b ∉ (cxW P w K mg base N qual scope f cd A outer s H E).ex := fun b z => absurd (show b ∈ ([] : List Addr) from z) (by simp)
  refine ⟨⟨e0.mod, S.kind, rfl, rfl, Nat.le_refl _, fun y z c h1 h2 => ?_, fun y hy => ?_, fun y c _ h => ?_, (fun z => Bool.noConfusion (show false = true from z)), Around.frames_deeper e0.frames, .inr ⟨rfl, rfl⟩, fun b z => absurd z (noA b), e0.bs, e0.bsz, fun b _ _ => noA b, fun b z => absurd z (noA b), e0.funs, e0.frf⟩,
    rfl, e0.bare, Un.kept hk, ⟨_, x.toInCall.ns, fun i y v h1 h2 h3 => ?_⟩, fun y c h => ⟨_, x.cell y c h⟩, e0.hok.fresh (Nat.le_refl _), fun y c h => ?_, fun q hq => ?_, e0.hok.kept hk, ?_⟩
  · exact name_of_addr x.apart (PySem.mem_of_lookup h1) (PySem.mem_of_lookup h2)
  · have hy : scope.names.lookup y = some .cell ∨ scope.names.lookup y = some .free := hy
    rcases hy with hy | hy
    · exact cell_has hy
    · exact absurd rfl (S.nofree _ (PySem.mem_of_lookup hy))
  · exact Nat.le_of_lt (x.above y c (PySem.mem_of_lookup h))
  · have hi : i < vs.length := by
      unfold start at h2
      by_cases hi : i < vs.length
      · exact hi
      · rw [List.getElem?_append_right (by simpa using hi)] at h2
        rw [List.getElem?_replicate] at h2
        split at h2 <;> cases h2
    have ha : vs[i]? = some v := by
      unfold start at h2
      rw [List.getElem?_append_left (by simpa using hi), List.getElem?_map] at h2
      cases e : vs[i]? with
      | none => rw [e] at h2; cases h2
      | some a => rw [e] at h2; cases h2; rfl
    obtain ⟨u, hu, rv⟩ := r.get ha
    have hp : ps[i]? = some y := by
      rw [← S.pre, List.getElem?_take_of_lt (by omega)]; exact h1
    have ndP : ps.Nodup := by rw [← S.pre]; exact S.nd.sublist (List.take_sublist _ _)
    refine ⟨u, rv, ?_⟩
    rcases S.par y (List.mem_of_getElem? hp) with k | k
    · exact .inl ⟨k, bindL_get ndP hp hu k⟩
    · obtain ⟨c, e⟩ := cell_has (n := s.heap.objs.size + 1) k
      refine .inr ⟨.inl k, c, e, ?_⟩
      have q := x.cell y c e
      rw [bindC_get ndP hp hu (by show scope.names.lookup y ≠ _; rw [k]; decide)] at q
      exact q
  · exact e0.hok.fresh (Nat.le_of_lt (x.above y c (PySem.mem_of_lookup h)))
  · exact absurd (show q ∈ ([] : List (Addr × Obj)) ++ ([] : List (Addr × Obj)) from hq) (by simp)
  · unfold start
    show _ = N.length
    rw [List.length_append, List.length_map, List.length_replicate]
    omega
structure FnW (P : Program) (w : World) (K : PySem.W.Frag) (mg : Str → Option Value) (base : Heap) (k : Nat) (f : Addr) (fd : FuncData) (ps : List Str) (sp : Sp) : Prop where
  len : ∀ vs H Q E, sp vs H Q E → vs.length = ps.length
  run : ∀ (A : Around) (outer : List Env) (s : Shared) (H : Hp) (args : Args) (us : List Value) (vs : List V) (Q : VK) (E : XK), RoomW k A → Env0 P w K mg base A outer s H → BindsTo s fd args (ps.zip us) → Vals vs us → sp vs H Q E →
    codeAny (model P w) A (.call (.ref f) args) (CR CX0 outer P w H s Q E) s
omit [Lab] in
theorem FnW.mono {P : Program} {w : World} {K : PySem.W.Frag} {mg : Str → Option Value} {base : Heap} {j k : Nat} {f : Addr} {fd : FuncData} {ps : List Str} {sp : Sp} (G : FnW P w K mg base j f fd ps sp) (h : j ≤ k) : FnW P w K mg base k f fd ps sp :=
  ⟨G.len, fun A outer s H args us vs Q E hr => G.run A outer s H args us vs Q E (hr.mono h)⟩
section
variable {P : Program} {w : World} {K : PySem.W.Frag} {mg : Str → Option Value} {base : Heap}
omit [Lab] in
theorem fnw_of {x qual : Str} {st : Stmt} {f : Addr} {fd : FuncData} {N ps : List Str} {k : Nat} {sp : Sp} (D : Fun K x qual st f fd) (S : FnScope N ps (defScope st)) (len : ∀ vs H Q E, sp vs H Q E → vs.length = ps.length)
    (hbody : ∀ (cdv : Value) (A : Around) (outer : List Env) (s : Shared) (H : Hp) (vs : List V) (Q : VK) (E : XK), cdv = fd.code →
      RoomW k (A.deeper (envOfC qual (defScope st) s.heap.objs.size f cdv)) → sp vs H Q E →
      ∃ t, PSs (cxW P w K mg base N qual (defScope st) f cdv A outer s H E).nox (defBody st) t ∧ t { nx := fun _ H' => Q .non H', rt := Q } (start N vs) H) :
    FnW P w K mg base (k + 1) f fd ps sp := by
  obtain ⟨oc, od, kV, doc, pm, an, cdv, ct, osl, rfl, lk, hcd⟩ := D.ex
  refine ⟨len, fun A outer s H args us vs Q E hr e0 hb rv hsp => ?_⟩
  have sl := len vs H Q E hsp
  have kin : K.In s.heap := e0.mod.kin.keeps fun b o q => (e0.bs b o q).1
  have nol : s.heap.NoLimit := e0.mod.nolimit.keeps fun b o q => (e0.bs b o q).1
  have kinds : ∀ y ∈ ps.zip us, (defScope st).names.lookup y.1 = some .local ∨
      ((defScope st).names.lookup y.1 = some .cell ∧ ((cellsFrom (s.heap.objs.size + 1) (defScope st).names []).lookup y.1).isSome = true) := by
    rintro ⟨n, z⟩ hy
    rcases S.par n (List.of_mem_zip hy).1 with e | e
    · exact .inl e
    · exact .inr ⟨e, PySem.W.cellsFrom_some _ _ _ (.inl e)⟩
  refine codeAny_call_function hr.depth (kin _ _ lk) rfl S.co S.gen rfl (PySem.W.codeRec_of kin hcd) (hb _ _ _ _ (wpAny_newFunctionEnv_cells S.kind kinds fun env he s1 x1 => ?_))
  subst he
  obtain ⟨t, ht, hq⟩ := hbody cdv A outer s H vs Q E rfl (hr.deeper _) hsp
  have J0 : Inv (cxW P w K mg base N qual (defScope st) f cdv A outer s H E) [] (start N vs) H s1 := inv_startW S e0 sl rv x1
  refine ⟨nol.keeps x1.toInCall.keep, codeAny_func (wpAny_mono (ht.nox.run [] s1 (start N vs) H _ J0 hq) (fun fl s' hs => ?_) fun e s' hs => hs)⟩
  cases fl with
  | ret u => obtain ⟨v, s2, H', J, r1, q⟩ := hs; exact ⟨v, H', J.os, J.bare, J.base, J.hok, r1, q⟩
  | next => obtain ⟨s2, H', J, q⟩ := hs; exact ⟨V.non, H', J.os, J.bare, J.base, J.hok, rfl, q⟩
  | brk => obtain ⟨_, _, _, q⟩ := hs; cases q
  | cont => obtain ⟨_, _, _, q⟩ := hs; cases q
abbrev BodyW (P : Program) (w : World) (K : PySem.W.Frag) (mg : Str → Option Value) (base : Heap) (N : List Str) (qual : Str) (st : Stmt) (f : Addr) (cv : Value) (k : Nat) (g : DEnv → Option DFlow) : Prop :=
  ∀ (cdv : Value) (A : Around) (outer : List Env) (s : Shared) (H : Hp) (E : XK) (F : Fm), cdv = cv → F.W = W0 → RoomW k (A.deeper (envOfC qual (defScope st) s.heap.objs.size f cdv)) →
    PDSs (cxW P w K mg base N qual (defScope st) f cdv A outer s H E).nox F (defBody st) g
end
section
variable {P : Program} {w : World} {K : PySem.W.Frag} {mg : Str → Option Value} {base : Heap} {x qual : Str} {st : Stmt} {f : Addr} {fd : FuncData} {N ps : List Str} {k : Nat} {g : DEnv → Option DFlow}
theorem fnw_pure (D : Fun K x qual st f fd) (S : FnScope N ps (defScope st)) (hb : BodyW P w K mg base N qual st f fd.code k g) : FnW P w K mg base (k + 1) f fd ps (spF K ps.length (runF ps.length N.length g)) := by
  refine fnw_of D S (fun vs H Q E h => h.1) fun cdv A outer s H vs Q E hcv hr h => ?_
  obtain ⟨hl, Z, ds, r, sz, tb, hd, e, q⟩ := h
  have hN : ps.length ≤ N.length := by
    have := congrArg List.length S.pre
    rw [List.length_take] at this
    omega
  refine ⟨_, hb cdv A outer s H E ⟨Z, H, fun _ => False, W0⟩ hcv rfl hr, Z, startE N.length ds, ?_⟩
  have r0 := pure_start (K := K) (N := N) sz tb hd (by omega)
  have fin : ∀ {Z' H' : Hp} {σ' : St} {e' : DEnv}, Rel K ⟨Z, H, fun _ => False, W0⟩ Z' H' σ' e' → Grow Z H Z' H' := fun {Z' H' σ' e'} r' => ⟨r'.z0, r'.zh, r'.gh, fun _ => r'.tb, fun q hq => (r'.nw q hq).imp id (·.1)⟩
  unfold runF at e
  split at e
  case isFalse => cases e
  generalize hh : g (startE N.length ds) = o at e
  match o, e with
  | some (.rt d e'), e =>
    cases e
    exact ⟨_, r0, rfl, fun v σ' Z' H' r' s' dd => q v Z' H' (fin r') dd⟩
  | some (.nx e'), e =>
    cases e
    exact ⟨_, r0, rfl, fun σ' Z' H' r' s' => q .non Z' H' (fin r') .non⟩
theorem fnw_F {n n' : Nat} (D : Fun K x qual st f fd) (S : FnScope N ps (defScope st)) (h1 : ps.length = n) (h2 : N.length = n') (hb : BodyW P w K mg base N qual st f fd.code k g) : FnW P w K mg base (k + 1) f fd ps (spF K n (runF n n' g)) := by
  subst h1 h2
  exact fnw_pure D S hb
end
section
variable {X : Cx} {F : Fm} {k n : Nat} {f : Addr} {fd : FuncData} {ps ks : List Str} {sp : Sp} {x : Str} {p pos : Pos} {e : Expr} {es : List Expr} {t tk : TA} {fa : DEnv → Option (List PyData × DEnv)}
theorem run_w {pins : List (Addr × Obj)} {σ : St} {H : Hp} {s : Shared} {Q : VK} {args : Args} {us : List Value} {vs : List V} (G : FnW X.prog X.w X.K X.mg X.base k f fd ps sp) (hr : RoomW k X.A)
    (hb : BindsTo s fd args (ps.zip us)) (I : Inv X pins σ H s) (rv : Vals vs us) (h : sp vs H Q E0) : wpAny (model X.prog X.w) X.A (call (.ref f) args.pos args.kw) (EP X pins σ Q) X.xe s := by
  refine wpAny_call (codeAny_mono (G.run X.A X.stack s H args us vs Q E0 hr I.env0 hb rv h) fun r s' hq => ?_)
  cases r with
  | error z => exact False.elim hq
  | ok fl =>
    cases fl with
    | ret u => exact I.after hq
    | next => cases hq
    | brk => cases hq
    | cont => cases hq
theorem pe_wcall (G : FnW X.prog X.w X.K X.mg X.base k f fd ps sp) (hr : RoomW k X.A) (hm : X.mg x = some (.ref f)) (hk : PySem.W.keepIn X.K (.ref f) = true) (hb : Binds X.K fd ps [])
    (ha : PA X (e :: es) t) (hg : Gl X x := by rfl) (hdb : (x == ("__debug__" : Str)) = false := by decide)
    (he : starEach (e :: es) X.env = (false, eval e X.env) :: starEach es X.env := by rfl) (hpl : (backTo pos (starEach es X.env)).any (·.1) = false := by rfl) :
    PE X (.Call (.Name x p) (e :: es) [] pos) (fun σ H Q => t σ H fun vs H1 => sp vs H1 Q E0) := by
  refine ⟨fun pins s σ H Q I h => wpAny_Call_Name_kw (ld_glob I hg hm (PySem.W.callWith_K (h₀ := X.base) I.ok.mod.kin hk (thn (ha.run pos pins s σ H _ I h) ?_) he hpl) hdb)⟩
  rintro us s1 ⟨vs, H1, I1, rv, q⟩
  have hl : us.length = ps.length := by rw [← rv.length]; exact G.len _ _ _ _ q
  refine ⟨I1.kIn, run_w (args := ⟨us, []⟩) (us := us) G hr ?_ I1 rv q⟩
  have := hb s1 us I1.kIn (by rw [List.append_nil]; exact hl)
  rw [List.append_nil] at this
  exact this
theorem pd_callW {m : List PyData → Option PyData} (G : FnW X.prog X.w X.K X.mg X.base k f fd ps (spF X.K n m)) (hn : ∀ ds r, m ds = some r → ds.length = n) (hr : RoomW k X.A) (hm : X.mg x = some (.ref f)) (hk : PySem.W.keepIn X.K (.ref f) = true) (hb : Binds X.K fd ps [])
    (ha : PDA X F (e :: es) fa) (hg : Gl X x := by rfl) (hdb : (x == ("__debug__" : Str)) = false := by decide)
    (he : starEach (e :: es) X.env = (false, eval e X.env) :: starEach es X.env := by rfl) (hpl : (backTo pos (starEach es X.env)).any (·.1) = false := by rfl) :
    PD X F (.Call (.Name x p) (e :: es) [] pos) (fCB m fa) :=
  pe_imp (pe_wcall G hr hm hk hb ha hg hdb he hpl) fun _ _ _ h => f_read hn h
end
end DL
end L2


set_option Elab.async false
set_option maxRecDepth 100000
set_option maxHeartbeats 4000000
set_option autoImplicit false
namespace L2
namespace DL
open PySem PySem.Spec PyProof.Rows PySem.Calls
variable [Lab]
abbrev SuiteOk (P : Program) (w : World) (K : PySem.W.Frag) (mg : Str → Option Value) (base : Heap) (N : List Str) (qual : Str) (st : Stmt) (f : Addr) (cv : Value) (k : Nat) (suite : List Stmt) (g : DEnv → Option DFlow) : Prop :=
  ∀ (cdv : Value) (A : Around) (outer : List Env) (s : Shared) (H : Hp) (E : XK) (F : Fm) (a : Addr) (pn : List (Addr × Obj)), cdv = cv → F.W = W0 → GdOk (A.deeper (envOfC qual (defScope st) s.heap.objs.size f cdv)) → Room k (A.deeper (envOfC qual (defScope st) s.heap.objs.size f cdv)) →
    PDSs ((cxOf CX0 P w K mg base N qual (defScope st) f cdv A outer s H E).nox.suite a pn) F suite g
theorem SuiteOk.mono {P : Program} {w : World} {K : PySem.W.Frag} {mg : Str → Option Value} {base : Heap} {N : List Str} {qual : Str} {st : Stmt} {f : Addr} {cv : Value} {k k' : Nat} {suite : List Stmt} {g : DEnv → Option DFlow} (h : SuiteOk P w K mg base N qual st f cv k suite g) (hk : k ≤ k') : SuiteOk P w K mg base N qual st f cv k' suite g :=
  fun cdv A outer s H E F a pn hcv hW hgd hr => h cdv A outer s H E F a pn hcv hW hgd (hr.mono hk)
section
variable {X : Cx} {F : Fm} {mt : Str → Option Bool} {at' : Str → Str} {cl : List Value} {x a y n : Str} {g c P : Addr} {k i j nS : Nat} {stg b₀ : Stmt} {fdg : FuncData} {Ng : List Str} {t : Expr} {rest suite : List Stmt} {gr gh : DEnv → Option DFlow} {fX : DEnv → Option DX}
  {params : Arguments} {body : Expr} {scope : Scope} {p lpos pos p1 p2 p3 p4 p5 p6 p7 p8 p9 p10 p11 : Pos}
end
end DL
end L2


set_option Elab.async false
set_option maxRecDepth 100000
set_option maxHeartbeats 4000000
set_option autoImplicit false
namespace L2
namespace DL
open PySem PySem.Spec PyProof.Rows
variable [Lab]
/-! ### texts of a list -/
def strsOf : List PyData → Option (List Str)
  | [] => some []
  | .str a :: ds => (strsOf ds).map (a :: ·)
  | _ => none
omit [Lab] in
theorem strsOf_map : ∀ ys : List Str, strsOf (ys.map PyData.str) = some ys
  | [] => rfl
  | y :: ys => by
    show (strsOf (ys.map PyData.str)).map (y :: ·) = _
    rw [strsOf_map ys]; rfl
theorem dds_strs {K : PySem.W.Frag} {Z : Hp} : ∀ {vs : List V} {ds : List PyData} {ys : List Str}, DDs K Z vs ds → strsOf ds = some ys → vs = ys.map V.str
  | _, [], ys, h, e => by
    cases h
    cases e
    rfl
  | _, d :: ds, ys, h, e => by
    cases h with
    | cons h1 h2 =>
      match d, h1, e with
      | .str a, h1, e =>
        obtain ⟨zs, e1, e2⟩ := mpd e
        cases e2
        cases h1.str_inv
        rw [dds_strs h2 e1]
        rfl
theorem dds_ofstrs {K : PySem.W.Frag} {Z : Hp} : ∀ ys : List Str, DDs K Z (ys.map V.str) (ys.map PyData.str)
  | [] => .nil
  | y :: ys => .cons (.str y) (dds_ofstrs ys)
/-! ### a text's methods -/
def fTM0 (g : Str → Option PyData) (f : DEnv → Option (PyData × DEnv)) (env : DEnv) : Option (PyData × DEnv) := (f env).bind fun x => match x.1 with
  | .str a => (g a).map fun d => (d, x.2)
  | _ => none
def fTM1 (g : Str → PyData → Option PyData) (f fe : DEnv → Option (PyData × DEnv)) (env : DEnv) : Option (PyData × DEnv) := (f env).bind fun x => match x.1 with
  | .str a => (fe x.2).bind fun y => (g a y.1).map fun d => (d, y.2)
  | _ => none
section
variable {X : Cx} {F : Fm} {o e : Expr} {f fe : DEnv → Option (PyData × DEnv)} {apos pos p : Pos} {name : Str} {id : String} {r : V → List V → Hp → VK → Prop}
theorem pd_tm0 {g : Str → Option PyData} (slot : Slot "str" name id) (ty : typeOf (.builtin id) = pure (.type "method_descriptor")) (rule : MtR X id r)
    (hr : ∀ (a : Str) (d : PyData) (Z H : Hp) (Q : VK), g a = some d → Same Z H → (∀ v Z' H', Grow Z H Z' H' → DD X.K Z' v d → Q v H') → r (.str a) [] H Q)
    (ha : PD X F o f) (hbase : attributeBase o name X.env (eval o X.env) = eval o X.env := by rfl) (hline : (apos.endLine == pos.line) = true := by rfl) :
    PD X F (.Call (.Attribute o name apos) [] [] pos) (fTM0 g f) := pe_imp (pe_m0 slot ty rule ha hbase hline) fun σ H Q h => by
  obtain ⟨Z, env, d, env', rl, e, q⟩ := h
  obtain ⟨⟨x, e1⟩, h1, e⟩ := bnd e
  match x, h1, e with
  | .str a, h1, e =>
    obtain ⟨z, h2, e⟩ := mpd e
    cases e
    refine ⟨Z, env, .str a, _, rl, h1, fun v Z1 H1 r1 s1 d1 => ?_⟩
    cases d1.str_inv
    exact ⟨⟨a, rfl⟩, hr a d Z1 H1 Q h2 r1.zh fun v Z' H' gr dd => q v Z' H' (r1.grow gr) (s1.trans gr.stp) dd⟩
theorem pd_tm1 {g : Str → PyData → Option PyData} (slot : Slot "str" name id) (ty : typeOf (.builtin id) = pure (.type "method_descriptor")) (rule : MtR X id r)
    (hr : ∀ (a : Str) (b d : PyData) (y : V) (Z H : Hp) (Q : VK), g a b = some d → Same Z H → DD X.K Z y b → (∀ v Z' H', Grow Z H Z' H' → DD X.K Z' v d → Q v H') → r (.str a) [y] H Q)
    (ha : PD X F o f) (he : PD X F e fe) (hs : starEach [e] X.env = [(false, eval e X.env)] := by rfl) (hbase : attributeBase o name X.env (eval o X.env) = eval o X.env := by rfl) (hline : (apos.endLine == pos.line) = true := by rfl) :
    PD X F (.Call (.Attribute o name apos) [e] [] pos) (fTM1 g f fe) := pe_imp (pe_m1 slot ty rule ha he hs hbase hline) fun σ H Q h => by
  obtain ⟨Z, env, d, env', rl, e, q⟩ := h
  obtain ⟨⟨x, e1⟩, h1, e⟩ := bnd e
  match x, h1, e with
  | .str a, h1, e =>
    obtain ⟨⟨y, e2⟩, h2, e⟩ := bnd e
    obtain ⟨z, h3, e⟩ := mpd e
    cases e
    refine ⟨Z, env, .str a, _, rl, h1, fun v Z1 H1 r1 s1 d1 => ?_⟩
    cases d1.str_inv
    refine ⟨⟨a, rfl⟩, Z1, e1, y, _, r1, h2, fun w Z2 H2 r2 s2 d2 => ?_⟩
    exact hr a y d w Z2 H2 Q h3 r2.zh d2 fun v Z' H' gr dd => q v Z' H' (r2.grow gr) ((s1.trans s2).trans gr.stp) dd
def digG (a : Str) : Option PyData := some (.bool (Txt.isdigit a))
def ascG (a : Str) : Option PyData := some (.bool (Txt.isascii a))
def joinG (a : Str) : PyData → Option PyData
  | .list ds => (strsOf ds).bind fun ys => if (ys.map (·.length)).sum + ys.length * a.length ≤ lim then some (.str (Txt.join a ys)) else none
  | .tuple ds => (strsOf ds).bind fun ys => if (ys.map (·.length)).sum + ys.length * a.length ≤ lim then some (.str (Txt.join a ys)) else none
  | _ => none
def splitG (a : Str) : PyData → Option PyData
  | .str b => if b.length ≠ 0 ∧ a.length ≤ lim then some (.list ((Txt.split a b).map .str)) else none
  | _ => none
def partG (a : Str) : PyData → Option PyData
  | .str b => if b.length ≠ 0 ∧ a.length ≤ lim then some (.tuple [.str (Txt.partition a b).1, .str (Txt.partition a b).2.1, .str (Txt.partition a b).2.2]) else none
  | _ => none
def startG (a : Str) : PyData → Option PyData
  | .str b => some (.bool (Txt.startswith a b))
  | _ => none
theorem pd_isdigit (ha : PD X F o f) (hbase : attributeBase o "isdigit" X.env (eval o X.env) = eval o X.env := by rfl) (hline : (apos.endLine == pos.line) = true := by rfl) : PD X F (.Call (.Attribute o "isdigit" apos) [] [] pos) (fTM0 digG f) :=
  pd_tm0 PySem.F.slot_str_isdigit PySem.F.type_str_isdigit mt_isdigit (fun a d Z H Q h sz q => by cases h; exact ⟨a, rfl, rfl, trivial, q _ Z H (Grow.refl sz) (.bl _)⟩) ha hbase hline
theorem pd_isascii (ha : PD X F o f) (hbase : attributeBase o "isascii" X.env (eval o X.env) = eval o X.env := by rfl) (hline : (apos.endLine == pos.line) = true := by rfl) : PD X F (.Call (.Attribute o "isascii" apos) [] [] pos) (fTM0 ascG f) :=
  pd_tm0 PySem.F.slot_str_isascii PySem.F.type_str_isascii mt_isascii (fun a d Z H Q h sz q => by cases h; exact ⟨a, rfl, rfl, trivial, q _ Z H (Grow.refl sz) (.bl _)⟩) ha hbase hline
theorem pd_join (ha : PD X F o f) (he : PD X F e fe) (hs : starEach [e] X.env = [(false, eval e X.env)] := by rfl) (hbase : attributeBase o "join" X.env (eval o X.env) = eval o X.env := by rfl) (hline : (apos.endLine == pos.line) = true := by rfl) :
    PD X F (.Call (.Attribute o "join" apos) [e] [] pos) (fTM1 joinG f fe) :=
  pd_tm1 PySem.F.slot_str_join PySem.F.type_str_join mt_join (fun a b d y Z H Q h sz dy q => by
    match b, dy, h with
    | .list ds, dy, h =>
      obtain ⟨ys, h1, h⟩ := bnd h
      split at h
      case isFalse => cases h
      rename_i hz
      cases h
      cases dy with
      | @lst p xs _ hr ha =>
        cases dds_strs ha h1
        exact ⟨a, p, ys, rfl, rfl, .inl (same_ls sz hr).sq, Nat.le_trans hz (by decide), q _ Z H (Grow.refl sz) (.str _)⟩
    | .tuple ds, dy, h =>
      obtain ⟨ys, h1, h⟩ := bnd h
      split at h
      case isFalse => cases h
      rename_i hz
      cases h
      cases dy with
      | @tup p xs _ hr ha =>
        cases dds_strs ha h1
        exact ⟨a, p, ys, rfl, rfl, .inr (same_sqT sz hr), Nat.le_trans hz (by decide), q _ Z H (Grow.refl sz) (.str _)⟩) ha he hs hbase hline
theorem pd_split (ha : PD X F o f) (he : PD X F e fe) (hs : starEach [e] X.env = [(false, eval e X.env)] := by rfl) (hbase : attributeBase o "split" X.env (eval o X.env) = eval o X.env := by rfl) (hline : (apos.endLine == pos.line) = true := by rfl) :
    PD X F (.Call (.Attribute o "split" apos) [e] [] pos) (fTM1 splitG f fe) :=
  pd_tm1 PySem.F.slot_str_split PySem.F.type_str_split mt_split (fun a b d y Z H Q h sz dy q => by
    match b, dy, h with
    | .str b, dy, h =>
      change (if b.length ≠ 0 ∧ a.length ≤ lim then some (PyData.list ((Txt.split a b).map .str)) else none) = some d at h
      split at h
      case isFalse => cases h
      rename_i hz
      cases h
      cases dy.str_inv
      have hl : lim + 2 ≤ sizeLine := by rw [sizeLine_eq]; decide
      exact ⟨a, b, rfl, rfl, by simpa using hz.1, by have := hz.2; omega, fun p hp => q _ _ _ (grow_new sz hp _) (new_lst sz hp (dds_ofstrs _))⟩) ha he hs hbase hline
theorem pd_partition (ha : PD X F o f) (he : PD X F e fe) (hs : starEach [e] X.env = [(false, eval e X.env)] := by rfl) (hbase : attributeBase o "partition" X.env (eval o X.env) = eval o X.env := by rfl) (hline : (apos.endLine == pos.line) = true := by rfl) :
    PD X F (.Call (.Attribute o "partition" apos) [e] [] pos) (fTM1 partG f fe) :=
  pd_tm1 PySem.F.slot_str_partition PySem.F.type_str_partition mt_partition (fun a b d y Z H Q h sz dy q => by
    match b, dy, h with
    | .str b, dy, h =>
      change (if b.length ≠ 0 ∧ a.length ≤ lim then some (PyData.tuple [.str (Txt.partition a b).1, .str (Txt.partition a b).2.1, .str (Txt.partition a b).2.2]) else none) = some d at h
      split at h
      case isFalse => cases h
      rename_i hz
      cases h
      cases dy.str_inv
      have hl : lim + 2 ≤ sizeLine := by rw [sizeLine_eq]; decide
      exact ⟨a, b, rfl, rfl, by simpa using hz.1, by have := hz.2; omega, fun p hp => q _ _ _ (grow_new sz hp _) (new_tup sz hp (.cons (.str _) (.cons (.str _) (.cons (.str _) .nil))))⟩) ha he hs hbase hline
theorem pd_startswith (ha : PD X F o f) (he : PD X F e fe) (hs : starEach [e] X.env = [(false, eval e X.env)] := by rfl) (hbase : attributeBase o "startswith" X.env (eval o X.env) = eval o X.env := by rfl) (hline : (apos.endLine == pos.line) = true := by rfl) :
    PD X F (.Call (.Attribute o "startswith" apos) [e] [] pos) (fTM1 startG f fe) :=
  pd_tm1 PySem.F.slot_str_startswith PySem.F.type_str_startswith mt_startswith (fun a b d y Z H Q h sz dy q => by
    match b, dy, h with
    | .str b, dy, h =>
      cases h
      cases dy.str_inv
      exact ⟨a, b, rfl, rfl, q _ Z H (Grow.refl sz) (.bl _)⟩) ha he hs hbase hline
/-! ### str(e), int(text) -/
def strC : List PyData → Option PyData
  | [.str a] => some (.str a)
  | [.int i] => if i.natAbs.log2 < 1920 then some (.str (toString i)) else none
  | _ => none
theorem cd_str : CallD X (.type "str") strC := by
  intro pins s σ H xs us Q I r h
  obtain ⟨Z, ds, d, sz, hd, e, q⟩ := h
  match ds, hd, e with
  | [.str a], hd, e =>
    cases e
    obtain ⟨v, rfl, h1⟩ := dds1 hd
    cases h1.str_inv
    exact SkE.call_str_str pins s σ H _ us Q I r ⟨a, rfl, q _ Z H (Grow.refl sz) (.str _)⟩
  | [.int i], hd, e =>
    obtain ⟨v, rfl, h1⟩ := dds1 hd
    cases h1.int_inv
    change (if i.natAbs.log2 < 1920 then some (PyData.str (toString i)) else none) = some d at e
    split at e
    case isFalse => cases e
    rename_i hz
    cases e
    exact call_str_int pins s σ H _ us Q I r ⟨i, rfl, hz, q _ Z H (Grow.refl sz) (.str _)⟩
def intC : List PyData → Option PyData
  | [.str a] => if a.length ≤ 640 then (PySem.intText? a).map .int else none
  | _ => none
theorem cd_intS : CallD X (.type "int") intC := by
  intro pins s σ H xs us Q I r h
  obtain ⟨Z, ds, d, sz, hd, e, q⟩ := h
  match ds, hd, e with
  | [.str a], hd, e =>
    obtain ⟨v, rfl, h1⟩ := dds1 hd
    cases h1.str_inv
    change (if a.length ≤ 640 then (PySem.intText? a).map PyData.int else none) = some d at e
    split at e
    case isFalse => cases e
    rename_i hz
    obtain ⟨n, e1, e2⟩ := mpd e
    cases e2
    exact call_int_str pins s σ H _ us Q I r ⟨a, n, rfl, e1, hz, q _ Z H (Grow.refl sz) (.int _)⟩
/-! ### text[i], text[i:j] -/
def ixT : PyData → PyData → Option PyData
  | .str z, .int i => if z.length ≤ lim then (atI z.cps.toList i).map fun c => .str ⟨#[c]⟩ else none
  | _, _ => none
theorem id_ixT : IxR X (r2D X.K ixT) := by
  intro value slice pins s σ H x y v u Q I rx ry h hs
  obtain ⟨Z, a, b, d, sz, ha, hb, e, q⟩ := h
  match a, b, ha, hb, e with
  | .str z, .int i, ha, hb, e =>
    cases ha.str_inv
    cases hb.int_inv
    change (if z.length ≤ lim then (atI z.cps.toList i).map fun c => PyData.str ⟨#[c]⟩ else none) = some d at e
    split at e
    case isFalse => cases e
    rename_i hz
    obtain ⟨c, e1, e2⟩ := mpd e
    cases e2
    exact ix_str value slice pins s σ H _ _ v u Q I rx ry ⟨z, i, c, rfl, rfl, Nat.le_trans hz lim_le, e1, q _ Z H (Grow.refl sz) (.str _)⟩ hs
theorem pd_ixT {a b : Expr} {g : DEnv → Option (PyData × DEnv)} (ha : PD X F a f) (hb : PD X F b g) (hs : PlainIx b := by exact fun _ _ => rfl) : PD X F (.Subscript a b pos) (fBin ixT f g) := pe_imp (pe_ix id_ixT ha hb hs) fun _ _ _ h => bin_read h
def slT (d : PyData) (lo hi : Option Int) : Option PyData := match d with
  | .str z => if z.length ≤ lim then some (.str (cutS z lo hi)) else none
  | _ => none
def rSlT2 (K : PySem.W.Frag) : V → Option Int → Option Int → Hp → VK → Prop := fun x lo hi H Q => ∃ Z a d, Same Z H ∧ DD K Z x a ∧ slT a lo hi = some d ∧ ∀ v Z' H', Grow Z H Z' H' → DD K Z' v d → Q v H'
theorem sl_text : SlR X (rSlT2 X.K) := by
  intro pins s σ H x v vl vu lo hi sl Q I rx hs pl pu h
  obtain ⟨Z, a, d, sz, ha, e, q⟩ := h
  match a, ha, e with
  | .str z, ha, e =>
    cases ha.str_inv
    unfold slT at e
    dsimp only at e
    split at e
    case isFalse => cases e
    rename_i hz
    cases e
    exact sl_str pins s σ H _ v vl vu lo hi sl Q I rx hs pl pu ⟨z, rfl, Nat.le_trans hz lim_le, q _ Z H (Grow.refl sz) (.str _)⟩
def fSlT (f : DEnv → Option (PyData × DEnv)) (fl fh : DEnv → Option (Option Int × DEnv)) (env : DEnv) : Option (PyData × DEnv) := (f env).bind fun x => (fl x.2).bind fun l => (fh l.2).bind fun h => (slT x.1 l.1 h.1).map fun d => (d, h.2)
theorem pd_sliceT {lo hi : Option Expr} {fl fh : DEnv → Option (Option Int × DEnv)} {p2 : Pos} (ha : PD X F e f) (hl : PDO X F lo fl) (hh : PDO X F hi fh) : PD X F (.Subscript e (.Slice lo hi none p2) pos) (fSlT f fl fh) := pe_imp (pe_slice sl_text ha hl hh) fun σ H Q h => by
  obtain ⟨Z, env, d, env', r, e, q⟩ := h
  obtain ⟨⟨a, e1⟩, h1, e⟩ := bnd e
  obtain ⟨⟨l, e2⟩, h2, e⟩ := bnd e
  obtain ⟨⟨u, e3⟩, h3, e⟩ := bnd e
  obtain ⟨z, h4, e⟩ := mpd e
  cases e
  refine ⟨Z, env, a, e1, r, h1, fun v Z1 H1 r1 s1 d1 => ⟨Z1, e1, l, e2, r1, h2, fun Z2 H2 r2 s2 => ⟨Z2, e2, u, e3, r2, h3, fun Z3 H3 r3 s3 => ⟨Z3, a, d, r3.zh, DDm (DDm d1 s2.z) s3.z, h4, fun w Z' H' gr dd => ?_⟩⟩⟩⟩
  exact q w Z' H' (r3.grow gr) (((s1.trans s2).trans s3).trans gr.stp) dd
end
def fJNil (env : DEnv) : Option (List Str × DEnv) := some ([], env)
def fJCons (f : DEnv → Option (PyData × DEnv)) (g : DEnv → Option (List Str × DEnv)) (env : DEnv) : Option (List Str × DEnv) := (f env).bind fun x => match x.1 with
  | .str y => (g x.2).map fun r => (y :: r.1, r.2)
  | _ => none
section
variable {X : Cx} {F : Fm} {e : Expr} {f : DEnv → Option (PyData × DEnv)} {pos : Pos}
inductive PDJ (X : Cx) (F : Fm) : List Expr → (DEnv → Option (List Str × DEnv)) → Prop where
  | nil : PDJ X F [] fJNil
  | cons {e : Expr} {f : DEnv → Option (PyData × DEnv)} {es : List Expr} {g : DEnv → Option (List Str × DEnv)} (h : PD X F e f) (r : PDJ X F es g) : PDJ X F (e :: es) (fJCons f g)
end
end DL
end L2


set_option Elab.async false
set_option maxRecDepth 100000
set_option maxHeartbeats 4000000
set_option autoImplicit false
namespace L2
namespace DL
open PySem PySem.Spec PyProof.Rows
variable [Lab]
/-! ### lists in a list that only the def holds (its slot is kept out of the data) -/
inductive NIs (K : PySem.W.Frag) (Z H : Hp) : List Addr → List (List PyData) → Prop where
  | nil : NIs K Z H [] []
  | cons {q : Addr} {qs : List Addr} {xs : List V} {ds : List PyData} {dss : List (List PyData)} (h : H q = some (.lst xs)) (d : DDs K Z xs ds) (r : NIs K Z H qs dss) : NIs K Z H (q :: qs) (ds :: dss)
theorem NIs.move {K : PySem.W.Frag} {Z H Z' H' : Hp} {qs : List Addr} {dss : List (List PyData)} (h : NIs K Z H qs dss) (sz : Same Z Z') : (∀ q ∈ qs, ∀ xs, H q = some (.lst xs) → H' q = some (.lst xs)) → NIs K Z' H' qs dss := by
  induction h with
  | nil => exact fun _ => .nil
  | cons h d _ ih => exact fun hk => .cons (hk _ List.mem_cons_self _ h) (DDsm d sz) (ih fun q hq => hk q (List.mem_cons_of_mem _ hq))
theorem NIs.len {K : PySem.W.Frag} {Z H : Hp} {qs : List Addr} {dss : List (List PyData)} (h : NIs K Z H qs dss) : qs.length = dss.length := by
  induction h with
  | nil => rfl
  | cons _ _ _ ih => rw [List.length_cons, List.length_cons, ih]
theorem NIs.has {K : PySem.W.Frag} {Z H : Hp} {qs : List Addr} {dss : List (List PyData)} (h : NIs K Z H qs dss) : ∀ q ∈ qs, H q ≠ none := by
  induction h with
  | nil => intro q hq; cases hq
  | cons h _ _ ih =>
    intro q hq
    rcases List.mem_cons.mp hq with rfl | hq
    · rw [h]; simp
    · exact ih q hq
/-- p's list holds the lists at qs, the last one first -/
structure NI (K : PySem.W.Frag) (F : Fm) (Z H : Hp) (p : Addr) (qs : List Addr) (dss : List (List PyData)) : Prop where
  hp : H p = some (.lst (qs.reverse.map V.ref))
  nd : (p :: qs).Nodup
  fr : ∀ q ∈ p :: qs, Z q = none ∧ F.G q = none ∧ ¬ F.P q
  ns : NIs K Z H qs dss
def FrA (env : DEnv) : Prop := ∀ (i : Nat) (dv : DV), env[i]? = some (some dv) → ownish dv = false
section
variable {K : PySem.W.Frag} {F : Fm} {Z H Z' H' : Hp} {σ : St} {env env' : DEnv} {p q : Addr} {qs : List Addr} {dss : List (List PyData)} {ds : List PyData}
theorem NI.move (n : NI K F Z H p qs dss) (sz : Same Z Z') (hk : ∀ q o, H q = some o → NT o → H' q = some o) (hz : ∀ q, Z' q ≠ none → Z q = none → H q ≠ none → False) : NI K F Z' H' p qs dss := by
  refine ⟨hk _ _ n.hp nt_lst, n.nd, fun q hq => ⟨?_, (n.fr q hq).2⟩, n.ns.move sz fun q _ xs h => hk _ _ h nt_lst⟩
  by_cases h : Z' q = none
  · exact h
  · refine (hz q h (n.fr q hq).1 ?_).elim
    rcases List.mem_cons.mp hq with rfl | hq
    · rw [n.hp]; simp
    · exact n.ns.has q hq
theorem FrA.fre (fa : FrA env) (σ : St) (q : Addr) : Fre σ env q := fun i dv e o => by rw [fa i dv e] at o; cases o
theorem NI.stp (n : NI K F Z H p qs dss) (fa : FrA env) (s : Stp σ env Z H env' Z' H') : NI K F Z' H' p qs dss :=
  n.move s.z (fun q o e nt => s.h q o e nt (fa.fre σ q)) fun q h1 h2 h3 => s.n q h1 h2 h3 (fa.fre σ q)
theorem NI.grow (n : NI K F Z H p qs dss) (g : Grow Z H Z' H') : NI K F Z' H' p qs dss :=
  n.move g.z (fun q o e nt => g.h.h q o e nt) fun q h1 h2 h3 => (g.n q h1).elim (fun h => h h2) h3
theorem Rel.junk (r : Rel K F Z H σ env) {i : Nat} (h : env[i]? = some none) (v : V) : Rel K F Z H (σ.set i (some v)) env := by
  have ne : ∀ {j : Nat} {dv : DV}, env[j]? = some (some dv) → i ≠ j := fun e z => by subst z; rw [h] at e; cases e
  refine ⟨r.z0, r.zh, r.gh, r.nw, r.pp, by rw [List.length_set]; exact r.len, fun j dv e => ?_, fun j k dj dk p e1 e2 o1 o2 => ?_, r.tb⟩
  · have s := r.sl j dv e
    have hs : (σ.set i (some v))[j]? = σ[j]? := List.getElem?_set_ne (ne e)
    cases dv <;> (unfold SlotOk at s ⊢; rw [hs]; exact s)
  · rw [List.getElem?_set_ne (ne e1), List.getElem?_set_ne (ne e2)]
    exact r.inj j k dj dk p e1 e2 o1 o2
theorem Rel.mut (r : Rel K F Z H σ env) (fa : FrA env) (hz : Z q = none) (hg : F.G q = none) (hp : ¬ F.P q) {xs : List V} (hq : H q = some (.lst xs)) (ys : List V) : Rel K F Z (upd H q (.lst ys)) σ env := by
  have sm : ∀ {G : Hp}, Same G H → G q = none → Same G (upd H q (.lst ys)) := fun {G} s g => ⟨fun b x e n => by
    have hb : b ≠ q := fun z => by rw [z, g] at e; cases e
    rw [upd_ne hb]; exact s.h b x e n, fun b e => by
    by_cases hb : b = q
    · subst hb; rw [upd_same]; simp
    · rw [upd_ne hb]; exact s.k b e⟩
  refine ⟨r.z0, sm r.zh hz, sm r.gh hg, r.nw, fun a ha => ?_, r.len, fun j dv e => ?_, r.inj, r.tb.ne hq _⟩
  · obtain ⟨h1, h2, h3⟩ := r.pp a ha
    have hb : a ≠ q := fun z => hp (by rw [← z]; exact ha)
    exact ⟨by rw [upd_ne hb]; exact h1, h2, h3⟩
  · have s := r.sl j dv e
    have o := fa j dv e
    cases dv with
    | fr d => exact s
    | fn n => exact s
    | ow es => cases o
    | rf es => cases o
    | dk es => cases o
theorem grow_lay (r : Rel K F Z H σ env) {a : Addr} (ha : H a = none) (o : HO) : Grow Z H Z (upd H a o) :=
  ⟨Same.refl Z, r.zh.trans (.of (same_new ha _)), .of (same_new ha _), fun t => t.ext (same_new ha _), fun _ h => .inl h⟩
/-- a new list at the end -/
theorem NI.push (n : NI K F Z H p qs dss) (r : Rel K F Z H σ env) (fa : FrA env) {a : Addr} (ha : H a = none) :
    Rel K F Z (upd (upd H a (.lst [])) p (.lst (qs.reverse.map V.ref ++ [.ref a]))) σ env ∧ NI K F Z (upd (upd H a (.lst [])) p (.lst (qs.reverse.map V.ref ++ [.ref a]))) p (a :: qs) ([] :: dss) := by
  have g := grow_lay r ha (.lst [])
  have r1 := r.grow g
  have n1 := n.grow g
  obtain ⟨z1, z2, z3⟩ := n1.fr p List.mem_cons_self
  have hap : ∀ b ∈ p :: qs, b ≠ a := fun b hb z => by
    subst z
    rcases List.mem_cons.mp hb with e | hb
    · rw [e, n.hp] at ha; cases ha
    · exact n.ns.has _ hb ha
  refine ⟨r1.mut fa z1 z2 z3 n1.hp _, ⟨?_, ?_, ?_, ?_⟩⟩
  · rw [upd_same, List.reverse_cons, List.map_append]; rfl
  · have nd := n.nd
    rw [List.nodup_cons] at nd ⊢
    refine ⟨fun hm => ?_, List.nodup_cons.mpr ⟨fun hm => hap a (List.mem_cons_of_mem _ hm) rfl, nd.2⟩⟩
    rcases List.mem_cons.mp hm with e | hm
    · exact hap p List.mem_cons_self e
    · exact nd.1 hm
  · intro b hb
    rcases List.mem_cons.mp hb with rfl | hb
    · exact n.fr _ List.mem_cons_self
    · rcases List.mem_cons.mp hb with rfl | hb
      · exact ⟨r.zh.free ha, r.gh.free ha, fun z => (r.pp _ z).1 ha⟩
      · exact n.fr b (List.mem_cons_of_mem _ hb)
  · have npq : ∀ b ∈ a :: qs, b ≠ p := fun b hb z => by
      subst z
      rcases List.mem_cons.mp hb with e | hb
      · exact hap b List.mem_cons_self e
      · have nd := n.nd; rw [List.nodup_cons] at nd; exact nd.1 hb
    refine .cons (by rw [upd_ne (npq a List.mem_cons_self), upd_same]) .nil (n1.ns.move (Same.refl Z) fun b hb xs h => by rw [upd_ne (npq b (List.mem_cons_of_mem _ hb))]; exact h)
/-- something at the end of the last list -/
theorem NI.app (n : NI K F Z H p (q :: qs) (ds :: dss)) (r : Rel K F Z H σ env) (fa : FrA env) {v : V} {d : PyData} (hd : DD K Z v d) :
    ∃ xs, H q = some (.lst xs) ∧ xs.length = ds.length ∧ Rel K F Z (upd H q (.lst (xs ++ [v]))) σ env ∧ NI K F Z (upd H q (.lst (xs ++ [v]))) p (q :: qs) ((ds ++ [d]) :: dss) := by
  have hns := n.ns
  cases hns with
  | @cons _ _ xs _ _ h dd rest =>
    obtain ⟨z1, z2, z3⟩ := n.fr q (List.mem_cons_of_mem _ List.mem_cons_self)
    have nd := n.nd
    rw [List.nodup_cons, List.nodup_cons] at nd
    have hpq : p ≠ q := fun z => nd.1 (by rw [z]; exact List.mem_cons_self)
    refine ⟨xs, h, dds_len dd, r.mut fa z1 z2 z3 h _, ⟨by rw [upd_ne hpq]; exact n.hp, n.nd, n.fr, .cons upd_same (dds_app dd (.cons hd .nil)) (rest.move (Same.refl Z) fun b hb ys e => ?_)⟩⟩
    rw [upd_ne (fun z => nd.2.1 (by rw [← z]; exact hb))]; exact e
/-- the last list taken away -/
theorem NI.pop (n : NI K F Z H p (q :: qs) (ds :: dss)) (r : Rel K F Z H σ env) (fa : FrA env) :
    Rel K F Z (upd H p (.lst (qs.reverse.map V.ref))) σ env ∧ NI K F Z (upd H p (.lst (qs.reverse.map V.ref))) p qs dss ∧ ∃ xs, upd H p (.lst (qs.reverse.map V.ref)) q = some (.lst xs) ∧ DDs K Z xs ds := by
  have hns := n.ns
  cases hns with
  | @cons _ _ xs _ _ h dd rest =>
    obtain ⟨z1, z2, z3⟩ := n.fr p List.mem_cons_self
    have nd := n.nd
    rw [List.nodup_cons, List.nodup_cons] at nd
    have hpq : q ≠ p := fun z => nd.1 (by rw [← z]; exact List.mem_cons_self)
    refine ⟨r.mut fa z1 z2 z3 n.hp _, ⟨upd_same, List.nodup_cons.mpr ⟨fun z => nd.1 (List.mem_cons_of_mem _ z), nd.2.2⟩, fun b hb => n.fr b ?_, rest.move (Same.refl Z) fun b hb ys e => ?_⟩, xs, by rw [upd_ne hpq]; exact h, dd⟩
    · rcases List.mem_cons.mp hb with rfl | hb
      · exact List.mem_cons_self
      · exact List.mem_cons_of_mem _ (List.mem_cons_of_mem _ hb)
    · rw [upd_ne (fun z => nd.1 (by rw [← z]; exact List.mem_cons_of_mem _ hb))]; exact e
end
/-! ### the program that is written in words -/
def rwRun (mN mC : List PyData → Option PyData) : List PyData → List PyData → List (List PyData) → Option PyData
  | [], cur, up => if up.isEmpty then some (.tuple cur) else some .none
  | .str w :: ws, cur, up =>
    if w = "(" then (if up.length < lim then rwRun mN mC ws [] (cur :: up) else none)
    else if Txt.startswith w ")x" = true then match up with
      | [] => some .none
      | c2 :: up2 => if w.length ≤ lim then (mN [.str (cutS w (some 2) none)]).bind fun n => if c2.length < lim then rwRun mN mC ws (c2 ++ [.tuple [.str "repeat", n, .tuple cur]]) up2 else none else none
    else (mC [.str w]).bind fun c => if cur.length < lim then rwRun mN mC ws (cur ++ [c]) up else none
  | _ :: _, _, _ => none
end DL
end L2


set_option Elab.async false
set_option maxRecDepth 100000
set_option maxHeartbeats 4000000
set_option autoImplicit false
namespace L2
namespace DL
open PySem PySem.Spec PyProof.Rows
variable [Lab]
def rTupOf (K : PySem.W.Frag) : List V → Hp → VK → Prop := fun xs H Q => ∃ p ys, xs = [V.ref p] ∧ ((SqL K H p ys ∧ ∀ l, H l = none → Q (.ref l) (upd H l (.tup ys))) ∨ (SqT K H p ys ∧ Q (.ref p) H))
def rLenOf (K : PySem.W.Frag) : List V → Hp → VK → Prop := fun xs H Q => ∃ p ys, xs = [V.ref p] ∧ (SqL K H p ys ∨ SqT K H p ys) ∧ Q (.int ys.length) H
abbrev tB1 (K : PySem.W.Frag) : TS := tAsg (tCB (rTupOf K) (tCons (tBM0 K "list" rPop (tVar 1)) tNil)) (gName 3)
abbrev tB2 (K : PySem.W.Frag) : TT := tNot (fun σ H Q => tVar 1 σ H fun x H' => ∃ k, TruV K x H' k ∧ Q k H')
abbrev tB3 (K : PySem.W.Frag) (F : Fm) (f : DEnv → Option (PyData × DEnv)) : TS := tDrop (tBM K "list" rAppend (tOp (rIxL K) (tVar 1) (tD K F (fNeg (fC (.int 1))))) (tDA K F (fCons f fNil)))
abbrev tRw (K : PySem.W.Frag) (F : Fm) : TS := tRet (tIf (tTest (tOp rEq (tCB (rLenOf K) (tCons (tVar 1) tNil)) (tD K F (fC (.int 1))))) (tCB (rTupOf K) (tCons (tOp (rIxL K) (tVar 1) (tD K F (fC (.int 0)))) tNil)) (tD K F (fC .none)))
abbrev rwC1 : DEnv → Option (Bool × DEnv) := fTst (fBin eqD (rdF 2) (fC (.str "(")))
abbrev rwC2 : DEnv → Option (Bool × DEnv) := fTst (fTM1 startG (rdF 2) (fC (.str ")x")))
abbrev rwFB (mN : List PyData → Option PyData) : DEnv → Option (PyData × DEnv) := fTup (fCons (fC (.str "repeat")) (fCons (fCB mN (fCons (fSlT (rdF 2) (oSome (fC (.int 2))) oNone) fNil)) (fCons (rdF 3) fNil)))
abbrev rwFC (mC : List PyData → Option PyData) : DEnv → Option (PyData × DEnv) := fCB mC (fCons (rdF 2) fNil)
def rwB (mN mC : List PyData → Option PyData) (env : DEnv) : Option DFlow := match env with
  | [some (.fr (.list ws)), none, none, none] => (rwRun mN mC ws [] []).map fun d => .rt d [some (.fr (.list ws)), none, none, none]
  | _ => none
theorem frA_of {a b : Option PyData} {ws : PyData} : FrA [some (.fr ws), none, a.map .fr, b.map .fr] := fun i dv e => by
  match i, e with
  | 0, e => cases e; rfl
  | 1, e => cases e
  | 2, e => cases a <;> cases e; rfl
  | 3, e => cases b <;> cases e; rfl
  | n + 4, e => cases e
theorem rwC1_eq (ws : PyData) (w : Str) (b : Option DV) : rwC1 [some (.fr ws), none, some (.fr (.str w)), b] = some (decide (w = "("), [some (.fr ws), none, some (.fr (.str w)), b]) := rfl
theorem rwC2_eq (ws : PyData) (w : Str) (b : Option DV) : rwC2 [some (.fr ws), none, some (.fr (.str w)), b] = some (Txt.startswith w ")x", [some (.fr ws), none, some (.fr (.str w)), b]) := rfl
theorem at_last {qs : List Addr} {q : Addr} : atI ((q :: qs).reverse.map V.ref) (-1) = some (.ref q) := by
  rw [List.reverse_cons, List.map_append]
  unfold atI
  have hl : ((qs.reverse.map V.ref) ++ [q].map V.ref).length = qs.length + 1 := by rw [List.length_append, List.length_map, List.length_reverse]; rfl
  have h1 : ixN ((qs.reverse.map V.ref) ++ [q].map V.ref).length (-1) = some qs.length := by
    rw [hl]
    unfold ixN
    rw [if_neg (by decide), if_pos (by omega)]
    congr 1
    omega
  rw [h1]
  show ((qs.reverse.map V.ref) ++ [q].map V.ref)[qs.length]? = _
  have h2 : (qs.reverse.map V.ref).length = qs.length := by rw [List.length_map, List.length_reverse]
  rw [List.getElem?_append_right (by rw [h2]; exact Nat.le_refl _), h2, Nat.sub_self]
  rfl
section
variable {X : Cx} {F : Fm} {mN mC : List PyData → Option PyData} {s0 sA sB1 sBr sB3 sC sR : Stmt} {tg iter c1 c2 cB2 : Expr} {p0 p1 p2 p3 : Pos}
theorem rw_body (h0 : PS X s0 (tAsg (tLst (tCons (tLst tNil) tNil)) (gName 1))) (hi : PDI X F tg iter (iSeq (rdF 0))) (hg : PG X tg (gName 2)) (h1 : PDT X F c1 rwC1) (hA : PS X sA (tDrop (tBM X.K "list" rAppend (tVar 1) (tCons (tLst tNil) tNil))))
    (h2 : PDT X F c2 rwC2) (hB1 : PS X sB1 (tB1 X.K)) (hB2 : PT X cB2 (tB2 X.K)) (hBr : PS X sBr (tRet (tD X.K F (fC .none)))) (hB3 : PS X sB3 (tB3 X.K F (rwFB mN))) (hC : PS X sC (tB3 X.K F (rwFC mC))) (hR : PS X sR (tRw X.K F))
    (hp : PassesOwn (model X.prog X.w) X.A X.env X.xe := by exact PassesOwn.never) (hc : X.calm = true := by rfl) (hs : ∀ x, foldedSetIterable iter X.env x = pure x := by intro _; rfl) :
    PDSs X F [s0, .For tg iter [.If c1 [sA] [.If c2 [sB1, .If cB2 [sBr] [] p3, sB3] [sC] p2] p1] [] p0, sR] (rwB mN mC) := by
  have hbody : PSs X [.If c1 [sA] [.If c2 [sB1, .If cB2 [sBr] [] p3, sB3] [sC] p2] p1] _ := pss_one (ps_if h1 (pss_one hA) (pss_one (ps_if h2 (pss_cons hB1 (pss_cons (ps_if hB2 (pss_one hBr) pss_nil) (pss_one hB3))) (pss_one hC))))
  refine pss_imp (pss_cons h0 (pss_cons (ps_for hp hc hi hg hbody hs) (pss_one hR))) fun D σ H h => ?_
  obtain ⟨Z, env, fl, r, e, q⟩ := h
  unfold rwB at e
  split at e
  case h_2 => cases e
  rename_i ws
  obtain ⟨d, hd, rfl⟩ := mpd e
  clear e
  let E0 : DEnv := [some (.fr (.list ws)), none, none, none]
  have fa0 : FrA E0 := frA_of (a := none) (b := none)
  have hlim : lim < sizeLine := by rw [sizeLine_eq]; decide
  refine ⟨by show 0 ≤ sizeLine; exact Nat.zero_le _, fun a ha => ⟨Nat.le_trans (show 1 ≤ lim by decide) (Nat.le_of_lt hlim), fun p hp' => ?_⟩⟩
  have hap : a ≠ p := fun z => by rw [← z, upd_same] at hp'; cases hp'
  have hp0 : H p = none := by rw [upd_ne (Ne.symm hap)] at hp'; exact hp'
  have ga := grow_lay r ha (.lst [])
  have ra := r.grow ga
  have gp := grow_lay ra hp' (.lst [.ref a])
  have rp := ra.grow gp
  have np : NI X.K F Z (upd (upd H a (.lst [])) p (.lst [.ref a])) p [a] [[]] := by
    refine ⟨upd_same, by simp only [List.nodup_cons, List.mem_singleton]; exact ⟨Ne.symm hap, by simp, List.nodup_nil⟩, fun b hb => ?_, .cons (by rw [upd_ne hap, upd_same]) .nil .nil⟩
    have hb0 : H b = none := by
      rcases List.mem_cons.mp hb with rfl | hb
      · exact hp0
      · rw [List.mem_singleton.mp hb]; exact ha
    exact ⟨r.zh.free hb0, r.gh.free hb0, fun z => (r.pp _ z).1 hb0⟩
  have lenσ : σ.length = 4 := r.len.symm
  have r1 : Rel X.K F Z (upd (upd H a (.lst [])) p (.lst [.ref a])) (σ.set 1 (some (.ref p))) E0 := rp.junk rfl _
  have s1 : (σ.set 1 (some (V.ref p)))[1]? = some (some (.ref p)) := List.getElem?_set_self (by rw [lenσ]; decide)
  have out : ∀ {Z' H' : Hp} {σ' : St} {E' : DEnv} {v : V} {b2 b3 : Option DV}, Rel X.K F Z' H' σ' [some (.fr (.list ws)), none, b2, b3] → Same Z Z' → DD X.K Z' v d → D.rt v H' := fun {Z' H' σ' E' v b2 b3} rr ss dd =>
    q v σ' Z' H' ((rr.forget 2).forget 3) ss dd
  refine ⟨Z, E0, ws, E0, r1, rfl, fun J Z1 H1 r2 s2 w => ?_⟩
  obtain ⟨G, Y, wk, hG, hY⟩ := w
  refine for_it wk (fun i σ' H' => ∃ Z' qs cur up, Same Z1 Z' ∧ Rel X.K F Z' H' σ' E0 ∧ σ'[1]? = some (some (.ref p)) ∧ NI X.K F Z' H' p qs (cur :: up) ∧ rwRun mN mC (ws.drop i) cur up = some d) ⟨Z1, [a], [], [], Same.refl _, r2, s1, np.stp fa0 s2, hd⟩ ?_ ?_ ?_
  · rintro i σ' H' hi ⟨Z', qs, cur, up, s', r', _⟩
    exact hG H' (s'.trans r'.zh)
  · rintro i x σ' H' H2 hi ⟨Z', qs, cur, up, s', r', k1, n', e'⟩ y
    obtain ⟨Zn, dw, gr, hdw, dd⟩ := hY i H' x H2 Z' hi y s' r'.zh
    have ed : ws.drop i = dw :: ws.drop (i + 1) := by
      obtain ⟨hl, hx⟩ := List.getElem?_eq_some_iff.mp hdw
      rw [← hx]
      exact List.drop_eq_getElem_cons hl
    rw [ed] at e'
    obtain ⟨w, rfl⟩ : ∃ w : Str, dw = .str w := by
      cases dw <;> first | exact ⟨_, rfl⟩ | (unfold rwRun at e'; cases e')
    unfold rwRun at e'
    let E2 : DEnv := [some (.fr (.list ws)), none, some (.fr (.str w)), none]
    have fa2 : FrA E2 := frA_of (a := some (.str w)) (b := none)
    have r3 : Rel X.K F Zn H2 (σ'.set 2 (some x)) E2 := (r'.grow gr).store 2 dd
    have k3 : (σ'.set 2 (some x))[1]? = some (some (.ref p)) := by rw [List.getElem?_set_ne (by decide)]; exact k1
    have n3 := n'.grow gr
    refine ⟨Zn, E2, decide (w = "("), E2, r3, rwC1_eq _ _ _, fun Z4 H4 r4 s4 => ?_⟩
    have n4 := n3.stp fa2 s4
    have z4 : Same Z1 Z4 := (s'.trans gr.z).trans s4.z
    by_cases hw : w = "("
    · rw [if_pos hw] at e'
      rw [decide_eq_true hw]
      show tDrop (tBM X.K "list" rAppend (tVar 1) (tCons (tLst tNil) tNil)) _ _ _
      split at e'
      case isFalse => cases e'
      rename_i hl
      refine ⟨.ref p, k3, own_ty n4.hp, by show 0 ≤ sizeLine; exact Nat.zero_le _, fun b hb => ?_⟩
      have hbp : p ≠ b := fun z => by rw [← z, n4.hp] at hb; cases hb
      obtain ⟨r5, n5⟩ := n4.push r4 fa2 hb
      refine ⟨p, _, .ref b, rfl, rfl, by rw [upd_ne hbp]; exact n4.hp, ?_, Z4, b :: qs, [], cur :: up, z4, r5.forget 2, k3, n5, e'⟩
      have := n4.ns.len
      rw [List.length_map, List.length_reverse, this, List.length_cons]
      omega
    · rw [if_neg hw] at e'
      rw [decide_eq_false hw]
      show tIfS (tDT X.K F rwC2) _ _ _ _ _
      refine ⟨Z4, E2, Txt.startswith w ")x", E2, r4, rwC2_eq _ _ _, fun Z5 H5 r5 s5 => ?_⟩
      have n5 := n4.stp fa2 s5
      have z5 := z4.trans s5.z
      by_cases hx : Txt.startswith w ")x" = true
      · rw [if_pos hx] at e'
        rw [hx]
        show tSeq (tB1 X.K) _ _ _ _
        cases qs with
        | nil => have := n5.ns.len; cases this
        | cons q0 qs' =>
        have hdl : ((q0 :: qs').reverse.map V.ref).dropLast = qs'.reverse.map V.ref := by rw [List.reverse_cons, List.map_append]; exact List.dropLast_concat
        obtain ⟨r6, n6, xs, hq0, dxs⟩ := n5.pop r5 fa2
        refine ⟨.ref p, k3, own_ty n5.hp, p, _, .ref q0, rfl, rfl, n5.hp, ?_, ?_⟩
        · have := at_last (qs := qs') (q := q0)
          rw [List.reverse_cons, List.map_append, List.length_append, List.length_map, List.length_reverse]
          show ((qs'.reverse.map V.ref) ++ [V.ref q0])[qs'.length + 1 - 1]? = _
          have h2 : (qs'.reverse.map V.ref).length = qs'.length := by rw [List.length_map, List.length_reverse]
          rw [List.getElem?_append_right (by rw [h2]; exact Nat.le_refl _), h2, Nat.add_sub_cancel, Nat.sub_self]
          rfl
        rw [hdl]
        refine ⟨q0, xs, rfl, .inl ⟨SqL.of hq0, fun l hl => ?_⟩⟩
        have g7 := grow_new r6.zh hl (.tup xs)
        let E3 : DEnv := [some (.fr (.list ws)), none, some (.fr (.str w)), some (.fr (.tuple cur))]
        have fa3 : FrA E3 := frA_of (a := some (.str w)) (b := some (.tuple cur))
        have r7 : Rel X.K F _ _ ((σ'.set 2 (some x)).set 3 (some (.ref l))) E3 := (r6.grow g7).store 3 (new_tup r6.zh hl dxs)
        have n7 := n6.grow g7
        have k7 : ((σ'.set 2 (some x)).set 3 (some (V.ref l)))[1]? = some (some (.ref p)) := by rw [List.getElem?_set_ne (by decide)]; exact k3
        have z7 := z5.trans g7.z
        refine ⟨.ref p, k7, _, .inl ⟨_, SqL.of n7.hp, rfl⟩, ?_⟩
        cases up with
        | nil =>
          cases qs' with
          | cons _ _ => have := n7.ns.len; cases this
          | nil =>
          cases e'
          show tRet (tD X.K F (fC .none)) _ _ _
          exact ⟨_, E3, .none, E3, r7, rfl, fun v Z8 H8 r8 s8 d8 => out (E' := E3) r8 ((s2.z.trans z7).trans s8.z) d8⟩
        | cons c2 up2 =>
          cases qs' with
          | nil => have := n7.ns.len; cases this
          | cons q2 qs2 =>
          have hne : ((q2 :: qs2).reverse.map V.ref).isEmpty = false := by rw [List.reverse_cons, List.map_append]; cases (qs2.reverse.map V.ref) <;> rfl
          rw [hne]
          show tB3 X.K F (rwFB mN) _ _ _
          dsimp only at e'
          split at e'
          case isFalse => cases e'
          rename_i hwl
          obtain ⟨nm, hnm, e'⟩ := bnd e'
          split at e'
          case isFalse => cases e'
          rename_i hcl
          refine ⟨.ref p, k7, _, E3, .int (-1), E3, r7, rfl, fun v Z8 H8 r8 s8 d8 => ?_⟩
          have n8 := n7.stp fa3 s8
          cases d8.int_inv
          refine ⟨p, _, -1, .ref q2, rfl, rfl, SqL.of n8.hp, at_last, ?_⟩
          have hq2 : ∃ ys, H8 q2 = some (.lst ys) := by
            have := n8.ns
            cases this with
            | cons h _ _ => exact ⟨_, h⟩
          obtain ⟨ys8, hq8⟩ := hq2
          have hfb : fCons (rwFB mN) fNil E3 = some ([.tuple [.str "repeat", nm, .tuple cur]], E3) := by
            have h1 : fSlT (rdF 2) (oSome (fC (.int 2))) oNone E3 = some (.str (cutS w (some 2) none), E3) := by
              show (slT (.str w) (some 2) none).map _ = _
              unfold slT
              dsimp only
              rw [if_pos hwl]
              rfl
            exact ev_cons (ev_tup (ds := [.str "repeat", nm, .tuple cur]) (ev_cons rfl (ev_cons (ev_cb (ev_cons h1 ev_nil) hnm) (ev_cons rfl ev_nil))) (by show 3 ≤ 100000; decide)) ev_nil
          refine ⟨own_ty hq8, Z8, E3, _, E3, r8, hfb, fun vs Z9 H9 r9 s9 d9 => ?_⟩
          have n9 := n8.stp fa3 s9
          obtain ⟨v9, rfl, dv9⟩ := dds1 d9
          obtain ⟨xs9, hq9, hl9, r10, n10⟩ := n9.app r9 fa3 dv9
          exact ⟨q2, xs9, v9, rfl, rfl, hq9, by rw [hl9]; omega, Z9, q2 :: qs2, _, up2, ((z7.trans s8.z).trans s9.z), (r10.forget 2).forget 3, k7, n10, e'⟩
      · rw [if_neg hx] at e'
        rw [eq_false_of_ne_true hx]
        show tB3 X.K F (rwFC mC) _ _ _
        cases qs with
        | nil => have := n5.ns.len; cases this
        | cons q0 qs' =>
        obtain ⟨cm, hcm, e'⟩ := bnd e'
        split at e'
        case isFalse => cases e'
        rename_i hcl
        refine ⟨.ref p, k3, _, E2, .int (-1), E2, r5, rfl, fun v Z8 H8 r8 s8 d8 => ?_⟩
        have n8 := n5.stp fa2 s8
        cases d8.int_inv
        refine ⟨p, _, -1, .ref q0, rfl, rfl, SqL.of n8.hp, at_last, ?_⟩
        have hq2 : ∃ ys, H8 q0 = some (.lst ys) := by
          have := n8.ns
          cases this with
          | cons h _ _ => exact ⟨_, h⟩
        obtain ⟨ys8, hq8⟩ := hq2
        have hfc : fCons (rwFC mC) fNil E2 = some ([cm], E2) := ev_cons (ev_cb (ev_cons rfl ev_nil) hcm) ev_nil
        refine ⟨own_ty hq8, Z8, E2, _, E2, r8, hfc, fun vs Z9 H9 r9 s9 d9 => ?_⟩
        have n9 := n8.stp fa2 s9
        obtain ⟨v9, rfl, dv9⟩ := dds1 d9
        obtain ⟨xs9, hq9, hl9, r10, n10⟩ := n9.app r9 fa2 dv9
        exact ⟨q0, xs9, v9, rfl, rfl, hq9, by rw [hl9]; omega, Z9, q0 :: qs', _, up, ((z5.trans s8.z).trans s9.z), r10.forget 2, k3, n10, e'⟩
  · rintro σ' H' ⟨Z', qs, cur, up, s', r', k1, n', e'⟩
    rw [List.drop_length] at e'
    have hn := n'.ns.len
    refine ⟨.ref p, k1, p, _, rfl, .inl (SqL.of n'.hp), Z', E0, .int 1, E0, r', rfl, fun v Z8 H8 r8 s8 d8 => ?_⟩
    cases d8.int_inv
    have n8 := n'.stp fa0 s8
    cases qs with
    | nil => cases hn
    | cons q0 qs' =>
    cases up with
    | nil =>
      cases qs' with
      | cons _ _ => cases hn
      | nil =>
      cases e'
      refine ⟨rfl, true, ?_, ?_⟩
      · rfl
      show tCB (rTupOf X.K) (tCons (tOp (rIxL X.K) (tVar 1) (tD X.K F (fC (.int 0)))) tNil) σ' H8 D.rt
      refine ⟨.ref p, k1, Z8, E0, .int 0, E0, r8, rfl, fun v Z9 H9 r9 s9 d9 => ?_⟩
      cases d9.int_inv
      have n9 := n8.stp fa0 s9
      have hns := n9.ns
      cases hns with
      | cons hq dq _ =>
      refine ⟨p, _, 0, .ref q0, rfl, rfl, SqL.of n9.hp, rfl, q0, _, rfl, .inl ⟨SqL.of hq, fun l hl => ?_⟩⟩
      exact out (E' := E0) (r9.grow (grow_new r9.zh hl _)) (((s2.z.trans s').trans s8.z).trans (s9.z.trans (grow_new r9.zh hl _).z)) (new_tup r9.zh hl dq)
    | cons c2 up2 =>
      cases qs' with
      | nil => cases hn
      | cons q2 qs2 =>
      cases e'
      have hk : decide (V.int (((q0 :: q2 :: qs2).reverse.map V.ref).length : Nat) = V.int 1) = false := by
        apply decide_eq_false
        intro z
        injection z with z
        rw [List.length_map, List.length_reverse, List.length_cons, List.length_cons] at z
        omega
      refine ⟨rfl, false, by rw [hk], ?_⟩
      show tD X.K F (fC .none) σ' H8 D.rt
      exact ⟨Z8, E0, .none, E0, r8, rfl, fun v Z9 H9 r9 s9 d9 => out (E' := E0) r9 (((s2.z.trans s').trans s8.z).trans s9.z) d9⟩
end
end DL
end L2


set_option Elab.async false
set_option maxRecDepth 100000
set_option maxHeartbeats 4000000
set_option autoImplicit false
namespace L2
namespace DL
open PySem PySem.Spec PyProof.Rows
variable [Lab]
/-! ### text * n -/
def mulSD : PyData → PyData → Option PyData
  | .str x, .int n => if 1 ≤ x.length ∧ x.length ≤ 1000 ∧ 1 ≤ n ∧ n ≤ 2000 then some (.str (Txt.mul x n)) else none
  | _, _ => none
theorem od_mulS {X : Cx} : OpD X (binaryOp .Mult) mulSD := by
  intro pins s σ H x y v u Q I rx ry h
  obtain ⟨Z, a, b, d, sz, ha, hb, e, q⟩ := h
  match a, b, ha, hb, e with
  | .str x, .int n, ha, hb, e =>
    cases ha.str_inv
    cases hb.int_inv
    change (if 1 ≤ x.length ∧ x.length ≤ 1000 ∧ 1 ≤ n ∧ n ≤ 2000 then some (PyData.str (Txt.mul x n)) else none) = some d at e
    split at e
    case isFalse => cases e
    rename_i hz
    cases e
    obtain ⟨h1, h2, h3, h4⟩ := hz
    obtain ⟨t, rfl⟩ := rx
    obtain ⟨t2, rfl⟩ := ry
    refine PySem.SB.mul ⟨?_, fun _ _ => ?_, fun _ _ => ?_⟩ fun t' k => ⟨.str _, H, I.tok k, ⟨t', rfl⟩, q _ Z H (Grow.refl sz) (.str _)⟩
    · rw [Bool.or_eq_false_iff]; exact ⟨decide_eq_false (by omega), decide_eq_false (by omega)⟩
    · intro z
      have h5 : (1000 : Int) ≤ (2 ^ 63 - 1) / n := by
        rw [Int.le_ediv_iff_mul_le (by omega)]
        omega
      omega
    · have : x.length * n.toNat ≤ 1000 * 2000 := Nat.mul_le_mul h2 (by omega)
      unfold Builtin.Str.tooLong
      apply decide_eq_false
      have : (1000 * 2000 : Nat) < sizeLine := by rw [sizeLine_eq]; decide
      omega
end DL
end L2


set_option Elab.async false
set_option maxRecDepth 100000
set_option maxHeartbeats 4000000
set_option autoImplicit false
namespace L2
namespace DL
open PySem PySem.Spec PyProof.Rows
variable [Lab]
/-! ### text * n, n may be 0 -/
def mulS0D : PyData → PyData → Option PyData
  | .str x, .int n => if n = 0 then some (.str Str.empty) else mulSD (.str x) (.int n)
  | _, _ => none
theorem od_mulS0 {X : Cx} : OpD X (binaryOp .Mult) mulS0D := by
  intro pins s σ H x y v u Q I rx ry h
  obtain ⟨Z, a, b, d, sz, ha, hb, e, q⟩ := h
  match a, b, ha, hb, e with
  | .str x, .int n, ha, hb, e =>
    change (if n = 0 then some (PyData.str Str.empty) else mulSD (.str x) (.int n)) = some d at e
    split at e
    · rename_i h0
      subst h0
      cases e
      cases ha.str_inv
      cases hb.int_inv
      obtain ⟨t, rfl⟩ := rx
      obtain ⟨t2, rfl⟩ := ry
      refine PySem.SB.mul ⟨by decide, fun z => absurd (by decide) z, fun z => absurd (by decide) z⟩ fun t' k => ⟨.str _, H, I.tok k, ⟨t', rfl⟩, q _ Z H (Grow.refl sz) (.str _)⟩
    · exact od_mulS pins s σ H _ _ v u Q I rx ry ⟨Z, .str x, .int n, d, sz, ha, hb, e, q⟩
end DL
end L2


set_option Elab.async false
set_option maxRecDepth 100000
set_option maxHeartbeats 4000000
set_option autoImplicit false
namespace L2
namespace DL
open PySem PySem.Spec PyProof.Rows GenW
variable [Lab]
/-! ### generator defs that may raise at their first statement -/
inductive YR where
  | ok (ys : List PyData) | ex (c a : Str) (d : PyData)
inductive YF where
  | nx (ys : List PyData) (e : DEnv) | ex (c a : Str) (d : PyData) (e : DEnv)
section
variable {P : Program} {w : World} {K : PySem.W.Frag} {mg : Str → Option Value} {base : Heap} {x qual : Str} {st : Stmt} {f : Addr} {fd : FuncData} {N ps : List Str} {k : Nat} {g : DEnv → Option YF} {C : Str → Addr}
end
section
variable {X : Cx} {F : Fm} {k n : Nat} {f : Addr} {fd : FuncData} {ps : List Str} {x nm : Str} {p p2 pos pos2 : Pos} {e : Expr} {es : List Expr} {fa : DEnv → Option (List PyData × DEnv)} {C : Str → Addr}
end
section
variable {X : Cx} {F : Fm} {e : Expr} {f : DEnv → Option (PyData × DEnv)} {p pn1 pn2 tp pos : Pos}
end
end DL
end L2


set_option Elab.async false
set_option maxRecDepth 100000
set_option maxHeartbeats 4000000
set_option autoImplicit false
namespace L2
namespace DL
open PySem PySem.Spec PyProof.Rows
variable [Lab]
/-! ### xs.insert(i, d) -/
def rInsert : V → List V → Hp → VK → Prop := fun x vs H Q => ∃ l xs y, ∃ i : Nat, x = .ref l ∧ vs = [.int i, y] ∧ H l = some (.lst xs) ∧ i ≤ xs.length ∧ xs.length < lim ∧ Q .non (upd H l (.lst (xs.take i ++ y :: xs.drop i)))
theorem mt_insert {X : Cx} : MtM X "list.insert" rInsert := by
  intro pins s σ H x vs v us Q I rx rv h
  obtain ⟨l, xs, y, i, rfl, rfl, hH, hi, hz, q⟩ := h
  cases rx
  cases rv with
  | cons r1 rv =>
    obtain ⟨t, rfl⟩ := r1
    cases rv with
    | @cons _ u _ _ ru rv =>
    cases rv
    obtain ⟨z, its, n, r, hl, e⟩ := I.lstM hH
    have hlim : lim < sizeLine := by rw [sizeLine_eq]; decide
    obtain ⟨A, hA⟩ : ∃ A : Array Value, A = its.toArray := ⟨_, rfl⟩
    have hs : A.size = xs.length := by rw [hA, List.size_toArray, hl]
    obtain ⟨k, hk⟩ : ∃ k : Int, k = (i : Int) := ⟨_, rfl⟩
    have hfit : Builtin.List.listFitsIndex k = true := by
      have : (lim : Nat) < 2 ^ 62 := by decide
      exact fitsIndex_both (by omega) (by omega)
    have hnf : ¬ (!Builtin.List.listFitsIndex k) = true := by rw [hfit]; decide
    have hsz : A.size ≤ sizeLine := by rw [hs]; omega
    rw [← hA] at e
    rw [← hk]
    have hm := PySem.AutoSeq1.list_insert_list_int_val_1 l A n k t u hnf hsz
    refine call_meets PySem.F.slot_list_insert ⟨_, e, rfl⟩ PySem.F.entry_list_insert (PySem.F.args_list_insert_3 _ _ _) hm ⟨e, ?_⟩
    have hk2 : (if k < 0 then (k + (A.size : Int)).toNat else min k.toNat A.size) = i := by
      rw [if_neg (by omega), hs]; omega
    have hins : (A.extract 0 (if k < 0 then (k + (A.size : Int)).toNat else min k.toNat A.size)).push u ++ A.extract (if k < 0 then (k + (A.size : Int)).toNat else min k.toNat A.size) = (its.take i ++ u :: its.drop i).toArray := by
      rw [hk2, hA]
      apply Array.toList_inj.mp
      simp
      rw [List.take_of_length_le (by rw [List.length_drop]; exact Nat.le_refl _)]
    rw [hA] at e
    refine ⟨.non, _, I.lset (its' := its.take i ++ u :: its.drop i) hH e (by rw [← hA]; exact hins) ((r.take i).append (.cons ru (r.drop i))) ?_, rfl, q⟩
    rw [List.length_append, List.length_cons, List.length_take, List.length_drop]
    omega
section
variable {X : Cx} {F : Fm} {e e2 : Expr} {f g : DEnv → Option (PyData × DEnv)} {y : Str} {p pn pos cpos : Pos}
def sInsert (j : Nat) (f g : DEnv → Option (PyData × DEnv)) (env : DEnv) : Option DFlow := (rdO j env).bind fun _ => (f env).bind fun x => (g x.2).bind fun y => (rdO j y.2).bind fun zs => match x.1 with
  | .int i => if 0 ≤ i ∧ i.toNat ≤ zs.length ∧ zs.length < lim then some (.nx (wrO j (zs.take i.toNat ++ y.1 :: zs.drop i.toNat) y.2)) else none
  | _ => none
theorem ds_insert (j : Nat) (ha : PD X F e f) (hb : PD X F e2 g) (hN : X.N[j]? = some y := by rfl) (hv : Vis X.env.scope y := by first | exact Or.inl rfl | exact Or.inr (Or.inl rfl) | exact Or.inr (Or.inr rfl)) (hd : (y == ("__debug__" : Str)) = false := by decide)
    (hcd : (y == ("__classdict__" : Str)) = false := by decide)
    (hfew : ((backTo cpos (starEach [e, e2] X.env)).all (fun x => !x.1) && (backToKw cpos (keywordEach [] X.env)).all (fun x => x.1.isSome)
      && decide ([e, e2].length + ([] : List Keyword).length + (if ([] : List Keyword).isEmpty then 0 else 1) < 30)) = true := by rfl)
    (hline : (p.endLine == cpos.line) = true := by rfl) (hs : starEach [e, e2] X.env = (false, eval e X.env) :: starEach [e2] X.env := by rfl) (hs2 : starEach [e2] X.env = (false, eval e2 X.env) :: starEach [] X.env := by rfl) (hplain : (backTo cpos (starEach [e2] X.env)).any (·.1) = false := by rfl)
    (hsw : swapsWith (.Call (.Attribute (.Name y pn) "insert" p) [e, e2] [] cpos) none pos.line X.env = pure false := by rfl) :
    PDS X F (.Expr (.Call (.Attribute (.Name y pn) "insert" p) [e, e2] [] cpos) pos) (sInsert j f g) :=
  ps_imp (ps_expr (pe_bm PySem.F.plainAttrs_list PySem.F.slot_list_insert PySem.F.type_list_insert mt_insert (pe_var hN hv hd hcd) (pa_cons ha (pa_cons hb pa_nil hs2) hs) rfl hfew hline hs hplain) hsw) fun D σ H h => by
  obtain ⟨Z, env, fl, r, e, q⟩ := h
  obtain ⟨z0, h0, e⟩ := bnd e
  obtain ⟨⟨d, e1⟩, h1, e⟩ := bnd e
  obtain ⟨⟨d2, e2⟩, h2, e⟩ := bnd e
  obtain ⟨zs, h3, h⟩ := bnd e
  match d, h1, h with
  | .int i, h1, h =>
  change (if 0 ≤ i ∧ i.toNat ≤ zs.length ∧ zs.length < lim then some (.nx (wrO j (zs.take i.toNat ++ d2 :: zs.drop i.toNat) e2)) else none) = some fl at h
  split at h
  case isFalse => cases h
  rename_i hz
  cases h
  obtain ⟨p, xs, sj, _, hp0, _, _⟩ := r.poke h0
  refine ⟨.ref p, sj, own_ty hp0, Z, env, .int i, e1, r, h1, fun v Z1 H1 r1 s1 d1 => ⟨Z1, e1, d2, e2, r1, h2, fun v2 Z2 H2 r2 s2 dd2 => ?_⟩⟩
  cases d1.int_inv
  obtain ⟨p', xs', sj', zp, hp, dp, fin⟩ := r2.poke h3
  rw [sj] at sj'
  cases sj'
  have hl := dds_len dp
  refine ⟨p, xs', v2, i.toNat, rfl, ?_, hp, by omega, by omega, ?_⟩
  · rw [show ((i.toNat : Nat) : Int) = i by omega]
  obtain ⟨b1, b2⟩ := fin Z2 (upd H2 p (.lst (xs'.take i.toNat ++ v2 :: xs'.drop i.toNat))) _ (zs.take i.toNat ++ d2 :: zs.drop i.toNat) (pok_upd r2.zh zp hp _) upd_same (dds_app (dds_take _ dp) (.cons dd2 (dds_drop _ dp)))
  exact q σ Z2 _ b1 ((s1.trans s2).trans b2).z
theorem ev_insert {j : Nat} {env e1 e2 e3 : DEnv} {es0 zs : List PyData} {i : Int} {d : PyData} (h0 : rdO j env = some es0) (h1 : f env = some (.int i, e1)) (h2 : g e1 = some (d, e2)) (h3 : rdO j e2 = some zs) (hi : 0 ≤ i ∧ i.toNat ≤ zs.length ∧ zs.length < lim) (he : wrO j (zs.take i.toNat ++ d :: zs.drop i.toNat) e2 = e3) : sInsert j f g env = some (.nx e3) := by
  unfold sInsert
  rw [h0]
  show (f env).bind _ = _
  rw [h1]
  show (g e1).bind _ = _
  rw [h2]
  show (rdO j e2).bind _ = _
  rw [h3]
  show (if 0 ≤ i ∧ i.toNat ≤ zs.length ∧ zs.length < lim then _ else none) = _
  rw [if_pos hi, he]
end
/-! ### a text's split as a new list -/
section
variable {X : Cx} {F : Fm} {o e : Expr} {f fe : DEnv → Option (PyData × DEnv)} {apos pos p : Pos}
def nSplit (f fe : DEnv → Option (PyData × DEnv)) (env : DEnv) : Option (List PyData × DEnv) := (fTM1 splitG f fe env).bind fun x => match x.1 with
  | .list ds => some (ds, x.2)
  | _ => none
theorem pn_split (ha : PD X F o f) (he : PD X F e fe) (hs : starEach [e] X.env = [(false, eval e X.env)] := by rfl) (hbase : attributeBase o "split" X.env (eval o X.env) = eval o X.env := by rfl) (hline : (apos.endLine == pos.line) = true := by rfl) :
    PN X F (.Call (.Attribute o "split" apos) [e] [] pos) (nSplit f fe) := pe_imp (pe_m1 PySem.F.slot_str_split PySem.F.type_str_split mt_split ha he hs hbase hline) fun σ H Q h => by
  obtain ⟨Z, env, ds, env', rl, e, q⟩ := h
  obtain ⟨⟨d, e0⟩, h0, e⟩ := bnd e
  obtain ⟨⟨x, e1⟩, h1, e3⟩ := bnd h0
  match x, h1, e3 with
  | .str a, h1, e3 =>
    obtain ⟨⟨y, e2⟩, h2, e3⟩ := bnd e3
    obtain ⟨z, h3, e3⟩ := mpd e3
    cases e3
    refine ⟨Z, env, .str a, _, rl, h1, fun v Z1 H1 r1 s1 d1 => ?_⟩
    cases d1.str_inv
    refine ⟨⟨a, rfl⟩, Z1, e1, y, _, r1, h2, fun w Z2 H2 r2 s2 d2 => ?_⟩
    match y, d2, h3 with
    | .str b, d2, h3 =>
      change (if b.length ≠ 0 ∧ a.length ≤ lim then some (PyData.list ((Txt.split a b).map .str)) else none) = some d at h3
      split at h3
      case isFalse => cases h3
      rename_i hz
      cases h3
      cases e
      cases d2.str_inv
      have hl : lim + 2 ≤ sizeLine := by rw [sizeLine_eq]; decide
      refine ⟨a, b, rfl, rfl, by simpa using hz.1, by have := hz.2; omega, fun p hp => ?_⟩
      have gr := grow_own r2.zh hp (.lst ((Txt.split a b).map V.str))
      exact q p _ _ _ (r2.grow gr) ((s1.trans s2).trans gr.stp) ((s1.trans s2).new hp) (r2.zh.free hp) upd_same (dds_ofstrs _)
theorem ev_nsplit {env e1 e2 : DEnv} {a b : Str} (h : f env = some (.str a, e1)) (h2 : fe e1 = some (.str b, e2)) (hb : b.length ≠ 0) (ha : a.length ≤ lim) : nSplit f fe env = some ((Txt.split a b).map .str, e2) := by
  unfold nSplit fTM1
  rw [h]
  show ((fe e1).bind _).bind _ = _
  rw [h2]
  show ((if b.length ≠ 0 ∧ a.length ≤ lim then some (PyData.list ((Txt.split a b).map .str)) else none).map _).bind _ = _
  rw [if_pos ⟨hb, ha⟩]
  rfl
end
/-! ### a new list times 0 or 1 .., of any length -/
section
variable {X : Cx} {F : Fm} {a b : Expr} {pos : Pos} {g : DEnv → Option (PyData × DEnv)} {fn : DEnv → Option (List PyData × DEnv)}
def nRepM (fn : DEnv → Option (List PyData × DEnv)) (g : DEnv → Option (PyData × DEnv)) (env : DEnv) : Option (List PyData × DEnv) := (fn env).bind fun x => (g x.2).bind fun y => match y.1 with
  | .int k => if 0 ≤ k ∧ k ≤ 1 ∧ x.1.length ≤ lim then some ((List.replicate k.toNat x.1).flatten, y.2) else none
  | _ => none
theorem pn_repM (ha : PN X F a fn) (hb : PD X F b g) : PN X F (.BinOp a .Mult b pos) (nRepM fn g) := pe_imp (pe_op op_rep ha hb) fun σ H Q h => by
  obtain ⟨Z, env, d, env', r, e, q⟩ := h
  obtain ⟨⟨x, e1⟩, h1, h⟩ := bnd e
  obtain ⟨⟨y, e2⟩, h2, h⟩ := bnd h
  match y, h2, h with
  | .int k, h2, h =>
    change (if 0 ≤ k ∧ k ≤ 1 ∧ x.length ≤ lim then some ((List.replicate k.toNat x).flatten, e2) else none) = some (d, env') at h
    split at h
    case isFalse => cases h
    rename_i hc
    obtain ⟨rfl, rfl⟩ := Prod.mk.inj (Option.some.inj h)
    refine ⟨Z, env, x, e1, r, h1, fun p xs Z1 H1 r1 s1 h0 hz hp dd => ⟨Z1, e1, .int k, _, r1, h2, fun v2 Z2 H2 r2 s2 d2 => ?_⟩⟩
    cases d2.int_inv
    have fr1 : Fre σ e1 p := s1.fre (fre_new r h0)
    have hp2 : H2 p = some (.lst xs) := s2.h p _ hp nt_lst fr1
    have hl := dds_len dd
    have hle : xs.length * k.toNat ≤ sizeLine := by
      have : xs.length * k.toNat ≤ lim * 1 := Nat.mul_le_mul (by omega) (by omega)
      have := lim_le
      omega
    refine ⟨p, k, xs, rfl, rfl, hp2, by omega, by omega, hle, fun q0 hq0 => ?_⟩
    have gr := grow_own r2.zh hq0 (.lst (List.replicate k.toNat xs).flatten)
    exact q q0 _ _ _ (r2.grow gr) ((s1.trans s2).trans gr.stp) ((s1.trans s2).new hq0) (r2.zh.free hq0) upd_same (dds_rep (DDsm dd s2.z) k.toNat)
theorem ev_repM {env e1 e2 : DEnv} {xs : List PyData} {k : Int} (h : fn env = some (xs, e1)) (h2 : g e1 = some (.int k, e2)) (hc : 0 ≤ k ∧ k ≤ 1 ∧ xs.length ≤ lim) : nRepM fn g env = some ((List.replicate k.toNat xs).flatten, e2) := by
  unfold nRepM; rw [h]; show (g e1).bind _ = _; rw [h2]; exact if_pos hc
end
/-! ### a text, sign by sign -/
section
variable {X : Cx} {F : Fm} {e tg : Expr} {f : DEnv → Option (PyData × DEnv)}
def chS (c : Nat) : PyData := .str ⟨#[c]⟩
def iStrD (f : DEnv → Option (PyData × DEnv)) (env : DEnv) : Option (List PyData × DEnv) := (f env).bind fun x => match x.1 with
  | .str z => some (z.cps.toList.map chS, x.2)
  | _ => none
theorem di_str (ha : PD X F e f) : PDI X F tg e (iStrD f) := pi_imp (pi_str ha) fun σ H Q h => by
  obtain ⟨Z, env, ds, env', r, e, q⟩ := h
  obtain ⟨⟨d, e1⟩, h1, h⟩ := bnd e
  match d, h1, h with
  | .str z, h1, h =>
    cases h
    refine ⟨Z, env, .str z, _, r, h1, fun v Z1 H1 r1 s1 d1 => ?_⟩
    cases d1.str_inv
    refine ⟨z, rfl, q _ Z1 H1 r1 s1 ?_⟩
    have hl : (z.cps.toList.map chS).length = z.cps.size := by rw [List.length_map, Array.length_toList]
    refine ⟨fun _ => True, fun i H v H' => H' = H ∧ ∃ c, z.cps[i]? = some c ∧ v = .str ⟨#[c]⟩, by rw [hl]; exact walk_str, fun _ _ => trivial, fun i H x H' Zc hi y s1 s2 => ?_⟩
    obtain ⟨rfl, c, hc, rfl⟩ := y
    exact ⟨Zc, chS c, Grow.refl s2, by rw [List.getElem?_map, Array.getElem?_toList, hc]; rfl, .str _⟩
/-- a text within a text -/
def inSD : PyData → PyData → Option PyData
  | .str i, .str j => some (.bool (!(Builtin.Str.occurrences j i 0 j.length 1).isEmpty))
  | _, _ => none
theorem od_inS : OpD X (compareOp .In) inSD := by
  intro pins s σ H x y v u Q I rx ry h
  obtain ⟨Z, a, b, d, sz, ha, hb, e, q⟩ := h
  match a, b, ha, hb, e with
  | .str i, .str j, ha, hb, e =>
    cases e
    cases ha.str_inv
    cases hb.str_inv
    exact op_in_str pins s σ H _ _ v u Q I rx ry ⟨i, j, rfl, rfl, q _ Z H (Grow.refl sz) (.bl _)⟩
end
end DL
end L2


set_option Elab.async false
set_option maxRecDepth 100000
set_option maxHeartbeats 4000000
set_option autoImplicit false
namespace L2
namespace DL
open PySem PySem.Spec PyProof.Rows PySem.Calls PySem.NumText
/-! ### int of a text of up to 4300 digits -/
theorem wp_maxdigits {M : Model} {A : Around} {E : Value → Shared → Prop} {s : Shared} {Q : Nat → Shared → Prop} (hn : s.heap.NoDigits) (h : Q 4300 s) : wpAny M A Builtin.intMaxStrDigits Q E s := by
  obtain ⟨mc, hns, hnone⟩ := hn
  unfold Builtin.intMaxStrDigits
  refine wpAny_bind (wpAny_nsGet hns ?_)
  rw [hnone]
  exact wpAny_pure h
theorem wp_textL {M : Model} {A : Around} {E : Value → Shared → Prop} {s : Shared} {Q : Value → Shared → Prop} {v : Value} {text : List Nat} {n : Int} (hn : s.heap.NoDigits)
    (hs : ¬ (text.takeWhile (· != 0)).length ≤ 640) (hr : (int_private% "readNumeral") 4300 10 (text.takeWhile (· != 0)) = (int_private% "Numeral.value") n)
    (ha : ((text.takeWhile (· != 0)).length == text.length) = true) (h : Q (.int n s.toks) { s with toks := s.toks + 1 }) :
    wpAny M A ((int_private% "intFromText") v text 10) Q E s := by
  obtain ⟨hp, g, d, tk, os⟩ := s
  repeat (any_goals (first
    | assumption
    | (with_reducible refine wpAny_ite_false (decide_eq_false hs) ?_)
    | (with_reducible refine wpAny_ite_true (decide_eq_true ha) ?_)
    | ((with_reducible show wpAny _ _ Builtin.intMaxStrDigits _ _ _); refine wp_maxdigits hn ?_)
    | wp_step))
  all_goals (try rw [hr])
  all_goals (try dsimp only)
  repeat (any_goals (first
    | assumption
    | (with_reducible refine wpAny_ite_true (decide_eq_true ha) ?_)
    | wp_step))
structure HidL (p : Prop) : Prop where
  out : p
theorem meets_textL {x : PySem.Str} {u : Tok} {n : Int} (hl : ¬ (numSeenOf x).length ≤ 640) (hr : (int_private% "readNumeral") 4300 10 (numSeenOf x) = (int_private% "Numeral.value") n) (ha : ((numSeenOf x).length == (numTextOf x).length) = true) :
    Meets (Builtin.«int.__new__» ⟨[.type "int", .str x u], []⟩) (fun _ R s => s.heap.NoDigits ∧ R (.ok (.ret (.int n s.toks))) { s with toks := s.toks + 1 }) :=
  .of_wp fun prog w A R s h => by
    obtain ⟨hp, g, d, tk, os⟩ := s
    obtain ⟨hn, h⟩ := h
    have f1 := F.conv_sub_int
    have f2 := F.madeHere_int
    have f3 := PySem.W.KIN.str_int
    have f4 := PySem.W.KIN.str_idx
    have f5 := PySem.W.KIN.str_trunc
    have f6 : typeOf (.str x u) = pure (.type "str") := rfl
    have hk := HidL.mk (And.intro hl (And.intro hr ha))
    clear hl hr ha
    repeat (any_goals (first
      | assumption
      | ((with_reducible show wpAny _ _ ((int_private% "intFromText") _ _ _) _ _ _); refine wp_textL hn hk.out.1 hk.out.2.1 hk.out.2.2 ?_)
      | wp_step))
    all_goals first | exact ⟨_, rfl, h⟩ | skip
end DL
end L2


set_option Elab.async false
set_option maxRecDepth 100000
set_option maxHeartbeats 4000000
set_option autoImplicit false
namespace L2
namespace DL
open PySem PySem.Spec PyProof.Rows
section
variable {prog : Program} {w : World} {A : Around} {E : Value → Shared → Prop} {s : Shared} {Q : Value → Shared → Prop} {x : PySem.Str} {t : Tok} {n : Int}
theorem call_textL (hn : PySem.intText? x = some n) (hl : 640 < x.length) (hz : x.length ≤ sizeLine) (ha : x.cps.all (· < 128) = true) (hd : s.heap.NoDigits) (h : Q (.int n s.toks) { s with toks := s.toks + 1 }) : wpAny (model prog w) A (call (.type "int") [.str x t]) Q E s := by
  have e1 : numTextOf x = x.cps.toList := if_pos ha
  rcases PySem.read4300 x hz with ⟨m, h1, h2, h3⟩ | ⟨h1, _⟩
  · rw [hn] at h1
    cases h1
    have e2 : (numSeenOf x).length = x.length := by
      rw [beq_iff_eq.mp h2, e1]
      exact Array.length_toList
    exact PySem.call_int_1 (meets_textL (by omega) h3 h2) ⟨hd, ⟨rfl, h⟩⟩
  · rw [hn] at h1
    cases h1
end
variable [Lab]
def intLC : List PyData → Option PyData
  | [.str a] => if a.length ≤ 640 ∨ a.length ≤ lim ∧ a.cps.all (· < 128) = true then (PySem.intText? a).map .int else none
  | _ => none
theorem cd_intL {X : Cx} (hst : PySem.W.nsIn X.K cStatics "sys.int_max_str_digits" = some none) : CallD X (.type "int") intLC := by
  intro pins s σ H xs us Q I rs h
  obtain ⟨Z, ds, d, sz, hd, e, q⟩ := h
  match ds, hd, e with
  | [.str a], hd, e =>
    obtain ⟨v, rfl, h1⟩ := dds1 hd
    cases h1.str_inv
    change (if a.length ≤ 640 ∨ a.length ≤ lim ∧ a.cps.all (· < 128) = true then (PySem.intText? a).map PyData.int else none) = some d at e
    split at e
    case isFalse => cases e
    rename_i hl
    obtain ⟨n, hn, rfl⟩ := mpd e
    cases rs with
    | cons r1 rs =>
      cases rs
      obtain ⟨t, rfl⟩ := r1
      by_cases hs : a.length ≤ 640
      · exact PySem.W.KIN.call_text hn hs ⟨.int n, H, I.tok _, ⟨_, rfl⟩, q _ Z H (Grow.refl sz) (.int _)⟩
      · have h2 := hl.resolve_left hs
        exact call_textL hn (by omega) (Nat.le_trans h2.1 lim_le) h2.2 (let ⟨mc, hns, _⟩ := I.nolimit; ⟨mc, hns, PySem.W.ns_none_of I.kIn hns hst⟩) ⟨.int n, H, I.tok _, ⟨_, rfl⟩, q _ Z H (Grow.refl sz) (.int _)⟩
end DL
end L2


set_option Elab.async false
set_option maxRecDepth 100000
set_option maxHeartbeats 4000000
set_option autoImplicit false
namespace L2
namespace DL
open PySem PySem.Spec PyProof.Rows
variable [Lab]
/-! ### lists in a list are frozen -/
section
variable {K : PySem.W.Frag} {F : Fm} {Z H : Hp} {σ : St} {env : DEnv} {p q : Addr} {qs : List Addr} {dss : List (List PyData)}
theorem Rel.frz1 (r : Rel K F Z H σ env) (fa : FrA env) (hz : Z q = none) (hg : F.G q = none) (hp : ¬ F.P q) {xs : List V} {ds : List PyData} (hq : H q = some (.lst xs)) (hd : DDs K Z xs ds) :
    Rel K F (upd Z q (.lst xs)) H σ env ∧ Same Z (upd Z q (.lst xs)) ∧ DD K (upd Z q (.lst xs)) (.ref q) (.list ds) := by
  have hZ : Same Z (upd Z q (.lst xs)) := .of (same_new hz _)
  refine ⟨⟨r.z0.trans hZ, ⟨fun b x e n => ?_, fun b e => ?_⟩, r.gh, fun a ha => ?_, fun a ha => ?_, r.len, fun i dv e => ?_, r.inj, r.tb⟩, hZ, .lst (.inl (Rd.of upd_same)) (DDsm hd hZ)⟩
  · by_cases hb : b = q
    · subst hb; rw [upd_same] at e; cases e; exact hq
    · rw [upd_ne hb] at e; exact r.zh.h b x e n
  · by_cases hb : b = q
    · subst hb; rw [hq]; simp
    · rw [upd_ne hb] at e; exact r.zh.k b e
  · by_cases hb : a = q
    · subst hb; exact .inr ⟨hg, hp⟩
    · rw [upd_ne hb] at ha; exact r.nw a ha
  · obtain ⟨a1, b1, c1⟩ := r.pp a ha
    refine ⟨a1, ?_, c1⟩
    rw [upd_ne (show a ≠ q from fun z => hp (by rw [← z]; exact ha))]; exact b1
  · have sl := r.sl i dv e
    have o := fa i dv e
    cases dv with
    | fr d => obtain ⟨v, a, b⟩ := sl; exact ⟨v, a, DDm b hZ⟩
    | fn n => exact sl
    | ow es => cases o
    | rf es => cases o
    | dk es => cases o
theorem NIs.freeze : ∀ {qs : List Addr} {dss : List (List PyData)} {Z : Hp}, NIs K Z H qs dss → Rel K F Z H σ env → FrA env → qs.Nodup → (∀ q ∈ qs, Z q = none ∧ F.G q = none ∧ ¬ F.P q) →
    ∃ Z', Rel K F Z' H σ env ∧ Same Z Z' ∧ (∀ a, a ∉ qs → Z' a = Z a) ∧ DDs K Z' (qs.reverse.map V.ref) (dss.reverse.map PyData.list)
  | _, _, Z, .nil, r, _, _, _ => ⟨Z, r, Same.refl Z, fun _ _ => rfl, .nil⟩
  | q :: qs, ds :: dss, Z, .cons h d rest, r, fa, nd, fr => by
    rw [List.nodup_cons] at nd
    obtain ⟨Z1, r1, s1, k1, d1⟩ := NIs.freeze rest r fa nd.2 fun a ha => fr a (List.mem_cons_of_mem _ ha)
    obtain ⟨z1, z2, z3⟩ := fr q List.mem_cons_self
    obtain ⟨r2, s2, d2⟩ := r1.frz1 fa (by rw [k1 q nd.1]; exact z1) z2 z3 h (DDsm d s1)
    refine ⟨_, r2, s1.trans s2, fun a ha => ?_, ?_⟩
    · rw [upd_ne (fun z => ha (by rw [z]; exact List.mem_cons_self))]
      exact k1 a fun z => ha (List.mem_cons_of_mem _ z)
    · rw [List.reverse_cons, List.reverse_cons, List.map_append, List.map_append]
      exact dds_app (DDsm d1 s2) (.cons d2 .nil)
theorem NI.freeze (n : NI K F Z H p qs dss) (r : Rel K F Z H σ env) (fa : FrA env) : ∃ Z', Rel K F Z' H σ env ∧ Same Z Z' ∧ DD K Z' (.ref p) (.list (dss.reverse.map PyData.list)) := by
  have nd := n.nd
  rw [List.nodup_cons] at nd
  obtain ⟨Z1, r1, s1, k1, d1⟩ := NIs.freeze n.ns r fa nd.2 fun q hq => n.fr q (List.mem_cons_of_mem _ hq)
  obtain ⟨z1, z2, z3⟩ := n.fr p List.mem_cons_self
  obtain ⟨r2, s2, d2⟩ := r1.frz1 fa (by rw [k1 p nd.1]; exact z1) z2 z3 n.hp d1
  exact ⟨_, r2, s1.trans s2, d2⟩
end
/-! ### the law's own reader -/
def lrItem (mF : List PyData → Option PyData) (w : Str) : Option PyData := match (Txt.split w ":").map PyData.str with
  | [a, b] => (mF [b]).bind fun r => (truthD r).bind fun k => if k then (intLC [b]).map fun n => .tuple [a, n] else some (.tuple [.str w])
  | _ => some (.tuple [.str w])
def lrAdd (mF : List PyData → Option PyData) (w : Str) (cur : List PyData) (up : List (List PyData)) : Option (List PyData × List (List PyData)) :=
  (lrItem mF w).bind fun c => if cur.length < lim then some (cur ++ [c], up) else none
def lrStep (mF : List PyData → Option PyData) (w : Str) (cur : List PyData) (up : List (List PyData)) : Option (List PyData × List (List PyData)) :=
  if w.length ≤ lim then
    if w = "(" then (if up.length < lim then some ([], cur :: up) else none)
    else if cutS w none (some 2) = ")x" then match up with
      | [] => lrAdd mF w cur []
      | c2 :: up2 => (mF [.str (cutS w (some 2) none)]).bind fun r => (truthD r).bind fun k => if k then (intLC [.str (cutS w (some 2) none)]).bind fun n => if c2.length < lim then some (c2 ++ [.tuple [.str "repeat", n, .tuple cur]], up2) else none else lrAdd mF w cur (c2 :: up2)
    else lrAdd mF w cur up
  else none
def lrRun (mF : List PyData → Option PyData) : List PyData → List PyData → List (List PyData) → Option (List PyData × List (List PyData))
  | [], cur, up => some (cur, up)
  | .str w :: ws, cur, up => (lrStep mF w cur up).bind fun s => lrRun mF ws s.1 s.2
  | _ :: _, _, _ => none
abbrev lrI : DEnv → Option (List PyData × DEnv) := iSeq (fFrz (nRepM (nSplit (rdF 0) (fC (.str " "))) (fCB intOfD (fCons (fBin neD (rdF 0) (fC (.str ""))) fNil))))
abbrev lrP : DEnv → Option (PyData × DEnv) := fTM1 splitG (rdF 2) (fC (.str ":"))
abbrev lrC1 : DEnv → Option (Bool × DEnv) := fTst (fBin eqD (rdF 2) (fC (.str "(")))
abbrev lrC2 : DEnv → Option (Bool × DEnv) := fTst (fBin eqD (fSlT (rdF 2) oNone (oSome (fC (.int 2)))) (fC (.str ")x")))
abbrev lrC4 (mF : List PyData → Option PyData) : DEnv → Option (Bool × DEnv) := fTst (fCB mF (fCons (fSlT (rdF 2) (oSome (fC (.int 2))) oNone) fNil))
abbrev lrC3 (mF : List PyData → Option PyData) : DEnv → Option (Bool × DEnv) := fAnd (fTst (fBin eqD (fLenN 3) (fC (.int 2)))) (fTst (fCB mF (fCons (fIxN 3 (fC (.int 1))) fNil)))
abbrev lrFB : DEnv → Option (PyData × DEnv) := fTup (fCons (fC (.str "repeat")) (fCons (fCB intLC (fCons (fSlT (rdF 2) (oSome (fC (.int 2))) oNone) fNil)) (fCons (rdF 4) fNil)))
abbrev lrFC : DEnv → Option (PyData × DEnv) := fTup (fCons (fIxN 3 (fC (.int 0))) (fCons (fCB intLC (fCons (fIxN 3 (fC (.int 1))) fNil)) fNil))
abbrev lrFD : DEnv → Option (PyData × DEnv) := fTup (fCons (rdF 2) fNil)
abbrev lB1 (K : PySem.W.Frag) : TS := tAsg (tCB (rTupOf K) (tCons (tBM0 K "list" rPop (tVar 1)) tNil)) (gName 4)
abbrev lB2 (K : PySem.W.Frag) (F : Fm) (mF : List PyData → Option PyData) : TT := tAnd (tDT K F lrC2) (tAnd (tTest (tOp (rI0 fun i j => .bl (decide (j < i))) (tCB (rLenOf K) (tCons (tVar 1) tNil)) (tD K F (fC (.int 1))))) (tDT K F (lrC4 mF)))
def lrM (mF : List PyData → Option PyData) (gR : DEnv → Option DFlow) (env : DEnv) : Option DFlow := match env with
  | [some (.fr page), none, none, none, none] => (lrI [some (.fr page), none, none, none, none]).bind fun x => (lrRun mF x.1 [] []).bind fun s => gR [some (.fr page), some (.fr (.list ((s.1 :: s.2).reverse.map .list))), none, none, none]
  | _ => none
abbrev lrE (pg : PyData) (w ps inn : Option PyData) : DEnv := [some (.fr pg), none, w.map .fr, ps.map .fr, inn.map .fr]
theorem frA_lr {pg : PyData} {a b c : Option PyData} : FrA (lrE pg a b c) := fun i dv e => by
  match i, e with
  | 0, e => cases e; rfl
  | 1, e => cases e
  | 2, e => cases a <;> cases e; rfl
  | 3, e => cases b <;> cases e; rfl
  | 4, e => cases c <;> cases e; rfl
  | n + 5, e => cases e
theorem lrI_env {pg : PyData} {x : List PyData × DEnv} (h : lrI [some (.fr pg), none, none, none, none] = some x) : x.2 = [some (.fr pg), none, none, none, none] := by
  obtain ⟨⟨d, e1⟩, h1, h⟩ := bnd h
  obtain ⟨ds, h2, rfl⟩ := mpd h
  obtain ⟨⟨y, e2⟩, h3, h4⟩ := mpd h1
  cases h4
  obtain ⟨⟨z, e3⟩, h5, h6⟩ := bnd h3
  obtain ⟨⟨u, e4⟩, h7, h8⟩ := bnd h6
  have q3 : e3 = [some (.fr pg), none, none, none, none] := by
    obtain ⟨⟨d, e5⟩, h9, h10⟩ := bnd h5
    obtain ⟨⟨a, e6⟩, h11, h12⟩ := bnd h9
    cases h11
    cases pg with
    | str a =>
      obtain ⟨⟨b, e7⟩, h13, h14⟩ := bnd h12
      cases h13
      obtain ⟨c, h15, h16⟩ := mpd h14
      cases h16
      cases d with
      | list ds => cases h10; rfl
      | _ => cases h10
    | _ => cases h12
  subst q3
  have q4 : e4 = [some (.fr pg), none, none, none, none] := by
    obtain ⟨⟨as, e5⟩, h9, h10⟩ := bnd h7
    obtain ⟨d, h11, h12⟩ := mpd h10
    cases h12
    obtain ⟨⟨b, e6⟩, h13, h14⟩ := bnd h9
    obtain ⟨⟨bs, e7⟩, h15, h16⟩ := mpd h14
    cases h16
    cases h15
    obtain ⟨⟨c, e8⟩, h17, h18⟩ := bnd h13
    cases h17
    obtain ⟨⟨c2, e9⟩, h19, h20⟩ := bnd h18
    cases h19
    obtain ⟨d2, h21, h22⟩ := mpd h20
    cases h22
    rfl
  subst q4
  cases u with
  | int k =>
    dsimp only at h8
    split at h8
    case isFalse => cases h8
    cases h8
    rfl
  | _ => cases h8
theorem lrC1_eq (pg ps : PyData) (w : Str) (c : Option DV) : lrC1 [some (.fr pg), none, some (.fr (.str w)), some (.fr ps), c] = some (decide (w = "("), [some (.fr pg), none, some (.fr (.str w)), some (.fr ps), c]) := rfl
theorem slT_eq {w : Str} (h : w.length ≤ lim) (l u : Option Int) : slT (.str w) l u = some (.str (cutS w l u)) := by
  unfold slT
  dsimp only
  rw [if_pos h]
theorem lrC2_eq (pg ps : PyData) {w : Str} (h : w.length ≤ lim) (c : Option DV) : lrC2 [some (.fr pg), none, some (.fr (.str w)), some (.fr ps), c] = some (decide (cutS w none (some 2) = ")x"), [some (.fr pg), none, some (.fr (.str w)), some (.fr ps), c]) := by
  have h1 : fSlT (rdF 2) oNone (oSome (fC (.int 2))) [some (.fr pg), none, some (.fr (.str w)), some (.fr ps), c] = some (.str (cutS w none (some 2)), [some (.fr pg), none, some (.fr (.str w)), some (.fr ps), c]) := by
    show (slT (.str w) none (some 2)).map _ = _
    rw [slT_eq h]
    rfl
  exact ev_tst (d := .bool (decide (cutS w none (some 2) = ")x"))) (ev_bin h1 rfl rfl) rfl
theorem lrSl_eq (pg ps : PyData) {w : Str} (h : w.length ≤ lim) (c : Option DV) : fSlT (rdF 2) (oSome (fC (.int 2))) oNone [some (.fr pg), none, some (.fr (.str w)), some (.fr ps), c] = some (.str (cutS w (some 2) none), [some (.fr pg), none, some (.fr (.str w)), some (.fr ps), c]) := by
  show (slT (.str w) (some 2) none).map _ = _
  rw [slT_eq h]
  rfl
theorem lrC4_eq {mF : List PyData → Option PyData} (pg ps : PyData) {w : Str} (h : w.length ≤ lim) {c : Option DV} {r : PyData} {k : Bool} (hm : mF [.str (cutS w (some 2) none)] = some r) (ht : truthD r = some k) : lrC4 mF [some (.fr pg), none, some (.fr (.str w)), some (.fr ps), c] = some (k, [some (.fr pg), none, some (.fr (.str w)), some (.fr ps), c]) :=
  ev_tst (ev_cb (ev_cons (lrSl_eq pg ps h c) ev_nil) hm) ht

section
variable {X : Cx} {F : Fm} {mF : List PyData → Option PyData} {gR : DEnv → Option DFlow} {s0 sP sA sB1 sB3 sC sD sR : Stmt} {tg iter c1 c2 c3 : Expr} {p0 p1 p2 p3 : Pos}
/-- what is put at the end of the last list -/
theorem lr_put {Z H : Hp} {σ : St} {D : Ends} {p q : Addr} {qs : List Addr} {cur : List PyData} {up : List (List PyData)} {pg w ps : PyData} {inn : Option PyData} {c : PyData} {fB : DEnv → Option (PyData × DEnv)} {Z0 : Hp}
    (r : Rel X.K F Z H σ (lrE pg (some w) (some ps) inn)) (n : NI X.K F Z H p (q :: qs) (cur :: up)) (k : σ[1]? = some (some (.ref p))) (hl : cur.length < lim) (hf : fB (lrE pg (some w) (some ps) inn) = some (c, lrE pg (some w) (some ps) inn)) (z0 : Same Z0 Z)
    (go : ∀ Z' H', Rel X.K F Z' H' σ (lrE pg none none none) → Same Z0 Z' → NI X.K F Z' H' p (q :: qs) ((cur ++ [c]) :: up) → D.nx σ H') : tB3 X.K F fB D σ H := by
  let E : DEnv := lrE pg (some w) (some ps) inn
  have fa : FrA E := frA_lr
  refine ⟨.ref p, k, _, E, .int (-1), E, r, rfl, fun v Z8 H8 r8 s8 d8 => ?_⟩
  have n8 := n.stp fa s8
  cases d8.int_inv
  refine ⟨p, _, -1, .ref q, rfl, rfl, SqL.of n8.hp, at_last, ?_⟩
  obtain ⟨ys8, hq8⟩ : ∃ ys, H8 q = some (.lst ys) := by
    have := n8.ns
    cases this with
    | cons h _ _ => exact ⟨_, h⟩
  refine ⟨own_ty hq8, Z8, E, _, E, r8, ev_cons hf ev_nil, fun vs Z9 H9 r9 s9 d9 => ?_⟩
  have n9 := n8.stp fa s9
  obtain ⟨v9, rfl, dv9⟩ := dds1 d9
  obtain ⟨xs9, hq9, hl9, r10, n10⟩ := n9.app r9 fa dv9
  have hlim : lim < sizeLine := by rw [sizeLine_eq]; decide
  exact ⟨q, xs9, v9, rfl, rfl, hq9, by rw [hl9]; omega, go Z9 _ (((r10.forget 2).forget 3).forget 4) ((z0.trans s8.z).trans s9.z) n10⟩
theorem lrItem_cases {w : Str} {c : PyData} (h : lrItem mF w = some c) : (∃ a b r k, (Txt.split w ":").map PyData.str = [a, b] ∧ mF [b] = some r ∧ truthD r = some k ∧ ((k = true ∧ ∃ n, intLC [b] = some n ∧ c = .tuple [a, n]) ∨ (k = false ∧ c = .tuple [.str w]))) ∨ (((Txt.split w ":").map PyData.str).length ≠ 2 ∧ c = .tuple [.str w]) := by
  unfold lrItem at h
  split at h
  · rename_i a b hL
    obtain ⟨r, h1, h⟩ := bnd h
    obtain ⟨k, h2, h⟩ := bnd h
    cases k with
    | true => obtain ⟨n, h3, h4⟩ := mpd h; exact .inl ⟨a, b, r, true, hL, h1, h2, .inl ⟨rfl, n, h3, h4.symm⟩⟩
    | false => cases h; exact .inl ⟨a, b, r, false, hL, h1, h2, .inr ⟨rfl, rfl⟩⟩
  · rename_i hL
    cases h
    refine .inr ⟨fun hl => ?_, rfl⟩
    match hm : (Txt.split w ":").map PyData.str, hl with
    | [a, b], _ => exact hL a b hm
theorem lr_tail {Z H : Hp} {σ : St} {D : Ends} {p : Addr} {qs : List Addr} {cur cur' : List PyData} {up up' : List (List PyData)} {pg : PyData} {w : Str} {Z0 : Hp}
    (r : Rel X.K F Z H σ (lrE pg (some (.str w)) (some (.list ((Txt.split w ":").map .str))) none)) (n : NI X.K F Z H p qs (cur :: up)) (k : σ[1]? = some (some (.ref p))) (ha : lrAdd mF w cur up = some (cur', up')) (z0 : Same Z0 Z)
    (go : ∀ Z' H', Rel X.K F Z' H' σ (lrE pg none none none) → Same Z0 Z' → NI X.K F Z' H' p qs (cur' :: up') → D.nx σ H') : tIfS (tDT X.K F (lrC3 mF)) (tB3 X.K F lrFC) (tB3 X.K F lrFD) D σ H := by
  obtain ⟨c, hc, ha⟩ := bnd ha
  split at ha
  case isFalse => cases ha
  rename_i hl
  cases ha
  let E : DEnv := lrE pg (some (.str w)) (some (.list ((Txt.split w ":").map .str))) none
  have fa : FrA E := frA_lr
  cases qs with
  | nil => have := n.ns.len; cases this
  | cons q0 qs' =>
  have fD : lrFD E = some (.tuple [.str w], E) := ev_tup (ds := [.str w]) (ev_cons rfl ev_nil) (by show 1 ≤ 100000; decide)
  rcases lrItem_cases hc with ⟨a, b, rr, kk, hL, h1, h2, h3⟩ | ⟨hL, rfl⟩
  · have x1 : fIxN 3 (fC (.int 1)) E = some (b, E) := ev_ixN (i := .int 1) (d0 := .list ((Txt.split w ":").map .str)) (d := .list ((Txt.split w ":").map .str)) rfl rfl rfl (by rw [hL]; rfl)
    have x0 : fIxN 3 (fC (.int 0)) E = some (a, E) := ev_ixN (i := .int 0) (d0 := .list ((Txt.split w ":").map .str)) (d := .list ((Txt.split w ":").map .str)) rfl rfl rfl (by rw [hL]; rfl)
    have e2 : fTst (fBin eqD (fLenN 3) (fC (.int 2))) E = some (true, E) := ev_tst (d := .bool true) (ev_bin (ev_lenN (d := .list ((Txt.split w ":").map .str)) (n := .int 2) rfl (by rw [hL]; rfl)) rfl rfl) rfl
    have e3 : lrC3 mF E = some (kk, E) := ev_and1 e2 (ev_tst (ev_cb (ev_cons x1 ev_nil) h1) h2)
    refine ⟨Z, E, kk, E, r, e3, fun Z6 H6 r6 s6 => ?_⟩
    rcases h3 with ⟨rfl, nn, h4, rfl⟩ | ⟨rfl, rfl⟩
    · show tB3 X.K F lrFC D σ H6
      have fC : lrFC E = some (.tuple [a, nn], E) := ev_tup (ds := [a, nn]) (ev_cons x0 (ev_cons (ev_cb (ev_cons x1 ev_nil) h4) ev_nil)) (by show 2 ≤ 100000; decide)
      exact lr_put (Z0 := Z0) r6 (n.stp fa s6) k hl fC (z0.trans s6.z) go
    · show tB3 X.K F lrFD D σ H6
      exact lr_put (Z0 := Z0) r6 (n.stp fa s6) k hl fD (z0.trans s6.z) go
  · have hne : decide (((((Txt.split w ":").map PyData.str).length : Nat) : Int) = 2) = false := decide_eq_false (by omega)
    have e2 : fTst (fBin eqD (fLenN 3) (fC (.int 2))) E = some (false, E) := ev_tst (d := .bool false) (ev_bin (ev_lenN (d := .list ((Txt.split w ":").map .str)) (n := .int (((Txt.split w ":").map PyData.str).length : Nat)) rfl rfl) rfl (by show some (PyData.bool (decide (((((Txt.split w ":").map PyData.str).length : Nat) : Int) = 2))) = _; rw [hne])) rfl
    refine ⟨Z, E, false, E, r, ev_and0 e2, fun Z6 H6 r6 s6 => ?_⟩
    show tB3 X.K F lrFD D σ H6
    exact lr_put (Z0 := Z0) r6 (n.stp fa s6) k hl fD (z0.trans s6.z) go
theorem lr_body (h0 : PS X s0 (tAsg (tLst (tCons (tLst tNil) tNil)) (gName 1))) (hi : PDI X F tg iter lrI) (hg : PG X tg (gName 2)) (hP : PS X sP (tAsg (tD X.K F lrP) (gName 3))) (h1 : PDT X F c1 lrC1) (hA : PS X sA (tDrop (tBM X.K "list" rAppend (tVar 1) (tCons (tLst tNil) tNil))))
    (h2 : PT X c2 (lB2 X.K F mF)) (hB1 : PS X sB1 (lB1 X.K)) (hB3 : PS X sB3 (tB3 X.K F lrFB)) (h3 : PDT X F c3 (lrC3 mF)) (hC : PS X sC (tB3 X.K F lrFC)) (hD : PS X sD (tB3 X.K F lrFD)) (hR : PDS X F sR gR)
    (hp : PassesOwn (model X.prog X.w) X.A X.env X.xe := by exact PassesOwn.never) (hc : X.calm = true := by rfl) (hs : ∀ x, foldedSetIterable iter X.env x = pure x := by intro _; rfl) :
    PDSs X F [s0, .For tg iter [sP, .If c1 [sA] [.If c2 [sB1, sB3] [.If c3 [sC] [sD] p3] p2] p1] [] p0, sR] (lrM mF gR) := by
  have hbody : PSs X [sP, .If c1 [sA] [.If c2 [sB1, sB3] [.If c3 [sC] [sD] p3] p2] p1] _ := pss_cons hP (pss_one (ps_if h1 (pss_one hA) (pss_one (ps_if h2 (pss_cons hB1 (pss_one hB3)) (pss_one (ps_if h3 (pss_one hC) (pss_one hD)))))))
  refine pss_imp (pss_cons h0 (pss_cons (ps_for hp hc hi hg hbody hs) (pss_one hR))) fun D σ H h => ?_
  obtain ⟨Z, env, fl, r, e, q⟩ := h
  unfold lrM at e
  split at e
  case h_2 => cases e
  rename_i pg
  obtain ⟨⟨ws, e9⟩, hI, e⟩ := bnd e
  have := lrI_env hI
  dsimp only at this
  subst this
  obtain ⟨⟨lc, lu⟩, hrun, hgR⟩ := bnd e
  clear e
  let E0 : DEnv := lrE pg none none none
  have fa0 : FrA E0 := frA_lr
  have hlim : lim < sizeLine := by rw [sizeLine_eq]; decide
  refine ⟨by show 0 ≤ sizeLine; exact Nat.zero_le _, fun a ha => ⟨Nat.le_trans (show 1 ≤ lim by decide) (Nat.le_of_lt hlim), fun p hp' => ?_⟩⟩
  have hap : a ≠ p := fun z => by rw [← z, upd_same] at hp'; cases hp'
  have hp0 : H p = none := by rw [upd_ne (Ne.symm hap)] at hp'; exact hp'
  have ga := grow_lay r ha (.lst [])
  have ra := r.grow ga
  have gp := grow_lay ra hp' (.lst [.ref a])
  have rp := ra.grow gp
  have np : NI X.K F Z (upd (upd H a (.lst [])) p (.lst [.ref a])) p [a] [[]] := by
    refine ⟨upd_same, by simp only [List.nodup_cons, List.mem_singleton]; exact ⟨Ne.symm hap, by simp, List.nodup_nil⟩, fun b hb => ?_, .cons (by rw [upd_ne hap, upd_same]) .nil .nil⟩
    have hb0 : H b = none := by
      rcases List.mem_cons.mp hb with rfl | hb
      · exact hp0
      · rw [List.mem_singleton.mp hb]; exact ha
    exact ⟨r.zh.free hb0, r.gh.free hb0, fun z => (r.pp _ z).1 hb0⟩
  have lenσ : σ.length = 5 := r.len.symm
  have r1 : Rel X.K F Z (upd (upd H a (.lst [])) p (.lst [.ref a])) (σ.set 1 (some (.ref p))) E0 := rp.junk rfl _
  have s1 : (σ.set 1 (some (V.ref p)))[1]? = some (some (.ref p)) := List.getElem?_set_self (by rw [lenσ]; decide)
  refine ⟨Z, E0, ws, E0, r1, hI, fun J Z1 H1 r2 s2 w => ?_⟩
  obtain ⟨G, Y, wk, hG, hY⟩ := w
  refine for_it wk (fun i σ' H' => ∃ Z' qs cur up, Same Z1 Z' ∧ Rel X.K F Z' H' σ' E0 ∧ σ'[1]? = some (some (.ref p)) ∧ NI X.K F Z' H' p qs (cur :: up) ∧ lrRun mF (ws.drop i) cur up = some (lc, lu)) ⟨Z1, [a], [], [], Same.refl _, r2, s1, np.stp fa0 s2, hrun⟩ ?_ ?_ ?_
  · rintro i σ' H' hi ⟨Z', qs, cur, up, s', r', _⟩
    exact hG H' (s'.trans r'.zh)
  · rintro i x σ' H' H2 hi ⟨Z', qs, cur, up, s', r', k1, n', e'⟩ y
    obtain ⟨Zn, dw, gr, hdw, dd⟩ := hY i H' x H2 Z' hi y s' r'.zh
    have ed : ws.drop i = dw :: ws.drop (i + 1) := by
      obtain ⟨hl, hx⟩ := List.getElem?_eq_some_iff.mp hdw
      rw [← hx]
      exact List.drop_eq_getElem_cons hl
    rw [ed] at e'
    obtain ⟨w, rfl⟩ : ∃ w : Str, dw = .str w := by
      cases dw <;> first | exact ⟨_, rfl⟩ | (unfold lrRun at e'; cases e')
    unfold lrRun at e'
    obtain ⟨⟨cur', up'⟩, hst, enx⟩ := bnd e'
    clear e'
    unfold lrStep at hst
    split at hst
    case isFalse => cases hst
    rename_i hwl
    let E1 : DEnv := lrE pg (some (.str w)) none none
    have fa1 : FrA E1 := frA_lr
    have r3 : Rel X.K F Zn H2 (σ'.set 2 (some x)) E1 := (r'.grow gr).store 2 dd
    have k3 : (σ'.set 2 (some x))[1]? = some (some (.ref p)) := by rw [List.getElem?_set_ne (by decide)]; exact k1
    have n3 := n'.grow gr
    let ps : PyData := .list ((Txt.split w ":").map .str)
    have hPe : lrP E1 = some (ps, E1) := by
      show ((splitG w (.str ":")).map _) = _
      show ((if (":" : Str).length ≠ 0 ∧ w.length ≤ lim then some (PyData.list ((Txt.split w ":").map .str)) else none).map _) = _
      rw [if_pos ⟨by decide, hwl⟩]
      rfl
    refine ⟨Zn, E1, ps, E1, r3, hPe, fun vP Zp Hp' rP sP' dP => ?_⟩
    have nP := n3.stp fa1 sP'
    let E2 : DEnv := lrE pg (some (.str w)) (some ps) none
    have fa2 : FrA E2 := frA_lr
    have r3b : Rel X.K F Zp Hp' ((σ'.set 2 (some x)).set 3 (some vP)) E2 := rP.store 3 dP
    have k3b : ((σ'.set 2 (some x)).set 3 (some vP))[1]? = some (some (.ref p)) := by rw [List.getElem?_set_ne (by decide)]; exact k3
    refine ⟨Zp, E2, decide (w = "("), E2, r3b, lrC1_eq _ _ _ _, fun Z4 H4 r4 s4 => ?_⟩
    have n4 := nP.stp fa2 s4
    have z4 : Same Z1 Z4 := ((s'.trans gr.z).trans sP'.z).trans s4.z
    by_cases hw : w = "("
    · rw [if_pos hw] at hst
      rw [decide_eq_true hw]
      show tDrop (tBM X.K "list" rAppend (tVar 1) (tCons (tLst tNil) tNil)) _ _ _
      split at hst
      case isFalse => cases hst
      rename_i hl
      cases hst
      refine ⟨.ref p, k3b, own_ty n4.hp, by show 0 ≤ sizeLine; exact Nat.zero_le _, fun b hb => ?_⟩
      have hbp : p ≠ b := fun z => by rw [← z, n4.hp] at hb; cases hb
      obtain ⟨r5, n5⟩ := n4.push r4 fa2 hb
      refine ⟨p, _, .ref b, rfl, rfl, by rw [upd_ne hbp]; exact n4.hp, ?_, Z4, b :: qs, [], cur :: up, z4, (r5.forget 2).forget 3, k3b, n5, enx⟩
      have := n4.ns.len
      rw [List.length_map, List.length_reverse, this, List.length_cons]
      omega
    · rw [if_neg hw] at hst
      rw [decide_eq_false hw]
      show tIfS (lB2 X.K F mF) _ _ _ _ _
      refine ⟨Z4, E2, decide (cutS w none (some 2) = ")x"), E2, r4, lrC2_eq _ _ hwl _, fun Z5 H5 r5 s5 => ?_⟩
      have n5 := n4.stp fa2 s5
      have z5 := z4.trans s5.z
      by_cases hx : cutS w none (some 2) = ")x"
      · rw [if_pos hx] at hst
        rw [decide_eq_true hx]
        refine ⟨.ref p, k3b, p, _, rfl, .inl (SqL.of n5.hp), Z5, E2, .int 1, E2, r5, rfl, fun v Z6 H6 r6 s6 d6 => ?_⟩
        cases d6.int_inv
        have n6 := n5.stp fa2 s6
        have z6 := z5.trans s6.z
        have hqn := n6.ns.len
        have hln : (qs.reverse.map V.ref).length = up.length + 1 := by rw [List.length_map, List.length_reverse, hqn, List.length_cons]
        cases up with
        | nil =>
          refine ⟨(((qs.reverse.map V.ref).length : Nat) : Int), 1, rfl, rfl, false, ?_, ?_⟩
          · show V.bl (decide ((1 : Int) < (((qs.reverse.map V.ref).length : Nat) : Int))) = V.bl false
            rw [decide_eq_false (by rw [hln]; decide)]
          show tIfS (tDT X.K F (lrC3 mF)) (tB3 X.K F lrFC) (tB3 X.K F lrFD) _ _ _
          exact lr_tail (Z0 := Z1) r6 n6 k3b hst z6 fun Z' H' ra sa na => ⟨Z', qs, cur', up', sa, ra, k3b, na, enx⟩
        | cons c2 up2 =>
          obtain ⟨rr, h1, hst⟩ := bnd hst
          obtain ⟨kk, h2, hst⟩ := bnd hst
          refine ⟨(((qs.reverse.map V.ref).length : Nat) : Int), 1, rfl, rfl, true, ?_, ?_⟩
          · show V.bl (decide ((1 : Int) < (((qs.reverse.map V.ref).length : Nat) : Int))) = V.bl true
            rw [decide_eq_true (by rw [hln, List.length_cons]; omega)]
          show tDT X.K F (lrC4 mF) _ _ _
          refine ⟨Z6, E2, kk, E2, r6, lrC4_eq _ _ hwl h1 h2, fun Z7 H7 r7 s7 => ?_⟩
          have n7 := n6.stp fa2 s7
          have z7 := z6.trans s7.z
          cases kk with
          | false =>
            show tIfS (tDT X.K F (lrC3 mF)) (tB3 X.K F lrFC) (tB3 X.K F lrFD) _ _ _
            exact lr_tail (Z0 := Z1) r7 n7 k3b hst z7 fun Z' H' ra sa na => ⟨Z', qs, cur', up', sa, ra, k3b, na, enx⟩
          | true =>
            obtain ⟨nm, hnm, hst⟩ := bnd hst
            split at hst
            case isFalse => cases hst
            rename_i hcl
            cases hst
            show tSeq (lB1 X.K) _ _ _ _
            cases qs with
            | nil => cases hqn
            | cons q0 qs' =>
            have hdl : ((q0 :: qs').reverse.map V.ref).dropLast = qs'.reverse.map V.ref := by rw [List.reverse_cons, List.map_append]; exact List.dropLast_concat
            obtain ⟨r8, n8, xs, hq0, dxs⟩ := n7.pop r7 fa2
            refine ⟨.ref p, k3b, own_ty n7.hp, p, _, .ref q0, rfl, rfl, n7.hp, ?_, ?_⟩
            · rw [List.reverse_cons, List.map_append, List.length_append, List.length_map, List.length_reverse]
              show ((qs'.reverse.map V.ref) ++ [V.ref q0])[qs'.length + 1 - 1]? = _
              have h2 : (qs'.reverse.map V.ref).length = qs'.length := by rw [List.length_map, List.length_reverse]
              rw [List.getElem?_append_right (by rw [h2]; exact Nat.le_refl _), h2, Nat.add_sub_cancel, Nat.sub_self]
              rfl
            rw [hdl]
            refine ⟨q0, xs, rfl, .inl ⟨SqL.of hq0, fun l hl => ?_⟩⟩
            have g9 := grow_new r8.zh hl (.tup xs)
            have r9 : Rel X.K F _ _ (((σ'.set 2 (some x)).set 3 (some vP)).set 4 (some (.ref l))) (lrE pg (some (.str w)) (some ps) (some (.tuple cur))) := (r8.grow g9).store 4 (new_tup r8.zh hl dxs)
            have n9 := n8.grow g9
            have k9 : (((σ'.set 2 (some x)).set 3 (some vP)).set 4 (some (V.ref l)))[1]? = some (some (.ref p)) := by rw [List.getElem?_set_ne (by decide)]; exact k3b
            have z9 := z7.trans g9.z
            cases qs' with
            | nil => cases hqn
            | cons q2 qs2 =>
            have hfb : lrFB (lrE pg (some (.str w)) (some ps) (some (.tuple cur))) = some (.tuple [.str "repeat", nm, .tuple cur], lrE pg (some (.str w)) (some ps) (some (.tuple cur))) :=
              ev_tup (ds := [.str "repeat", nm, .tuple cur]) (ev_cons rfl (ev_cons (ev_cb (ev_cons (lrSl_eq _ _ hwl _) ev_nil) hnm) (ev_cons rfl ev_nil))) (by show 3 ≤ 100000; decide)
            exact lr_put (Z0 := Z1) r9 n9 k9 hcl hfb z9 fun Z' H' ra sa na => ⟨Z', q2 :: qs2, _, _, sa, ra, k9, na, enx⟩
      · rw [if_neg hx] at hst
        rw [decide_eq_false hx]
        show tIfS (tDT X.K F (lrC3 mF)) (tB3 X.K F lrFC) (tB3 X.K F lrFD) _ _ _
        exact lr_tail (Z0 := Z1) r5 n5 k3b hst z5 fun Z' H' ra sa na => ⟨Z', qs, cur', up', sa, ra, k3b, na, enx⟩
  · rintro σ' H' ⟨Z', qs, cur, up, s', r', k1, n', e'⟩
    rw [List.drop_length] at e'
    cases e'
    obtain ⟨Z2, rr, ss, dd⟩ := n'.freeze r' fa0
    have r9 : Rel X.K F Z2 H' (σ'.set 1 (some (.ref p))) (E0.set 1 (some (.fr (.list ((lc :: lu).reverse.map PyData.list))))) := rr.store 1 dd
    have hσ : σ'.set 1 (some (.ref p)) = σ' := by
      apply List.ext_getElem?
      intro j
      by_cases hj : j = 1
      · subst hj
        rw [k1, List.getElem?_set_self (List.getElem?_eq_some_iff.mp k1).1]
      · rw [List.getElem?_set_ne (Ne.symm hj)]
    rw [hσ] at r9
    exact ⟨Z2, _, fl, r9, hgR, q.mono ((s2.z.trans s').trans ss)⟩
end
end DL
end L2


set_option Elab.async false
set_option maxRecDepth 100000
set_option maxHeartbeats 4000000
set_option autoImplicit false
namespace L2
namespace DL
open PySem PySem.Spec PyProof.Rows
variable [Lab]
def inS (i j : Nat) : Stmt := match PySem.Challenge.pw_sortcuts_k20_texts_refused.main.body.getD i (.Pass ⟨0, 0, 0, 0⟩) with
  | .ClassDef _ _ _ b _ _ _ _ _ _ _ => b.getD j (.Pass ⟨0, 0, 0, 0⟩)
  | s => s
def topS (i : Nat) : Stmt := PySem.Challenge.pw_sortcuts_k20_texts_refused.main.body.getD i (.Pass ⟨0, 0, 0, 0⟩)
def cv_MOST_KEYS : PyData := .int 4
def cv_LEAST_SIZE : PyData := .int 2
def cv_MOST_SIZE : PyData := .int 29
def cv_MOST_TIMES : PyData := .int 1000000000000000000000000000000
def cv_CUTS : PyData := .tuple [(.str "first"), (.str "last")]
def cv_DIRECTIONS : PyData := .tuple [(.str "down"), (.str "up")]
def cv_BARE_WORDS : PyData := .tuple [(.str "reverse"), (.str "restore")]
def cv_MOST_NESTED : PyData := .int 4
def cv_MOST_COMMANDS : PyData := .int 400
structure Tx [LabW] (LT : List (Addr × Str)) (K : PySem.W.Frag) (mg : Str → Option Value) (base : Heap) (w : World) where
  hw : LabW.w = some w
  A : Nat → Addr
  FD : Nat → FuncData
  D_is_integer : Fun K "is_integer" "is_integer" (topS 28) (A 0) (FD 0)
  g_is_integer : mg "is_integer" = some (.ref (A 0))
  D_is_word : Fun K "is_word" "is_word" (topS 31) (A 1) (FD 1)
  g_is_word : mg "is_word" = some (.ref (A 1))
  D_is_sort_column : Fun K "is_sort_column" "is_sort_column" (topS 32) (A 2) (FD 2)
  g_is_sort_column : mg "is_sort_column" = some (.ref (A 2))
  D_is_size : Fun K "is_size" "is_size" (topS 37) (A 3) (FD 3)
  g_is_size : mg "is_size" = some (.ref (A 3))
  D_is_times : Fun K "is_times" "is_times" (topS 38) (A 4) (FD 4)
  g_is_times : mg "is_times" = some (.ref (A 4))
  D_is_plain_command : Fun K "is_plain_command" "is_plain_command" (topS 39) (A 5) (FD 5)
  g_is_plain_command : mg "is_plain_command" = some (.ref (A 5))
  D_begins_repeat : Fun K "begins_repeat" "begins_repeat" (topS 40) (A 6) (FD 6)
  g_begins_repeat : mg "begins_repeat" = some (.ref (A 6))
  D_room_behind : Fun K "room_behind" "room_behind" (topS 41) (A 7) (FD 7)
  g_room_behind : mg "room_behind" = some (.ref (A 7))
  D_room_behind_command : Fun K "room_behind_command" "room_behind_command" (topS 42) (A 8) (FD 8)
  g_room_behind_command : mg "room_behind_command" = some (.ref (A 8))
  D_check_program : Fun K "check_program" "check_program" (topS 43) (A 9) (FD 9)
  g_check_program : mg "check_program" = some (.ref (A 9))
  D_is_program : Fun K "is_program" "is_program" (topS 44) (A 10) (FD 10)
  g_is_program : mg "is_program" = some (.ref (A 10))
  D_read_number : Fun K "read_number" "read_number" (topS 46) (A 11) (FD 11)
  g_read_number : mg "read_number" = some (.ref (A 11))
  D_read_command : Fun K "read_command" "read_command" (topS 47) (A 12) (FD 12)
  g_read_command : mg "read_command" = some (.ref (A 12))
  D_read_words : Fun K "read_words" "read_words" (topS 48) (A 13) (FD 13)
  g_read_words : mg "read_words" = some (.ref (A 13))
  D_parse_program : Fun K "parse_program" "parse_program" (topS 49) (A 14) (FD 14)
  g_parse_program : mg "parse_program" = some (.ref (A 14))
  D__law_cell : Fun K "_law_cell" "_law_cell" (topS 51) (A 15) (FD 15)
  g__law_cell : mg "_law_cell" = some (.ref (A 15))
  D__law_pool : Fun K "_law_pool" "_law_pool" (topS 52) (A 16) (FD 16)
  g__law_pool : mg "_law_pool" = some (.ref (A 16))
  D__law_draw : Fun K "_law_draw" "_law_draw" (topS 53) (A 17) (FD 17)
  g__law_draw : mg "_law_draw" = some (.ref (A 17))
  D__law_steps : Fun K "_law_steps" "_law_steps" (topS 54) (A 18) (FD 18)
  g__law_steps : mg "_law_steps" = some (.ref (A 18))
  D__law_program : Fun K "_law_program" "_law_program" (topS 55) (A 19) (FD 19)
  g__law_program : mg "_law_program" = some (.ref (A 19))
  D__law_kind : Fun K "_law_kind" "_law_kind" (topS 56) (A 20) (FD 20)
  g__law_kind : mg "_law_kind" = some (.ref (A 20))
  D__law_whole : Fun K "_law_whole" "_law_whole" (topS 57) (A 21) (FD 21)
  g__law_whole : mg "_law_whole" = some (.ref (A 21))
  D__law_counted : Fun K "_law_counted" "_law_counted" (topS 58) (A 22) (FD 22)
  g__law_counted : mg "_law_counted" = some (.ref (A 22))
  D__law_first_bad : Fun K "_law_first_bad" "_law_first_bad" (topS 59) (A 23) (FD 23)
  g__law_first_bad : mg "_law_first_bad" = some (.ref (A 23))
  D__law_written : Fun K "_law_written" "_law_written" (topS 60) (A 24) (FD 24)
  g__law_written : mg "_law_written" = some (.ref (A 24))
  D__law_is_figure : Fun K "_law_is_figure" "_law_is_figure" (topS 61) (A 25) (FD 25)
  g__law_is_figure : mg "_law_is_figure" = some (.ref (A 25))
  D__law_read : Fun K "_law_read" "_law_read" (topS 62) (A 26) (FD 26)
  g__law_read : mg "_law_read" = some (.ref (A 26))
  D__law_answer : Fun K "_law_answer" "_law_answer" (topS 63) (A 27) (FD 27)
  g__law_answer : mg "_law_answer" = some (.ref (A 27))
  D__law_told_right : Fun K "_law_told_right" "_law_told_right" (topS 64) (A 28) (FD 28)
  g__law_told_right : mg "_law_told_right" = some (.ref (A 28))
  D__law_spoilt : Fun K "_law_spoilt" "_law_spoilt" (topS 65) (A 29) (FD 29)
  g__law_spoilt : mg "_law_spoilt" = some (.ref (A 29))
  D__law_right : Fun K "_law_right" "_law_right" (topS 66) (A 30) (FD 30)
  g__law_right : mg "_law_right" = some (.ref (A 30))
  D_law : Fun K "law" "law" (topS 67) (A 31) (FD 31)
  g_law : mg "law" = some (.ref (A 31))
  n_ArithmeticError : mg "ArithmeticError" = none
  n_LookupError : mg "LookupError" = none
  n_ValueError : mg "ValueError" = none
  n_abs : mg "abs" = none
  n_all : mg "all" = none
  n_bool : mg "bool" = none
  n_divmod : mg "divmod" = none
  n_enumerate : mg "enumerate" = none
  n_int : mg "int" = none
  n_isinstance : mg "isinstance" = none
  n_len : mg "len" = none
  n_max : mg "max" = none
  n_min : mg "min" = none
  n_range : mg "range" = none
  n_repr : mg "repr" = none
  n_str : mg "str" = none
  n_sum : mg "sum" = none
  n_tuple : mg "tuple" = none
  t_digits : PySem.W.nsIn K cStatics "sys.int_max_str_digits" = some none
  c_MOST_KEYS : ∃ uv : Value × V, mg "MOST_KEYS" = some uv.1 ∧ RelV uv.2 uv.1 ∧ ∀ Z, DD K Z uv.2 cv_MOST_KEYS
  c_LEAST_SIZE : ∃ uv : Value × V, mg "LEAST_SIZE" = some uv.1 ∧ RelV uv.2 uv.1 ∧ ∀ Z, DD K Z uv.2 cv_LEAST_SIZE
  c_MOST_SIZE : ∃ uv : Value × V, mg "MOST_SIZE" = some uv.1 ∧ RelV uv.2 uv.1 ∧ ∀ Z, DD K Z uv.2 cv_MOST_SIZE
  c_MOST_TIMES : ∃ uv : Value × V, mg "MOST_TIMES" = some uv.1 ∧ RelV uv.2 uv.1 ∧ ∀ Z, DD K Z uv.2 cv_MOST_TIMES
  c_CUTS : ∃ uv : Value × V, mg "CUTS" = some uv.1 ∧ RelV uv.2 uv.1 ∧ ∀ Z, DD K Z uv.2 cv_CUTS
  c_DIRECTIONS : ∃ uv : Value × V, mg "DIRECTIONS" = some uv.1 ∧ RelV uv.2 uv.1 ∧ ∀ Z, DD K Z uv.2 cv_DIRECTIONS
  c_BARE_WORDS : ∃ uv : Value × V, mg "BARE_WORDS" = some uv.1 ∧ RelV uv.2 uv.1 ∧ ∀ Z, DD K Z uv.2 cv_BARE_WORDS
  c_MOST_NESTED : ∃ uv : Value × V, mg "MOST_NESTED" = some uv.1 ∧ RelV uv.2 uv.1 ∧ ∀ Z, DD K Z uv.2 cv_MOST_NESTED
  c_MOST_COMMANDS : ∃ uv : Value × V, mg "MOST_COMMANDS" = some uv.1 ∧ RelV uv.2 uv.1 ∧ ∀ Z, DD K Z uv.2 cv_MOST_COMMANDS
  C : Str → Addr
  FI : Str → Addr
  FDI : Str → FuncData
  hC : C = LabW.C
  xm_InvalidProgram : mg "InvalidProgram" = some (.ref (C "InvalidProgram"))
  xm_InvalidText : mg "InvalidText" = some (.ref (C "InvalidText"))
  xm_TableError : mg "TableError" = some (.ref (C "TableError"))
  xm_FindError : mg "FindError" = some (.ref (C "FindError"))
  xm_LimitError : mg "LimitError" = some (.ref (C "LimitError"))
  xm_LastRecord : mg "LastRecord" = some (.ref (C "LastRecord"))
  xm_TooManyEdits : mg "TooManyEdits" = some (.ref (C "TooManyEdits"))
  xm_TooManyRecords : mg "TooManyRecords" = some (.ref (C "TooManyRecords"))
  xm_NothingToUndo : mg "NothingToUndo" = some (.ref (C "NothingToUndo"))
  xm_NoPlace : mg "NoPlace" = some (.ref (C "NoPlace"))
  xm_MissingColumn : mg "MissingColumn" = some (.ref (C "MissingColumn"))
  xm_InvalidCommand : mg "InvalidCommand" = some (.ref (C "InvalidCommand"))
  xm_InvalidEdit : mg "InvalidEdit" = some (.ref (C "InvalidEdit"))
  xm_InvalidValue : mg "InvalidValue" = some (.ref (C "InvalidValue"))
  xm_InvalidRecord : mg "InvalidRecord" = some (.ref (C "InvalidRecord"))
  xm_InvalidLimit : mg "InvalidLimit" = some (.ref (C "InvalidLimit"))
  xm_InvalidPlaces : mg "InvalidPlaces" = some (.ref (C "InvalidPlaces"))
  xm_InvalidNumber : mg "InvalidNumber" = some (.ref (C "InvalidNumber"))
  xm_InvalidOrder : mg "InvalidOrder" = some (.ref (C "InvalidOrder"))
  xm_InvalidColumns : mg "InvalidColumns" = some (.ref (C "InvalidColumns"))
  xm_InvalidTable : mg "InvalidTable" = some (.ref (C "InvalidTable"))
  x_InvalidProgram : OexC K (C "InvalidProgram")
  xi_InvalidProgram : PySem.W.findIn K (.ref (C "InvalidProgram")) "__init__" = some (some (.ref (FI "InvalidProgram")))
  xt_InvalidProgram : PySem.W.typeIn K (.ref (FI "InvalidProgram")) = some (.type "function")
  xn_InvalidProgram : PySem.W.findIn K (.ref (C "InvalidProgram")) "index" = some none
  xD_InvalidProgram : Fun K "__init__" "InvalidProgram.__init__" (inS 5 0) (FI "InvalidProgram") (FDI "InvalidProgram")
  x_InvalidText : OexC K (C "InvalidText")
  xi_InvalidText : PySem.W.findIn K (.ref (C "InvalidText")) "__init__" = some (some (.ref (FI "InvalidText")))
  xt_InvalidText : PySem.W.typeIn K (.ref (FI "InvalidText")) = some (.type "function")
  xn_InvalidText : PySem.W.findIn K (.ref (C "InvalidText")) "text" = some none
  xD_InvalidText : Fun K "__init__" "InvalidText.__init__" (inS 8 0) (FI "InvalidText") (FDI "InvalidText")
  kx_InvalidProgram : kexB K (C "InvalidProgram") = true
  kx_InvalidText : kexB K (C "InvalidText") = true
  kt_ArithmeticError : kitTab K [(C "InvalidProgram", .type "ArithmeticError", false), (C "InvalidText", .type "ArithmeticError", false)] = true
  kt_LookupError : kitTab K [(C "InvalidProgram", .type "LookupError", false), (C "InvalidText", .type "LookupError", false)] = true
  kt_ValueError : kitTab K [(C "InvalidProgram", .type "ValueError", true), (C "InvalidText", .type "ValueError", true)] = true
  kt_LimitError : kitTab K [(C "InvalidProgram", .ref (C "LimitError"), false), (C "InvalidText", .ref (C "LimitError"), false)] = true
  kt_FindError : kitTab K [(C "InvalidProgram", .ref (C "FindError"), false), (C "InvalidText", .ref (C "FindError"), false)] = true
  kt_TableError : kitTab K [(C "InvalidProgram", .ref (C "TableError"), true), (C "InvalidText", .ref (C "TableError"), true)] = true
  kt_LastRecord : kitTab K [(C "InvalidProgram", .ref (C "LastRecord"), false), (C "InvalidText", .ref (C "LastRecord"), false)] = true
  kt_TooManyEdits : kitTab K [(C "InvalidProgram", .ref (C "TooManyEdits"), false), (C "InvalidText", .ref (C "TooManyEdits"), false)] = true
  kt_TooManyRecords : kitTab K [(C "InvalidProgram", .ref (C "TooManyRecords"), false), (C "InvalidText", .ref (C "TooManyRecords"), false)] = true
  kt_NothingToUndo : kitTab K [(C "InvalidProgram", .ref (C "NothingToUndo"), false), (C "InvalidText", .ref (C "NothingToUndo"), false)] = true
  kt_NoPlace : kitTab K [(C "InvalidProgram", .ref (C "NoPlace"), false), (C "InvalidText", .ref (C "NoPlace"), false)] = true
  kt_MissingColumn : kitTab K [(C "InvalidProgram", .ref (C "MissingColumn"), false), (C "InvalidText", .ref (C "MissingColumn"), false)] = true
  kt_InvalidCommand : kitTab K [(C "InvalidProgram", .ref (C "InvalidCommand"), false), (C "InvalidText", .ref (C "InvalidCommand"), false)] = true
  kt_InvalidEdit : kitTab K [(C "InvalidProgram", .ref (C "InvalidEdit"), false), (C "InvalidText", .ref (C "InvalidEdit"), false)] = true
  kt_InvalidValue : kitTab K [(C "InvalidProgram", .ref (C "InvalidValue"), false), (C "InvalidText", .ref (C "InvalidValue"), false)] = true
  kt_InvalidRecord : kitTab K [(C "InvalidProgram", .ref (C "InvalidRecord"), false), (C "InvalidText", .ref (C "InvalidRecord"), false)] = true
  kt_InvalidLimit : kitTab K [(C "InvalidProgram", .ref (C "InvalidLimit"), false), (C "InvalidText", .ref (C "InvalidLimit"), false)] = true
  kt_InvalidText : kitTab K [(C "InvalidProgram", .ref (C "InvalidText"), false), (C "InvalidText", .ref (C "InvalidText"), true)] = true
  kt_InvalidPlaces : kitTab K [(C "InvalidProgram", .ref (C "InvalidPlaces"), false), (C "InvalidText", .ref (C "InvalidPlaces"), false)] = true
  kt_InvalidNumber : kitTab K [(C "InvalidProgram", .ref (C "InvalidNumber"), false), (C "InvalidText", .ref (C "InvalidNumber"), false)] = true
  kt_InvalidProgram : kitTab K [(C "InvalidProgram", .ref (C "InvalidProgram"), true), (C "InvalidText", .ref (C "InvalidProgram"), false)] = true
  kt_InvalidOrder : kitTab K [(C "InvalidProgram", .ref (C "InvalidOrder"), false), (C "InvalidText", .ref (C "InvalidOrder"), false)] = true
  kt_InvalidColumns : kitTab K [(C "InvalidProgram", .ref (C "InvalidColumns"), false), (C "InvalidText", .ref (C "InvalidColumns"), false)] = true
  kt_InvalidTable : kitTab K [(C "InvalidProgram", .ref (C "InvalidTable"), false), (C "InvalidText", .ref (C "InvalidTable"), false)] = true
  xe_InvalidProgram_InvalidProgram : PySem.W.exmOne K (.ref (C "InvalidProgram")) (.ref (C "InvalidProgram")) = some true
  xe_InvalidText_InvalidProgram : PySem.W.exmOne K (.ref (C "InvalidText")) (.ref (C "InvalidProgram")) = some false
  xe_InvalidProgram_TableError : PySem.W.exmOne K (.ref (C "InvalidProgram")) (.ref (C "TableError")) = some true
  xe_InvalidText_TableError : PySem.W.exmOne K (.ref (C "InvalidText")) (.ref (C "TableError")) = some true
  xe_InvalidProgram_FindError : PySem.W.exmOne K (.ref (C "InvalidProgram")) (.ref (C "FindError")) = some false
  xe_InvalidText_FindError : PySem.W.exmOne K (.ref (C "InvalidText")) (.ref (C "FindError")) = some false
  xe_InvalidProgram_LimitError : PySem.W.exmOne K (.ref (C "InvalidProgram")) (.ref (C "LimitError")) = some false
  xe_InvalidText_LimitError : PySem.W.exmOne K (.ref (C "InvalidText")) (.ref (C "LimitError")) = some false
section
variable {P : Program} {w : World} {K : PySem.W.Frag} {mg : Str → Option Value} {base : Heap}
theorem xsc_InvalidProgram : FnScope ["self", "index"] ["self", "index"] (defScope (inS 5 0)) := ⟨rfl, rfl, rfl, by decide +kernel, rfl, by decide +kernel, by decide +kernel⟩
theorem xo_InvalidProgram (T : Tx Lab.T K mg base w) : FnOk P w K mg base CX0 1 (T.FI "InvalidProgram") (T.FDI "InvalidProgram") ["self", "index"] (spI (T.C "InvalidProgram") "index") := init_ok T.xD_InvalidProgram xsc_InvalidProgram T.x_InvalidProgram T.xn_InvalidProgram rfl (Or.inl rfl) (Or.inl rfl) (by decide) (by decide)
theorem xb_InvalidProgram (T : Tx Lab.T K mg base w) : Binds K (T.FDI "InvalidProgram") ["self", "index"] [] := T.xD_InvalidProgram.binds fun _ _ _ _ _ _ us hl => match us, hl with | [_, _], _ => rfl
theorem xsc_InvalidText : FnScope ["self", "text"] ["self", "text"] (defScope (inS 8 0)) := ⟨rfl, rfl, rfl, by decide +kernel, rfl, by decide +kernel, by decide +kernel⟩
theorem xo_InvalidText (T : Tx Lab.T K mg base w) : FnOk P w K mg base CX0 1 (T.FI "InvalidText") (T.FDI "InvalidText") ["self", "text"] (spI (T.C "InvalidText") "text") := init_ok T.xD_InvalidText xsc_InvalidText T.x_InvalidText T.xn_InvalidText rfl (Or.inl rfl) (Or.inl rfl) (by decide) (by decide)
theorem xb_InvalidText (T : Tx Lab.T K mg base w) : Binds K (T.FDI "InvalidText") ["self", "text"] [] := T.xD_InvalidText.binds fun _ _ _ _ _ _ us hl => match us, hl with | [_, _], _ => rfl
def mt_InvalidProgram (c : Str) : Option Bool := if c = "InvalidProgram" then some true else if c = "InvalidText" then some false else none
theorem mtk_InvalidProgram (T : Tx Lab.T K mg base w) : ∀ c b, mt_InvalidProgram c = some b → PySem.W.exmOne K (.ref (T.C c)) (.ref (T.C "InvalidProgram")) = some b := by
  intro c b h
  unfold mt_InvalidProgram at h
  split at h
  · rename_i hc; cases h; rw [hc]; exact T.xe_InvalidProgram_InvalidProgram
  split at h
  · rename_i hc; cases h; rw [hc]; exact T.xe_InvalidText_InvalidProgram
  cases h
def mt_TableError (c : Str) : Option Bool := if c = "InvalidProgram" then some true else if c = "InvalidText" then some true else none
theorem mtk_TableError (T : Tx Lab.T K mg base w) : ∀ c b, mt_TableError c = some b → PySem.W.exmOne K (.ref (T.C c)) (.ref (T.C "TableError")) = some b := by
  intro c b h
  unfold mt_TableError at h
  split at h
  · rename_i hc; cases h; rw [hc]; exact T.xe_InvalidProgram_TableError
  split at h
  · rename_i hc; cases h; rw [hc]; exact T.xe_InvalidText_TableError
  cases h
def mt_FindError (c : Str) : Option Bool := if c = "InvalidProgram" then some false else if c = "InvalidText" then some false else none
theorem mtk_FindError (T : Tx Lab.T K mg base w) : ∀ c b, mt_FindError c = some b → PySem.W.exmOne K (.ref (T.C c)) (.ref (T.C "FindError")) = some b := by
  intro c b h
  unfold mt_FindError at h
  split at h
  · rename_i hc; cases h; rw [hc]; exact T.xe_InvalidProgram_FindError
  split at h
  · rename_i hc; cases h; rw [hc]; exact T.xe_InvalidText_FindError
  cases h
def mt_LimitError (c : Str) : Option Bool := if c = "InvalidProgram" then some false else if c = "InvalidText" then some false else none
theorem mtk_LimitError (T : Tx Lab.T K mg base w) : ∀ c b, mt_LimitError c = some b → PySem.W.exmOne K (.ref (T.C c)) (.ref (T.C "LimitError")) = some b := by
  intro c b h
  unfold mt_LimitError at h
  split at h
  · rename_i hc; cases h; rw [hc]; exact T.xe_InvalidProgram_LimitError
  split at h
  · rename_i hc; cases h; rw [hc]; exact T.xe_InvalidText_LimitError
  cases h
theorem tkC (T : Tx Lab.T K mg base w) {X : Cx} {W : Str → Option Addr → St → Hp → Prop} (h : Takes X (wx LabW.C W)) : Takes X (wx T.C W) := by rw [T.hC]; exact h
def at_ex (c : Str) : Str := if c = "InvalidProgram" then "index" else if c = "InvalidText" then "text" else ""
theorem hmt_TableError_FindError_LimitError (T : Tx Lab.T K mg base w) : ∀ c b, mt3 mt_TableError mt_FindError mt_LimitError c = some b → PySem.W.exmAny K (.ref (LabW.C c)) [.ref (T.C "TableError"), .ref (T.C "FindError"), .ref (T.C "LimitError")] = some b := fun c b h => by rw [← T.hC]; exact mtk3 (mtk_TableError T) (mtk_FindError T) (mtk_LimitError T) c b h
theorem ekk_TableError_FindError_LimitError (T : Tx Lab.T K mg base w) : ∀ c, mt3 mt_TableError mt_FindError mt_LimitError c = some true → KEx K (LabW.C c) := by
  intro c h
  rw [← T.hC]
  obtain ⟨a, h1, _⟩ := Option.bind_eq_some_iff.mp h
  unfold mt_TableError at h1
  split at h1
  · rename_i hc; rw [hc]; exact kexB_ok T.kx_InvalidProgram
  split at h1
  · rename_i hc; rw [hc]; exact kexB_ok T.kx_InvalidText
  cases h1
theorem ekn_TableError_FindError_LimitError (T : Tx Lab.T K mg base w) : ∀ c, mt3 mt_TableError mt_FindError mt_LimitError c = some true → PySem.W.findIn K (.ref (LabW.C c)) (at_ex c) = some none := by
  intro c h
  rw [← T.hC]
  obtain ⟨a, h1, _⟩ := Option.bind_eq_some_iff.mp h
  unfold mt_TableError at h1
  split at h1
  · rename_i hc; rw [hc]; exact (show at_ex "InvalidProgram" = "index" by kernel_rfl) ▸ T.xn_InvalidProgram
  split at h1
  · rename_i hc; rw [hc]; exact (show at_ex "InvalidText" = "text" by kernel_rfl) ▸ T.xn_InvalidText
  cases h1
theorem ekp_TableError_FindError_LimitError (T : Tx Lab.T K mg base w) : ExKp K (mt3 mt_TableError mt_FindError mt_LimitError) at_ex := ⟨ekk_TableError_FindError_LimitError T, ekn_TableError_FindError_LimitError T⟩
def mi_ArithmeticError (c : Str) : Option Bool := tabI [("InvalidProgram", false), ("InvalidText", false)] c
theorem mik_ArithmeticError (T : Tx Lab.T K mg base w) : ∀ c b, mi_ArithmeticError c = some b → PySem.W.kitOne K (.ref (LabW.C c)) (.type "ArithmeticError") = some b := by rw [← T.hC]; exact tabI_ok (l := [("InvalidProgram", false), ("InvalidText", false)]) T.kt_ArithmeticError
def mi_LookupError (c : Str) : Option Bool := tabI [("InvalidProgram", false), ("InvalidText", false)] c
theorem mik_LookupError (T : Tx Lab.T K mg base w) : ∀ c b, mi_LookupError c = some b → PySem.W.kitOne K (.ref (LabW.C c)) (.type "LookupError") = some b := by rw [← T.hC]; exact tabI_ok (l := [("InvalidProgram", false), ("InvalidText", false)]) T.kt_LookupError
def mi_ValueError (c : Str) : Option Bool := tabI [("InvalidProgram", true), ("InvalidText", true)] c
theorem mik_ValueError (T : Tx Lab.T K mg base w) : ∀ c b, mi_ValueError c = some b → PySem.W.kitOne K (.ref (LabW.C c)) (.type "ValueError") = some b := by rw [← T.hC]; exact tabI_ok (l := [("InvalidProgram", true), ("InvalidText", true)]) T.kt_ValueError
def mi_LimitError (c : Str) : Option Bool := tabI [("InvalidProgram", false), ("InvalidText", false)] c
theorem mik_LimitError (T : Tx Lab.T K mg base w) : ∀ c b, mi_LimitError c = some b → PySem.W.kitOne K (.ref (LabW.C c)) (.ref (T.C "LimitError")) = some b := by rw [← T.hC]; exact tabI_ok (l := [("InvalidProgram", false), ("InvalidText", false)]) T.kt_LimitError
def mi_FindError (c : Str) : Option Bool := tabI [("InvalidProgram", false), ("InvalidText", false)] c
theorem mik_FindError (T : Tx Lab.T K mg base w) : ∀ c b, mi_FindError c = some b → PySem.W.kitOne K (.ref (LabW.C c)) (.ref (T.C "FindError")) = some b := by rw [← T.hC]; exact tabI_ok (l := [("InvalidProgram", false), ("InvalidText", false)]) T.kt_FindError
def mi_TableError (c : Str) : Option Bool := tabI [("InvalidProgram", true), ("InvalidText", true)] c
theorem mik_TableError (T : Tx Lab.T K mg base w) : ∀ c b, mi_TableError c = some b → PySem.W.kitOne K (.ref (LabW.C c)) (.ref (T.C "TableError")) = some b := by rw [← T.hC]; exact tabI_ok (l := [("InvalidProgram", true), ("InvalidText", true)]) T.kt_TableError
def mi_LastRecord (c : Str) : Option Bool := tabI [("InvalidProgram", false), ("InvalidText", false)] c
theorem mik_LastRecord (T : Tx Lab.T K mg base w) : ∀ c b, mi_LastRecord c = some b → PySem.W.kitOne K (.ref (LabW.C c)) (.ref (T.C "LastRecord")) = some b := by rw [← T.hC]; exact tabI_ok (l := [("InvalidProgram", false), ("InvalidText", false)]) T.kt_LastRecord
def mi_TooManyEdits (c : Str) : Option Bool := tabI [("InvalidProgram", false), ("InvalidText", false)] c
theorem mik_TooManyEdits (T : Tx Lab.T K mg base w) : ∀ c b, mi_TooManyEdits c = some b → PySem.W.kitOne K (.ref (LabW.C c)) (.ref (T.C "TooManyEdits")) = some b := by rw [← T.hC]; exact tabI_ok (l := [("InvalidProgram", false), ("InvalidText", false)]) T.kt_TooManyEdits
def mi_TooManyRecords (c : Str) : Option Bool := tabI [("InvalidProgram", false), ("InvalidText", false)] c
theorem mik_TooManyRecords (T : Tx Lab.T K mg base w) : ∀ c b, mi_TooManyRecords c = some b → PySem.W.kitOne K (.ref (LabW.C c)) (.ref (T.C "TooManyRecords")) = some b := by rw [← T.hC]; exact tabI_ok (l := [("InvalidProgram", false), ("InvalidText", false)]) T.kt_TooManyRecords
def mi_NothingToUndo (c : Str) : Option Bool := tabI [("InvalidProgram", false), ("InvalidText", false)] c
theorem mik_NothingToUndo (T : Tx Lab.T K mg base w) : ∀ c b, mi_NothingToUndo c = some b → PySem.W.kitOne K (.ref (LabW.C c)) (.ref (T.C "NothingToUndo")) = some b := by rw [← T.hC]; exact tabI_ok (l := [("InvalidProgram", false), ("InvalidText", false)]) T.kt_NothingToUndo
def mi_NoPlace (c : Str) : Option Bool := tabI [("InvalidProgram", false), ("InvalidText", false)] c
theorem mik_NoPlace (T : Tx Lab.T K mg base w) : ∀ c b, mi_NoPlace c = some b → PySem.W.kitOne K (.ref (LabW.C c)) (.ref (T.C "NoPlace")) = some b := by rw [← T.hC]; exact tabI_ok (l := [("InvalidProgram", false), ("InvalidText", false)]) T.kt_NoPlace
def mi_MissingColumn (c : Str) : Option Bool := tabI [("InvalidProgram", false), ("InvalidText", false)] c
theorem mik_MissingColumn (T : Tx Lab.T K mg base w) : ∀ c b, mi_MissingColumn c = some b → PySem.W.kitOne K (.ref (LabW.C c)) (.ref (T.C "MissingColumn")) = some b := by rw [← T.hC]; exact tabI_ok (l := [("InvalidProgram", false), ("InvalidText", false)]) T.kt_MissingColumn
def mi_InvalidCommand (c : Str) : Option Bool := tabI [("InvalidProgram", false), ("InvalidText", false)] c
theorem mik_InvalidCommand (T : Tx Lab.T K mg base w) : ∀ c b, mi_InvalidCommand c = some b → PySem.W.kitOne K (.ref (LabW.C c)) (.ref (T.C "InvalidCommand")) = some b := by rw [← T.hC]; exact tabI_ok (l := [("InvalidProgram", false), ("InvalidText", false)]) T.kt_InvalidCommand
def mi_InvalidEdit (c : Str) : Option Bool := tabI [("InvalidProgram", false), ("InvalidText", false)] c
theorem mik_InvalidEdit (T : Tx Lab.T K mg base w) : ∀ c b, mi_InvalidEdit c = some b → PySem.W.kitOne K (.ref (LabW.C c)) (.ref (T.C "InvalidEdit")) = some b := by rw [← T.hC]; exact tabI_ok (l := [("InvalidProgram", false), ("InvalidText", false)]) T.kt_InvalidEdit
def mi_InvalidValue (c : Str) : Option Bool := tabI [("InvalidProgram", false), ("InvalidText", false)] c
theorem mik_InvalidValue (T : Tx Lab.T K mg base w) : ∀ c b, mi_InvalidValue c = some b → PySem.W.kitOne K (.ref (LabW.C c)) (.ref (T.C "InvalidValue")) = some b := by rw [← T.hC]; exact tabI_ok (l := [("InvalidProgram", false), ("InvalidText", false)]) T.kt_InvalidValue
def mi_InvalidRecord (c : Str) : Option Bool := tabI [("InvalidProgram", false), ("InvalidText", false)] c
theorem mik_InvalidRecord (T : Tx Lab.T K mg base w) : ∀ c b, mi_InvalidRecord c = some b → PySem.W.kitOne K (.ref (LabW.C c)) (.ref (T.C "InvalidRecord")) = some b := by rw [← T.hC]; exact tabI_ok (l := [("InvalidProgram", false), ("InvalidText", false)]) T.kt_InvalidRecord
def mi_InvalidLimit (c : Str) : Option Bool := tabI [("InvalidProgram", false), ("InvalidText", false)] c
theorem mik_InvalidLimit (T : Tx Lab.T K mg base w) : ∀ c b, mi_InvalidLimit c = some b → PySem.W.kitOne K (.ref (LabW.C c)) (.ref (T.C "InvalidLimit")) = some b := by rw [← T.hC]; exact tabI_ok (l := [("InvalidProgram", false), ("InvalidText", false)]) T.kt_InvalidLimit
def mi_InvalidText (c : Str) : Option Bool := tabI [("InvalidProgram", false), ("InvalidText", true)] c
theorem mik_InvalidText (T : Tx Lab.T K mg base w) : ∀ c b, mi_InvalidText c = some b → PySem.W.kitOne K (.ref (LabW.C c)) (.ref (T.C "InvalidText")) = some b := by rw [← T.hC]; exact tabI_ok (l := [("InvalidProgram", false), ("InvalidText", true)]) T.kt_InvalidText
def mi_InvalidPlaces (c : Str) : Option Bool := tabI [("InvalidProgram", false), ("InvalidText", false)] c
theorem mik_InvalidPlaces (T : Tx Lab.T K mg base w) : ∀ c b, mi_InvalidPlaces c = some b → PySem.W.kitOne K (.ref (LabW.C c)) (.ref (T.C "InvalidPlaces")) = some b := by rw [← T.hC]; exact tabI_ok (l := [("InvalidProgram", false), ("InvalidText", false)]) T.kt_InvalidPlaces
def mi_InvalidNumber (c : Str) : Option Bool := tabI [("InvalidProgram", false), ("InvalidText", false)] c
theorem mik_InvalidNumber (T : Tx Lab.T K mg base w) : ∀ c b, mi_InvalidNumber c = some b → PySem.W.kitOne K (.ref (LabW.C c)) (.ref (T.C "InvalidNumber")) = some b := by rw [← T.hC]; exact tabI_ok (l := [("InvalidProgram", false), ("InvalidText", false)]) T.kt_InvalidNumber
def mi_InvalidProgram (c : Str) : Option Bool := tabI [("InvalidProgram", true), ("InvalidText", false)] c
theorem mik_InvalidProgram (T : Tx Lab.T K mg base w) : ∀ c b, mi_InvalidProgram c = some b → PySem.W.kitOne K (.ref (LabW.C c)) (.ref (T.C "InvalidProgram")) = some b := by rw [← T.hC]; exact tabI_ok (l := [("InvalidProgram", true), ("InvalidText", false)]) T.kt_InvalidProgram
def mi_InvalidOrder (c : Str) : Option Bool := tabI [("InvalidProgram", false), ("InvalidText", false)] c
theorem mik_InvalidOrder (T : Tx Lab.T K mg base w) : ∀ c b, mi_InvalidOrder c = some b → PySem.W.kitOne K (.ref (LabW.C c)) (.ref (T.C "InvalidOrder")) = some b := by rw [← T.hC]; exact tabI_ok (l := [("InvalidProgram", false), ("InvalidText", false)]) T.kt_InvalidOrder
def mi_InvalidColumns (c : Str) : Option Bool := tabI [("InvalidProgram", false), ("InvalidText", false)] c
theorem mik_InvalidColumns (T : Tx Lab.T K mg base w) : ∀ c b, mi_InvalidColumns c = some b → PySem.W.kitOne K (.ref (LabW.C c)) (.ref (T.C "InvalidColumns")) = some b := by rw [← T.hC]; exact tabI_ok (l := [("InvalidProgram", false), ("InvalidText", false)]) T.kt_InvalidColumns
def mi_InvalidTable (c : Str) : Option Bool := tabI [("InvalidProgram", false), ("InvalidText", false)] c
theorem mik_InvalidTable (T : Tx Lab.T K mg base w) : ∀ c b, mi_InvalidTable c = some b → PySem.W.kitOne K (.ref (LabW.C c)) (.ref (T.C "InvalidTable")) = some b := by rw [← T.hC]; exact tabI_ok (l := [("InvalidProgram", false), ("InvalidText", false)]) T.kt_InvalidTable
def mb_is_integer : DEnv → Option DFlow := (sRet (fAndV (fIsi "int" (rdF 0)) (fNotV (fIsi "bool" (rdF 0)))))
def m_is_integer := runF 1 1 mb_is_integer
theorem sc_is_integer : FnScope ["value"] ["value"] (defScope (topS 28)) := ⟨rfl, rfl, rfl, by decide +kernel, rfl, by decide +kernel, by decide +kernel⟩
theorem bd_is_integer (T : Tx Lab.T K mg base w) : BodyOk P w K mg base ["value"] "is_integer" (topS 28) (T.A 0) (T.FD 0).code 0 mb_is_integer := by
  have sc := sc_is_integer
  intro cdv A outer s H E F hcv hW hgd hr
  exact (dss_one (ds_ret (pd_and (pd_isi (kit_int K) T.n_isinstance T.n_int (by decide +kernel) (pd_name 0)) (pd_one (pd_not (pd_isi (kit_bool K) T.n_isinstance T.n_bool (by decide +kernel) (pd_name 0)))))))
theorem ok_is_integer (T : Tx Lab.T K mg base w) : FnG P w K mg base 1 (T.A 0) (T.FD 0) ["value"] (spF K 1 m_is_integer) :=
  fn_F T.D_is_integer sc_is_integer rfl rfl (bd_is_integer T)
theorem b_is_integer (T : Tx Lab.T K mg base w) : Binds K (T.FD 0) ["value"] [] := T.D_is_integer.binds fun _ _ _ _ _ _ us hl => match us, hl with | [_], _ => rfl
def mb_is_word : DEnv → Option DFlow := (sRet (fAndV (fIsi "str" (rdF 0)) (fCmpN inD (rdF 0) 1)))
def m_is_word := runF 2 2 mb_is_word
theorem sc_is_word : FnScope ["value", "words"] ["value", "words"] (defScope (topS 31)) := ⟨rfl, rfl, rfl, by decide +kernel, rfl, by decide +kernel, by decide +kernel⟩
theorem bd_is_word (T : Tx Lab.T K mg base w) : BodyOk P w K mg base ["value", "words"] "is_word" (topS 31) (T.A 1) (T.FD 1).code 0 mb_is_word := by
  have sc := sc_is_word
  intro cdv A outer s H E F hcv hW hgd hr
  exact (dss_one (ds_ret (pd_and (pd_isi (kit_str K) T.n_isinstance T.n_str (by decide +kernel) (pd_name 0)) (pd_one (pd_cmpN (od_in hr) inD_scal (pd_name 0) 1)))))
theorem ok_is_word (T : Tx Lab.T K mg base w) : FnG P w K mg base 1 (T.A 1) (T.FD 1) ["value", "words"] (spF K 2 m_is_word) :=
  fn_F T.D_is_word sc_is_word rfl rfl (bd_is_word T)
theorem b_is_word (T : Tx Lab.T K mg base w) : Binds K (T.FD 1) ["value", "words"] [] := T.D_is_word.binds fun _ _ _ _ _ _ us hl => match us, hl with | [_, _], _ => rfl
def mb_is_sort_column : DEnv → Option DFlow := (sRet (fAndV (fCB m_is_integer (fCons (rdF 0) fNil)) (fChain leD ltD (fC (.int 0)) (rdF 0) (fC cv_MOST_KEYS))))
def m_is_sort_column := runF 1 1 mb_is_sort_column
theorem sc_is_sort_column : FnScope ["value"] ["value"] (defScope (topS 32)) := ⟨rfl, rfl, rfl, by decide +kernel, rfl, by decide +kernel, by decide +kernel⟩
theorem bd_is_sort_column (T : Tx Lab.T K mg base w) : BodyOk P w K mg base ["value"] "is_sort_column" (topS 32) (T.A 2) (T.FD 2).code 1 mb_is_sort_column := by
  have sc := sc_is_sort_column
  intro cdv A outer s H E F hcv hW hgd hr
  exact (dss_one (ds_ret (pd_and (pd_call ((ok_is_integer T).mono (by decide)) runF_len hgd hr T.g_is_integer T.D_is_integer.kp (b_is_integer T) (pda_cons (pd_name 0) pda_nil)) (pd_one (pd_chain od_le od_lt pd_int (pd_name 0) (pd_glob (T.c_MOST_KEYS).choose_spec.1 (T.c_MOST_KEYS).choose_spec.2.1 (T.c_MOST_KEYS).choose_spec.2.2))))))
theorem ok_is_sort_column (T : Tx Lab.T K mg base w) : FnG P w K mg base 2 (T.A 2) (T.FD 2) ["value"] (spF K 1 m_is_sort_column) :=
  fn_F T.D_is_sort_column sc_is_sort_column rfl rfl (bd_is_sort_column T)
theorem b_is_sort_column (T : Tx Lab.T K mg base w) : Binds K (T.FD 2) ["value"] [] := T.D_is_sort_column.binds fun _ _ _ _ _ _ us hl => match us, hl with | [_], _ => rfl
def mb_is_size : DEnv → Option DFlow := (sRet (fAndV (fCB m_is_integer (fCons (rdF 0) fNil)) (fChain leD leD (fC cv_LEAST_SIZE) (rdF 0) (fC cv_MOST_SIZE))))
def m_is_size := runF 1 1 mb_is_size
theorem sc_is_size : FnScope ["value"] ["value"] (defScope (topS 37)) := ⟨rfl, rfl, rfl, by decide +kernel, rfl, by decide +kernel, by decide +kernel⟩
theorem bd_is_size (T : Tx Lab.T K mg base w) : BodyOk P w K mg base ["value"] "is_size" (topS 37) (T.A 3) (T.FD 3).code 1 mb_is_size := by
  have sc := sc_is_size
  intro cdv A outer s H E F hcv hW hgd hr
  exact (dss_one (ds_ret (pd_and (pd_call ((ok_is_integer T).mono (by decide)) runF_len hgd hr T.g_is_integer T.D_is_integer.kp (b_is_integer T) (pda_cons (pd_name 0) pda_nil)) (pd_one (pd_chain od_le od_le (pd_glob (T.c_LEAST_SIZE).choose_spec.1 (T.c_LEAST_SIZE).choose_spec.2.1 (T.c_LEAST_SIZE).choose_spec.2.2) (pd_name 0) (pd_glob (T.c_MOST_SIZE).choose_spec.1 (T.c_MOST_SIZE).choose_spec.2.1 (T.c_MOST_SIZE).choose_spec.2.2))))))
theorem ok_is_size (T : Tx Lab.T K mg base w) : FnG P w K mg base 2 (T.A 3) (T.FD 3) ["value"] (spF K 1 m_is_size) :=
  fn_F T.D_is_size sc_is_size rfl rfl (bd_is_size T)
theorem b_is_size (T : Tx Lab.T K mg base w) : Binds K (T.FD 3) ["value"] [] := T.D_is_size.binds fun _ _ _ _ _ _ us hl => match us, hl with | [_], _ => rfl
def mb_is_times : DEnv → Option DFlow := (sRet (fAndV (fCB m_is_integer (fCons (rdF 0) fNil)) (fChain leD leD (fC (.int 1)) (rdF 0) (fC cv_MOST_TIMES))))
def m_is_times := runF 1 1 mb_is_times
theorem sc_is_times : FnScope ["value"] ["value"] (defScope (topS 38)) := ⟨rfl, rfl, rfl, by decide +kernel, rfl, by decide +kernel, by decide +kernel⟩
theorem bd_is_times (T : Tx Lab.T K mg base w) : BodyOk P w K mg base ["value"] "is_times" (topS 38) (T.A 4) (T.FD 4).code 1 mb_is_times := by
  have sc := sc_is_times
  intro cdv A outer s H E F hcv hW hgd hr
  exact (dss_one (ds_ret (pd_and (pd_call ((ok_is_integer T).mono (by decide)) runF_len hgd hr T.g_is_integer T.D_is_integer.kp (b_is_integer T) (pda_cons (pd_name 0) pda_nil)) (pd_one (pd_chain od_le od_le pd_int (pd_name 0) (pd_glob (T.c_MOST_TIMES).choose_spec.1 (T.c_MOST_TIMES).choose_spec.2.1 (T.c_MOST_TIMES).choose_spec.2.2))))))
theorem ok_is_times (T : Tx Lab.T K mg base w) : FnG P w K mg base 2 (T.A 4) (T.FD 4) ["value"] (spF K 1 m_is_times) :=
  fn_F T.D_is_times sc_is_times rfl rfl (bd_is_times T)
theorem b_is_times (T : Tx Lab.T K mg base w) : Binds K (T.FD 4) ["value"] [] := T.D_is_times.binds fun _ _ _ _ _ _ us hl => match us, hl with | [_], _ => rfl
def mb_is_plain_command : DEnv → Option DFlow := (sSeq (sIf (fOr (fNot (fTst (fIsi "tuple" (rdF 0)))) (fTst (fBin eqD (fLenN 0) (fC (.int 0))))) (sRet (fC (.bool false))) sNil) (sSeq (sIf (fTst (fCB m_is_word (fCons (fIxN 0 (fC (.int 0))) (fCons (fC cv_BARE_WORDS) fNil)))) (sRet (fBin eqD (fLenN 0) (fC (.int 1)))) sNil) (sSeq (sIf (fTst (fBin neD (fLenN 0) (fC (.int 2)))) (sRet (fC (.bool false))) sNil) (sSeq (sIf (fTst (fCB m_is_word (fCons (fIxN 0 (fC (.int 0))) (fCons (fC cv_DIRECTIONS) fNil)))) (sRet (fCB m_is_sort_column (fCons (fIxN 0 (fC (.int 1))) fNil))) sNil) (sRet (fAndV (fCB m_is_word (fCons (fIxN 0 (fC (.int 0))) (fCons (fC cv_CUTS) fNil))) (fCB m_is_size (fCons (fIxN 0 (fC (.int 1))) fNil))))))))
def m_is_plain_command := runF 1 1 mb_is_plain_command
theorem sc_is_plain_command : FnScope ["value"] ["value"] (defScope (topS 39)) := ⟨rfl, rfl, rfl, by decide +kernel, rfl, by decide +kernel, by decide +kernel⟩
theorem bd_is_plain_command (T : Tx Lab.T K mg base w) : BodyOk P w K mg base ["value"] "is_plain_command" (topS 39) (T.A 5) (T.FD 5).code 2 mb_is_plain_command := by
  have sc := sc_is_plain_command
  intro cdv A outer s H E F hcv hW hgd hr
  exact (dss_cons (ds_if (pdt_w (pdw_or (pdt_not (pdt_val (pd_isi (kit_tuple K) T.n_isinstance T.n_tuple (by decide +kernel) (pd_name 0)))) (pdw_or1 (pdt_cmp (od_eq hr) eqD_b (pd_lenN 0 T.n_len) pd_int)))) (dss_one (ds_ret pd_bl)) dss_nil)
    (dss_cons (ds_if (pdt_val (pd_call ((ok_is_word T).mono (by decide)) runF_len hgd hr T.g_is_word T.D_is_word.kp (b_is_word T) (pda_cons (pd_ixN 0 pd_int) (pda_cons (pd_glob (T.c_BARE_WORDS).choose_spec.1 (T.c_BARE_WORDS).choose_spec.2.1 (T.c_BARE_WORDS).choose_spec.2.2) pda_nil)))) (dss_one (ds_ret (pd_cmp (od_eq hr) (pd_lenN 0 T.n_len) pd_int))) dss_nil)
    (dss_cons (ds_if (pdt_cmp (od_ne hr) neD_b (pd_lenN 0 T.n_len) pd_int) (dss_one (ds_ret pd_bl)) dss_nil)
    (dss_cons (ds_if (pdt_val (pd_call ((ok_is_word T).mono (by decide)) runF_len hgd hr T.g_is_word T.D_is_word.kp (b_is_word T) (pda_cons (pd_ixN 0 pd_int) (pda_cons (pd_glob (T.c_DIRECTIONS).choose_spec.1 (T.c_DIRECTIONS).choose_spec.2.1 (T.c_DIRECTIONS).choose_spec.2.2) pda_nil)))) (dss_one (ds_ret (pd_call ((ok_is_sort_column T).mono (by decide)) runF_len hgd hr T.g_is_sort_column T.D_is_sort_column.kp (b_is_sort_column T) (pda_cons (pd_ixN 0 pd_int) pda_nil)))) dss_nil)
    (dss_one (ds_ret (pd_and (pd_call ((ok_is_word T).mono (by decide)) runF_len hgd hr T.g_is_word T.D_is_word.kp (b_is_word T) (pda_cons (pd_ixN 0 pd_int) (pda_cons (pd_glob (T.c_CUTS).choose_spec.1 (T.c_CUTS).choose_spec.2.1 (T.c_CUTS).choose_spec.2.2) pda_nil))) (pd_one (pd_call ((ok_is_size T).mono (by decide)) runF_len hgd hr T.g_is_size T.D_is_size.kp (b_is_size T) (pda_cons (pd_ixN 0 pd_int) pda_nil))))))))))
theorem ok_is_plain_command (T : Tx Lab.T K mg base w) : FnG P w K mg base 3 (T.A 5) (T.FD 5) ["value"] (spF K 1 m_is_plain_command) :=
  fn_F T.D_is_plain_command sc_is_plain_command rfl rfl (bd_is_plain_command T)
theorem b_is_plain_command (T : Tx Lab.T K mg base w) : Binds K (T.FD 5) ["value"] [] := T.D_is_plain_command.binds fun _ _ _ _ _ _ us hl => match us, hl with | [_], _ => rfl
def mb_begins_repeat : DEnv → Option DFlow := (sSeq (sIf (fOr (fNot (fTst (fIsi "tuple" (rdF 0)))) (fTst (fBin neD (fLenN 0) (fC (.int 3))))) (sRet (fC (.bool false))) sNil) (sRet (fAndV (fCB m_is_word (fCons (fIxN 0 (fC (.int 0))) (fCons (fTup (fCons (fC (.str "repeat")) fNil)) fNil))) (fCB m_is_times (fCons (fIxN 0 (fC (.int 1))) fNil)))))
def m_begins_repeat := runF 1 1 mb_begins_repeat
theorem sc_begins_repeat : FnScope ["value"] ["value"] (defScope (topS 40)) := ⟨rfl, rfl, rfl, by decide +kernel, rfl, by decide +kernel, by decide +kernel⟩
theorem bd_begins_repeat (T : Tx Lab.T K mg base w) : BodyOk P w K mg base ["value"] "begins_repeat" (topS 40) (T.A 6) (T.FD 6).code 2 mb_begins_repeat := by
  have sc := sc_begins_repeat
  intro cdv A outer s H E F hcv hW hgd hr
  exact (dss_cons (ds_if (pdt_w (pdw_or (pdt_not (pdt_val (pd_isi (kit_tuple K) T.n_isinstance T.n_tuple (by decide +kernel) (pd_name 0)))) (pdw_or1 (pdt_cmp (od_ne hr) neD_b (pd_lenN 0 T.n_len) pd_int)))) (dss_one (ds_ret pd_bl)) dss_nil)
    (dss_one (ds_ret (pd_and (pd_call ((ok_is_word T).mono (by decide)) runF_len hgd hr T.g_is_word T.D_is_word.kp (b_is_word T) (pda_cons (pd_ixN 0 pd_int) (pda_cons (pd_tup (pda_cons pd_str pda_nil)) pda_nil))) (pd_one (pd_call ((ok_is_times T).mono (by decide)) runF_len hgd hr T.g_is_times T.D_is_times.kp (b_is_times T) (pda_cons (pd_ixN 0 pd_int) pda_nil)))))))
theorem ok_begins_repeat (T : Tx Lab.T K mg base w) : FnG P w K mg base 3 (T.A 6) (T.FD 6) ["value"] (spF K 1 m_begins_repeat) :=
  fn_F T.D_begins_repeat sc_begins_repeat rfl rfl (bd_begins_repeat T)
theorem b_begins_repeat (T : Tx Lab.T K mg base w) : Binds K (T.FD 6) ["value"] [] := T.D_begins_repeat.binds fun _ _ _ _ _ _ us hl => match us, hl with | [_], _ => rfl
def mb_room_behind (rc : Nat → List PyData → Option PyData) : DEnv → Option DFlow := (sSeq (sIf (fOr (fNot (fTst (fIsi "tuple" (rdF 0)))) (fTst (fBin gtD (rdF 1) (fC cv_MOST_NESTED)))) (sRet (fNeg (fC (.int 1)))) sNil) (sSeq (sFor (iSeq (rdF 0)) (gSet 3) (sSeq (sIf (fTst (fBin ltD (rdF 2) (fC (.int 0)))) (sRet (rdF 2)) sNil) (sSet 2 (fCB (rc 1) (fCons (rdF 3) (fCons (rdF 1) (fCons (rdF 2) fNil))))))) (sRet (rdF 2))))
def mb_room_behind_command (rc : Nat → List PyData → Option PyData) : DEnv → Option DFlow := (sSeq (sIf (fTst (fCB m_is_plain_command (fCons (rdF 0) fNil))) (sRet (fBin subD (rdF 2) (fC (.int 1)))) sNil) (sSeq (sIf (fTst (fCB m_begins_repeat (fCons (rdF 0) fNil))) (sRet (fCB (rc 0) (fCons (fIxN 0 (fC (.int 2))) (fCons (fBin addD (rdF 1) (fC (.int 1))) (fCons (fBin subD (rdF 2) (fC (.int 1))) fNil))))) sNil) (sRet (fNeg (fC (.int 1))))))
def rc_room_behind : Nat → Nat → List PyData → Option PyData
  | 0, 0 => runF 3 4 sNone
  | 0, 1 => runF 3 3 sNone
  | 0, _ => fun _ => none
  | n + 1, 0 => runF 3 4 (mb_room_behind (rc_room_behind n))
  | n + 1, 1 => runF 3 3 (mb_room_behind_command (rc_room_behind n))
  | _ + 1, _ => fun _ => none
theorem rcl_room_behind : ∀ (n : Nat) (ds : List PyData) (r : PyData), rc_room_behind n 0 ds = some r → ds.length = 3
  | 0, ds, r, h => runF_len ds r h
  | _ + 1, ds, r, h => runF_len ds r h
theorem sc_room_behind : FnScope ["program", "depth", "room", "command"] ["program", "depth", "room"] (defScope (topS 41)) := ⟨rfl, rfl, rfl, by decide +kernel, rfl, by decide +kernel, by decide +kernel⟩
theorem b_room_behind (T : Tx Lab.T K mg base w) : Binds K (T.FD 7) ["program", "depth", "room"] [] := T.D_room_behind.binds fun _ _ _ _ _ _ us hl => match us, hl with | [_, _, _], _ => rfl
theorem rcl_room_behind_command : ∀ (n : Nat) (ds : List PyData) (r : PyData), rc_room_behind n 1 ds = some r → ds.length = 3
  | 0, ds, r, h => runF_len ds r h
  | _ + 1, ds, r, h => runF_len ds r h
theorem sc_room_behind_command : FnScope ["command", "depth", "room"] ["command", "depth", "room"] (defScope (topS 42)) := ⟨rfl, rfl, rfl, by decide +kernel, rfl, by decide +kernel, by decide +kernel⟩
theorem b_room_behind_command (T : Tx Lab.T K mg base w) : Binds K (T.FD 8) ["command", "depth", "room"] [] := T.D_room_behind_command.binds fun _ _ _ _ _ _ us hl => match us, hl with | [_, _, _], _ => rfl
theorem bd_room_behind (T : Tx Lab.T K mg base w) (n : Nat) (ih_room_behind : FnG P w K mg base (4 + n) (T.A 7) (T.FD 7) ["program", "depth", "room"] (spF K 3 (rc_room_behind n 0))) (ih_room_behind_command : FnG P w K mg base (4 + n) (T.A 8) (T.FD 8) ["command", "depth", "room"] (spF K 3 (rc_room_behind n 1))) : BodyOk P w K mg base ["program", "depth", "room", "command"] "room_behind" (topS 41) (T.A 7) (T.FD 7).code (4 + n) (mb_room_behind (rc_room_behind n)) := by
  have sc := sc_room_behind
  intro cdv A outer s H E F hcv hW hgd hr
  exact (dss_cons (ds_if (pdt_w (pdw_or (pdt_not (pdt_val (pd_isi (kit_tuple K) T.n_isinstance T.n_tuple (by decide +kernel) (pd_name 0)))) (pdw_or1 (pdt_cmp od_gt intD_b (pd_name 1) (pd_glob (T.c_MOST_NESTED).choose_spec.1 (T.c_MOST_NESTED).choose_spec.2.1 (T.c_MOST_NESTED).choose_spec.2.2))))) (dss_one (ds_ret (pd_neg pd_int))) dss_nil)
    (dss_cons (ds_for (di_seq (pd_name 0)) (dg_name 3 sc.nd) (dss_cons (ds_if (pdt_cmp od_lt intD_b (pd_name 2) pd_int) (dss_one (ds_ret (pd_name 2))) dss_nil)
      (dss_one (ds_set 2 (pd_call (ih_room_behind_command.mono (Nat.le_refl _)) (rcl_room_behind_command n) hgd hr T.g_room_behind_command T.D_room_behind_command.kp (b_room_behind_command T) (pda_cons (pd_name 3) (pda_cons (pd_name 1) (pda_cons (pd_name 2) pda_nil)))) sc.nd))))
    (dss_one (ds_ret (pd_name 2)))))
theorem bd_room_behind_command (T : Tx Lab.T K mg base w) (n : Nat) (ih_room_behind : FnG P w K mg base (4 + n) (T.A 7) (T.FD 7) ["program", "depth", "room"] (spF K 3 (rc_room_behind n 0))) (ih_room_behind_command : FnG P w K mg base (4 + n) (T.A 8) (T.FD 8) ["command", "depth", "room"] (spF K 3 (rc_room_behind n 1))) : BodyOk P w K mg base ["command", "depth", "room"] "room_behind_command" (topS 42) (T.A 8) (T.FD 8).code (4 + n) (mb_room_behind_command (rc_room_behind n)) := by
  have sc := sc_room_behind_command
  intro cdv A outer s H E F hcv hW hgd hr
  exact (dss_cons (ds_if (pdt_val (pd_call ((ok_is_plain_command T).mono (by omega)) runF_len hgd hr T.g_is_plain_command T.D_is_plain_command.kp (b_is_plain_command T) (pda_cons (pd_name 0) pda_nil))) (dss_one (ds_ret (pd_bin od_sub (pd_name 2) pd_int))) dss_nil)
    (dss_cons (ds_if (pdt_val (pd_call ((ok_begins_repeat T).mono (by omega)) runF_len hgd hr T.g_begins_repeat T.D_begins_repeat.kp (b_begins_repeat T) (pda_cons (pd_name 0) pda_nil))) (dss_one (ds_ret (pd_call (ih_room_behind.mono (Nat.le_refl _)) (rcl_room_behind n) hgd hr T.g_room_behind T.D_room_behind.kp (b_room_behind T) (pda_cons (pd_ixN 0 pd_int) (pda_cons (pd_bin od_add (pd_name 1) pd_int) (pda_cons (pd_bin od_sub (pd_name 2) pd_int) pda_nil)))))) dss_nil)
    (dss_one (ds_ret (pd_neg pd_int)))))
theorem okn_room_behind (T : Tx Lab.T K mg base w) : ∀ n : Nat, FnG P w K mg base (4 + n) (T.A 7) (T.FD 7) ["program", "depth", "room"] (spF K 3 (rc_room_behind n 0)) ∧ FnG P w K mg base (4 + n) (T.A 8) (T.FD 8) ["command", "depth", "room"] (spF K 3 (rc_room_behind n 1))
  | 0 => ⟨fn_F (k := 3) T.D_room_behind sc_room_behind rfl rfl (fun _ _ _ _ _ _ _ _ _ _ _ => dss_never), fn_F (k := 3) T.D_room_behind_command sc_room_behind_command rfl rfl (fun _ _ _ _ _ _ _ _ _ _ _ => dss_never)⟩
  | n + 1 => by
    have h := okn_room_behind T n
    exact ⟨fn_F T.D_room_behind sc_room_behind rfl rfl (bd_room_behind T n h.1 h.2), fn_F T.D_room_behind_command sc_room_behind_command rfl rfl (bd_room_behind_command T n h.1 h.2)⟩
def m_room_behind_command := rc_room_behind 12 1
theorem ok_room_behind_command (T : Tx Lab.T K mg base w) : FnG P w K mg base 16 (T.A 8) (T.FD 8) ["command", "depth", "room"] (spF K 3 m_room_behind_command) := (okn_room_behind T 12).2
def mb_check_program : DEnv → Option DFlow := (sSeq (sIf (fNot (fTst (fIsi "tuple" (rdF 0)))) (sRaise "InvalidProgram" "index" (fC .none)) sNil) (sSeq (sSet 1 (fC cv_MOST_COMMANDS)) (sFor (iArg enumTA (fCons (rdF 0) fNil)) (gTupD 2 (gsCons (gSet 2) (gsCons (gSet 3) gsNil))) (sSeq (sSet 1 (fCB m_room_behind_command (fCons (rdF 3) (fCons (fC (.int 1)) (fCons (rdF 1) fNil))))) (sIf (fTst (fBin ltD (rdF 1) (fC (.int 0)))) (sRaise "InvalidProgram" "index" (rdF 2)) sNil)))))
def m_check_program := runX 1 4 mb_check_program
theorem sc_check_program : FnScope ["program", "room", "index", "command"] ["program"] (defScope (topS 43)) := ⟨rfl, rfl, rfl, by decide +kernel, rfl, by decide +kernel, by decide +kernel⟩
theorem bd_check_program (T : Tx Lab.T K mg base w) : BodyX T.C P w K mg base ["program", "room", "index", "command"] "check_program" (topS 43) (T.A 9) (T.FD 9).code 16 mb_check_program := by
  have sc := sc_check_program
  intro cdv A outer s H E F hcv tk hp hgd hr
  exact (dss_cons (ds_if (pdt_not (pdt_val (pd_isi (kit_tuple K) T.n_isinstance T.n_tuple (by decide +kernel) (pd_name 0)))) (dss_one (ds_raise rfl tk T.x_InvalidProgram T.xi_InvalidProgram T.xt_InvalidProgram (xo_InvalidProgram T) (hr.mono (by decide)) (xb_InvalidProgram T) T.xm_InvalidProgram pd_non)) dss_nil)
    (dss_cons (ds_set 1 (pd_glob (T.c_MOST_COMMANDS).choose_spec.1 (T.c_MOST_COMMANDS).choose_spec.2.1 (T.c_MOST_COMMANDS).choose_spec.2.2) sc.nd)
    (dss_one (ds_for (di_enumA T.n_enumerate (pda_cons (pd_name 0) pda_nil)) (dg_tup (dgs_cons (dg_name 2 sc.nd) (dgs_cons (dg_name 3 sc.nd) dgs_nil))) (dss_cons (ds_set 1 (pd_call ((ok_room_behind_command T).mono (by decide)) (rcl_room_behind_command 12) hgd hr T.g_room_behind_command T.D_room_behind_command.kp (b_room_behind_command T) (pda_cons (pd_name 3) (pda_cons pd_int (pda_cons (pd_name 1) pda_nil)))) sc.nd)
      (dss_one (ds_if (pdt_cmp od_lt intD_b (pd_name 1) pd_int) (dss_one (ds_raise rfl tk T.x_InvalidProgram T.xi_InvalidProgram T.xt_InvalidProgram (xo_InvalidProgram T) (hr.mono (by decide)) (xb_InvalidProgram T) T.xm_InvalidProgram (pd_name 2))) dss_nil))) hp))))
theorem okx_check_program (T : Tx Lab.T K mg base w) : FnX P w K mg base 17 (T.A 9) (T.FD 9) ["program"] (spX K T.C 1 m_check_program) :=
  fn_X T.D_check_program sc_check_program rfl rfl (bd_check_program T)
theorem b_check_program (T : Tx Lab.T K mg base w) : Binds K (T.FD 9) ["program"] [] := T.D_check_program.binds fun _ _ _ _ _ _ us hl => match us, hl with | [_], _ => rfl
def mb_is_program : DEnv → Option DFlow := (sSeq (sTry mt_InvalidProgram (sExprX (fCX m_check_program (fCons (rdF 0) fNil))) (sRet (fC (.bool false)))) (sRet (fC (.bool true))))
def m_is_program := runX 1 1 mb_is_program
theorem sc_is_program : FnScope ["value"] ["value"] (defScope (topS 44)) := ⟨rfl, rfl, rfl, by decide +kernel, rfl, by decide +kernel, by decide +kernel⟩
theorem bd_is_program (T : Tx Lab.T K mg base w) : BodyX T.C P w K mg base ["value"] "is_program" (topS 44) (T.A 10) (T.FD 10).code 17 mb_is_program := by
  have sc := sc_is_program
  intro cdv A outer s H E F hcv tk hp hgd hr
  exact (dss_cons (ds_try (mtk_InvalidProgram T) rfl rfl ⟨rfl, by decide, .inl T.xm_InvalidProgram⟩ tk (fun F pn xe tk hp => (dss_one (ds_exprX (pdx_call tk ((okx_check_program T).mono (by decide)) runX_len hgd hr T.g_check_program T.D_check_program.kp (b_check_program T) (pda_cons (pd_name 0) pda_nil))))) (fun _ _ _ _ _ _ _ => (dss_one (ds_ret pd_bl))))
    (dss_one (ds_ret pd_bl)))
theorem okx_is_program (T : Tx Lab.T K mg base w) : FnX P w K mg base 18 (T.A 10) (T.FD 10) ["value"] (spX K T.C 1 m_is_program) :=
  fn_X T.D_is_program sc_is_program rfl rfl (bd_is_program T)
def mo_is_program (ds : List PyData) : Option PyData := okX (m_is_program ds)
theorem ok_is_program (T : Tx Lab.T K mg base w) : FnG P w K mg base 18 (T.A 10) (T.FD 10) ["value"] (spF K 1 mo_is_program) := fng_of_x (okx_is_program T) rfl
theorem b_is_program (T : Tx Lab.T K mg base w) : Binds K (T.FD 10) ["value"] [] := T.D_is_program.binds fun _ _ _ _ _ _ us hl => match us, hl with | [_], _ => rfl
def mb_read_number : DEnv → Option DFlow := (sSeq (sIf (fOr (fNot (fTst (fTM0 ascG (rdF 0)))) (fNot (fTst (fTM0 digG (rdF 0))))) (sRet (fC .none)) sNil) (sSeq (sIf (fAnd (fTst (fBin gtD (fLenN 0) (fC (.int 1)))) (fTst (fBin eqD (fBin ixT (rdF 0) (fC (.int 0))) (fC (.str "0"))))) (sRet (fC .none)) sNil) (sSeq (sIf (fTst (fBin gtD (fLenN 0) (fCB lenD (fCons (fCB strC (fCons (fC cv_MOST_TIMES) fNil)) fNil)))) (sRet (fC .none)) sNil) (sRet (fCB intC (fCons (rdF 0) fNil))))))
def m_read_number := runF 1 1 mb_read_number
theorem sc_read_number : FnScope ["digits"] ["digits"] (defScope (topS 46)) := ⟨rfl, rfl, rfl, by decide +kernel, rfl, by decide +kernel, by decide +kernel⟩
theorem bd_read_number (T : Tx Lab.T K mg base w) : BodyOk P w K mg base ["digits"] "read_number" (topS 46) (T.A 11) (T.FD 11).code 0 mb_read_number := by
  have sc := sc_read_number
  intro cdv A outer s H E F hcv hW hgd hr
  exact (dss_cons (ds_if (pdt_w (pdw_or (pdt_not (pdt_val (pd_isascii (pd_name 0)))) (pdw_or1 (pdt_not (pdt_val (pd_isdigit (pd_name 0))))))) (dss_one (ds_ret pd_non)) dss_nil)
    (dss_cons (ds_if (pdt_w (pdw_and (pdt_cmp od_gt intD_b (pd_lenN 0 T.n_len) pd_int) (pdw_and1 (pdt_cmp (od_eq hr) eqD_b (pd_ixT (pd_name 0) pd_int) pd_str)))) (dss_one (ds_ret pd_non)) dss_nil)
    (dss_cons (ds_if (pdt_cmp od_gt intD_b (pd_lenN 0 T.n_len) (pd_callB (cd_len) T.n_len (by decide +kernel) (pda_cons (pd_callTy cd_str T.n_str (by decide +kernel) (pda_cons (pd_glob (T.c_MOST_TIMES).choose_spec.1 (T.c_MOST_TIMES).choose_spec.2.1 (T.c_MOST_TIMES).choose_spec.2.2) pda_nil)) pda_nil))) (dss_one (ds_ret pd_non)) dss_nil)
    (dss_one (ds_ret (pd_callTy cd_intS T.n_int (by decide +kernel) (pda_cons (pd_name 0) pda_nil)))))))
theorem ok_read_number (T : Tx Lab.T K mg base w) : FnG P w K mg base 1 (T.A 11) (T.FD 11) ["digits"] (spF K 1 m_read_number) :=
  fn_F T.D_read_number sc_read_number rfl rfl (bd_read_number T)
theorem b_read_number (T : Tx Lab.T K mg base w) : Binds K (T.FD 11) ["digits"] [] := T.D_read_number.binds fun _ _ _ _ _ _ us hl => match us, hl with | [_], _ => rfl
def mb_read_command : DEnv → Option DFlow := (sSeq (sIf (fTst (fBin inD (rdF 0) (fC cv_BARE_WORDS))) (sRet (fTup (fCons (rdF 0) fNil))) sNil) (sSeq (sAsg (fTM1 partG (rdF 0) (fC (.str ":"))) (gTupD 3 (gsCons (gSet 1) (gsCons (gSet 2) (gsCons (gSet 3) gsNil))))) (sRet (fTup (fCons (rdF 1) (fCons (fCB m_read_number (fCons (rdF 3) fNil)) fNil))))))
def m_read_command := runF 1 4 mb_read_command
theorem sc_read_command : FnScope ["word", "name", "colon", "digits"] ["word"] (defScope (topS 47)) := ⟨rfl, rfl, rfl, by decide +kernel, rfl, by decide +kernel, by decide +kernel⟩
theorem bd_read_command (T : Tx Lab.T K mg base w) : BodyOk P w K mg base ["word", "name", "colon", "digits"] "read_command" (topS 47) (T.A 12) (T.FD 12).code 1 mb_read_command := by
  have sc := sc_read_command
  intro cdv A outer s H E F hcv hW hgd hr
  exact (dss_cons (ds_if (pdt_cmp (od_in hr) inD_b (pd_name 0) (pd_glob (T.c_BARE_WORDS).choose_spec.1 (T.c_BARE_WORDS).choose_spec.2.1 (T.c_BARE_WORDS).choose_spec.2.2)) (dss_one (ds_ret (pd_tup (pda_cons (pd_name 0) pda_nil)))) dss_nil)
    (dss_cons (ds_asg (pd_partition (pd_name 0) pd_str) (dg_tup (dgs_cons (dg_name 1 sc.nd) (dgs_cons (dg_name 2 sc.nd) (dgs_cons (dg_name 3 sc.nd) dgs_nil)))))
    (dss_one (ds_ret (pd_tup (pda_cons (pd_name 1) (pda_cons (pd_call ((ok_read_number T).mono (by decide)) runF_len hgd hr T.g_read_number T.D_read_number.kp (b_read_number T) (pda_cons (pd_name 3) pda_nil)) pda_nil)))))))
theorem ok_read_command (T : Tx Lab.T K mg base w) : FnG P w K mg base 2 (T.A 12) (T.FD 12) ["word"] (spF K 1 m_read_command) :=
  fn_F T.D_read_command sc_read_command rfl rfl (bd_read_command T)
theorem b_read_command (T : Tx Lab.T K mg base w) : Binds K (T.FD 12) ["word"] [] := T.D_read_command.binds fun _ _ _ _ _ _ us hl => match us, hl with | [_], _ => rfl
def mb_read_words : DEnv → Option DFlow := (rwB m_read_number m_read_command)
def m_read_words := runF 1 4 mb_read_words
theorem sc_read_words : FnScope ["words", "nested", "word", "program"] ["words"] (defScope (topS 48)) := ⟨rfl, rfl, rfl, by decide +kernel, rfl, by decide +kernel, by decide +kernel⟩
theorem bd_read_words (T : Tx Lab.T K mg base w) : BodyOk P w K mg base ["words", "nested", "word", "program"] "read_words" (topS 48) (T.A 13) (T.FD 13).code 2 mb_read_words := by
  have sc := sc_read_words
  intro cdv A outer s H E F hcv hW hgd hr
  exact (rw_body (mN := m_read_number) (mC := m_read_command) (ps_set (i := 1) sc.nd rfl (.inl rfl) (pe_lst (pa_cons (pe_lst pa_nil) pa_nil)))
    (di_seq (pd_name 0)) (pg_name (i := 2) sc.nd rfl (.inl rfl)) (pdt_cmp (od_eq hr) eqD_b (pd_name 2) pd_str)
    (ps_expr (pe_bm PySem.F.plainAttrs_list PySem.F.slot_list_append PySem.F.type_list_append mt_append (pe_var (i := 1) rfl (.inl rfl)) (pa_cons (pe_lst pa_nil) pa_nil)))
    (pdt_val (pd_startswith (pd_name 2) pd_str))
    (ps_set (i := 3) sc.nd rfl (.inl rfl) (pe_callTy call_tuple_of rfl T.n_tuple (by decide +kernel) (pa_cons (pe_bm0 PySem.F.plainAttrs_list PySem.F.slot_list_pop PySem.F.type_list_pop mt_pop (pe_var (i := 1) rfl (.inl rfl))) pa_nil)))
    (pt_not (pt_truth (pe_var (i := 1) rfl (.inl rfl)) (fun _ => rfl)))
    (ps_ret pd_non)
    (ps_expr (pe_bm PySem.F.plainAttrs_list PySem.F.slot_list_append PySem.F.type_list_append mt_append (pe_ix ix_list (pe_var (i := 1) rfl (.inl rfl)) (pd_neg pd_int) (fun _ _ => rfl)) (pda_cons (pd_tup (pda_cons pd_str (pda_cons (pd_call ((ok_read_number T).mono (by decide)) runF_len hgd hr T.g_read_number T.D_read_number.kp (b_read_number T) (pda_cons (pd_sliceT (pd_name 2) (do_some pd_int) do_none) pda_nil)) (pda_cons (pd_name 3) pda_nil)))) pda_nil)))
    (ps_expr (pe_bm PySem.F.plainAttrs_list PySem.F.slot_list_append PySem.F.type_list_append mt_append (pe_ix ix_list (pe_var (i := 1) rfl (.inl rfl)) (pd_neg pd_int) (fun _ _ => rfl)) (pda_cons (pd_call ((ok_read_command T).mono (by decide)) runF_len hgd hr T.g_read_command T.D_read_command.kp (b_read_command T) (pda_cons (pd_name 2) pda_nil)) pda_nil)))
    (ps_ret (pe_ifExp (pt_cmpR op_eq (pe_callB call_len_seq rfl T.n_len (by decide +kernel) (pa_cons (pe_var (i := 1) rfl (.inl rfl)) pa_nil)) pd_int rfl) (pe_callTy call_tuple_of rfl T.n_tuple (by decide +kernel) (pa_cons (pe_ix ix_list (pe_var (i := 1) rfl (.inl rfl)) pd_int (fun _ _ => rfl)) pa_nil)) pd_non)))
theorem ok_read_words (T : Tx Lab.T K mg base w) : FnG P w K mg base 3 (T.A 13) (T.FD 13) ["words"] (spF K 1 m_read_words) :=
  fn_F T.D_read_words sc_read_words rfl rfl (bd_read_words T)
theorem b_read_words (T : Tx Lab.T K mg base w) : Binds K (T.FD 13) ["words"] [] := T.D_read_words.binds fun _ _ _ _ _ _ us hl => match us, hl with | [_], _ => rfl
def mb_parse_program : DEnv → Option DFlow := (sSeq (sIf (fNot (fTst (fIsi "str" (rdF 0)))) (sRaise "InvalidText" "text" (rdF 0)) sNil) (sSeq (sSet 1 (fIf (fTst (fBin neD (rdF 0) (fC (.str "")))) (fCB m_read_words (fCons (fTM1 splitG (rdF 0) (fC (.str " "))) fNil)) (fTup fNil))) (sSeq (sIf (fNot (fTst (fCB mo_is_program (fCons (rdF 1) fNil)))) (sRaise "InvalidText" "text" (rdF 0)) sNil) (sRet (rdF 1)))))
def m_parse_program := runX 1 2 mb_parse_program
theorem sc_parse_program : FnScope ["text", "program"] ["text"] (defScope (topS 49)) := ⟨rfl, rfl, rfl, by decide +kernel, rfl, by decide +kernel, by decide +kernel⟩
theorem bd_parse_program (T : Tx Lab.T K mg base w) : BodyX T.C P w K mg base ["text", "program"] "parse_program" (topS 49) (T.A 14) (T.FD 14).code 18 mb_parse_program := by
  have sc := sc_parse_program
  intro cdv A outer s H E F hcv tk hp hgd hr
  exact (dss_cons (ds_if (pdt_not (pdt_val (pd_isi (kit_str K) T.n_isinstance T.n_str (by decide +kernel) (pd_name 0)))) (dss_one (ds_raise rfl tk T.x_InvalidText T.xi_InvalidText T.xt_InvalidText (xo_InvalidText T) (hr.mono (by decide)) (xb_InvalidText T) T.xm_InvalidText (pd_name 0))) dss_nil)
    (dss_cons (ds_set 1 (pd_if (pdt_cmp (od_ne hr) neD_b (pd_name 0) pd_str) (pd_call ((ok_read_words T).mono (by decide)) runF_len hgd hr T.g_read_words T.D_read_words.kp (b_read_words T) (pda_cons (pd_split (pd_name 0) pd_str) pda_nil)) (pd_tup pda_nil)) sc.nd)
    (dss_cons (ds_if (pdt_not (pdt_val (pd_call ((ok_is_program T).mono (by decide)) okX_len hgd hr T.g_is_program T.D_is_program.kp (b_is_program T) (pda_cons (pd_name 1) pda_nil)))) (dss_one (ds_raise rfl tk T.x_InvalidText T.xi_InvalidText T.xt_InvalidText (xo_InvalidText T) (hr.mono (by decide)) (xb_InvalidText T) T.xm_InvalidText (pd_name 0))) dss_nil)
    (dss_one (ds_ret (pd_name 1))))))
theorem okx_parse_program (T : Tx Lab.T K mg base w) : FnX P w K mg base 19 (T.A 14) (T.FD 14) ["text"] (spX K T.C 1 m_parse_program) :=
  fn_X T.D_parse_program sc_parse_program rfl rfl (bd_parse_program T)
theorem b_parse_program (T : Tx Lab.T K mg base w) : Binds K (T.FD 14) ["text"] [] := T.D_parse_program.binds fun _ _ _ _ _ _ us hl => match us, hl with | [_], _ => rfl
variable [LabR]
def mb__law_cell : DEnv → Option DFlow := (sSeq (sIf (fTst (fBin ltD (rdF 1) (fLenN 0))) (sRet (fIxN 0 (rdF 1))) sNil) (sSeq (sSet 2 (fBin modD (fBin mulD (fC (.int 60013)) (fBin addD (fBin addD (fBin mulD (rdF 1) (rdF 1)) (fBin mulD (fC (.int 5)) (rdF 1))) (fC (.int 3)))) (fC (.int 2147483249)))) (sSeq (sFor (iSeq (fSl (rdF 0) oNone (oSome (fC (.int 3))))) (gSet 3) (sSet 2 (fBin modD (fBin addD (fBin mulD (rdF 2) (fC (.int 41221))) (rdF 3)) (fC (.int 2147483249))))) (sRet (rdF 2)))))
def m__law_cell := runF 2 4 mb__law_cell
theorem sc__law_cell : FnScope ["_law_script", "_law_k", "_law_state", "_law_figure"] ["_law_script", "_law_k"] (defScope (topS 51)) := ⟨rfl, rfl, rfl, by decide +kernel, rfl, by decide +kernel, by decide +kernel⟩
theorem bd__law_cell (T : Tx Lab.T K mg base w) : BodyOk P w K mg base ["_law_script", "_law_k", "_law_state", "_law_figure"] "_law_cell" (topS 51) (T.A 15) (T.FD 15).code 0 mb__law_cell := by
  have sc := sc__law_cell
  intro cdv A outer s H E F hcv hW hgd hr
  exact (dss_cons (ds_if (pdt_cmp od_lt intD_b (pd_name 1) (pd_lenN 0 T.n_len)) (dss_one (ds_ret (pd_ixN 0 (pd_name 1)))) dss_nil)
    (dss_cons (ds_set 2 (pd_bin od_mod (pd_bin od_mul pd_int (pd_bin od_add (pd_bin od_add (pd_bin od_mul (pd_name 1) (pd_name 1)) (pd_bin od_mul pd_int (pd_name 1))) pd_int)) pd_int) sc.nd)
    (dss_cons (ds_for (di_seq (pd_slice (pd_name 0) do_none (do_some pd_int))) (dg_name 3 sc.nd) (dss_one (ds_set 2 (pd_bin od_mod (pd_bin od_add (pd_bin od_mul (pd_name 2) pd_int) (pd_name 3)) pd_int) sc.nd)))
    (dss_one (ds_ret (pd_name 2))))))
theorem ok__law_cell (T : Tx Lab.T K mg base w) : FnG P w K mg base 1 (T.A 15) (T.FD 15) ["_law_script", "_law_k"] (spF K 2 m__law_cell) :=
  fn_F T.D__law_cell sc__law_cell rfl rfl (bd__law_cell T)
theorem b__law_cell (T : Tx Lab.T K mg base w) : Binds K (T.FD 15) ["_law_script", "_law_k"] [] := T.D__law_cell.binds fun _ _ _ _ _ _ us hl => match us, hl with | [_, _], _ => rfl
def mb__law_pool : DEnv → Option DFlow := (sSeq (sSet 1 (fIf (fOr (fTst (fBin ltD (rdF 0) (fC (.int 0)))) (fTst (fBin geD (rdF 0) (fBin powD (fC (.int 10)) (fC (.int 18)))))) (fCB absD (fCons (rdF 0) fNil)) (fC (.int 0)))) (sRetN (fLst (fCons (fBin modD (rdF 0) (fC (.int 2147483249))) (fCons (rdF 1) (fCons (fC (.int 0)) fNil))))))
def m__law_pool := runN 1 2 mb__law_pool
theorem sc__law_pool : FnScope ["_law_figure", "_law_digits"] ["_law_figure"] (defScope (topS 52)) := ⟨rfl, rfl, rfl, by decide +kernel, rfl, by decide +kernel, by decide +kernel⟩
theorem bd__law_pool (T : Tx Lab.T K mg base w) : BodyOk P w K mg base ["_law_figure", "_law_digits"] "_law_pool" (topS 52) (T.A 16) (T.FD 16).code 0 mb__law_pool := by
  have sc := sc__law_pool
  intro cdv A outer s H E F hcv hW hgd hr
  exact (dss_cons (ds_set 1 (pd_if (pdt_w (pdw_or (pdt_cmp od_lt intD_b (pd_name 0) pd_int) (pdw_or1 (pdt_cmp od_ge intD_b (pd_name 0) (pd_bin od_pow pd_int pd_int))))) (pd_callB (cd_abs) T.n_abs (by decide +kernel) (pda_cons (pd_name 0) pda_nil)) pd_int) sc.nd)
    (dss_one (ds_retN (pn_lst (pda_cons (pd_bin od_mod (pd_name 0) pd_int) (pda_cons (pd_name 1) (pda_cons pd_int pda_nil)))))))
theorem ok__law_pool (T : Tx Lab.T K mg base w) : FnG P w K mg base 1 (T.A 16) (T.FD 16) ["_law_figure"] (spN K 1 m__law_pool) :=
  fn_N T.D__law_pool sc__law_pool rfl rfl (bd__law_pool T)
theorem b__law_pool (T : Tx Lab.T K mg base w) : Binds K (T.FD 16) ["_law_figure"] [] := T.D__law_pool.binds fun _ _ _ _ _ _ us hl => match us, hl with | [_], _ => rfl
def mb__law_draw : DEnv → Option DFlow := (sSeq (sAsg (fBin addD (fIxN 0 (fC (.int 2))) (fC (.int 1))) (gSubD 0 (fC (.int 2)))) (sSeq (sSet 2 (fIxN 0 (fC (.int 0)))) (sSeq (sAsg (fBin modD (fBin addD (fBin mulD (rdF 2) (fBin addD (fBin modD (rdF 2) (fC (.int 50021))) (fC (.int 30011)))) (fBin mulD (fC (.int 80021)) (fIxN 0 (fC (.int 2))))) (fC (.int 2147483249))) (gSubD 0 (fC (.int 0)))) (sSeq (sIf (fTst (fBin gtD (fIxN 0 (fC (.int 1))) (fC (.int 0)))) (sSeq (sAsg (fCB divmodB (fCons (fIxN 0 (fC (.int 1))) (fCons (rdF 1) fNil))) (gTupD 2 (gsCons (gSubD 0 (fC (.int 1))) (gsCons (gSet 3) gsNil)))) (sRet (rdF 3))) sNil) (sRet (fBin modD (fBin fdivD (fIxN 0 (fC (.int 0))) (fC (.int 64))) (rdF 1)))))))
def m__law_draw := runR 2 4 mb__law_draw
theorem sc__law_draw : FnScope ["_law_pool_here", "_law_most", "_law_state", "_law_digit"] ["_law_pool_here", "_law_most"] (defScope (topS 53)) := ⟨rfl, rfl, rfl, by decide +kernel, rfl, by decide +kernel, by decide +kernel⟩
theorem bd__law_draw (T : Tx Lab.T K mg base w) : BodyOk P w K mg base ["_law_pool_here", "_law_most", "_law_state", "_law_digit"] "_law_draw" (topS 53) (T.A 17) (T.FD 17).code 0 mb__law_draw := by
  have sc := sc__law_draw
  intro cdv A outer s H E F hcv hW hgd hr
  exact (dss_cons (ds_asg (pd_bin od_add (pd_ixN 0 pd_int) pd_int) (dg_sub 0 pd_int))
    (dss_cons (ds_set 2 (pd_ixN 0 pd_int) sc.nd)
    (dss_cons (ds_asg (pd_bin od_mod (pd_bin od_add (pd_bin od_mul (pd_name 2) (pd_bin od_add (pd_bin od_mod (pd_name 2) pd_int) pd_int)) (pd_bin od_mul pd_int (pd_ixN 0 pd_int))) pd_int) (dg_sub 0 pd_int))
    (dss_cons (ds_if (pdt_cmp od_gt intD_b (pd_ixN 0 pd_int) pd_int) (dss_cons (ds_asg (pd_callB cd_divmodB T.n_divmod (by decide +kernel) (pda_cons (pd_ixN 0 pd_int) (pda_cons (pd_name 1) pda_nil))) (dg_tup (dgs_cons (dg_sub 0 pd_int) (dgs_cons (dg_name 3 sc.nd) dgs_nil))))
      (dss_one (ds_ret (pd_name 3)))) dss_nil)
    (dss_one (ds_ret (pd_bin od_mod (pd_bin od_fdiv (pd_ixN 0 pd_int) pd_int) (pd_name 1))))))))
theorem ok__law_draw (T : Tx Lab.T K mg base w) : FnG P w K mg base 1 (T.A 17) (T.FD 17) ["_law_pool_here", "_law_most"] (spR K 2 m__law_draw) :=
  fn_R T.D__law_draw sc__law_draw rfl rfl (bd__law_draw T)
theorem b__law_draw (T : Tx Lab.T K mg base w) : Binds K (T.FD 17) ["_law_pool_here", "_law_most"] [] := T.D__law_draw.binds fun _ _ _ _ _ _ us hl => match us, hl with | [_, _], _ => rfl
def mb__law_steps : DEnv → Option DFlow := (sSeq (sSetN 4 (fLst fNil)) (sSeq (sFor (iArg rng1 (fCons (fCR 0 m__law_draw (fCons (fBin addD (rdF 1) (fC (.int 1))) fNil)) fNil)) (gSet 5) (sSeq (sPar3 6 7 8 (fCons (fCR 0 m__law_draw (fCons (fC (.int 8)) fNil)) (fCons (fCR 0 m__law_draw (fCons (rdF 2) fNil)) (fCons (fBin addD (fC (.int 2)) (fCR 0 m__law_draw (fCons (fBin subD (rdF 3) (fC (.int 1))) fNil))) fNil)))) (sIf (fTst (fBin ltD (rdF 6) (fC (.int 3)))) (sApp 4 (fTup (fCons (fBin ixD (fFrz (fLst (fCons (fC (.str "up")) (fCons (fC (.str "down")) (fCons (fC (.str "up")) fNil))))) (rdF 6)) (fCons (rdF 7) fNil)))) (sIf (fTst (fBin eqD (rdF 6) (fC (.int 3)))) (sApp 4 (fTup (fCons (fC (.str "reverse")) fNil))) (sIf (fTst (fBin eqD (rdF 6) (fC (.int 4)))) (sApp 4 (fTup (fCons (fC (.str "restore")) fNil))) (sApp 4 (fTup (fCons (fBin ixD (fFrz (fLst (fCons (fC (.str "first")) (fCons (fC (.str "last")) (fCons (fC (.str "first")) fNil))))) (fBin subD (rdF 6) (fC (.int 5)))) (fCons (rdF 8) fNil))))))))) (sRet (fCB tupleD (fCons (rdF 4) fNil)))))
def m__law_steps := runR 4 9 mb__law_steps
theorem sc__law_steps : FnScope ["_law_pool_here", "_law_most", "_law_wide", "_law_size", "_law_found", "_law_turn", "_law_way", "_law_side", "_law_many"] ["_law_pool_here", "_law_most", "_law_wide", "_law_size"] (defScope (topS 54)) := ⟨rfl, rfl, rfl, by decide +kernel, rfl, by decide +kernel, by decide +kernel⟩
theorem bd__law_steps (T : Tx Lab.T K mg base w) : BodyOk P w K mg base ["_law_pool_here", "_law_most", "_law_wide", "_law_size", "_law_found", "_law_turn", "_law_way", "_law_side", "_law_many"] "_law_steps" (topS 54) (T.A 18) (T.FD 18).code 1 mb__law_steps := by
  have sc := sc__law_steps
  intro cdv A outer s H E F hcv hW hgd hr
  exact (dss_cons (ds_setN 4 (pn_lst pda_nil) sc.nd)
    (dss_cons (ds_for (di_range1 T.n_range (pda_cons (pd_callR 0 ((ok__law_draw T).mono (by decide)) runR_len hgd hr T.g__law_draw T.D__law_draw.kp (b__law_draw T) (pda_cons (pd_bin od_add (pd_name 1) pd_int) pda_nil)) pda_nil)) (dg_name 5 sc.nd) (dss_cons (ds_par3 6 7 8 (ps_par3 (i := 6) (j := 7) (l := 8) rfl sc.nd rfl rfl rfl (by decide) (by decide) (by decide) rfl rfl rfl (pda_cons (pd_callR 0 ((ok__law_draw T).mono (by decide)) runR_len hgd hr T.g__law_draw T.D__law_draw.kp (b__law_draw T) (pda_cons pd_int pda_nil)) (pda_cons (pd_callR 0 ((ok__law_draw T).mono (by decide)) runR_len hgd hr T.g__law_draw T.D__law_draw.kp (b__law_draw T) (pda_cons (pd_name 2) pda_nil)) (pda_cons (pd_bin od_add pd_int (pd_callR 0 ((ok__law_draw T).mono (by decide)) runR_len hgd hr T.g__law_draw T.D__law_draw.kp (b__law_draw T) (pda_cons (pd_bin od_sub (pd_name 3) pd_int) pda_nil))) pda_nil))) (by rfl)))
      (dss_one (ds_if (pdt_cmp od_lt intD_b (pd_name 6) pd_int) (dss_one (ds_append 4 (pd_tup (pda_cons (pd_ix (pn_pd (pn_lst (pda_cons pd_str (pda_cons pd_str (pda_cons pd_str pda_nil))))) (pd_name 6)) (pda_cons (pd_name 7) pda_nil))))) (dss_one (ds_if (pdt_cmp (od_eq hr) eqD_b (pd_name 6) pd_int) (dss_one (ds_append 4 (pd_tup (pda_cons pd_str pda_nil)))) (dss_one (ds_if (pdt_cmp (od_eq hr) eqD_b (pd_name 6) pd_int) (dss_one (ds_append 4 (pd_tup (pda_cons pd_str pda_nil)))) (dss_one (ds_append 4 (pd_tup (pda_cons (pd_ix (pn_pd (pn_lst (pda_cons pd_str (pda_cons pd_str (pda_cons pd_str pda_nil))))) (pd_bin od_sub (pd_name 6) pd_int)) (pda_cons (pd_name 8) pda_nil)))))))))))))
    (dss_one (ds_ret (pd_callTy (cd_tuple) T.n_tuple (by decide +kernel) (pda_cons (pd_name 4) pda_nil))))))
theorem ok__law_steps (T : Tx Lab.T K mg base w) : FnG P w K mg base 2 (T.A 18) (T.FD 18) ["_law_pool_here", "_law_most", "_law_wide", "_law_size"] (spR K 4 m__law_steps) :=
  fn_R T.D__law_steps sc__law_steps rfl rfl (bd__law_steps T)
theorem b__law_steps (T : Tx Lab.T K mg base w) : Binds K (T.FD 18) ["_law_pool_here", "_law_most", "_law_wide", "_law_size"] [] := T.D__law_steps.binds fun _ _ _ _ _ _ us hl => match us, hl with | [_, _, _, _], _ => rfl
def mb__law_program : DEnv → Option DFlow := (sSeq (sSet 4 (fCR 0 m__law_steps (fCons (fC (.int 6)) (fCons (rdF 1) (fCons (rdF 2) fNil))))) (sSeq (sFor (iArg rng1 (fCons (fCR 0 m__law_draw (fCons (fC (.int 3)) fNil)) fNil)) (gSet 5) (sSeq (sSet 6 (fCR 0 m__law_steps (fCons (fC (.int 4)) (fCons (rdF 1) (fCons (rdF 2) fNil))))) (sSeq (sIf (fTst (fBin eqD (fCR 0 m__law_draw (fCons (fC (.int 3)) fNil)) (fC (.int 0)))) (sSeq (sSet 8 (fBin addD (fC (.int 1)) (fCR 0 m__law_draw (fCons (rdF 3) fNil)))) (sSet 6 (fBin addD (rdF 6) (fTup (fCons (fTup (fCons (fC (.str "repeat")) (fCons (rdF 8) (fCons (fCR 0 m__law_steps (fCons (fC (.int 3)) (fCons (rdF 1) (fCons (rdF 2) fNil)))) fNil)))) fNil))))) sNil) (sSeq (sSet 7 (fCR 0 m__law_draw (fCons (fBin addD (fLenN 4) (fC (.int 1))) fNil))) (sSet 4 (fBin addD (fBin addD (fSl (rdF 4) oNone (oSome (rdF 7))) (fTup (fCons (fTup (fCons (fC (.str "repeat")) (fCons (fBin addD (fC (.int 1)) (fCR 0 m__law_draw (fCons (rdF 3) fNil))) (fCons (rdF 6) fNil)))) fNil))) (fSl (rdF 4) (oSome (rdF 7)) oNone))))))) (sRet (rdF 4))))
def m__law_program := runR 4 9 mb__law_program
theorem sc__law_program : FnScope ["_law_pool_here", "_law_wide", "_law_size", "_law_times", "_law_found", "_law_turn", "_law_inner", "_law_at", "_law_often"] ["_law_pool_here", "_law_wide", "_law_size", "_law_times"] (defScope (topS 55)) := ⟨rfl, rfl, rfl, by decide +kernel, rfl, by decide +kernel, by decide +kernel⟩
theorem bd__law_program (T : Tx Lab.T K mg base w) : BodyOk P w K mg base ["_law_pool_here", "_law_wide", "_law_size", "_law_times", "_law_found", "_law_turn", "_law_inner", "_law_at", "_law_often"] "_law_program" (topS 55) (T.A 19) (T.FD 19).code 2 mb__law_program := by
  have sc := sc__law_program
  intro cdv A outer s H E F hcv hW hgd hr
  exact (dss_cons (ds_set 4 (pd_callR 0 ((ok__law_steps T).mono (by decide)) runR_len hgd hr T.g__law_steps T.D__law_steps.kp (b__law_steps T) (pda_cons pd_int (pda_cons (pd_name 1) (pda_cons (pd_name 2) pda_nil)))) sc.nd)
    (dss_cons (ds_for (di_range1 T.n_range (pda_cons (pd_callR 0 ((ok__law_draw T).mono (by decide)) runR_len hgd hr T.g__law_draw T.D__law_draw.kp (b__law_draw T) (pda_cons pd_int pda_nil)) pda_nil)) (dg_name 5 sc.nd) (dss_cons (ds_set 6 (pd_callR 0 ((ok__law_steps T).mono (by decide)) runR_len hgd hr T.g__law_steps T.D__law_steps.kp (b__law_steps T) (pda_cons pd_int (pda_cons (pd_name 1) (pda_cons (pd_name 2) pda_nil)))) sc.nd)
      (dss_cons (ds_if (pdt_cmp (od_eq hr) eqD_b (pd_callR 0 ((ok__law_draw T).mono (by decide)) runR_len hgd hr T.g__law_draw T.D__law_draw.kp (b__law_draw T) (pda_cons pd_int pda_nil)) pd_int) (dss_cons (ds_set 8 (pd_bin od_add pd_int (pd_callR 0 ((ok__law_draw T).mono (by decide)) runR_len hgd hr T.g__law_draw T.D__law_draw.kp (b__law_draw T) (pda_cons (pd_name 3) pda_nil))) sc.nd)
        (dss_one (ds_set 6 (pd_bin od_add (pd_name 6) (pd_tup (pda_cons (pd_tup (pda_cons pd_str (pda_cons (pd_name 8) (pda_cons (pd_callR 0 ((ok__law_steps T).mono (by decide)) runR_len hgd hr T.g__law_steps T.D__law_steps.kp (b__law_steps T) (pda_cons pd_int (pda_cons (pd_name 1) (pda_cons (pd_name 2) pda_nil)))) pda_nil)))) pda_nil))) sc.nd))) dss_nil)
      (dss_cons (ds_set 7 (pd_callR 0 ((ok__law_draw T).mono (by decide)) runR_len hgd hr T.g__law_draw T.D__law_draw.kp (b__law_draw T) (pda_cons (pd_bin od_add (pd_lenN 4 T.n_len) pd_int) pda_nil)) sc.nd)
      (dss_one (ds_set 4 (pd_bin od_add (pd_bin od_add (pd_slice (pd_name 4) do_none (do_some (pd_name 7))) (pd_tup (pda_cons (pd_tup (pda_cons pd_str (pda_cons (pd_bin od_add pd_int (pd_callR 0 ((ok__law_draw T).mono (by decide)) runR_len hgd hr T.g__law_draw T.D__law_draw.kp (b__law_draw T) (pda_cons (pd_name 3) pda_nil))) (pda_cons (pd_name 6) pda_nil)))) pda_nil))) (pd_slice (pd_name 4) (do_some (pd_name 7)) do_none)) sc.nd))))))
    (dss_one (ds_ret (pd_name 4)))))
theorem ok__law_program (T : Tx Lab.T K mg base w) : FnG P w K mg base 3 (T.A 19) (T.FD 19) ["_law_pool_here", "_law_wide", "_law_size", "_law_times"] (spR K 4 m__law_program) :=
  fn_R T.D__law_program sc__law_program rfl rfl (bd__law_program T)
theorem b__law_program (T : Tx Lab.T K mg base w) : Binds K (T.FD 19) ["_law_pool_here", "_law_wide", "_law_size", "_law_times"] [] := T.D__law_program.binds fun _ _ _ _ _ _ us hl => match us, hl with | [_, _, _, _], _ => rfl
def mb__law_kind : DEnv → Option DFlow := (sSeq (sSetN 1 (fLst (fCons (fIsC mi_InvalidTable (rdF 0)) (fCons (fIsC mi_InvalidColumns (rdF 0)) (fCons (fIsC mi_InvalidOrder (rdF 0)) fNil))))) (sSeq (sSetN 1 (nAdd (rdF 1) (fFrz (fLst (fCons (fIsC mi_InvalidProgram (rdF 0)) (fCons (fIsC mi_InvalidNumber (rdF 0)) (fCons (fIsC mi_InvalidPlaces (rdF 0)) fNil))))))) (sSeq (sSetN 1 (nAdd (rdF 1) (fFrz (fLst (fCons (fIsC mi_InvalidText (rdF 0)) (fCons (fIsC mi_InvalidLimit (rdF 0)) (fCons (fIsC mi_InvalidRecord (rdF 0)) fNil))))))) (sSeq (sSetN 1 (nAdd (rdF 1) (fFrz (fLst (fCons (fIsC mi_InvalidValue (rdF 0)) (fCons (fIsC mi_InvalidEdit (rdF 0)) (fCons (fIsC mi_InvalidCommand (rdF 0)) fNil))))))) (sSeq (sSetN 1 (nAdd (rdF 1) (fFrz (fLst (fCons (fIsC mi_MissingColumn (rdF 0)) (fCons (fIsC mi_NoPlace (rdF 0)) (fCons (fIsC mi_NothingToUndo (rdF 0)) fNil))))))) (sSeq (sSetN 1 (nAdd (rdF 1) (fFrz (fLst (fCons (fIsC mi_TooManyRecords (rdF 0)) (fCons (fIsC mi_TooManyEdits (rdF 0)) (fCons (fIsC mi_LastRecord (rdF 0)) fNil))))))) (sSeq (sSetN 2 (fLst (fCons (fIsC mi_TableError (rdF 0)) (fCons (fIsC mi_FindError (rdF 0)) (fCons (fIsC mi_LimitError (rdF 0)) fNil))))) (sSeq (sSetN 3 (fLst (fCons (fIsC mi_ValueError (rdF 0)) (fCons (fIsC mi_LookupError (rdF 0)) (fCons (fIsC mi_ArithmeticError (rdF 0)) fNil))))) (sSeq (sIf (fOr (fTst (fBin neD (fCntD 1 (fC (.bool true))) (fC (.int 1)))) (fTst (fCmpN neD (rdF 3) 2))) (sRet (fBin subD (fC (.int 0)) (fC (.int 1)))) sNil) (sSeq (sSet 4 (fIdxD 1 (fC (.bool true)))) (sRet (fIf (fTst (fCmpL eqD 2 (fFrz (fLst (fCons (fBin ltD (rdF 4) (fC (.int 12))) (fCons (fChain ltD ltD (fC (.int 11)) (rdF 4) (fC (.int 15))) (fCons (fBin gtD (rdF 4) (fC (.int 14))) fNil))))))) (rdF 4) (fBin subD (fC (.int 0)) (fC (.int 1)))))))))))))))
def m__law_kind := runF 1 5 mb__law_kind
theorem sc__law_kind : FnScope ["_law_e", "_law_found", "_law_bases", "_law_own", "_law_at"] ["_law_e"] (defScope (topS 56)) := ⟨rfl, rfl, rfl, by decide +kernel, rfl, by decide +kernel, by decide +kernel⟩
theorem bdw__law_kind (T : Tx Lab.T K mg base w) : BodyW P w K mg base ["_law_e", "_law_found", "_law_bases", "_law_own", "_law_at"] "_law_kind" (topS 56) (T.A 20) (T.FD 20).code 0 mb__law_kind := by
  have sc := sc__law_kind
  intro cdv A outer s H E F hcv hW hrW
  exact (dss_cons (ds_setN 1 (pn_lst (pda_cons (pd_isC (.own _) (mik_InvalidTable T) (pe_glob rfl T.xm_InvalidTable rfl) T.n_isinstance (pd_name 0)) (pda_cons (pd_isC (.own _) (mik_InvalidColumns T) (pe_glob rfl T.xm_InvalidColumns rfl) T.n_isinstance (pd_name 0)) (pda_cons (pd_isC (.own _) (mik_InvalidOrder T) (pe_glob rfl T.xm_InvalidOrder rfl) T.n_isinstance (pd_name 0)) pda_nil)))) sc.nd)
    (dss_cons (ds_setN 1 (pn_addL (pd_name 1) (pn_pd (pn_lst (pda_cons (pd_isC (.own _) (mik_InvalidProgram T) (pe_glob rfl T.xm_InvalidProgram rfl) T.n_isinstance (pd_name 0)) (pda_cons (pd_isC (.own _) (mik_InvalidNumber T) (pe_glob rfl T.xm_InvalidNumber rfl) T.n_isinstance (pd_name 0)) (pda_cons (pd_isC (.own _) (mik_InvalidPlaces T) (pe_glob rfl T.xm_InvalidPlaces rfl) T.n_isinstance (pd_name 0)) pda_nil)))))) sc.nd)
    (dss_cons (ds_setN 1 (pn_addL (pd_name 1) (pn_pd (pn_lst (pda_cons (pd_isC (.own _) (mik_InvalidText T) (pe_glob rfl T.xm_InvalidText rfl) T.n_isinstance (pd_name 0)) (pda_cons (pd_isC (.own _) (mik_InvalidLimit T) (pe_glob rfl T.xm_InvalidLimit rfl) T.n_isinstance (pd_name 0)) (pda_cons (pd_isC (.own _) (mik_InvalidRecord T) (pe_glob rfl T.xm_InvalidRecord rfl) T.n_isinstance (pd_name 0)) pda_nil)))))) sc.nd)
    (dss_cons (ds_setN 1 (pn_addL (pd_name 1) (pn_pd (pn_lst (pda_cons (pd_isC (.own _) (mik_InvalidValue T) (pe_glob rfl T.xm_InvalidValue rfl) T.n_isinstance (pd_name 0)) (pda_cons (pd_isC (.own _) (mik_InvalidEdit T) (pe_glob rfl T.xm_InvalidEdit rfl) T.n_isinstance (pd_name 0)) (pda_cons (pd_isC (.own _) (mik_InvalidCommand T) (pe_glob rfl T.xm_InvalidCommand rfl) T.n_isinstance (pd_name 0)) pda_nil)))))) sc.nd)
    (dss_cons (ds_setN 1 (pn_addL (pd_name 1) (pn_pd (pn_lst (pda_cons (pd_isC (.own _) (mik_MissingColumn T) (pe_glob rfl T.xm_MissingColumn rfl) T.n_isinstance (pd_name 0)) (pda_cons (pd_isC (.own _) (mik_NoPlace T) (pe_glob rfl T.xm_NoPlace rfl) T.n_isinstance (pd_name 0)) (pda_cons (pd_isC (.own _) (mik_NothingToUndo T) (pe_glob rfl T.xm_NothingToUndo rfl) T.n_isinstance (pd_name 0)) pda_nil)))))) sc.nd)
    (dss_cons (ds_setN 1 (pn_addL (pd_name 1) (pn_pd (pn_lst (pda_cons (pd_isC (.own _) (mik_TooManyRecords T) (pe_glob rfl T.xm_TooManyRecords rfl) T.n_isinstance (pd_name 0)) (pda_cons (pd_isC (.own _) (mik_TooManyEdits T) (pe_glob rfl T.xm_TooManyEdits rfl) T.n_isinstance (pd_name 0)) (pda_cons (pd_isC (.own _) (mik_LastRecord T) (pe_glob rfl T.xm_LastRecord rfl) T.n_isinstance (pd_name 0)) pda_nil)))))) sc.nd)
    (dss_cons (ds_setN 2 (pn_lst (pda_cons (pd_isC (.own _) (mik_TableError T) (pe_glob rfl T.xm_TableError rfl) T.n_isinstance (pd_name 0)) (pda_cons (pd_isC (.own _) (mik_FindError T) (pe_glob rfl T.xm_FindError rfl) T.n_isinstance (pd_name 0)) (pda_cons (pd_isC (.own _) (mik_LimitError T) (pe_glob rfl T.xm_LimitError rfl) T.n_isinstance (pd_name 0)) pda_nil)))) sc.nd)
    (dss_cons (ds_setN 3 (pn_lst (pda_cons (pd_isC (.ty "ValueError") (mik_ValueError T) (pe_bltn rfl T.n_ValueError (by decide +kernel) rfl) T.n_isinstance (pd_name 0)) (pda_cons (pd_isC (.ty "LookupError") (mik_LookupError T) (pe_bltn rfl T.n_LookupError (by decide +kernel) rfl) T.n_isinstance (pd_name 0)) (pda_cons (pd_isC (.ty "ArithmeticError") (mik_ArithmeticError T) (pe_bltn rfl T.n_ArithmeticError (by decide +kernel) rfl) T.n_isinstance (pd_name 0)) pda_nil)))) sc.nd)
    (dss_cons (ds_if (pdt_w (pdw_or (pdt_cmp (od_neW hrW) neD_b (pd_cntDW hrW 1 pd_bl) pd_int) (pdw_or1 (pdt_cmpN (od_neW hrW) neD_scal neD_b (pd_name 3) 2)))) (dss_one (ds_ret (pd_bin od_sub pd_int pd_int))) dss_nil)
    (dss_cons (ds_set 4 (pd_idxDW hrW 1 pd_bl) sc.nd)
    (dss_one (ds_ret (pd_if (pdt_cmpL (od_eqW hrW) eqD_scal eqD_b 2 (pn_pd (pn_lst (pda_cons (pd_cmp od_lt (pd_name 4) pd_int) (pda_cons (pd_chain od_lt od_lt pd_int (pd_name 4) pd_int) (pda_cons (pd_cmp od_gt (pd_name 4) pd_int) pda_nil)))))) (pd_name 4) (pd_bin od_sub pd_int pd_int))))))))))))))
theorem okw__law_kind (T : Tx Lab.T K mg base w) : FnW P w K mg base 1 (T.A 20) (T.FD 20) ["_law_e"] (spF K 1 m__law_kind) :=
  fnw_F T.D__law_kind sc__law_kind rfl rfl (bdw__law_kind T)
theorem b__law_kind (T : Tx Lab.T K mg base w) : Binds K (T.FD 20) ["_law_e"] [] := T.D__law_kind.binds fun _ _ _ _ _ _ us hl => match us, hl with | [_], _ => rfl
def mb__law_whole : DEnv → Option DFlow := (sRet (fAndV (fIsi "int" (rdF 0)) (fAndV (fNotV (fIsi "bool" (rdF 0))) (fChain leD leD (rdF 1) (rdF 0) (rdF 2)))))
def m__law_whole := runF 3 3 mb__law_whole
theorem sc__law_whole : FnScope ["_law_thing", "_law_least", "_law_most"] ["_law_thing", "_law_least", "_law_most"] (defScope (topS 57)) := ⟨rfl, rfl, rfl, by decide +kernel, rfl, by decide +kernel, by decide +kernel⟩
theorem bd__law_whole (T : Tx Lab.T K mg base w) : BodyOk P w K mg base ["_law_thing", "_law_least", "_law_most"] "_law_whole" (topS 57) (T.A 21) (T.FD 21).code 0 mb__law_whole := by
  have sc := sc__law_whole
  intro cdv A outer s H E F hcv hW hgd hr
  exact (dss_one (ds_ret (pd_and (pd_isi (kit_int K) T.n_isinstance T.n_int (by decide +kernel) (pd_name 0)) (pd_and (pd_not (pd_isi (kit_bool K) T.n_isinstance T.n_bool (by decide +kernel) (pd_name 0))) (pd_one (pd_chain od_le od_le (pd_name 1) (pd_name 0) (pd_name 2)))))))
theorem ok__law_whole (T : Tx Lab.T K mg base w) : FnG P w K mg base 1 (T.A 21) (T.FD 21) ["_law_thing", "_law_least", "_law_most"] (spF K 3 m__law_whole) :=
  fn_F T.D__law_whole sc__law_whole rfl rfl (bd__law_whole T)
theorem b__law_whole (T : Tx Lab.T K mg base w) : Binds K (T.FD 21) ["_law_thing", "_law_least", "_law_most"] [] := T.D__law_whole.binds fun _ _ _ _ _ _ us hl => match us, hl with | [_, _, _], _ => rfl
def mb__law_counted (rc : Nat → List PyData → Option PyData) : DEnv → Option DFlow := (sSeq (sIf (fOr (fNot (fTst (fIsi "tuple" (rdF 0)))) (fOr (fTst (fBin eqTE (rdF 0) (fTup fNil))) (fNot (fTst (fIsi "str" (fIxN 0 (fC (.int 0)))))))) (sRet (fC (.int 0))) sNil) (sSeq (sPar 2 3 (fCons (fIxN 0 (fC (.int 0))) (fCons (fLenN 0) fNil))) (sSeq (sIf (fTst (fBin inD (rdF 2) (fTup (fCons (fC (.str "reverse")) (fCons (fC (.str "restore")) fNil))))) (sRet (fCB intOfD (fCons (fBin eqD (rdF 3) (fC (.int 1))) fNil))) sNil) (sSeq (sIf (fTst (fBin inD (rdF 2) (fTup (fCons (fC (.str "up")) (fCons (fC (.str "down")) fNil))))) (sRet (fCB intOfD (fCons (fAndV (fBin eqD (rdF 3) (fC (.int 2))) (fCB m__law_whole (fCons (fIxN 0 (fC (.int 1))) (fCons (fC (.int 0)) (fCons (fC (.int 3)) fNil))))) fNil))) sNil) (sSeq (sIf (fTst (fBin inD (rdF 2) (fTup (fCons (fC (.str "first")) (fCons (fC (.str "last")) fNil))))) (sRet (fCB intOfD (fCons (fAndV (fBin eqD (rdF 3) (fC (.int 2))) (fCB m__law_whole (fCons (fIxN 0 (fC (.int 1))) (fCons (fC (.int 2)) (fCons (fC (.int 29)) fNil))))) fNil))) sNil) (sSeq (sIf (fOr (fTst (fBin neD (rdF 2) (fC (.str "repeat")))) (fOr (fTst (fBin neD (rdF 3) (fC (.int 3)))) (fOr (fTst (fBin ltD (rdF 1) (fC (.int 1)))) (fNot (fTst (fCB m__law_whole (fCons (fIxN 0 (fC (.int 1))) (fCons (fC (.int 1)) (fCons (fBin powD (fC (.int 10)) (fC (.int 30))) fNil))))))))) (sRet (fC (.int 0))) sNil) (sSeq (sSet 4 (fIf (fTst (fIsi "tuple" (fIxN 0 (fC (.int 2))))) (fFrz (nLc (iSeq (fIxN 0 (fC (.int 2)))) (gSet 5) fYes (fCB (rc 0) (fCons (rdF 5) (fCons (fBin subD (rdF 1) (fC (.int 1))) fNil))) [5])) (fFrz (fLst (fCons (fC (.int 0)) fNil))))) (sRet (fIf (fTst (fCmpN inD (fC (.int 0)) 4)) (fC (.int 0)) (fBin addD (fC (.int 1)) (fCB sumD (fCons (rdF 4) fNil))))))))))))
def rc__law_counted : Nat → Nat → List PyData → Option PyData
  | 0, 0 => runF 2 6 sNone
  | 0, _ => fun _ => none
  | n + 1, 0 => runF 2 6 (mb__law_counted (rc__law_counted n))
  | _ + 1, _ => fun _ => none
theorem rcl__law_counted : ∀ (n : Nat) (ds : List PyData) (r : PyData), rc__law_counted n 0 ds = some r → ds.length = 2
  | 0, ds, r, h => runF_len ds r h
  | _ + 1, ds, r, h => runF_len ds r h
theorem sc__law_counted : FnScope ["_law_step", "_law_deep", "_law_word", "_law_size", "_law_inner", "_law_part"] ["_law_step", "_law_deep"] (defScope (topS 58)) := ⟨rfl, rfl, rfl, by decide +kernel, rfl, by decide +kernel, by decide +kernel⟩
theorem b__law_counted (T : Tx Lab.T K mg base w) : Binds K (T.FD 22) ["_law_step", "_law_deep"] [] := T.D__law_counted.binds fun _ _ _ _ _ _ us hl => match us, hl with | [_, _], _ => rfl
theorem bd__law_counted (T : Tx Lab.T K mg base w) (n : Nat) (ih__law_counted : FnG P w K mg base (2 + n) (T.A 22) (T.FD 22) ["_law_step", "_law_deep"] (spF K 2 (rc__law_counted n 0))) : BodyOk P w K mg base ["_law_step", "_law_deep", "_law_word", "_law_size", "_law_inner", "_law_part"] "_law_counted" (topS 58) (T.A 22) (T.FD 22).code (2 + n) (mb__law_counted (rc__law_counted n)) := by
  have sc := sc__law_counted
  intro cdv A outer s H E F hcv hW hgd hr
  exact (dss_cons (ds_if (pdt_w (pdw_or (pdt_not (pdt_val (pd_isi (kit_tuple K) T.n_isinstance T.n_tuple (by decide +kernel) (pd_name 0)))) (pdw_or (pdt_cmp (od_eqTE hr) eqTE_b (pd_name 0) (pd_tup pda_nil)) (pdw_or1 (pdt_not (pdt_val (pd_isi (kit_str K) T.n_isinstance T.n_str (by decide +kernel) (pd_ixN 0 pd_int)))))))) (dss_one (ds_ret pd_int)) dss_nil)
    (dss_cons (ds_par 2 3 (ps_par (i := 2) (j := 3) rfl sc.nd rfl rfl (by decide) rfl rfl (pda_cons (pd_ixN 0 pd_int) (pda_cons (pd_lenN 0 T.n_len) pda_nil)) (by rfl)))
    (dss_cons (ds_if (pdt_cmp (od_in hr) inD_b (pd_name 2) (pd_tup (pda_cons pd_str (pda_cons pd_str pda_nil)))) (dss_one (ds_ret (pd_callTy (cd_intOf) T.n_int (by decide +kernel) (pda_cons (pd_cmp (od_eq hr) (pd_name 3) pd_int) pda_nil)))) dss_nil)
    (dss_cons (ds_if (pdt_cmp (od_in hr) inD_b (pd_name 2) (pd_tup (pda_cons pd_str (pda_cons pd_str pda_nil)))) (dss_one (ds_ret (pd_callTy (cd_intOf) T.n_int (by decide +kernel) (pda_cons (pd_and (pd_cmp (od_eq hr) (pd_name 3) pd_int) (pd_one (pd_call ((ok__law_whole T).mono (by omega)) runF_len hgd hr T.g__law_whole T.D__law_whole.kp (b__law_whole T) (pda_cons (pd_ixN 0 pd_int) (pda_cons pd_int (pda_cons pd_int pda_nil)))))) pda_nil)))) dss_nil)
    (dss_cons (ds_if (pdt_cmp (od_in hr) inD_b (pd_name 2) (pd_tup (pda_cons pd_str (pda_cons pd_str pda_nil)))) (dss_one (ds_ret (pd_callTy (cd_intOf) T.n_int (by decide +kernel) (pda_cons (pd_and (pd_cmp (od_eq hr) (pd_name 3) pd_int) (pd_one (pd_call ((ok__law_whole T).mono (by omega)) runF_len hgd hr T.g__law_whole T.D__law_whole.kp (b__law_whole T) (pda_cons (pd_ixN 0 pd_int) (pda_cons pd_int (pda_cons pd_int pda_nil)))))) pda_nil)))) dss_nil)
    (dss_cons (ds_if (pdt_w (pdw_or (pdt_cmp (od_ne hr) neD_b (pd_name 2) pd_str) (pdw_or (pdt_cmp (od_ne hr) neD_b (pd_name 3) pd_int) (pdw_or (pdt_cmp od_lt intD_b (pd_name 1) pd_int) (pdw_or1 (pdt_not (pdt_val (pd_call ((ok__law_whole T).mono (by omega)) runF_len hgd hr T.g__law_whole T.D__law_whole.kp (b__law_whole T) (pda_cons (pd_ixN 0 pd_int) (pda_cons pd_int (pda_cons (pd_bin od_pow pd_int pd_int) pda_nil))))))))))) (dss_one (ds_ret pd_int)) dss_nil)
    (dss_cons (ds_set 4 (pd_if (pdt_val (pd_isi (kit_tuple K) T.n_isinstance T.n_tuple (by decide +kernel) (pd_ixN 0 pd_int))) (pn_pd (pn_lc [("_law_part", 5)] sc.nd (di_seq (pd_ixN 0 pd_int)) (blkOk_by (own := [("_law_part", 5)]) (by kernel_rfl)) (fun _ _ _ _ _ => (gn_name 5 sc.nd)) (fun _ _ _ _ _ => dts_nil) (fun _ _ _ _ _ => (pd_call (ih__law_counted.mono (Nat.le_refl _)) (rcl__law_counted n) hgd hr T.g__law_counted T.D__law_counted.kp (b__law_counted T) (pda_cons (pd_name 5) (pda_cons (pd_bin od_sub (pd_name 1) pd_int) pda_nil)))))) (pn_pd (pn_lst (pda_cons pd_int pda_nil)))) sc.nd)
    (dss_one (ds_ret (pd_if (pdt_cmpN (od_in hr) inD_scal inD_b pd_int 4) pd_int (pd_bin od_add pd_int (pd_callB (cd_sum rfl) T.n_sum (by decide +kernel) (pda_cons (pd_name 4) pda_nil)))))))))))))
theorem okn__law_counted (T : Tx Lab.T K mg base w) : ∀ n : Nat, FnG P w K mg base (2 + n) (T.A 22) (T.FD 22) ["_law_step", "_law_deep"] (spF K 2 (rc__law_counted n 0))
  | 0 => fn_F (k := 1) T.D__law_counted sc__law_counted rfl rfl (fun _ _ _ _ _ _ _ _ _ _ _ => dss_never)
  | n + 1 => by
    have h := okn__law_counted T n
    exact fn_F T.D__law_counted sc__law_counted rfl rfl (bd__law_counted T n h)
def m__law_counted := rc__law_counted 12 0
theorem ok__law_counted (T : Tx Lab.T K mg base w) : FnG P w K mg base 14 (T.A 22) (T.FD 22) ["_law_step", "_law_deep"] (spF K 2 m__law_counted) := (okn__law_counted T 12)
def mb__law_first_bad : DEnv → Option DFlow := (sSeq (sIf (fNot (fTst (fIsi "tuple" (rdF 0)))) (sRet (fFrz (fLst (fCons (fC .none) fNil)))) sNil) (sSeq (sSet 1 (fC (.int 0))) (sSeq (sFor (iArg enumTA (fCons (rdF 0) fNil)) (gTupD 2 (gsCons (gSet 2) (gsCons (gSet 3) gsNil))) (sSeq (sSet 4 (fCB m__law_counted (fCons (rdF 3) (fCons (fC (.int 3)) fNil)))) (sSeq (sSet 1 (fBin addD (rdF 1) (rdF 4))) (sIf (fOr (fTst (fBin eqD (rdF 4) (fC (.int 0)))) (fTst (fBin gtD (rdF 1) (fC (.int 400))))) (sRet (fFrz (fLst (fCons (rdF 2) fNil)))) sNil)))) (sRet (fFrz (fLst fNil))))))
def m__law_first_bad := runF 1 5 mb__law_first_bad
theorem sc__law_first_bad : FnScope ["_law_thing", "_law_total", "_law_at", "_law_step", "_law_more"] ["_law_thing"] (defScope (topS 59)) := ⟨rfl, rfl, rfl, by decide +kernel, rfl, by decide +kernel, by decide +kernel⟩
theorem bd__law_first_bad (T : Tx Lab.T K mg base w) : BodyOk P w K mg base ["_law_thing", "_law_total", "_law_at", "_law_step", "_law_more"] "_law_first_bad" (topS 59) (T.A 23) (T.FD 23).code 14 mb__law_first_bad := by
  have sc := sc__law_first_bad
  intro cdv A outer s H E F hcv hW hgd hr
  exact (dss_cons (ds_if (pdt_not (pdt_val (pd_isi (kit_tuple K) T.n_isinstance T.n_tuple (by decide +kernel) (pd_name 0)))) (dss_one (ds_ret (pn_pd (pn_lst (pda_cons pd_non pda_nil))))) dss_nil)
    (dss_cons (ds_set 1 pd_int sc.nd)
    (dss_cons (ds_for (di_enumA T.n_enumerate (pda_cons (pd_name 0) pda_nil)) (dg_tup (dgs_cons (dg_name 2 sc.nd) (dgs_cons (dg_name 3 sc.nd) dgs_nil))) (dss_cons (ds_set 4 (pd_call ((ok__law_counted T).mono (by decide)) (rcl__law_counted 12) hgd hr T.g__law_counted T.D__law_counted.kp (b__law_counted T) (pda_cons (pd_name 3) (pda_cons pd_int pda_nil))) sc.nd)
      (dss_cons (ds_set 1 (pd_bin od_add (pd_name 1) (pd_name 4)) sc.nd)
      (dss_one (ds_if (pdt_w (pdw_or (pdt_cmp (od_eq hr) eqD_b (pd_name 4) pd_int) (pdw_or1 (pdt_cmp od_gt intD_b (pd_name 1) pd_int)))) (dss_one (ds_ret (pn_pd (pn_lst (pda_cons (pd_name 2) pda_nil))))) dss_nil)))))
    (dss_one (ds_ret (pn_pd (pn_lst pda_nil)))))))
theorem ok__law_first_bad (T : Tx Lab.T K mg base w) : FnG P w K mg base 15 (T.A 23) (T.FD 23) ["_law_thing"] (spF K 1 m__law_first_bad) :=
  fn_F T.D__law_first_bad sc__law_first_bad rfl rfl (bd__law_first_bad T)
theorem b__law_first_bad (T : Tx Lab.T K mg base w) : Binds K (T.FD 23) ["_law_thing"] [] := T.D__law_first_bad.binds fun _ _ _ _ _ _ us hl => match us, hl with | [_], _ => rfl
def mb__law_written (rc : Nat → List PyData → Option PyData) : DEnv → Option DFlow := (sSeq (sSetN 1 (fLst fNil)) (sSeq (sFor (iSeq (rdF 0)) (gSet 2) (sIf (fTst (fBin eqD (fIxN 2 (fC (.int 0))) (fC (.str "repeat")))) (sSeq (sSetN 3 (nRepL (fLst (fCons (fCB (rc 0) (fCons (fIxN 2 (fC (.int 2))) fNil)) fNil)) (fCB intOfD (fCons (fBin neD (fIxN 2 (fC (.int 2))) (fTup fNil)) fNil)))) (sSetN 1 (nAdd (fFrz (nAdd (fFrz (nAdd (rdF 1) (fFrz (fLst (fCons (fC (.str "(")) fNil))))) (rdF 3))) (fFrz (fLst (fCons (fBin addD (fC (.str ")x")) (fCB strC (fCons (fIxN 2 (fC (.int 1))) fNil))) fNil)))))) (sApp 1 (fTM1 joinG (fC (.str ":")) (fFrz (nLc (iSeq (rdF 2)) (gSet 4) fYes (fCB strC (fCons (rdF 4) fNil)) [4])))))) (sRet (fTM1 joinG (fC (.str " ")) (rdF 1)))))
def rc__law_written : Nat → Nat → List PyData → Option PyData
  | 0, 0 => runF 1 5 sNone
  | 0, _ => fun _ => none
  | n + 1, 0 => runF 1 5 (mb__law_written (rc__law_written n))
  | _ + 1, _ => fun _ => none
theorem rcl__law_written : ∀ (n : Nat) (ds : List PyData) (r : PyData), rc__law_written n 0 ds = some r → ds.length = 1
  | 0, ds, r, h => runF_len ds r h
  | _ + 1, ds, r, h => runF_len ds r h
theorem sc__law_written : FnScope ["_law_steps_here", "_law_found", "_law_step", "_law_inner", "_law_part"] ["_law_steps_here"] (defScope (topS 60)) := ⟨rfl, rfl, rfl, by decide +kernel, rfl, by decide +kernel, by decide +kernel⟩
theorem b__law_written (T : Tx Lab.T K mg base w) : Binds K (T.FD 24) ["_law_steps_here"] [] := T.D__law_written.binds fun _ _ _ _ _ _ us hl => match us, hl with | [_], _ => rfl
theorem bd__law_written (T : Tx Lab.T K mg base w) (n : Nat) (ih__law_written : FnG P w K mg base (1 + n) (T.A 24) (T.FD 24) ["_law_steps_here"] (spF K 1 (rc__law_written n 0))) : BodyOk P w K mg base ["_law_steps_here", "_law_found", "_law_step", "_law_inner", "_law_part"] "_law_written" (topS 60) (T.A 24) (T.FD 24).code (1 + n) (mb__law_written (rc__law_written n)) := by
  have sc := sc__law_written
  intro cdv A outer s H E F hcv hW hgd hr
  exact (dss_cons (ds_setN 1 (pn_lst pda_nil) sc.nd)
    (dss_cons (ds_for (di_seq (pd_name 0)) (dg_name 2 sc.nd) (dss_one (ds_if (pdt_cmp (od_eq hr) eqD_b (pd_ixN 2 pd_int) pd_str) (dss_cons (ds_setN 3 (pn_repL (pn_lst (pda_cons (pd_call (ih__law_written.mono (Nat.le_refl _)) (rcl__law_written n) hgd hr T.g__law_written T.D__law_written.kp (b__law_written T) (pda_cons (pd_ixN 2 pd_int) pda_nil)) pda_nil)) (pd_callTy (cd_intOf) T.n_int (by decide +kernel) (pda_cons (pd_cmp (od_ne hr) (pd_ixN 2 pd_int) (pd_tup pda_nil)) pda_nil))) sc.nd)
        (dss_one (ds_setN 1 (pn_addL (pn_pd (pn_addL (pn_pd (pn_addL (pd_name 1) (pn_pd (pn_lst (pda_cons pd_str pda_nil))))) (pd_name 3))) (pn_pd (pn_lst (pda_cons (pd_bin od_add pd_str (pd_callTy cd_str T.n_str (by decide +kernel) (pda_cons (pd_ixN 2 pd_int) pda_nil))) pda_nil)))) sc.nd))) (dss_one (ds_append 1 (pd_join pd_str (pn_pd (pn_lc [("_law_part", 4)] sc.nd (di_seq (pd_name 2)) (blkOk_by (own := [("_law_part", 4)]) (by kernel_rfl)) (fun _ _ _ _ _ => (gn_name 4 sc.nd)) (fun _ _ _ _ _ => dts_nil) (fun _ _ _ _ _ => (pd_callTy cd_str T.n_str (by decide +kernel) (pda_cons (pd_name 4) pda_nil)))))))))))
    (dss_one (ds_ret (pd_join pd_str (pd_name 1))))))
theorem okn__law_written (T : Tx Lab.T K mg base w) : ∀ n : Nat, FnG P w K mg base (1 + n) (T.A 24) (T.FD 24) ["_law_steps_here"] (spF K 1 (rc__law_written n 0))
  | 0 => fn_F (k := 0) T.D__law_written sc__law_written rfl rfl (fun _ _ _ _ _ _ _ _ _ _ _ => dss_never)
  | n + 1 => by
    have h := okn__law_written T n
    exact fn_F T.D__law_written sc__law_written rfl rfl (bd__law_written T n h)
def m__law_written := rc__law_written 12 0
theorem ok__law_written (T : Tx Lab.T K mg base w) : FnG P w K mg base 13 (T.A 24) (T.FD 24) ["_law_steps_here"] (spF K 1 m__law_written) := (okn__law_written T 12)
def mb__law_is_figure : DEnv → Option DFlow := (sRet (fOrV (fBin eqD (rdF 0) (fC (.str "0"))) (fAndV (fBin neD (rdF 0) (fC (.str ""))) (fAndV (fBin neD (fBin ixT (rdF 0) (fC (.int 0))) (fC (.str "0"))) (fCB allD (fCons (fFrz (nLc (iStrD (rdF 0)) (gSet 1) fYes (fBin inSD (rdF 1) (fC (.str "0123456789"))) [1])) fNil))))))
def m__law_is_figure := runF 1 2 mb__law_is_figure
theorem sc__law_is_figure : FnScope ["_law_token", "_law_sign"] ["_law_token"] (defScope (topS 61)) := ⟨rfl, rfl, rfl, by decide +kernel, rfl, by decide +kernel, by decide +kernel⟩
theorem bd__law_is_figure (T : Tx Lab.T K mg base w) : BodyOk P w K mg base ["_law_token", "_law_sign"] "_law_is_figure" (topS 61) (T.A 25) (T.FD 25).code 0 mb__law_is_figure := by
  have sc := sc__law_is_figure
  intro cdv A outer s H E F hcv hW hgd hr
  exact (dss_one (ds_ret (pd_or (pd_cmp (od_eq hr) (pd_name 0) pd_str) (pd_one (pd_and (pd_cmp (od_ne hr) (pd_name 0) pd_str) (pd_and (pd_cmp (od_ne hr) (pd_ixT (pd_name 0) pd_int) pd_str) (pd_one (pd_callB (cd_all rfl) T.n_all (by decide +kernel) (pda_cons (pn_pd (pn_lc [("_law_sign", 1)] sc.nd (di_str (pd_name 0)) (blkOk_by (own := [("_law_sign", 1)]) (by kernel_rfl)) (fun _ _ _ _ _ => (gn_name 1 sc.nd)) (fun _ _ _ _ _ => dts_nil) (fun _ _ _ _ _ => (pd_cmp od_inS (pd_name 1) pd_str)))) pda_nil)))))))))
theorem ok__law_is_figure (T : Tx Lab.T K mg base w) : FnG P w K mg base 1 (T.A 25) (T.FD 25) ["_law_token"] (spF K 1 m__law_is_figure) :=
  fn_F T.D__law_is_figure sc__law_is_figure rfl rfl (bd__law_is_figure T)
theorem b__law_is_figure (T : Tx Lab.T K mg base w) : Binds K (T.FD 25) ["_law_token"] [] := T.D__law_is_figure.binds fun _ _ _ _ _ _ us hl => match us, hl with | [_], _ => rfl
def mb__law_read : DEnv → Option DFlow := (sSeq (sIf (fNot (fTst (fIsi "str" (rdF 0)))) (sRet (fFrz (fLst fNil))) sNil) (lrM m__law_is_figure (sRet (fIf (fAnd (fTst (fBin eqD (fLenN 1) (fC (.int 1)))) (fTst (fBin eqD (fCB m__law_first_bad (fCons (fCB tupleD (fCons (fIxN 1 (fC (.int 0))) fNil)) fNil)) (fFrz (fLst fNil))))) (fFrz (fLst (fCons (fCB tupleD (fCons (fIxN 1 (fC (.int 0))) fNil)) fNil))) (fFrz (fLst fNil))))))
def m__law_read := runF 1 5 mb__law_read
theorem sc__law_read : FnScope ["_law_page", "_law_begun", "_law_token", "_law_parts", "_law_inner"] ["_law_page"] (defScope (topS 62)) := ⟨rfl, rfl, rfl, by decide +kernel, rfl, by decide +kernel, by decide +kernel⟩
theorem bd__law_read (T : Tx Lab.T K mg base w) : BodyOk P w K mg base ["_law_page", "_law_begun", "_law_token", "_law_parts", "_law_inner"] "_law_read" (topS 62) (T.A 26) (T.FD 26).code 15 mb__law_read := by
  have sc := sc__law_read
  intro cdv A outer s H E F hcv hW hgd hr
  exact (dss_cons (ds_if (pdt_not (pdt_val (pd_isi (kit_str K) T.n_isinstance T.n_str (by decide +kernel) (pd_name 0)))) (dss_one (ds_ret (pn_pd (pn_lst pda_nil)))) dss_nil)
    (lr_body (mF := m__law_is_figure) (ps_set (i := 1) sc.nd rfl (.inl rfl) (pe_lst (pa_cons (pe_lst pa_nil) pa_nil)))
    (di_seq (pn_pd (pn_repM (pn_split (pd_name 0) pd_str) (pd_callTy (cd_intOf) T.n_int (by decide +kernel) (pda_cons (pd_cmp (od_ne hr) (pd_name 0) pd_str) pda_nil))))) (pg_name (i := 2) sc.nd rfl (.inl rfl)) (ps_set (i := 3) sc.nd rfl (.inl rfl) (pd_split (pd_name 2) pd_str))
    (pdt_cmp (od_eq hr) eqD_b (pd_name 2) pd_str)
    (ps_expr (pe_bm PySem.F.plainAttrs_list PySem.F.slot_list_append PySem.F.type_list_append mt_append (pe_var (i := 1) rfl (.inl rfl)) (pa_cons (pe_lst pa_nil) pa_nil)))
    (PW.pt (pw_and (pdt_cmp (od_eq hr) eqD_b (pd_sliceT (pd_name 2) do_none (do_some pd_int)) pd_str) (pw_and (pt_cmpR op_gt (pe_callB call_len_seq rfl T.n_len (by decide +kernel) (pa_cons (pe_var (i := 1) rfl (.inl rfl)) pa_nil)) pd_int rfl) (pw_and1 (pdt_val (pd_call ((ok__law_is_figure T).mono (by decide)) runF_len hgd hr T.g__law_is_figure T.D__law_is_figure.kp (b__law_is_figure T) (pda_cons (pd_sliceT (pd_name 2) (do_some pd_int) do_none) pda_nil)))))))
    (ps_set (i := 4) sc.nd rfl (.inl rfl) (pe_callTy call_tuple_of rfl T.n_tuple (by decide +kernel) (pa_cons (pe_bm0 PySem.F.plainAttrs_list PySem.F.slot_list_pop PySem.F.type_list_pop mt_pop (pe_var (i := 1) rfl (.inl rfl))) pa_nil)))
    (ps_expr (pe_bm PySem.F.plainAttrs_list PySem.F.slot_list_append PySem.F.type_list_append mt_append (pe_ix ix_list (pe_var (i := 1) rfl (.inl rfl)) (pd_neg pd_int) (fun _ _ => rfl)) (pda_cons (pd_tup (pda_cons pd_str (pda_cons (pd_callTy (cd_intL T.t_digits) T.n_int (by decide +kernel) (pda_cons (pd_sliceT (pd_name 2) (do_some pd_int) do_none) pda_nil)) (pda_cons (pd_name 4) pda_nil)))) pda_nil)))
    (pdt_w (pdw_and (pdt_cmp (od_eq hr) eqD_b (pd_lenN 3 T.n_len) pd_int) (pdw_and1 (pdt_val (pd_call ((ok__law_is_figure T).mono (by decide)) runF_len hgd hr T.g__law_is_figure T.D__law_is_figure.kp (b__law_is_figure T) (pda_cons (pd_ixN 3 pd_int) pda_nil))))))
    (ps_expr (pe_bm PySem.F.plainAttrs_list PySem.F.slot_list_append PySem.F.type_list_append mt_append (pe_ix ix_list (pe_var (i := 1) rfl (.inl rfl)) (pd_neg pd_int) (fun _ _ => rfl)) (pda_cons (pd_tup (pda_cons (pd_ixN 3 pd_int) (pda_cons (pd_callTy (cd_intL T.t_digits) T.n_int (by decide +kernel) (pda_cons (pd_ixN 3 pd_int) pda_nil)) pda_nil))) pda_nil)))
    (ps_expr (pe_bm PySem.F.plainAttrs_list PySem.F.slot_list_append PySem.F.type_list_append mt_append (pe_ix ix_list (pe_var (i := 1) rfl (.inl rfl)) (pd_neg pd_int) (fun _ _ => rfl)) (pda_cons (pd_tup (pda_cons (pd_name 2) pda_nil)) pda_nil)))
    (ds_ret (pd_if (pdt_w (pdw_and (pdt_cmp (od_eq hr) eqD_b (pd_lenN 1 T.n_len) pd_int) (pdw_and1 (pdt_cmp (od_eq hr) eqD_b (pd_call ((ok__law_first_bad T).mono (by decide)) runF_len hgd hr T.g__law_first_bad T.D__law_first_bad.kp (b__law_first_bad T) (pda_cons (pd_callTy (cd_tuple) T.n_tuple (by decide +kernel) (pda_cons (pd_ixN 1 pd_int) pda_nil)) pda_nil)) (pn_pd (pn_lst pda_nil)))))) (pn_pd (pn_lst (pda_cons (pd_callTy (cd_tuple) T.n_tuple (by decide +kernel) (pda_cons (pd_ixN 1 pd_int) pda_nil)) pda_nil))) (pn_pd (pn_lst pda_nil))))))
theorem ok__law_read (T : Tx Lab.T K mg base w) : FnG P w K mg base 16 (T.A 26) (T.FD 26) ["_law_page"] (spF K 1 m__law_read) :=
  fn_F T.D__law_read sc__law_read rfl rfl (bd__law_read T)
theorem b__law_read (T : Tx Lab.T K mg base w) : Binds K (T.FD 26) ["_law_page"] [] := T.D__law_read.binds fun _ _ _ _ _ _ us hl => match us, hl with | [_], _ => rfl
def gd_parse_program_text (ds : List PyData) : List PyData := match ds with
  | [x0] => [x0]
  | _ => ds
def gv_parse_program_text (vs : List V) : List V := match vs with
  | [x0] => [x0]
  | _ => vs
def gu_parse_program_text (vs : List Value) : List Value := match vs with
  | [x0] => [x0]
  | _ => vs
theorem gdd_parse_program_text (K : PySem.W.Frag) (Z : Hp) (vs : List V) (ds : List PyData) (h : DDs K Z vs ds) : DDs K Z (gv_parse_program_text vs) (gd_parse_program_text ds) := by
  cases h with
  | nil => exact .nil
  | cons h0 h =>
    cases h with
    | nil => exact .cons h0 .nil
    | cons h1 h => exact .cons h0 (.cons h1 (h))
theorem gr_parse_program_text {vs : List V} {us : List Value} (h : Vals vs us) : Vals (gv_parse_program_text vs) (gu_parse_program_text us) := by
  cases h with
  | nil => exact .nil
  | cons h0 h =>
    cases h with
    | nil => exact .cons h0 .nil
    | cons h1 h => exact .cons h0 (.cons h1 (h))
theorem kb_parse_program_text (T : Tx Lab.T K mg base w) (s : Shared) (ws : List Value) (hl : (gu_parse_program_text ws).length = 1) : BindsTo s (T.FD 14) ⟨[], (["text"] : List Str).zip ws⟩ ((["text"] : List Str).zip (gu_parse_program_text ws)) := by
  obtain ⟨oc, od, kV, doc, pm, an, cdv, ct, osl, e, _, _⟩ := T.D_parse_program.ex
  rw [e]
  match ws, hl with
  | [_], _ => exact .of_eq rfl
def mb__law_answer : DEnv → Option DFlow := (sSeq (sTryAs (mt3 mt_TableError mt_FindError mt_LimitError) at_ex 3 (sSetX 2 (fIfX (fTst (rdF 1)) (fCXK0 gd_parse_program_text m_parse_program (fCons (rdF 0) fNil)) (fCX m_parse_program (fCons (rdF 0) fNil)))) (sRet (fFrz (fLst (fCons (fCB m__law_kind (fCons (rdF 3) fNil)) (fCons (fIf (fTst (fIsC mi_InvalidText (rdF 3))) (fCB reprE (fCons (fExA "text" (rdF 3)) fNil)) (fC (.str ""))) fNil)))))) (sRet (fFrz (fLst (fCons (fCB reprE (fCons (rdF 2) fNil)) fNil)))))
def m__law_answer := runF 2 4 mb__law_answer
theorem sc__law_answer : FnScope ["_law_page", "_law_named", "_law_told", "_law_e"] ["_law_page", "_law_named"] (defScope (topS 63)) := ⟨rfl, rfl, rfl, by decide +kernel, rfl, by decide +kernel, by decide +kernel⟩
theorem bd__law_answer (T : Tx Lab.T K mg base w) : BodyOk P w K mg base ["_law_page", "_law_named", "_law_told", "_law_e"] "_law_answer" (topS 63) (T.A 27) (T.FD 27).code 19 mb__law_answer := by
  have sc := sc__law_answer
  intro cdv A outer s H E F hcv hW hgd hr
  exact (dss_cons (ds_tryAs (hmt_TableError_FindError_LimitError T) (ekp_TableError_FindError_LimitError T) rfl rfl rfl sc.nd rfl rfl (tupT3 ⟨rfl, by decide, .inl T.xm_TableError⟩ ⟨rfl, by decide, .inl T.xm_FindError⟩ ⟨rfl, by decide, .inl T.xm_LimitError⟩) (takes_W0 hW) (fun F pn xe tk0 hp => have tk := tkC T tk0; (dss_one (ds_setX 2 (pdx_if (pdt_val (pd_name 1)) (pdx_callK0 (gd_parse_program_text) (gdd_parse_program_text) tk ((okx_parse_program T).mono (by decide)) runX_len hgd hr T.g_parse_program T.D_parse_program.kp (kb_parse_program_text T) gr_parse_program_text (pdk_cons (pd_name 0) pdk_nil)) (pdx_call tk ((okx_parse_program T).mono (by decide)) runX_len hgd hr T.g_parse_program T.D_parse_program.kp (b_parse_program T) (pda_cons (pd_name 0) pda_nil))) sc.nd))) (fun a pn => have hrW := (roomW_of hr).mark (some (.ref a)); (dss_one (ds_ret (pn_pd (pn_lst (pda_cons (pd_callW ((okw__law_kind T).mono (by decide)) runF_len hrW T.g__law_kind T.D__law_kind.kp (b__law_kind T) (pda_cons (pd_name 3) pda_nil)) (pda_cons (pd_if (pdt_val (pd_isC (.own _) (mik_InvalidText T) (pe_glob rfl T.xm_InvalidText rfl) T.n_isinstance (pd_name 3))) (pd_callB (cd_reprEW hrW hgd LabR.on) T.n_repr (by decide +kernel) (pda_cons (pd_exA (pd_name 3)) pda_nil)) pd_str) pda_nil))))))))
    (dss_one (ds_ret (pn_pd (pn_lst (pda_cons (pd_callB (cd_reprE hr hgd LabR.on) T.n_repr (by decide +kernel) (pda_cons (pd_name 2) pda_nil)) pda_nil))))))
theorem ok__law_answer (T : Tx Lab.T K mg base w) : FnG P w K mg base 20 (T.A 27) (T.FD 27) ["_law_page", "_law_named"] (spF K 2 m__law_answer) :=
  fn_F T.D__law_answer sc__law_answer rfl rfl (bd__law_answer T)
theorem b__law_answer (T : Tx Lab.T K mg base w) : Binds K (T.FD 27) ["_law_page", "_law_named"] [] := T.D__law_answer.binds fun _ _ _ _ _ _ us hl => match us, hl with | [_, _], _ => rfl
def mb__law_told_right : DEnv → Option DFlow := (sSeq (sSet 2 (fCB m__law_read (fCons (rdF 0) fNil))) (sRet (fBin eqD (fCB m__law_answer (fCons (rdF 0) (fCons (rdF 1) fNil))) (fIf (fTst (fBin neD (rdF 2) (fFrz (fLst fNil)))) (fFrz (fLst (fCons (fCB reprE (fCons (fIxN 2 (fC (.int 0))) fNil)) fNil))) (fFrz (fLst (fCons (fC (.int 6)) (fCons (fCB reprE (fCons (rdF 0) fNil)) fNil))))))))
def m__law_told_right := runF 2 3 mb__law_told_right
theorem sc__law_told_right : FnScope ["_law_page", "_law_named", "_law_steps_here"] ["_law_page", "_law_named"] (defScope (topS 64)) := ⟨rfl, rfl, rfl, by decide +kernel, rfl, by decide +kernel, by decide +kernel⟩
theorem bd__law_told_right (T : Tx Lab.T K mg base w) : BodyOk P w K mg base ["_law_page", "_law_named", "_law_steps_here"] "_law_told_right" (topS 64) (T.A 28) (T.FD 28).code 20 mb__law_told_right := by
  have sc := sc__law_told_right
  intro cdv A outer s H E F hcv hW hgd hr
  exact (dss_cons (ds_set 2 (pd_call ((ok__law_read T).mono (by decide)) runF_len hgd hr T.g__law_read T.D__law_read.kp (b__law_read T) (pda_cons (pd_name 0) pda_nil)) sc.nd)
    (dss_one (ds_ret (pd_cmp (od_eq hr) (pd_call ((ok__law_answer T).mono (by decide)) runF_len hgd hr T.g__law_answer T.D__law_answer.kp (b__law_answer T) (pda_cons (pd_name 0) (pda_cons (pd_name 1) pda_nil))) (pd_if (pdt_cmp (od_ne hr) neD_b (pd_name 2) (pn_pd (pn_lst pda_nil))) (pn_pd (pn_lst (pda_cons (pd_callB (cd_reprE hr hgd LabR.on) T.n_repr (by decide +kernel) (pda_cons (pd_ixN 2 pd_int) pda_nil)) pda_nil))) (pn_pd (pn_lst (pda_cons pd_int (pda_cons (pd_callB (cd_reprE hr hgd LabR.on) T.n_repr (by decide +kernel) (pda_cons (pd_name 0) pda_nil)) pda_nil)))))))))
theorem ok__law_told_right (T : Tx Lab.T K mg base w) : FnG P w K mg base 21 (T.A 28) (T.FD 28) ["_law_page", "_law_named"] (spF K 2 m__law_told_right) :=
  fn_F T.D__law_told_right sc__law_told_right rfl rfl (bd__law_told_right T)
theorem b__law_told_right (T : Tx Lab.T K mg base w) : Binds K (T.FD 28) ["_law_page", "_law_named"] [] := T.D__law_told_right.binds fun _ _ _ _ _ _ us hl => match us, hl with | [_, _], _ => rfl
def mb__law_spoilt : DEnv → Option DFlow := (sSeq (sPar 3 4 (fCons (fCR 0 m__law_draw (fCons (fC (.int 6)) fNil)) (fCons (fCR 0 m__law_draw (fCons (fBin addD (fLenN 1) (fC (.int 1))) fNil)) fNil))) (sSeq (sSet 5 (fBin ixT (fC (.str "updownrevsfilat ()x:0123456789.-+_U")) (fCR 0 m__law_draw (fCons (fC (.int 35)) fNil)))) (sSeq (sIf (fTst (fBin ltD (rdF 3) (fC (.int 3)))) (sRet (fBin addD (fBin addD (fSlT (rdF 1) oNone (oSome (rdF 4))) (fBin mulS0D (rdF 5) (fCB intOfD (fCons (fBin neD (rdF 3) (fC (.int 1))) fNil)))) (fSlT (rdF 1) (oSome (fBin addD (rdF 4) (fCB intOfD (fCons (fBin gtD (rdF 3) (fC (.int 0))) fNil)))) oNone))) sNil) (sSeq (sParND 6 7 (nSplit (rdF 1) (fC (.str " "))) (fIxN 2 (fCR 0 m__law_draw (fCons (fLenN 2) fNil)))) (sSeq (sSet 8 (fCR 0 m__law_draw (fCons (fLenN 6) fNil))) (sSeq (sIf (fTst (fBin eqD (rdF 3) (fC (.int 3)))) (sInsert 6 (rdF 8) (rdF 7)) (sIf (fTst (fBin eqD (rdF 3) (fC (.int 4)))) (sAsg (rdF 7) (gSubD 6 (rdF 8))) (sExpr (fPop 6 (rdF 8))))) (sRet (fTM1 joinG (fC (.str " ")) (rdF 6)))))))))
def m__law_spoilt := runR 3 9 mb__law_spoilt
theorem sc__law_spoilt : FnScope ["_law_pool_here", "_law_page", "_law_odd", "_law_way", "_law_at", "_law_sign", "_law_words", "_law_thing", "_law_spot"] ["_law_pool_here", "_law_page", "_law_odd"] (defScope (topS 65)) := ⟨rfl, rfl, rfl, by decide +kernel, rfl, by decide +kernel, by decide +kernel⟩
theorem bd__law_spoilt (T : Tx Lab.T K mg base w) : BodyOk P w K mg base ["_law_pool_here", "_law_page", "_law_odd", "_law_way", "_law_at", "_law_sign", "_law_words", "_law_thing", "_law_spot"] "_law_spoilt" (topS 65) (T.A 29) (T.FD 29).code 1 mb__law_spoilt := by
  have sc := sc__law_spoilt
  intro cdv A outer s H E F hcv hW hgd hr
  exact (dss_cons (ds_par 3 4 (ps_par (i := 3) (j := 4) rfl sc.nd rfl rfl (by decide) rfl rfl (pda_cons (pd_callR 0 ((ok__law_draw T).mono (by decide)) runR_len hgd hr T.g__law_draw T.D__law_draw.kp (b__law_draw T) (pda_cons pd_int pda_nil)) (pda_cons (pd_callR 0 ((ok__law_draw T).mono (by decide)) runR_len hgd hr T.g__law_draw T.D__law_draw.kp (b__law_draw T) (pda_cons (pd_bin od_add (pd_lenN 1 T.n_len) pd_int) pda_nil)) pda_nil)) (by rfl)))
    (dss_cons (ds_set 5 (pd_ixT pd_str (pd_callR 0 ((ok__law_draw T).mono (by decide)) runR_len hgd hr T.g__law_draw T.D__law_draw.kp (b__law_draw T) (pda_cons pd_int pda_nil))) sc.nd)
    (dss_cons (ds_if (pdt_cmp od_lt intD_b (pd_name 3) pd_int) (dss_one (ds_ret (pd_bin od_add (pd_bin od_add (pd_sliceT (pd_name 1) do_none (do_some (pd_name 4))) (pd_bin od_mulS0 (pd_name 5) (pd_callTy (cd_intOf) T.n_int (by decide +kernel) (pda_cons (pd_cmp (od_ne hr) (pd_name 3) pd_int) pda_nil)))) (pd_sliceT (pd_name 1) (do_some (pd_bin od_add (pd_name 4) (pd_callTy (cd_intOf) T.n_int (by decide +kernel) (pda_cons (pd_cmp od_gt (pd_name 3) pd_int) pda_nil)))) do_none)))) dss_nil)
    (dss_cons (ds_parND 6 7 (by decide) (ps_par (i := 6) (j := 7) rfl sc.nd rfl rfl (by decide) rfl rfl (pa_cons (pn_split (pd_name 1) pd_str) (pa_cons (pd_ixN 2 (pd_callR 0 ((ok__law_draw T).mono (by decide)) runR_len hgd hr T.g__law_draw T.D__law_draw.kp (b__law_draw T) (pda_cons (pd_lenN 2 T.n_len) pda_nil))) pa_nil)) (by rfl)))
    (dss_cons (ds_set 8 (pd_callR 0 ((ok__law_draw T).mono (by decide)) runR_len hgd hr T.g__law_draw T.D__law_draw.kp (b__law_draw T) (pda_cons (pd_lenN 6 T.n_len) pda_nil)) sc.nd)
    (dss_cons (ds_if (pdt_cmp (od_eq hr) eqD_b (pd_name 3) pd_int) (dss_one (ds_insert 6 (pd_name 8) (pd_name 7))) (dss_one (ds_if (pdt_cmp (od_eq hr) eqD_b (pd_name 3) pd_int) (dss_one (ds_asg (pd_name 7) (dg_sub 6 (pd_name 8)))) (dss_one (ds_expr (pd_pop 6 (pd_name 8)))))))
    (dss_one (ds_ret (pd_join pd_str (pd_name 6))))))))))
theorem ok__law_spoilt (T : Tx Lab.T K mg base w) : FnG P w K mg base 2 (T.A 29) (T.FD 29) ["_law_pool_here", "_law_page", "_law_odd"] (spR K 3 m__law_spoilt) :=
  fn_R T.D__law_spoilt sc__law_spoilt rfl rfl (bd__law_spoilt T)
theorem b__law_spoilt (T : Tx Lab.T K mg base w) : Binds K (T.FD 29) ["_law_pool_here", "_law_page", "_law_odd"] [] := T.D__law_spoilt.binds fun _ _ _ _ _ _ us hl => match us, hl with | [_, _, _], _ => rfl
def mb__law_right : DEnv → Option DFlow := (sSeq (sSetN 1 (fLst (fCons (fC (.str "")) (fCons (fC (.str "(")) (fCons (fC (.str ")")) (fCons (fC (.str ")x1")) (fCons (fC (.str ")x0")) (fCons (fC (.str ")x02")) (fCons (fC (.str ")x")) (fCons (fC (.str "( )x2")) (fCons (fC (.str "reverse:0")) (fCons (fC (.str "restore:")) (fCons (fC (.str "up")) (fCons (fC (.str "up:")) (fCons (fC (.str "up:4")) fNil))))))))))))))) (sSeq (sSetN 1 (nAdd (rdF 1) (fFrz (fLst (fCons (fC (.str "up:00")) (fCons (fC (.str "up:3")) (fCons (fC (.str "down:-1")) (fCons (fC (.str "first:1")) (fCons (fC (.str "first:2")) (fCons (fC (.str "last:29")) (fCons (fC (.str "last:30")) (fCons (fC (.str "last:2:2")) (fCons (fC (.str "place:0")) fNil))))))))))))) (sSeq (sSetN 1 (nAdd (rdF 1) (fFrz (fLst (fCons (fC (.str "repeat")) (fCons (fC (.str "repeat:2")) (fCons (fBin addD (fC (.str ")x1")) (fBin mulSD (fC (.str "0")) (fC (.int 30)))) (fCons (fBin addD (fBin addD (fC (.str ")x1")) (fBin mulSD (fC (.str "0")) (fC (.int 29)))) (fC (.str "1"))) (fCons (fC (.str "()x3")) (fCons (fC (.str "up:0)x2")) (fCons (fC (.str "UP:0")) fNil))))))))))) (sSeq (sSetN 1 (nAdd (rdF 1) (fFrz (fLst (fCons (fC (.str "up:1_0")) (fCons (fC (.str "first:1_0")) (fCons (fC (.str ":")) (fCons (fC (.str ":2")) (fCons (fC (.str "up:0:")) fNil))))))))) (sSeq (sFor (iArg rng1 (fCons (fC (.int 3)) fNil)) (gSet 2) (sSeq (sSet 3 (fCB m__law_written (fCons (fCR 0 m__law_program (fCons (fC (.int 4)) (fCons (fC (.int 29)) (fCons (fBin ixD (fFrz (fLst (fCons (fC (.int 9)) (fCons (fBin powD (fC (.int 10)) (fC (.int 30))) fNil)))) (fCR 0 m__law_draw (fCons (fC (.int 2)) fNil))) fNil)))) fNil))) (sSeq (sIf (fNot (fTst (fCB m__law_told_right (fCons (rdF 3) (fCons (fC (.bool false)) fNil))))) (sRet (fC (.bool false))) sNil) (sFor (iArg rng1 (fCons (fC (.int 10)) fNil)) (gSet 4) (sSeq (sSet 5 (fCR 0 m__law_spoilt (fCons (rdF 3) (fCons (rdF 1) fNil)))) (sIf (fOr (fNot (fTst (fCB m__law_told_right (fCons (rdF 5) (fCons (fC (.bool false)) fNil))))) (fNot (fTst (fCB m__law_told_right (fCons (fCR 0 m__law_spoilt (fCons (rdF 5) (fCons (rdF 1) fNil))) (fCons (fC (.bool true)) fNil)))))) (sRet (fC (.bool false))) sNil)))))) (sRet (fC (.bool true))))))))
def m__law_right := runR 1 6 mb__law_right
theorem sc__law_right : FnScope ["_law_pool_here", "_law_odd", "_law_turn", "_law_page", "_law_more", "_law_bent"] ["_law_pool_here"] (defScope (topS 66)) := ⟨rfl, rfl, rfl, by decide +kernel, rfl, by decide +kernel, by decide +kernel⟩
theorem bd__law_right (T : Tx Lab.T K mg base w) : BodyOk P w K mg base ["_law_pool_here", "_law_odd", "_law_turn", "_law_page", "_law_more", "_law_bent"] "_law_right" (topS 66) (T.A 30) (T.FD 30).code 21 mb__law_right := by
  have sc := sc__law_right
  intro cdv A outer s H E F hcv hW hgd hr
  exact (dss_cons (ds_setN 1 (pn_lst (pda_cons pd_str (pda_cons pd_str (pda_cons pd_str (pda_cons pd_str (pda_cons pd_str (pda_cons pd_str (pda_cons pd_str (pda_cons pd_str (pda_cons pd_str (pda_cons pd_str (pda_cons pd_str (pda_cons pd_str (pda_cons pd_str pda_nil)))))))))))))) sc.nd)
    (dss_cons (ds_setN 1 (pn_addL (pd_name 1) (pn_pd (pn_lst (pda_cons pd_str (pda_cons pd_str (pda_cons pd_str (pda_cons pd_str (pda_cons pd_str (pda_cons pd_str (pda_cons pd_str (pda_cons pd_str (pda_cons pd_str pda_nil)))))))))))) sc.nd)
    (dss_cons (ds_setN 1 (pn_addL (pd_name 1) (pn_pd (pn_lst (pda_cons pd_str (pda_cons pd_str (pda_cons (pd_bin od_add pd_str (pd_bin od_mulS pd_str pd_int)) (pda_cons (pd_bin od_add (pd_bin od_add pd_str (pd_bin od_mulS pd_str pd_int)) pd_str) (pda_cons pd_str (pda_cons pd_str (pda_cons pd_str pda_nil)))))))))) sc.nd)
    (dss_cons (ds_setN 1 (pn_addL (pd_name 1) (pn_pd (pn_lst (pda_cons pd_str (pda_cons pd_str (pda_cons pd_str (pda_cons pd_str (pda_cons pd_str pda_nil)))))))) sc.nd)
    (dss_cons (ds_for (di_range1 T.n_range (pda_cons pd_int pda_nil)) (dg_name 2 sc.nd) (dss_cons (ds_set 3 (pd_call ((ok__law_written T).mono (by decide)) (rcl__law_written 12) hgd hr T.g__law_written T.D__law_written.kp (b__law_written T) (pda_cons (pd_callR 0 ((ok__law_program T).mono (by decide)) runR_len hgd hr T.g__law_program T.D__law_program.kp (b__law_program T) (pda_cons pd_int (pda_cons pd_int (pda_cons (pd_ix (pn_pd (pn_lst (pda_cons pd_int (pda_cons (pd_bin od_pow pd_int pd_int) pda_nil)))) (pd_callR 0 ((ok__law_draw T).mono (by decide)) runR_len hgd hr T.g__law_draw T.D__law_draw.kp (b__law_draw T) (pda_cons pd_int pda_nil))) pda_nil)))) pda_nil)) sc.nd)
      (dss_cons (ds_if (pdt_not (pdt_val (pd_call ((ok__law_told_right T).mono (by decide)) runF_len hgd hr T.g__law_told_right T.D__law_told_right.kp (b__law_told_right T) (pda_cons (pd_name 3) (pda_cons pd_bl pda_nil))))) (dss_one (ds_ret pd_bl)) dss_nil)
      (dss_one (ds_for (di_range1 T.n_range (pda_cons pd_int pda_nil)) (dg_name 4 sc.nd) (dss_cons (ds_set 5 (pd_callR 0 ((ok__law_spoilt T).mono (by decide)) runR_len hgd hr T.g__law_spoilt T.D__law_spoilt.kp (b__law_spoilt T) (pda_cons (pd_name 3) (pda_cons (pd_name 1) pda_nil))) sc.nd)
        (dss_one (ds_if (pdt_w (pdw_or (pdt_not (pdt_val (pd_call ((ok__law_told_right T).mono (by decide)) runF_len hgd hr T.g__law_told_right T.D__law_told_right.kp (b__law_told_right T) (pda_cons (pd_name 5) (pda_cons pd_bl pda_nil))))) (pdw_or1 (pdt_not (pdt_val (pd_call ((ok__law_told_right T).mono (by decide)) runF_len hgd hr T.g__law_told_right T.D__law_told_right.kp (b__law_told_right T) (pda_cons (pd_callR 0 ((ok__law_spoilt T).mono (by decide)) runR_len hgd hr T.g__law_spoilt T.D__law_spoilt.kp (b__law_spoilt T) (pda_cons (pd_name 5) (pda_cons (pd_name 1) pda_nil))) (pda_cons pd_bl pda_nil)))))))) (dss_one (ds_ret pd_bl)) dss_nil))))))))
    (dss_one (ds_ret pd_bl)))))))
theorem ok__law_right (T : Tx Lab.T K mg base w) : FnG P w K mg base 22 (T.A 30) (T.FD 30) ["_law_pool_here"] (spR K 1 m__law_right) :=
  fn_R T.D__law_right sc__law_right rfl rfl (bd__law_right T)
theorem b__law_right (T : Tx Lab.T K mg base w) : Binds K (T.FD 30) ["_law_pool_here"] [] := T.D__law_right.binds fun _ _ _ _ _ _ us hl => match us, hl with | [_], _ => rfl
def mb_law : DEnv → Option DFlow := (sSeq (sSetN 1 (fLst (fCons (fC (.str " ")) (fCons (fC (.str "reverse ")) (fCons (fC (.str " reverse")) (fCons (fC (.str "up:0  up:1")) (fCons (fC (.str "up:0,up:1")) (fCons (fC (.str "(")) (fCons (fC (.str ")")) (fCons (fC (.str "()x2")) (fCons (fC (.str "( )x0")) (fCons (fC (.str "( )x01")) (fCons (fC (.str "( )x1")) (fCons (fC (.str "-")) fNil)))))))))))))) (sSeq (sSetN 1 (nAdd (rdF 1) (fFrz (fLst (fCons (fC (.str "( reverse)x2")) (fCons (fC (.str "(reverse )x2")) (fCons (fC (.str "( reverse )x")) (fCons (fC (.str "( reverse ) x2")) (fCons (fC (.str "reverse )x2")) (fCons (fC (.str "( reverse")) fNil)))))))))) (sSeq (sApp 1 (fC (.str "up 0"))) (sSeq (sSetN 1 (nAdd (rdF 1) (fFrz (fLst (fCons (fC (.str "( ( reverse )x2")) (fCons (fBin addD (fC (.str "( reverse )x1")) (fBin mulSD (fC (.str "0")) (fC (.int 30)))) (fCons (fBin addD (fC (.str "( reverse )x1")) (fBin mulSD (fC (.str "0")) (fC (.int 31)))) (fCons (fC (.str "up:0")) (fCons (fC (.str "up:00")) fNil))))))))) (sSeq (sApp 1 (fC (.str "up:3"))) (sSeq (sSetN 1 (nAdd (rdF 1) (fFrz (fLst (fCons (fC (.str "up:4")) (fCons (fC (.str "up:")) (fCons (fC (.str "up")) (fCons (fC (.str "up:+1")) (fCons (fC (.str "up:-1")) (fCons (fC (.str "up:1.0")) (fCons (fC (.str "up:01")) (fCons (fC (.str "up:1_0")) (fCons (fC (.str "first:2")) (fCons (fC (.str "first:1")) fNil)))))))))))))) (sSeq (sApp 1 (fC (.str "first:02"))) (sSeq (sSetN 1 (nAdd (rdF 1) (fFrz (fLst (fCons (fC (.str "last:29")) (fCons (fC (.str "last:30")) (fCons (fC (.str "last:1_0")) (fCons (fC (.str "reverse:1")) (fCons (fC (.str "restore:")) (fCons (fC (.str "Reverse")) (fCons (fC (.str "sort:1")) (fCons (fC (.str "place:1")) fNil)))))))))))) (sSeq (sApp 1 (fC (.str "repeat:2"))) (sSeq (sSetN 1 (nAdd (rdF 1) (fFrz (fLst (fCons (fBin addD (fBin addD (fBin mulSD (fC (.str "( ")) (fC (.int 3))) (fC (.str "up:0"))) (fBin mulSD (fC (.str " )x2")) (fC (.int 3)))) (fCons (fBin addD (fBin addD (fBin mulSD (fC (.str "( ")) (fC (.int 4))) (fC (.str "up:0"))) (fBin mulSD (fC (.str " )x2")) (fC (.int 4)))) (fCons (fBin addD (fC (.str "( )x")) (fBin mulSD (fC (.str "1")) (fC (.int 1900)))) (fCons (fC (.str "")) fNil)))))))) (sSeq (sSetN 1 (nAdd (rdF 1) (fFrz (fLst (fCons (fBin addD (fBin mulSD (fC (.str "up:0 ")) (fC (.int 399))) (fC (.str "up:0"))) (fCons (fC (.str "up:0:0")) (fCons (fC (.str ":0")) (fCons (fC (.str ":")) (fCons (fC (.str "up:(")) (fCons (fC (.str "( )x2:0")) fNil)))))))))) (sSeq (sSetN 1 (nAdd (rdF 1) (fFrz (fLst (fCons (fC (.str "( )x1_0")) (fCons (fBin addD (fC (.str "first:")) (fBin mulSD (fC (.str "2")) (fC (.int 39)))) fNil)))))) (sSeq (sSetN 1 (nAdd (rdF 1) (fFrz (fLst (fCons (fC .none) (fCons (fC (.int 5)) (fCons (fC (.bool true)) (fCons (fTup fNil) (fCons (fTup (fCons (fTup (fCons (fC (.str "up")) (fCons (fC (.int 0)) fNil))) fNil)) (fCons (fFrz (fLst (fCons (fC (.str "up:0")) fNil))) (fCons (fC (.dict [])) (fCons (fNeg (fC (.int 1))) (fCons (fTup (fCons (fC (.str "up:0")) fNil)) fNil))))))))))))) (sSeq (sIf (fNot (fTst (fCB allD (fCons (fFrz (nLcH 1 (gSet 3) fYes (fAndV (fCB m__law_told_right (fCons (rdF 3) (fCons (fC (.bool false)) fNil))) (fCB m__law_told_right (fCons (rdF 3) (fCons (fC (.bool true)) fNil)))) [3])) fNil)))) (sRet (fC (.bool false))) sNil) (sRet (fCB allD (fCons (fFrz (nLc (iArg rng1 (fCons (fCB maxD (fCons (fC (.int 2)) (fCons (fCB minD (fCons (fLenN 0) (fCons (fC (.int 6)) fNil))) fNil))) fNil)) (gSet 2) fYes (fCRT m__law_right (fCN m__law_pool (fCons (fCB m__law_cell (fCons (rdF 0) (fCons (rdF 2) fNil))) fNil))) [2])) fNil)))))))))))))))))
def m_law := runF 1 4 mb_law
theorem sc_law : FnScope ["_law_script", "_law_fixed", "_law_k", "_law_page"] ["_law_script"] (defScope (topS 67)) := ⟨rfl, rfl, rfl, by decide +kernel, rfl, by decide +kernel, by decide +kernel⟩
theorem bd_law (T : Tx Lab.T K mg base w) : BodyOk P w K mg base ["_law_script", "_law_fixed", "_law_k", "_law_page"] "law" (topS 67) (T.A 31) (T.FD 31).code 22 mb_law := by
  have sc := sc_law
  intro cdv A outer s H E F hcv hW hgd hr
  exact (dss_cons (ds_setN 1 (pn_lst (pda_cons pd_str (pda_cons pd_str (pda_cons pd_str (pda_cons pd_str (pda_cons pd_str (pda_cons pd_str (pda_cons pd_str (pda_cons pd_str (pda_cons pd_str (pda_cons pd_str (pda_cons pd_str (pda_cons pd_str pda_nil))))))))))))) sc.nd)
    (dss_cons (ds_setN 1 (pn_addL (pd_name 1) (pn_pd (pn_lst (pda_cons pd_str (pda_cons pd_str (pda_cons pd_str (pda_cons pd_str (pda_cons pd_str (pda_cons pd_str pda_nil))))))))) sc.nd)
    (dss_cons (ds_append 1 pd_str)
    (dss_cons (ds_setN 1 (pn_addL (pd_name 1) (pn_pd (pn_lst (pda_cons pd_str (pda_cons (pd_bin od_add pd_str (pd_bin od_mulS pd_str pd_int)) (pda_cons (pd_bin od_add pd_str (pd_bin od_mulS pd_str pd_int)) (pda_cons pd_str (pda_cons pd_str pda_nil)))))))) sc.nd)
    (dss_cons (ds_append 1 pd_str)
    (dss_cons (ds_setN 1 (pn_addL (pd_name 1) (pn_pd (pn_lst (pda_cons pd_str (pda_cons pd_str (pda_cons pd_str (pda_cons pd_str (pda_cons pd_str (pda_cons pd_str (pda_cons pd_str (pda_cons pd_str (pda_cons pd_str (pda_cons pd_str pda_nil))))))))))))) sc.nd)
    (dss_cons (ds_append 1 pd_str)
    (dss_cons (ds_setN 1 (pn_addL (pd_name 1) (pn_pd (pn_lst (pda_cons pd_str (pda_cons pd_str (pda_cons pd_str (pda_cons pd_str (pda_cons pd_str (pda_cons pd_str (pda_cons pd_str (pda_cons pd_str pda_nil))))))))))) sc.nd)
    (dss_cons (ds_append 1 pd_str)
    (dss_cons (ds_setN 1 (pn_addL (pd_name 1) (pn_pd (pn_lst (pda_cons (pd_bin od_add (pd_bin od_add (pd_bin od_mulS pd_str pd_int) pd_str) (pd_bin od_mulS pd_str pd_int)) (pda_cons (pd_bin od_add (pd_bin od_add (pd_bin od_mulS pd_str pd_int) pd_str) (pd_bin od_mulS pd_str pd_int)) (pda_cons (pd_bin od_add pd_str (pd_bin od_mulS pd_str pd_int)) (pda_cons pd_str pda_nil))))))) sc.nd)
    (dss_cons (ds_setN 1 (pn_addL (pd_name 1) (pn_pd (pn_lst (pda_cons (pd_bin od_add (pd_bin od_mulS pd_str pd_int) pd_str) (pda_cons pd_str (pda_cons pd_str (pda_cons pd_str (pda_cons pd_str (pda_cons pd_str pda_nil))))))))) sc.nd)
    (dss_cons (ds_setN 1 (pn_addL (pd_name 1) (pn_pd (pn_lst (pda_cons pd_str (pda_cons (pd_bin od_add pd_str (pd_bin od_mulS pd_str pd_int)) pda_nil))))) sc.nd)
    (dss_cons (ds_setN 1 (pn_addL (pd_name 1) (pn_pd (pn_lst (pda_cons pd_non (pda_cons pd_int (pda_cons pd_bl (pda_cons (pd_tup pda_nil) (pda_cons (pd_tup (pda_cons (pd_tup (pda_cons pd_str (pda_cons pd_int pda_nil))) pda_nil)) (pda_cons (pn_pd (pn_lst (pda_cons pd_str pda_nil))) (pda_cons pd_dict0 (pda_cons (pd_neg pd_int) (pda_cons (pd_tup (pda_cons pd_str pda_nil)) pda_nil)))))))))))) sc.nd)
    (dss_cons (ds_if (pdt_not (pdt_val (pd_callB (cd_all rfl) T.n_all (by decide +kernel) (pda_cons (pn_pd (pn_lcH 1 [("_law_page", 3)] sc.nd (blkOk_by (own := [("_law_page", 3)]) (by kernel_rfl)) (fun _ _ _ _ _ => (gn_name 3 sc.nd)) (fun _ _ _ _ _ => dts_nil) (fun _ _ _ _ _ => (pd_and (pd_call ((ok__law_told_right T).mono (by decide)) runF_len hgd hr T.g__law_told_right T.D__law_told_right.kp (b__law_told_right T) (pda_cons (pd_name 3) (pda_cons pd_bl pda_nil))) (pd_one (pd_call ((ok__law_told_right T).mono (by decide)) runF_len hgd hr T.g__law_told_right T.D__law_told_right.kp (b__law_told_right T) (pda_cons (pd_name 3) (pda_cons pd_bl pda_nil)))))))) pda_nil)))) (dss_one (ds_ret pd_bl)) dss_nil)
    (dss_one (ds_ret (pd_callB (cd_all rfl) T.n_all (by decide +kernel) (pda_cons (pn_pd (pn_lc [("_law_k", 2)] sc.nd (di_range1 T.n_range (pda_cons (pd_callB (cd_max rfl) T.n_max (by decide +kernel) (pda_cons pd_int (pda_cons (pd_callB (cd_min rfl) T.n_min (by decide +kernel) (pda_cons (pd_lenN 0 T.n_len) (pda_cons pd_int pda_nil))) pda_nil))) pda_nil)) (blkOk_by (own := [("_law_k", 2)]) (by kernel_rfl)) (fun _ _ _ _ _ => (gn_name 2 sc.nd)) (fun _ _ _ _ _ => dts_nil) (fun _ _ _ _ _ => (pd_callRT ((ok__law_right T).mono (by decide)) runR_len hgd hr T.g__law_right T.D__law_right.kp (b__law_right T) (pn_call ((ok__law_pool T).mono (by decide)) runN_len hgd hr T.g__law_pool T.D__law_pool.kp (b__law_pool T) (pda_cons (pd_call ((ok__law_cell T).mono (by decide)) runF_len hgd hr T.g__law_cell T.D__law_cell.kp (b__law_cell T) (pda_cons (pd_name 0) (pda_cons (pd_name 2) pda_nil))) pda_nil)))))) pda_nil))))))))))))))))))
theorem ok_law (T : Tx Lab.T K mg base w) : FnG P w K mg base 23 (T.A 31) (T.FD 31) ["_law_script"] (spF K 1 m_law) :=
  fn_F T.D_law sc_law rfl rfl (bd_law T)
end
end DL
end L2


set_option Elab.async false
set_option maxRecDepth 100000
set_option maxHeartbeats 4000000
set_option autoImplicit false
namespace L2
namespace DL
open PySem PySem.Spec PyProof.Rows
local instance labNone_K20P : Lab := { w := none, T := [], gd := True }
def PoolOk (es : List PyData) : Prop := ∃ a b n : Int, es = [.int a, .int b, .int n] ∧ 0 ≤ a ∧ a < 2147483249 ∧ 0 ≤ b
theorem draw_spec {es : List PyData} (h : PoolOk es) {m : Int} (h0 : 0 < m) (h1 : m < 10000000000000000000000000000000000000000) : ∃ r es', m__law_draw es [.int m] = some (.int r, es') ∧ PoolOk es' ∧ 0 ≤ r ∧ r < m := by
  obtain ⟨a, b, n, rfl, ha, ha', hb⟩ := h
  have c1 : a.natAbs < 18446744073709551616 := by omega
  have hM : (0 : Int) < 2147483249 := by decide
  have e1 := Int.emod_nonneg ((a * (a % 50021 + 30011) + 80021 * (n + 1))) (show (2147483249 : Int) ≠ 0 by decide)
  have e2 := Int.emod_lt_of_pos ((a * (a % 50021 + 30011) + 80021 * (n + 1))) hM
  by_cases hpos : 0 < b
  · refine ⟨b % m, [.int ((a * (a % 50021 + 30011) + 80021 * (n + 1)) % 2147483249), .int (b / m), .int (n + 1)], ?_, ⟨_, _, _, rfl, e1, e2, Int.ediv_nonneg hb (by omega)⟩, Int.emod_nonneg _ (by omega), Int.emod_lt_of_pos _ h0⟩
    simp [m__law_draw, runR, mb__law_draw, sSeq, sAsg, sSet, sIf, sRet, sNil, fBin, fIxN, fC, fTst, fCB, fCons, fNil, rdB, rdF, rdO, wrO, gSubD, gSet, gTupD, gsCons, gsNil, addD, modD, mulD, gtD, divmodB, intD, ixD, atI, ixN, startE, rf0, truthD, c1, hpos, h0, h1]
  · have hb0 : b = 0 := by omega
    subst hb0
    refine ⟨(a * (a % 50021 + 30011) + 80021 * (n + 1)) % 2147483249 / 64 % m, [.int ((a * (a % 50021 + 30011) + 80021 * (n + 1)) % 2147483249), .int 0, .int (n + 1)], ?_, ⟨_, _, _, rfl, e1, e2, by omega⟩, Int.emod_nonneg _ (by omega), Int.emod_lt_of_pos _ h0⟩
    simp [m__law_draw, runR, mb__law_draw, sSeq, sAsg, sSet, sIf, sRet, sNil, fBin, fIxN, fC, fTst, fCB, fCons, fNil, rdB, rdF, rdO, wrO, gSubD, gSet, gTupD, gsCons, gsNil, addD, modD, mulD, fdivD, gtD, divmodB, intD, ixD, atI, ixN, startE, rf0, truthD, c1, h0, h1]
theorem pool_spec (c : Int) : ∃ es, m__law_pool [.int c] = some es ∧ PoolOk es := by
  have hM : (0 : Int) < 2147483249 := by decide
  have e1 := Int.emod_nonneg c (show (2147483249 : Int) ≠ 0 by decide)
  have e2 := Int.emod_lt_of_pos c hM
  by_cases h1 : c < 0
  · refine ⟨[.int (c % 2147483249), .int (-c), .int 0], ?_, _, _, _, rfl, e1, e2, by omega⟩
    simp [m__law_pool, runN, mb__law_pool, sSeq, sSet, sRetN, fIf, fOr, fBin, fC, fTst, fCB, fCons, fNil, fLst, rdF, modD, powD, ltD, geD, absD, intD, startE, truthD, h1, lim]
  · by_cases h2 : (1000000000000000000 : Int) ≤ c
    · refine ⟨[.int (c % 2147483249), .int c, .int 0], ?_, _, _, _, rfl, e1, e2, by omega⟩
      simp [m__law_pool, runN, mb__law_pool, sSeq, sSet, sRetN, fIf, fOr, fBin, fC, fTst, fCB, fCons, fNil, fLst, rdF, modD, powD, ltD, geD, absD, intD, startE, truthD, h1, h2, lim]
    · refine ⟨[.int (c % 2147483249), .int 0, .int 0], ?_, _, _, _, rfl, e1, e2, by omega⟩
      simp [m__law_pool, runN, mb__law_pool, sSeq, sSet, sRetN, fIf, fOr, fBin, fC, fTst, fCB, fCons, fNil, fLst, rdF, modD, powD, ltD, geD, absD, intD, startE, truthD, h1, h2, lim]
theorem cell_loop (a b : Option DV) : ∀ (xs : List Int) (s : Int) (z : Option DV), ∃ s' z', forD (gSet 3) (sSet 2 (fBin modD (fBin addD (fBin mulD (rdF 2) (fC (.int 41221))) (rdF 3)) (fC (.int 2147483249)))) (xs.map .int) [a, b, some (.fr (.int s)), z] = some (.nx [a, b, some (.fr (.int s')), z'])
  | [], s, z => ⟨s, z, rfl⟩
  | x :: xs, s, z => by
    obtain ⟨s', z', h⟩ := cell_loop a b xs ((s * 41221 + x) % 2147483249) (some (.fr (.int x)))
    refine ⟨s', z', ?_⟩
    rw [List.map_cons, forD]
    simp [gSet, sSet, fBin, rdF, fC, modD, addD, mulD, intD]
    exact h
theorem map_drop_take (ns : List Int) (i k : Nat) : ((ns.map PyData.int).drop i).take k = ((ns.drop i).take k).map PyData.int := by
  rw [List.map_take, List.map_drop]
theorem cell_spec (ns : List Int) {k : Int} (h0 : 0 ≤ k) (h1 : k ≤ 1000) : ∃ c, m__law_cell [.list (ns.map .int), .int k] = some (.int c) := by
  by_cases hk : k < (ns.length : Int)
  · refine ⟨ns.getD k.toNat 0, ?_⟩
    have hk2 : k.toNat < ns.length := by omega
    simp [m__law_cell, runF, mb__law_cell, sSeq, sIf, sRet, fTst, fBin, rdF, rdB, fLenN, lenD, ltD, intD, truthD, startE, hk, fIxN, ixD, atI, ixN, h0, hk2]
  · have c1 : k.natAbs < 18446744073709551616 := by omega
    obtain ⟨s', z', h⟩ := cell_loop (some (.fr (.list (ns.map .int)))) (some (.fr (.int k))) ((ns.drop 0).take (HT.sIx ns.length ns.length (some 3) - 0)) (60013 * (k * k + 5 * k + 3) % 2147483249) none
    refine ⟨s', ?_⟩
    rw [← map_drop_take] at h
    simp [m__law_cell, runF, mb__law_cell, sSeq, sIf, sRet, sNil, sSet, sFor, iSeq, fSl, slD, cutD, seqD, oNone, oSome, fTst, fBin, rdF, rdB, fLenN, lenD, ltD, mulD, addD, modD, fC, intD, truthD, startE, hk, c1]
    simp [HT.sIx] at h ⊢
    rw [h]
    rfl
theorem ev_runXe {n N : Nat} {g : DEnv → Option DFlow} {ds : List PyData} {c a : Str} {d : PyData} {env : DEnv} (hl : ds.length = n) (h : g (startE N ds) = some (.ex c a d env)) : runX n N g ds = some (.ex c a d) := by unfold runX; rw [if_pos hl, h]
theorem ev_stX {f : DEnv → Option DX} {env e1 e2 : DEnv} {d : PyData} {i : Nat} (h : f env = some (.ok d e1)) (he : e1.set i (some (.fr d)) = e2) : sSetX i f env = some (.nx e2) := by unfold sSetX; rw [h, ← he]; rfl
end DL
end L2


set_option Elab.async false
set_option maxRecDepth 100000
set_option maxHeartbeats 4000000
set_option autoImplicit false
namespace L2
namespace DL
open PySem PySem.Spec PyProof.Rows
local instance labNone_K20B : Lab := { w := none, T := [], gd := True }
/-! ### any data: what it may hold -/
mutual
def gdD : PyData → Bool
  | .str x => shD (.str x)
  | .int _ => true
  | .list ds => gdDs ds
  | .tuple ds => decide (ds.length ≤ 100000) && gdDs ds
  | .dict kvs => kvs.isEmpty
  | _ => true
def gdDs : List PyData → Bool
  | [] => true
  | d :: ds => gdD d && gdDs ds
end
theorem gdDs_mem : ∀ {ds : List PyData}, gdDs ds = true → ∀ d ∈ ds, gdD d = true
  | [], _, _, h => nomatch h
  | a :: ds, h, d, hd => by
    have h' : (gdD a && gdDs ds) = true := h
    rw [Bool.and_eq_true] at h'
    rcases List.mem_cons.mp hd with rfl | hd
    · exact h'.1
    · exact gdDs_mem h'.2 d hd
theorem gd_tup {ds : List PyData} (h : gdD (.tuple ds) = true) : ds.length ≤ 100000 ∧ gdDs ds = true := by
  have h' : (decide (ds.length ≤ 100000) && gdDs ds) = true := h
  rw [Bool.and_eq_true, decide_eq_true_eq] at h'
  exact h'
theorem tup_gd {ds : List PyData} (h1 : ds.length ≤ 100000) (h2 : gdDs ds = true) : gdD (.tuple ds) = true := by
  show (decide (ds.length ≤ 100000) && gdDs ds) = true
  rw [decide_eq_true h1, h2]; rfl
theorem gdDs_of : ∀ {ds : List PyData}, (∀ d ∈ ds, gdD d = true) → gdDs ds = true
  | [], _ => rfl
  | a :: ds, h => by
    show (gdD a && gdDs ds) = true
    rw [h a List.mem_cons_self, gdDs_of fun d hd => h d (List.mem_cons_of_mem _ hd)]
    rfl
def intB (lo hi : Int) : PyData → Bool
  | .int i => decide (lo ≤ i) && decide (i ≤ hi)
  | _ => false
def wrdB (ws : List Str) : PyData → Bool
  | .str s => ws.any fun w => decide (w = s)
  | _ => false
theorem in_strs {s : Str} (hs : shD (.str s) = true) {ws : List Str} (hw : shD (.tuple (ws.map .str)) = true) : inD (.str s) (.tuple (ws.map .str)) = some (.bool (ws.any fun w => decide (w = s))) := by
  have e : inB (.str s) (.tuple (ws.map .str)) = some (ws.any fun w => decide (w = s)) := by
    show (if shD (.str s) && shD (.tuple (ws.map .str)) then some ((ws.map PyData.str).any fun z => PyData.eqv z (.str s)) else none) = _
    rw [hs, hw, List.any_map]
    rfl
  show (inB (.str s) (.tuple (ws.map .str))).map PyData.bool = _
  rw [e]
  rfl
theorem is_word_any {d : PyData} (hd : gdD d = true) {ws : List Str} (hw : shD (.tuple (ws.map .str)) = true) : m_is_word [d, .tuple (ws.map .str)] = some (.bool (wrdB ws d)) := by
  cases d with
  | str s => exact ev_runF rfl (env := [some (.fr (.str s)), some (.fr (.tuple (ws.map .str)))]) (ev_ret (ev_andV (e1 := [some (.fr (.str s)), some (.fr (.tuple (ws.map .str)))]) rfl (ev_cmpN rfl rfl (in_strs hd hw))))
  | _ => rfl
theorem ch_yes {o o' : PyData → PyData → Option PyData} {f g k : DEnv → Option (PyData × DEnv)} {env e1 e2 e3 : DEnv} {x y z d : PyData} (h1 : f env = some (x, e1)) (h2 : g e1 = some (y, e2)) (h3 : o x y = some (.bool true)) (h4 : k e2 = some (z, e3)) (h5 : o' y z = some d) : fChain o o' f g k env = some (d, e3) := by
  unfold fChain
  rw [h1]
  show (g e1).bind _ = _
  rw [h2]
  show (o x y).bind _ = _
  rw [h3]
  show (k e2).bind _ = _
  rw [h4]
  show (o' y z).map _ = _
  rw [h5]
  rfl
theorem ch_no {o o' : PyData → PyData → Option PyData} {f g k : DEnv → Option (PyData × DEnv)} {env e1 e2 : DEnv} {x y : PyData} (h1 : f env = some (x, e1)) (h2 : g e1 = some (y, e2)) (h3 : o x y = some (.bool false)) : fChain o o' f g k env = some (.bool false, e2) := by
  unfold fChain
  rw [h1]
  show (g e1).bind _ = _
  rw [h2]
  show (o x y).bind _ = _
  rw [h3]
  rfl
theorem le_le {a i b : Int} {f g k : DEnv → Option (PyData × DEnv)} {env : DEnv} (h1 : f env = some (.int a, env)) (h2 : g env = some (.int i, env)) (h3 : k env = some (.int b, env)) : fChain leD leD f g k env = some (.bool (decide (a ≤ i) && decide (i ≤ b)), env) := by
  have hle : leD (.int a) (.int i) = some (.bool (decide (a ≤ i))) := rfl
  by_cases z : a ≤ i
  · rw [decide_eq_true z] at hle ⊢
    exact ch_yes h1 h2 hle h3 rfl
  · rw [decide_eq_false z] at hle ⊢
    exact ch_no h1 h2 hle
theorem le_lt {a i b : Int} {f g k : DEnv → Option (PyData × DEnv)} {env : DEnv} (h1 : f env = some (.int a, env)) (h2 : g env = some (.int i, env)) (h3 : k env = some (.int (b + 1), env)) : fChain leD ltD f g k env = some (.bool (decide (a ≤ i) && decide (i ≤ b)), env) := by
  have hle : leD (.int a) (.int i) = some (.bool (decide (a ≤ i))) := rfl
  have hlt : ltD (.int i) (.int (b + 1)) = some (.bool (decide (i ≤ b))) := by
    show some (PyData.bool (decide (i < b + 1))) = _
    rw [show decide (i < b + 1) = decide (i ≤ b) from decide_eq_decide.mpr (by omega)]
  by_cases z : a ≤ i
  · rw [decide_eq_true z] at hle ⊢
    exact ch_yes h1 h2 hle h3 hlt
  · rw [decide_eq_false z] at hle ⊢
    exact ch_no h1 h2 hle
theorem ix_hd (w : PyData) (l : List PyData) : ixD (.tuple (w :: l)) (.int 0) = some w := by
  simp [ixD, atI, ixN]
theorem is_sort_any (d : PyData) : m_is_sort_column [d] = some (.bool (intB 0 3 d)) := by
  cases d with
  | int i => exact ev_runF rfl (env := [some (.fr (.int i))]) (ev_ret (ev_andV (e1 := [some (.fr (.int i))]) rfl (le_lt (b := 3) rfl rfl rfl)))
  | _ => rfl
theorem is_size_any (d : PyData) : m_is_size [d] = some (.bool (intB 2 29 d)) := by
  cases d with
  | int i => exact ev_runF rfl (env := [some (.fr (.int i))]) (ev_ret (ev_andV (e1 := [some (.fr (.int i))]) rfl (le_le (b := 29) rfl rfl rfl)))
  | _ => rfl
abbrev TMx : Int := 1000000000000000000000000000000
theorem is_times_any (d : PyData) : m_is_times [d] = some (.bool (intB 1 TMx d)) := by
  cases d with
  | int i => exact ev_runF rfl (env := [some (.fr (.int i))]) (ev_ret (ev_andV (e1 := [some (.fr (.int i))]) rfl (le_le (b := TMx) rfl rfl rfl)))
  | _ => rfl
def bareW : List Str := ["reverse", "restore"]
def dirW : List Str := ["down", "up"]
def cutW : List Str := ["first", "last"]
def plnB : PyData → Bool
  | .tuple [w] => wrdB bareW w
  | .tuple [w, x] => !wrdB bareW w && (if wrdB dirW w then intB 0 3 x else wrdB cutW w && intB 2 29 x)
  | _ => false
theorem plain_any {d : PyData} (hd : gdD d = true) : m_is_plain_command [d] = some (.bool (plnB d)) := by
  cases d with
  | tuple ds =>
    match ds, hd with
    | [], _ => rfl
    | [w], hd =>
      have hw : gdD w = true := gdDs_mem (gd_tup hd).2 w (by simp)
      have e1 : m_is_word [w, cv_BARE_WORDS] = some (.bool (wrdB bareW w)) := is_word_any hw (ws := bareW) (by decide +kernel)
      refine ev_runF rfl (env := [some (.fr (.tuple [w]))]) (ev_seq (e1 := [some (.fr (.tuple [w]))]) (ev_ifF rfl rfl) ?_)
      show sSeq _ _ _ = some (.rt (.bool (wrdB bareW w)) _)
      cases hb : wrdB bareW w with
      | true =>
        rw [hb] at e1
        exact ev_seqR (ev_ifT (ev_tst (ev_cb (ev_cons rfl (ev_cons rfl ev_nil)) e1) rfl) (ev_ret rfl))
      | false =>
        rw [hb] at e1
        exact ev_seq (ev_ifF (ev_tst (ev_cb (ev_cons rfl (ev_cons rfl ev_nil)) e1) rfl) rfl) (ev_seqR (ev_ifT rfl (ev_ret rfl)))
    | [w, x], hd =>
      have hw : gdD w = true := gdDs_mem (gd_tup hd).2 w (by simp)
      have e1 : m_is_word [w, cv_BARE_WORDS] = some (.bool (wrdB bareW w)) := is_word_any hw (ws := bareW) (by decide +kernel)
      have e2 : m_is_word [w, cv_DIRECTIONS] = some (.bool (wrdB dirW w)) := is_word_any hw (ws := dirW) (by decide +kernel)
      have e3 : m_is_word [w, cv_CUTS] = some (.bool (wrdB cutW w)) := is_word_any hw (ws := cutW) (by decide +kernel)
      have e4 := is_sort_any x
      have e5 := is_size_any x
      refine ev_runF rfl (env := [some (.fr (.tuple [w, x]))]) (ev_seq (e1 := [some (.fr (.tuple [w, x]))]) (ev_ifF rfl rfl) ?_)
      show sSeq _ _ _ = some (.rt (.bool (!wrdB bareW w && (if wrdB dirW w then intB 0 3 x else wrdB cutW w && intB 2 29 x))) _)
      cases hb : wrdB bareW w with
      | true =>
        rw [hb] at e1
        exact ev_seqR (ev_ifT (ev_tst (ev_cb (ev_cons rfl (ev_cons rfl ev_nil)) e1) rfl) (ev_ret rfl))
      | false =>
        rw [hb] at e1
        refine ev_seq (ev_ifF (ev_tst (ev_cb (ev_cons rfl (ev_cons rfl ev_nil)) e1) rfl) rfl) (ev_seq (ev_ifF rfl rfl) ?_)
        cases hc : wrdB dirW w with
        | true =>
          rw [hc] at e2
          exact ev_seqR (ev_ifT (ev_tst (ev_cb (ev_cons rfl (ev_cons rfl ev_nil)) e2) rfl) (ev_ret (ev_cb (ev_cons rfl ev_nil) e4)))
        | false =>
          rw [hc] at e2
          refine ev_seq (ev_ifF (ev_tst (ev_cb (ev_cons rfl (ev_cons rfl ev_nil)) e2) rfl) rfl) (ev_ret ?_)
          cases hk : wrdB cutW w with
          | true =>
            rw [hk] at e3
            exact ev_andV (ev_cb (ev_cons rfl (ev_cons rfl ev_nil)) e3) (ev_cb (ev_cons rfl ev_nil) e5)
          | false =>
            rw [hk] at e3
            exact ev_andV0 (ev_cb (ev_cons rfl (ev_cons rfl ev_nil)) e3)
    | w :: x :: y :: r, hd =>
      have hw : gdD w = true := gdDs_mem (gd_tup hd).2 w (by simp)
      have e1 : m_is_word [w, cv_BARE_WORDS] = some (.bool (wrdB bareW w)) := is_word_any hw (ws := bareW) (by decide +kernel)
      have ln : lenD [.tuple (w :: x :: y :: r)] = some (.int ((r.length : Nat) + 3)) := by
        have hl : (((w :: x :: y :: r).length : Nat) : Int) = (r.length : Int) + 3 := by
          simp only [List.length_cons]
          omega
        show some (PyData.int (((w :: x :: y :: r).length : Nat) : Int)) = _
        rw [hl]
      have n0 : eqD (.int ((r.length : Nat) + 3)) (.int 0) = some (.bool false) := by
        show some (PyData.bool (decide (((r.length : Nat) : Int) + 3 = 0))) = _
        rw [decide_eq_false (by omega)]
      have n1 : eqD (.int ((r.length : Nat) + 3)) (.int 1) = some (.bool false) := by
        show some (PyData.bool (decide (((r.length : Nat) : Int) + 3 = 1))) = _
        rw [decide_eq_false (by omega)]
      have n2 : neD (.int ((r.length : Nat) + 3)) (.int 2) = some (.bool true) := by
        show some (PyData.bool (!decide (((r.length : Nat) : Int) + 3 = 2))) = _
        rw [decide_eq_false (by omega)]
        rfl
      refine ev_runF rfl (env := [some (.fr (.tuple (w :: x :: y :: r)))]) (ev_seq (e1 := [some (.fr (.tuple (w :: x :: y :: r)))]) (ev_ifF (ev_or0 (e1 := [some (.fr (.tuple (w :: x :: y :: r)))]) rfl (ev_tst (ev_bin (ev_lenN rfl ln) rfl n0) rfl)) rfl) ?_)
      show sSeq _ _ _ = some (.rt (.bool false) _)
      cases hb : wrdB bareW w with
      | true =>
        rw [hb] at e1
        exact ev_seqR (ev_ifT (ev_tst (ev_cb (ev_cons (ev_ixN rfl rfl rfl (ix_hd _ _)) (ev_cons rfl ev_nil)) e1) rfl) (ev_ret (ev_bin (ev_lenN rfl ln) rfl n1)))
      | false =>
        rw [hb] at e1
        exact ev_seq (ev_ifF (ev_tst (ev_cb (ev_cons (ev_ixN rfl rfl rfl (ix_hd _ _)) (ev_cons rfl ev_nil)) e1) rfl) rfl) (ev_seqR (ev_ifT (ev_tst (ev_bin (ev_lenN rfl ln) rfl n2) rfl) (ev_ret rfl)))
  | _ => rfl
def repW : List Str := ["repeat"]
def begB : PyData → Bool
  | .tuple [w, t, _] => wrdB repW w && intB 1 TMx t
  | _ => false
theorem begins_any {d : PyData} (hd : gdD d = true) : m_begins_repeat [d] = some (.bool (begB d)) := by
  cases d with
  | tuple ds =>
    have out : ∀ {ds : List PyData}, ds.length ≠ 3 → m_begins_repeat [.tuple ds] = some (.bool false) := fun {ds} h => by
      have ln : lenD [.tuple ds] = some (.int (ds.length : Nat)) := rfl
      have n3 : neD (.int (ds.length : Nat)) (.int 3) = some (.bool true) := by
        show some (PyData.bool (!decide ((ds.length : Int) = 3))) = _
        rw [decide_eq_false (by omega)]
        rfl
      exact ev_runF rfl (env := [some (.fr (.tuple ds))]) (ev_seqR (ev_ifT (ev_or0 (e1 := [some (.fr (.tuple ds))]) rfl (ev_tst (ev_bin (ev_lenN rfl ln) rfl n3) rfl)) (ev_ret rfl)))
    match ds, hd with
    | [], _ => exact out (by simp)
    | [_], _ => exact out (by simp)
    | [_, _], _ => exact out (by simp)
    | [w, t, p], hd =>
      have hw : gdD w = true := gdDs_mem (gd_tup hd).2 w (by simp)
      have e1 : m_is_word [w, .tuple [.str "repeat"]] = some (.bool (wrdB repW w)) := is_word_any hw (ws := repW) (by decide +kernel)
      have e2 := is_times_any t
      refine ev_runF rfl (env := [some (.fr (.tuple [w, t, p]))]) (ev_seq (e1 := [some (.fr (.tuple [w, t, p]))]) (ev_ifF rfl rfl) (ev_ret ?_))
      show fAndV _ _ _ = some (.bool (wrdB repW w && intB 1 TMx t), _)
      cases hb : wrdB repW w with
      | true =>
        rw [hb] at e1
        exact ev_andV (ev_cb (ev_cons rfl (ev_cons rfl ev_nil)) e1) (ev_cb (ev_cons rfl ev_nil) e2)
      | false =>
        rw [hb] at e1
        exact ev_andV0 (ev_cb (ev_cons rfl (ev_cons rfl ev_nil)) e1)
    | _ :: _ :: _ :: _ :: r, _ =>
      refine (out ?_).trans rfl
      simp
  | _ => rfl
/-! ### the room behind -/
def foldR (f : PyData → Int → Int) : List PyData → Int → Int
  | [], r => r
  | c :: cs, r => if r < 0 then r else foldR f cs (f c r)
def thr : PyData → PyData
  | .tuple [_, _, p] => p
  | _ => .none
def insC : PyData → Option (List PyData)
  | .tuple cs => some cs
  | _ => none
def roomC : Nat → PyData → Int → Int
  | 0, d, r => if plnB d then r - 1 else -1
  | L + 1, d, r => if plnB d then r - 1 else if begB d then (match insC (thr d) with | some cs => foldR (roomC L) cs (r - 1) | none => -1) else -1
theorem ev_forRt {g : PyData → DEnv → Option DEnv} {b : DEnv → Option DFlow} {d x : PyData} {ds : List PyData} {env e1 e2 : DEnv} (hg : g d env = some e1) (hb : b e1 = some (.rt x e2)) : forD g b (d :: ds) env = some (.rt x e2) := by
  rw [forD, hg]; show (b e1).bind _ = _; rw [hb]; rfl
abbrev rbB (rc : Nat → List PyData → Option PyData) := (sSeq (sIf (fTst (fBin ltD (rdF 2) (fC (.int 0)))) (sRet (rdF 2)) sNil) (sSet 2 (fCB (rc 1) (fCons (rdF 3) (fCons (rdF 1) (fCons (rdF 2) fNil))))))
theorem rb_loop {rc : Nat → List PyData → Option PyData} {L : Nat} {P : Option DV} {dep : Int} (ih : ∀ (c : PyData) (r : Int), gdD c = true → rc 1 [c, .int dep, .int r] = some (.int (roomC L c r))) : ∀ (cs : List PyData) (r : Int) (z : Option DV), (∀ c ∈ cs, gdD c = true) →
    ∃ fl, forD (gSet 3) (rbB rc) cs [P, some (.fr (.int dep)), some (.fr (.int r)), z] = some fl ∧ ((∃ e, fl = .rt (.int (foldR (roomC L) cs r)) e) ∨ ∃ z', fl = .nx [P, some (.fr (.int dep)), some (.fr (.int (foldR (roomC L) cs r))), z'])
  | [], r, z, _ => ⟨_, rfl, .inr ⟨z, rfl⟩⟩
  | c :: cs, r, z, h => by
    by_cases hr : r < 0
    · have l : ltD (.int r) (.int 0) = some (.bool true) := by
        show some (PyData.bool (decide (r < 0))) = _
        rw [decide_eq_true hr]
      refine ⟨.rt (.int r) [P, some (.fr (.int dep)), some (.fr (.int r)), some (.fr c)], ev_forRt rfl (ev_seqR (ev_ifT (ev_tst (ev_bin rfl rfl l) rfl) (ev_ret rfl))), .inl ⟨[P, some (.fr (.int dep)), some (.fr (.int r)), some (.fr c)], ?_⟩⟩
      show _ = DFlow.rt (.int (if r < 0 then r else _)) _
      rw [if_pos hr]
    · have l : ltD (.int r) (.int 0) = some (.bool false) := by
        show some (PyData.bool (decide (r < 0))) = _
        rw [decide_eq_false hr]
      obtain ⟨fl, e, q⟩ := rb_loop ih cs (roomC L c r) (some (.fr c)) fun x hx => h x (List.mem_cons_of_mem _ hx)
      refine ⟨fl, ev_forN rfl (ev_seq (e1 := [P, some (.fr (.int dep)), some (.fr (.int r)), some (.fr c)]) (ev_ifF (ev_tst (ev_bin rfl rfl l) rfl) rfl) (ev_setE (ev_cb (ev_cons rfl (ev_cons rfl (ev_cons rfl ev_nil))) (ih c r (h c List.mem_cons_self))) rfl)) e, ?_⟩
      have : foldR (roomC L) (c :: cs) r = foldR (roomC L) cs (roomC L c r) := if_neg hr
      rw [this]
      exact q
theorem thr_gd {d : PyData} (h : gdD d = true) : gdD (thr d) = true := by
  unfold thr
  split
  · exact gdDs_mem (gd_tup h).2 _ (by simp)
  · rfl
theorem beg_ix {d : PyData} (h : begB d = true) : ∃ w t, d = .tuple [w, t, thr d] := by
  unfold begB at h
  split at h
  · exact ⟨_, _, rfl⟩
  · cases h
theorem ins_no {d : PyData} (h : insC d = none) : isiT "tuple" (tyN d) = false := by
  cases d <;> first | rfl | cases h
theorem ins_yes {d : PyData} {cs : List PyData} (h : insC d = some cs) : d = .tuple cs := by
  cases d <;> first | (cases h; rfl) | cases h
theorem ev_isiD {T : String} {f : DEnv → Option (PyData × DEnv)} {env e1 : DEnv} {d : PyData} {b : Bool} (h : f env = some (d, e1)) (h2 : isiT T (tyN d) = b) : fTst (fIsi T f) env = some (b, e1) := by
  unfold fTst fIsi; rw [h, ← h2]; rfl
theorem room_deep {rc : Nat → List PyData → Option PyData} {dep r : Int} (hd : 4 < dep) (p : PyData) : runF 3 4 (mb_room_behind rc) [p, .int dep, .int r] = some (.int (-1)) := by
  have g : gtD (.int dep) cv_MOST_NESTED = some (.bool true) := by
    show some (PyData.bool (decide (dep > 4))) = _
    rw [decide_eq_true (by omega)]
  have t : fOr (fNot (fTst (fIsi "tuple" (rdF 0)))) (fTst (fBin gtD (rdF 1) (fC cv_MOST_NESTED))) [some (.fr p), some (.fr (.int dep)), some (.fr (.int r)), none] = some (true, [some (.fr p), some (.fr (.int dep)), some (.fr (.int r)), none]) := by
    cases hi : isiT "tuple" (tyN p) with
    | true => exact ev_or0 (ev_not (k := true) (ev_isiD rfl hi)) (ev_tst (ev_bin rfl rfl g) rfl)
    | false => exact ev_or1 (ev_not (k := false) (ev_isiD rfl hi))
  exact ev_runF rfl (env := [some (.fr p), some (.fr (.int dep)), some (.fr (.int r)), none]) (ev_seqR (ev_ifT t (ev_ret rfl)))
theorem room_prog {rc : Nat → List PyData → Option PyData} {L : Nat} {dep r : Int} (hd : dep ≤ 4) (ih : ∀ (c : PyData) (r : Int), gdD c = true → rc 1 [c, .int dep, .int r] = some (.int (roomC L c r))) {p : PyData} (hp : gdD p = true) : runF 3 4 (mb_room_behind rc) [p, .int dep, .int r] = some (.int (match insC p with | some cs => foldR (roomC L) cs r | none => -1)) := by
  have g : gtD (.int dep) cv_MOST_NESTED = some (.bool false) := by
    show some (PyData.bool (decide (dep > 4))) = _
    rw [decide_eq_false (by omega)]
  cases hi : insC p with
  | none => exact ev_runF rfl (env := [some (.fr p), some (.fr (.int dep)), some (.fr (.int r)), none]) (ev_seqR (ev_ifT (ev_or1 (ev_not (k := false) (ev_isiD rfl (ins_no hi)))) (ev_ret rfl)))
  | some cs =>
    obtain rfl := ins_yes hi
    obtain ⟨fl, e, q⟩ := rb_loop (P := some (.fr (.tuple cs))) ih cs r none (gdDs_mem (gd_tup hp).2)
    have t0 : fOr (fNot (fTst (fIsi "tuple" (rdF 0)))) (fTst (fBin gtD (rdF 1) (fC cv_MOST_NESTED))) [some (.fr (.tuple cs)), some (.fr (.int dep)), some (.fr (.int r)), none] = some (false, [some (.fr (.tuple cs)), some (.fr (.int dep)), some (.fr (.int r)), none]) := ev_or0 (ev_not (k := true) (ev_isiD rfl rfl)) (ev_tst (ev_bin rfl rfl g) rfl)
    rcases q with ⟨e', rfl⟩ | ⟨z', rfl⟩
    · exact ev_runF rfl (ev_seq (ev_ifF t0 rfl) (ev_seqR (ev_for rfl e)))
    · exact ev_runF rfl (ev_seq (ev_ifF t0 rfl) (ev_seq (ev_for rfl e) (ev_ret rfl)))
theorem room_cmd : ∀ (L f : Nat) (dep : Int), 2 * L + 2 ≤ f → dep + L = 4 → ∀ (c : PyData) (r : Int), gdD c = true → rc_room_behind f 1 [c, .int dep, .int r] = some (.int (roomC L c r)) := by
  intro L
  induction L with
  | zero =>
    intro f dep hf hd c r hc
    obtain ⟨f, rfl⟩ : ∃ g, f = g + 2 := ⟨f - 2, by omega⟩
    have e1 := plain_any hc
    have e2 := begins_any hc
    show runF 3 3 (mb_room_behind_command (rc_room_behind (f + 1))) _ = some (.int (if plnB c then r - 1 else -1))
    refine ev_runF rfl (env := [some (.fr c), some (.fr (.int dep)), some (.fr (.int r))]) ?_
    cases hp : plnB c with
    | true =>
      rw [hp] at e1
      exact ev_seqR (ev_ifT (ev_tst (ev_cb (ev_cons rfl ev_nil) e1) rfl) (ev_ret rfl))
    | false =>
      rw [hp] at e1
      refine ev_seq (ev_ifF (ev_tst (ev_cb (ev_cons rfl ev_nil) e1) rfl) rfl) ?_
      cases hb : begB c with
      | true =>
        rw [hb] at e2
        obtain ⟨w, t, hc2⟩ := beg_ix hb
        generalize thr c = p at hc2
        subst hc2
        have e3 : rc_room_behind (f + 1) 0 [p, .int (dep + 1), .int (r - 1)] = some (.int (-1)) := room_deep (by omega) p
        exact ev_seqR (ev_ifT (ev_tst (ev_cb (ev_cons rfl ev_nil) e2) rfl) (ev_ret (ev_cb (ev_cons (ev_ixN rfl rfl rfl rfl) (ev_cons (ev_bin rfl rfl rfl) (ev_cons (ev_bin rfl rfl rfl) ev_nil))) e3)))
      | false =>
        rw [hb] at e2
        exact ev_seq (ev_ifF (ev_tst (ev_cb (ev_cons rfl ev_nil) e2) rfl) rfl) (ev_ret rfl)
  | succ L ih =>
    intro f dep hf hd c r hc
    obtain ⟨f, rfl⟩ : ∃ g, f = g + 2 := ⟨f - 2, by omega⟩
    have e1 := plain_any hc
    have e2 := begins_any hc
    show runF 3 3 (mb_room_behind_command (rc_room_behind (f + 1))) _ = some (.int (if plnB c then r - 1 else if begB c then (match insC (thr c) with | some cs => foldR (roomC L) cs (r - 1) | none => -1) else -1))
    refine ev_runF rfl (env := [some (.fr c), some (.fr (.int dep)), some (.fr (.int r))]) ?_
    cases hp : plnB c with
    | true =>
      rw [hp] at e1
      exact ev_seqR (ev_ifT (ev_tst (ev_cb (ev_cons rfl ev_nil) e1) rfl) (ev_ret rfl))
    | false =>
      rw [hp] at e1
      refine ev_seq (ev_ifF (ev_tst (ev_cb (ev_cons rfl ev_nil) e1) rfl) rfl) ?_
      cases hb : begB c with
      | true =>
        rw [hb] at e2
        have hg := thr_gd hc
        obtain ⟨w, t, hc2⟩ := beg_ix hb
        generalize thr c = p at hc2 hg ⊢
        subst hc2
        have e3 : rc_room_behind (f + 1) 0 [p, .int (dep + 1), .int (r - 1)] = some (.int (match insC p with | some cs => foldR (roomC L) cs (r - 1) | none => -1)) := room_prog (rc := rc_room_behind f) (by omega) (fun c r hc => ih f (dep + 1) (by omega) (by omega) c r hc) hg
        exact ev_seqR (ev_ifT (ev_tst (ev_cb (ev_cons rfl ev_nil) e2) rfl) (ev_ret (ev_cb (ev_cons (ev_ixN rfl rfl rfl rfl) (ev_cons (ev_bin rfl rfl rfl) (ev_cons (ev_bin rfl rfl rfl) ev_nil))) e3)))
      | false =>
        rw [hb] at e2
        exact ev_seq (ev_ifF (ev_tst (ev_cb (ev_cons rfl ev_nil) e2) rfl) rfl) (ev_ret rfl)
/-! ### which command is wrong -/
/-- the first one behind which there is no room, told from this index on -/
def badI : List PyData → Int → Nat → Option Nat
  | [], _, _ => none
  | c :: cs, r, k => if roomC 3 c r < 0 then some k else badI cs (roomC 3 c r) (k + 1)
def chkX (d : PyData) : XR := match insC d with
  | none => .ex "InvalidProgram" "index" .none
  | some cs => match badI cs 400 0 with
    | none => .ok .none
    | some k => .ex "InvalidProgram" "index" (.int (k : Nat))
abbrev cpB := (sSeq (sSet 1 (fCB m_room_behind_command (fCons (rdF 3) (fCons (fC (.int 1)) (fCons (rdF 1) fNil))))) (sIf (fTst (fBin ltD (rdF 1) (fC (.int 0)))) (sRaise "InvalidProgram" "index" (rdF 2)) sNil))
abbrev cpG := gTupD 2 (gsCons (gSet 2) (gsCons (gSet 3) gsNil))
theorem cp_loop {P : Option DV} : ∀ (cs : List PyData) (r : Int) (k : Nat) (z2 z3 : Option DV), (∀ c ∈ cs, gdD c = true) →
    match badI cs r k with
    | none => ∃ r' z2' z3', forD cpG cpB ((rangeD (k : Int) cs.length).zipWith (fun a b => .tuple [a, b]) cs) [P, some (.fr (.int r)), z2, z3] = some (.nx [P, some (.fr (.int r')), z2', z3'])
    | some j => ∃ e, forD cpG cpB ((rangeD (k : Int) cs.length).zipWith (fun a b => .tuple [a, b]) cs) [P, some (.fr (.int r)), z2, z3] = some (.ex "InvalidProgram" "index" (.int (j : Nat)) e)
  | [], r, k, z2, z3, _ => ⟨r, z2, z3, rfl⟩
  | c :: cs, r, k, z2, z3, h => by
    have ec := room_cmd 3 12 1 (by decide) (by decide) c r (h c List.mem_cons_self)
    have ec' : m_room_behind_command [c, .int 1, .int r] = some (.int (roomC 3 c r)) := ec
    rw [List.length_cons, rangeD_succ, List.zipWith_cons_cons]
    have st : sSet 1 (fCB m_room_behind_command (fCons (rdF 3) (fCons (fC (.int 1)) (fCons (rdF 1) fNil)))) [P, some (.fr (.int r)), some (.fr (.int (k : Nat))), some (.fr c)] = some (.nx [P, some (.fr (.int (roomC 3 c r))), some (.fr (.int (k : Nat))), some (.fr c)]) := ev_setE (ev_cb (ev_cons rfl (ev_cons rfl (ev_cons rfl ev_nil))) ec') rfl
    by_cases hr : roomC 3 c r < 0
    · have l : ltD (.int (roomC 3 c r)) (.int 0) = some (.bool true) := by
        show some (PyData.bool (decide (roomC 3 c r < 0))) = _
        rw [decide_eq_true hr]
      have hb : badI (c :: cs) r k = some k := if_pos hr
      rw [hb]
      refine ⟨[P, some (.fr (.int (roomC 3 c r))), some (.fr (.int (k : Nat))), some (.fr c)], ?_⟩
      rw [forD]
      show (cpB [P, some (.fr (.int r)), some (.fr (.int (k : Nat))), some (.fr c)]).bind _ = _
      have : cpB [P, some (.fr (.int r)), some (.fr (.int (k : Nat))), some (.fr c)] = some (.ex "InvalidProgram" "index" (.int (k : Nat)) [P, some (.fr (.int (roomC 3 c r))), some (.fr (.int (k : Nat))), some (.fr c)]) := ev_seq st (ev_ifT (ev_tst (ev_bin rfl rfl l) rfl) rfl)
      rw [this]
      rfl
    · have l : ltD (.int (roomC 3 c r)) (.int 0) = some (.bool false) := by
        show some (PyData.bool (decide (roomC 3 c r < 0))) = _
        rw [decide_eq_false hr]
      have hb : badI (c :: cs) r k = badI cs (roomC 3 c r) (k + 1) := if_neg hr
      rw [hb]
      have ih := cp_loop (P := P) cs (roomC 3 c r) (k + 1) (some (.fr (.int (k : Nat)))) (some (.fr c)) fun x hx => h x (List.mem_cons_of_mem _ hx)
      have hs : ((k : Nat) : Int) + 1 = ((k + 1 : Nat) : Int) := by omega
      rw [hs]
      have step : cpB [P, some (.fr (.int r)), some (.fr (.int (k : Nat))), some (.fr c)] = some (.nx [P, some (.fr (.int (roomC 3 c r))), some (.fr (.int (k : Nat))), some (.fr c)]) := ev_seq st (ev_ifF (ev_tst (ev_bin rfl rfl l) rfl) rfl)
      cases hj : badI cs (roomC 3 c r) (k + 1) with
      | none =>
        rw [hj] at ih
        obtain ⟨r', y2, y3, e⟩ := ih
        exact ⟨r', y2, y3, ev_forN rfl step e⟩
      | some j =>
        rw [hj] at ih
        obtain ⟨e', e⟩ := ih
        exact ⟨e', ev_forN rfl step e⟩
theorem check_any {d : PyData} (hd : gdD d = true) : m_check_program [d] = some (chkX d) := by
  unfold chkX
  cases hi : insC d with
  | none =>
    show runX 1 4 mb_check_program [d] = _
    have : mb_check_program [some (.fr d), none, none, none] = some (.ex "InvalidProgram" "index" .none [some (.fr d), none, none, none]) := by
      unfold mb_check_program sSeq
      rw [show sIf (fNot (fTst (fIsi "tuple" (rdF 0)))) (sRaise "InvalidProgram" "index" (fC .none)) sNil [some (.fr d), none, none, none] = some (.ex "InvalidProgram" "index" .none [some (.fr d), none, none, none]) from ev_ifT (ev_not (k := false) (ev_isiD rfl (ins_no hi))) rfl]
      rfl
    show (match mb_check_program [some (.fr d), none, none, none] with | some (.rt d _) => some (XR.ok d) | some (.nx _) => some (.ok .none) | some (.ex c a d _) => some (.ex c a d) | _ => none) = _
    rw [this]
  | some cs =>
    obtain rfl := ins_yes hi
    have L := cp_loop (P := some (.fr (.tuple cs))) cs 400 0 none none (gdDs_mem (gd_tup hd).2)
    have pre : ∀ fl, forD cpG cpB ((rangeD ((0 : Nat) : Int) cs.length).zipWith (fun a b => .tuple [a, b]) cs) [some (.fr (.tuple cs)), some (.fr (.int 400)), none, none] = some fl → mb_check_program [some (.fr (.tuple cs)), none, none, none] = some fl := fun fl h =>
      ev_seq (e1 := [some (.fr (.tuple cs)), none, none, none]) (ev_ifF (ev_not (k := true) (ev_isiD rfl rfl)) rfl) (ev_seq (e1 := [some (.fr (.tuple cs)), some (.fr (.int 400)), none, none]) rfl (ev_for (ds := (rangeD ((0 : Nat) : Int) cs.length).zipWith (fun a b => .tuple [a, b]) cs) rfl h))
    show (match mb_check_program [some (.fr (.tuple cs)), none, none, none] with | some (.rt d _) => some (XR.ok d) | some (.nx _) => some (.ok .none) | some (.ex c a d _) => some (.ex c a d) | _ => none) = _
    cases hj : badI cs 400 0 with
    | none =>
      rw [hj] at L
      obtain ⟨r', y2, y3, e⟩ := L
      rw [pre _ e]
      simp only [hj]
    | some j =>
      rw [hj] at L
      obtain ⟨e', e⟩ := L
      rw [pre _ e]
      simp only [hj]
end DL
end L2


set_option Elab.async false
set_option maxRecDepth 100000
set_option maxHeartbeats 4000000
set_option autoImplicit false
namespace L2
namespace DL
open PySem PySem.Spec PyProof.Rows
local instance labNone_K20D : Lab := { w := none, T := [], gd := True }
/-! ### the law's own count -/
def cnt : Nat → PyData → Int
  | 0, d => if plnB d then 1 else 0
  | L + 1, d => if plnB d then 1 else if begB d then (match insC (thr d) with
    | some cs => if (cs.map (cnt L)).any (fun x => decide (x = 0)) then 0 else 1 + (cs.map (cnt L)).sum
    | none => 0) else 0
theorem cnt_nn : ∀ (L : Nat) (d : PyData), 0 ≤ cnt L d
  | 0, d => by unfold cnt; split <;> decide
  | L + 1, d => by
    have hs : ∀ cs : List PyData, 0 ≤ (cs.map (cnt L)).sum := fun cs => by
      induction cs with
      | nil => exact Int.le_refl _
      | cons c cs ih => have := cnt_nn L c; rw [List.map_cons, List.sum_cons]; omega
    unfold cnt
    split
    · decide
    · split
      · split
        · rename_i cs _
          split
          · decide
          · have := hs cs; omega
        · decide
      · decide
theorem fold_neg (f : PyData → Int → Int) : ∀ (cs : List PyData) {r : Int}, r < 0 → foldR f cs r < 0
  | [], _, h => h
  | c :: cs, r, h => by unfold foldR; rw [if_pos h]; exact h
def RoomOk (L : Nat) (d : PyData) : Prop := ∀ r : Int, 0 ≤ r → (cnt L d = 0 → roomC L d r < 0) ∧ (cnt L d ≠ 0 → roomC L d r = r - cnt L d ∨ (r < cnt L d ∧ roomC L d r < 0))
theorem fold_cnt {L : Nat} : ∀ (cs : List PyData), (∀ c ∈ cs, RoomOk L c) → ∀ r : Int, 0 ≤ r →
    ((cs.map (cnt L)).any (fun x => decide (x = 0)) = true → foldR (roomC L) cs r < 0) ∧ ((cs.map (cnt L)).any (fun x => decide (x = 0)) = false → foldR (roomC L) cs r = r - (cs.map (cnt L)).sum ∨ (r < (cs.map (cnt L)).sum ∧ foldR (roomC L) cs r < 0))
  | [], _, r, _ => ⟨(fun h => nomatch h), fun _ => .inl (by show r = r - 0; omega)⟩
  | c :: cs, h, r, hr => by
    have ih := fold_cnt cs fun x hx => h x (List.mem_cons_of_mem _ hx)
    obtain ⟨c0, c1⟩ := h c List.mem_cons_self r hr
    have hs : 0 ≤ (cs.map (cnt L)).sum := by
      clear ih h
      induction cs with
      | nil => exact Int.le_refl _
      | cons c cs ih => have := cnt_nn L c; rw [List.map_cons, List.sum_cons]; omega
    have hc := cnt_nn L c
    have hf : foldR (roomC L) (c :: cs) r = foldR (roomC L) cs (roomC L c r) := if_neg (by omega)
    rw [hf, List.map_cons, List.any_cons, List.sum_cons]
    by_cases z : cnt L c = 0
    · rw [decide_eq_true z, Bool.true_or]
      exact ⟨fun _ => fold_neg _ _ (c0 z), fun q => nomatch q⟩
    · rw [decide_eq_false z, Bool.false_or]
      rcases c1 z with e | ⟨e1, e2⟩
      · by_cases n : roomC L c r < 0
        · have := fold_neg (roomC L) cs n
          exact ⟨fun _ => this, fun _ => .inr ⟨by omega, this⟩⟩
        · obtain ⟨i0, i1⟩ := ih (roomC L c r) (by omega)
          refine ⟨i0, fun q => ?_⟩
          rcases i1 q with w | ⟨w1, w2⟩
          · exact .inl (by omega)
          · exact .inr ⟨by omega, w2⟩
      · have := fold_neg (roomC L) cs e2
        exact ⟨fun _ => this, fun _ => .inr ⟨by omega, this⟩⟩
theorem room_cnt : ∀ (L : Nat) (d : PyData), RoomOk L d
  | 0, d => fun r hr => by
    unfold cnt roomC
    by_cases hp : plnB d = true
    · rw [if_pos hp, if_pos hp]
      exact ⟨fun h => absurd h (by decide), fun _ => .inl rfl⟩
    · rw [if_neg hp, if_neg hp]
      exact ⟨fun _ => by decide, fun h => absurd rfl h⟩
  | L + 1, d => fun r hr => by
    unfold cnt roomC
    by_cases hp : plnB d = true
    · rw [if_pos hp, if_pos hp]
      exact ⟨fun h => absurd h (by decide), fun _ => .inl rfl⟩
    · rw [if_neg hp, if_neg hp]
      by_cases hb : begB d = true
      · rw [if_pos hb, if_pos hb]
        cases hi : insC (thr d) with
        | none => exact ⟨fun _ => by show (-1 : Int) < 0; decide, fun h => absurd rfl h⟩
        | some cs =>
          dsimp only
          have hs : 0 ≤ (cs.map (cnt L)).sum := by
            clear hi
            induction cs with
            | nil => exact Int.le_refl _
            | cons c cs ih => have := cnt_nn L c; rw [List.map_cons, List.sum_cons]; omega
          by_cases h1 : 0 ≤ r - 1
          · obtain ⟨f0, f1⟩ := fold_cnt cs (fun c _ => room_cnt L c) (r - 1) h1
            cases hz : (cs.map (cnt L)).any (fun x => decide (x = 0)) with
            | true => rw [if_pos rfl]; exact ⟨fun _ => f0 hz, fun h => absurd rfl h⟩
            | false =>
              rw [if_neg (by decide)]
              refine ⟨fun h => by omega, fun _ => ?_⟩
              rcases f1 hz with w | ⟨w1, w2⟩
              · exact .inl (by omega)
              · exact .inr ⟨by omega, w2⟩
          · have := fold_neg (roomC L) cs (show r - 1 < 0 by omega)
            refine ⟨fun _ => this, fun h => ?_⟩
            cases hz : (cs.map (cnt L)).any (fun x => decide (x = 0)) with
            | true => rw [hz] at h; exact absurd rfl h
            | false => rw [if_neg (by decide)]; exact .inr ⟨by omega, this⟩
      · rw [if_neg hb, if_neg hb]
        exact ⟨fun _ => by decide, fun h => absurd rfl h⟩
/-- the first wrong one, by counts -/
def badL : List PyData → Int → Nat → Option Nat
  | [], _, _ => none
  | c :: cs, t, k => if cnt 3 c = 0 ∨ t + cnt 3 c > 400 then some k else badL cs (t + cnt 3 c) (k + 1)
theorem bad_eq : ∀ (cs : List PyData) (t : Int) (k : Nat), t ≤ 400 → badI cs (400 - t) k = badL cs t k
  | [], _, _, _ => rfl
  | c :: cs, t, k, h => by
    have hc := cnt_nn 3 c
    obtain ⟨c0, c1⟩ := room_cnt 3 c (400 - t) (by omega)
    unfold badI badL
    by_cases z : cnt 3 c = 0
    · rw [if_pos (c0 z), if_pos (.inl z)]
    · rcases c1 z with e | ⟨e1, e2⟩
      · by_cases n : roomC 3 c (400 - t) < 0
        · rw [if_pos n, if_pos (.inr (by omega))]
        · rw [if_neg n, if_neg (by omega), e, show (400 : Int) - t - cnt 3 c = 400 - (t + cnt 3 c) by omega]
          exact bad_eq cs _ _ (by omega)
      · rw [if_pos e2, if_pos (.inr (by omega))]
theorem ne_ofS (a b : Str) : neD (.str a) (.str b) = some (.bool (!decide (a = b))) := rfl
theorem whole_any {lo hi : Int} (d : PyData) : m__law_whole [d, .int lo, .int hi] = some (.bool (intB lo hi d)) := by
  cases d with
  | int i =>
    have e : fChain leD leD (rdF 1) (rdF 0) (rdF 2) [some (.fr (.int i)), some (.fr (.int lo)), some (.fr (.int hi))] = some (.bool (decide (lo ≤ i) && decide (i ≤ hi)), [some (.fr (.int i)), some (.fr (.int lo)), some (.fr (.int hi))]) := le_le rfl rfl rfl
    exact ev_runF rfl (env := [some (.fr (.int i)), some (.fr (.int lo)), some (.fr (.int hi))]) (ev_ret (ev_andV (e1 := [some (.fr (.int i)), some (.fr (.int lo)), some (.fr (.int hi))]) rfl (ev_andV rfl e)))
  | _ => rfl
theorem wrd_iff {ws : List Str} {s : Str} : wrdB ws (.str s) = true ↔ s ∈ ws := by
  unfold wrdB
  rw [List.any_eq_true]
  constructor
  · rintro ⟨w, hw, e⟩
    rw [← of_decide_eq_true e]; exact hw
  · intro h
    exact ⟨s, h, decide_eq_true rfl⟩
theorem pwM : powD (.int 10) (.int 30) = some (.int TMx) := by kernel_rfl
theorem pwF : fBin powD (fC (.int 10)) (fC (.int 30)) = fC (.int TMx) := by funext e; simp only [fBin, fC, Option.bind_some, pwM]; rfl
theorem any0 (l : List Int) : l.any (fun x => decide (x = 0)) = decide ((0 : Int) ∈ l) := by
  rw [Bool.eq_iff_iff, List.any_eq_true, decide_eq_true_eq]
  constructor
  · rintro ⟨x, hx, e⟩
    rw [← of_decide_eq_true e]; exact hx
  · intro h
    exact ⟨0, h, decide_eq_true rfl⟩
theorem any_intsC (c : Int) : ∀ cs : List Int, ((cs.map PyData.int).any fun z => PyData.eqv z (.int c)) = decide (c ∈ cs)
  | [] => rfl
  | x :: cs => by
    rw [List.map_cons, List.any_cons, any_intsC c cs]
    show (decide (x = c) || decide (c ∈ cs)) = _
    by_cases h : x = c
    · subst h; simp
    · rw [decide_eq_false h, Bool.false_or]
      simp only [List.mem_cons]
      rw [decide_eq_decide]
      exact ⟨.inr, fun z => z.elim (fun w => absurd w.symm h) id⟩
theorem in_intsC (c : Int) (cs : List Int) : inD (.int c) (.list (cs.map .int)) = some (.bool (decide (c ∈ cs))) := by
  have e : inB (.int c) (.list (cs.map .int)) = some (decide (c ∈ cs)) := by
    show (if shD (.int c) && shD (.list (cs.map .int)) then some ((cs.map PyData.int).any fun z => PyData.eqv z (.int c)) else none) = _
    rw [(ly_int c).sh (by decide), (Ly.list (ly_ints cs)).sh (by decide), any_intsC]
    rfl
  unfold inD
  rw [e]; rfl
theorem sum_intsC (l : List Int) : sumD [.list (l.map .int)] = some (.int l.sum) := by
  have : intsD (l.map .int) = some l := by
    induction l with
    | nil => rfl
    | cons x l ih => rw [List.map_cons, intsD, ih]; rfl
  show (intsD (l.map .int)).map _ = _
  rw [this]; rfl
abbrev ctE (d : PyData) (L : Nat) (x2 x3 x4 : Option DV) : DEnv := [some (.fr d), some (.fr (.int (L : Nat))), x2, x3, x4, none]
theorem cnt_head {rc : Nat → List PyData → Option PyData} {d : PyData} {L : Nat} {x : PyData} (h : ∃ e, mb__law_counted rc (ctE d L none none none) = some (.rt x e)) : runF 2 6 (mb__law_counted rc) [d, .int (L : Nat)] = some x := by
  obtain ⟨e, h⟩ := h
  exact ev_runF rfl h
/-- all but tuples that begin with a text -/
theorem cnt_odd {rc : Nat → List PyData → Option PyData} {d : PyData} {L : Nat} (h : ∀ s r, d ≠ .tuple (.str s :: r)) : runF 2 6 (mb__law_counted rc) [d, .int (L : Nat)] = some (.int 0) := by
  refine cnt_head ⟨ctE d L none none none, ev_seqR (ev_ifT ?_ (ev_ret rfl))⟩
  cases d with
  | tuple ds =>
    refine ev_or0 (ev_not (k := true) (ev_isiD rfl rfl)) ?_
    cases ds with
    | nil => exact ev_or1 (ev_tst (d := .bool true) rfl rfl)
    | cons w r =>
      refine ev_or0 (ev_tst (d := .bool false) rfl rfl) (ev_not (k := false) (ev_isiD (d := w) (ev_ixN rfl rfl rfl (ix_hd w r)) ?_))
      cases w with
      | str s => exact absurd rfl (h s r)
      | _ => rfl
  | none => exact ev_or1 (ev_not (k := false) (ev_isiD rfl rfl))
  | bool b => exact ev_or1 (ev_not (k := false) (ev_isiD rfl rfl))
  | int i => exact ev_or1 (ev_not (k := false) (ev_isiD rfl rfl))
  | str s => exact ev_or1 (ev_not (k := false) (ev_isiD rfl rfl))
  | list ds => exact ev_or1 (ev_not (k := false) (ev_isiD rfl rfl))
  | dict kvs => exact ev_or1 (ev_not (k := false) (ev_isiD rfl rfl))
end DL
end L2


set_option Elab.async false
set_option maxRecDepth 100000
set_option maxHeartbeats 4000000
set_option autoImplicit false
namespace L2
namespace DL
open PySem PySem.Spec PyProof.Rows
local instance labNone_K20E : Lab := { w := none, T := [], gd := True }
abbrev ctT (rc : Nat → List PyData → Option PyData) := (sSeq (sIf (fTst (fBin inD (rdF 2) (fTup (fCons (fC (.str "reverse")) (fCons (fC (.str "restore")) fNil))))) (sRet (fCB intOfD (fCons (fBin eqD (rdF 3) (fC (.int 1))) fNil))) sNil) (sSeq (sIf (fTst (fBin inD (rdF 2) (fTup (fCons (fC (.str "up")) (fCons (fC (.str "down")) fNil))))) (sRet (fCB intOfD (fCons (fAndV (fBin eqD (rdF 3) (fC (.int 2))) (fCB m__law_whole (fCons (fIxN 0 (fC (.int 1))) (fCons (fC (.int 0)) (fCons (fC (.int 3)) fNil))))) fNil))) sNil) (sSeq (sIf (fTst (fBin inD (rdF 2) (fTup (fCons (fC (.str "first")) (fCons (fC (.str "last")) fNil))))) (sRet (fCB intOfD (fCons (fAndV (fBin eqD (rdF 3) (fC (.int 2))) (fCB m__law_whole (fCons (fIxN 0 (fC (.int 1))) (fCons (fC (.int 2)) (fCons (fC (.int 29)) fNil))))) fNil))) sNil) (sSeq (sIf (fOr (fTst (fBin neD (rdF 2) (fC (.str "repeat")))) (fOr (fTst (fBin neD (rdF 3) (fC (.int 3)))) (fOr (fTst (fBin ltD (rdF 1) (fC (.int 1)))) (fNot (fTst (fCB m__law_whole (fCons (fIxN 0 (fC (.int 1))) (fCons (fC (.int 1)) (fCons (fBin powD (fC (.int 10)) (fC (.int 30))) fNil))))))))) (sRet (fC (.int 0))) sNil) (sSeq (sSet 4 (fIf (fTst (fIsi "tuple" (fIxN 0 (fC (.int 2))))) (fFrz (nLc (iSeq (fIxN 0 (fC (.int 2)))) (gSet 5) fYes (fCB (rc 0) (fCons (rdF 5) (fCons (fBin subD (rdF 1) (fC (.int 1))) fNil))) [5])) (fFrz (fLst (fCons (fC (.int 0)) fNil))))) (sRet (fIf (fTst (fCmpN inD (fC (.int 0)) 4)) (fC (.int 0)) (fBin addD (fC (.int 1)) (fCB sumD (fCons (rdF 4) fNil))))))))))
abbrev ctU (rc : Nat → List PyData → Option PyData) := (sSeq (sSet 4 (fIf (fTst (fIsi "tuple" (fIxN 0 (fC (.int 2))))) (fFrz (nLc (iSeq (fIxN 0 (fC (.int 2)))) (gSet 5) fYes (fCB (rc 0) (fCons (rdF 5) (fCons (fBin subD (rdF 1) (fC (.int 1))) fNil))) [5])) (fFrz (fLst (fCons (fC (.int 0)) fNil))))) (sRet (fIf (fTst (fCmpN inD (fC (.int 0)) 4)) (fC (.int 0)) (fBin addD (fC (.int 1)) (fCB sumD (fCons (rdF 4) fNil))))))
abbrev ctX (s : Str) (r : List PyData) (L : Nat) (x4 : Option DV) : DEnv := [some (.fr (.tuple (.str s :: r))), some (.fr (.int (L : Nat))), some (.fr (.str s)), some (.fr (.int ((r.length : Int) + 1))), x4, none]
theorem cnt_txt {rc : Nat → List PyData → Option PyData} {s : Str} {r : List PyData} {L : Nat} {x : PyData} (h : ∃ e, ctT rc (ctX s r L none) = some (.rt x e)) : runF 2 6 (mb__law_counted rc) [.tuple (.str s :: r), .int (L : Nat)] = some x := by
  obtain ⟨e, h⟩ := h
  have ln : lenD [.tuple (.str s :: r)] = some (.int ((r.length : Int) + 1)) := by
    show some (PyData.int (((.str s :: r : List PyData).length : Nat) : Int)) = _
    rw [List.length_cons]; rfl
  refine cnt_head ⟨e, ev_seq (e1 := ctE (.tuple (.str s :: r)) L none none none) (ev_ifF (ev_or0 (ev_not (k := true) (ev_isiD rfl rfl)) (ev_or0 (ev_tst (d := .bool false) rfl rfl) (ev_not (k := true) (ev_isiD (d := .str s) (ev_ixN rfl rfl rfl (ix_hd _ r)) rfl)))) rfl) (ev_seq (e1 := ctX s r L none) (ev_par (ev_cons (ev_ixN rfl rfl rfl (ix_hd _ r)) (ev_cons (ev_lenN rfl ln) ev_nil)) rfl) h)⟩
theorem wrd_t {ws : List Str} {s : Str} (h : s ∈ ws) : wrdB ws (.str s) = true := wrd_iff.mpr h
theorem wrd_f {ws : List Str} {s : Str} (h : s ∉ ws) : wrdB ws (.str s) = false := Bool.eq_false_iff.mpr fun z => h (wrd_iff.mp z)
def updW : List Str := ["up", "down"]
theorem upd_dir {s : Str} : s ∈ updW ↔ s ∈ dirW := by
  simp only [updW, dirW, List.mem_cons, List.not_mem_nil, or_false]
  exact Or.comm
theorem int_of (b : Bool) : intOfD [.bool b] = some (.int (if b then 1 else 0)) := rfl
theorem eq_len (r : List PyData) (k : Int) : eqD (.int ((r.length : Int) + 1)) (.int k) = some (.bool (decide ((r.length : Int) + 1 = k))) := rfl
theorem two_ret {rc : Nat → List PyData → Option PyData} {lo hi : Int} {s : Str} {r : List PyData} {L : Nat} : ∃ v, fCB intOfD (fCons (fAndV (fBin eqD (rdF 3) (fC (.int 2))) (fCB m__law_whole (fCons (fIxN 0 (fC (.int 1))) (fCons (fC (.int lo)) (fCons (fC (.int hi)) fNil))))) fNil) (ctX s r L none) = some (.int v, ctX s r L none) ∧ v = match r with | [x] => if intB lo hi x then 1 else 0 | _ => 0 := by
  have no : r.length ≠ 1 → ∃ v, fCB intOfD (fCons (fAndV (fBin eqD (rdF 3) (fC (.int 2))) (fCB m__law_whole (fCons (fIxN 0 (fC (.int 1))) (fCons (fC (.int lo)) (fCons (fC (.int hi)) fNil))))) fNil) (ctX s r L none) = some (.int v, ctX s r L none) ∧ v = 0 := fun h => by
    have e := eq_len r 2
    rw [decide_eq_false (by omega)] at e
    exact ⟨0, ev_cb (ev_cons (ev_andV0 (ev_bin rfl rfl e)) ev_nil) rfl, rfl⟩
  match r, no with
  | [], no => exact no (by decide)
  | [x], _ => exact ⟨_, ev_cb (ev_cons (ev_andV (ev_bin rfl rfl rfl) (ev_cb (ev_cons (ev_ixN rfl rfl rfl rfl) (ev_cons rfl (ev_cons rfl ev_nil))) (whole_any x))) ev_nil) (int_of _), rfl⟩
  | _ :: _ :: _, no => exact no (by simp)
theorem cnt_no {L : Nat} {d : PyData} (h1 : plnB d = false) (h2 : begB d = false) : cnt L d = 0 := by
  cases L with
  | zero => unfold cnt; rw [h1]; rfl
  | succ L => unfold cnt; rw [h1, h2]; rfl
theorem cnt_pl {L : Nat} {d : PyData} (h1 : plnB d = true) : cnt L d = 1 := by
  cases L with
  | zero => unfold cnt; rw [h1]; rfl
  | succ L => unfold cnt; rw [h1]; rfl
theorem beg_no {s : Str} {r : List PyData} (h : s ≠ "repeat") : begB (.tuple (.str s :: r)) = false := by
  have : wrdB repW (.str s) = false := wrd_f fun z => h (List.mem_singleton.mp z)
  match r with
  | [] => rfl
  | [_] => rfl
  | [_, _] => show (wrdB repW (.str s) && _) = false; rw [this]; rfl
  | _ :: _ :: _ :: _ => rfl
theorem str_shD {s : Str} {r : List PyData} (h : gdD (.tuple (.str s :: r)) = true) : shD (.str s) = true := gdDs_mem (gd_tup h).2 (.str s) List.mem_cons_self
/-- what is behind a repeat, counted -/
def cntR (L : Nat) (p : PyData) : Int := match L with
  | 0 => 0
  | L + 1 => match insC p with
    | some cs => if (cs.map (cnt L)).any (fun x => decide (x = 0)) then 0 else 1 + (cs.map (cnt L)).sum
    | none => 0
theorem cnt_beg {L : Nat} {t p : PyData} (h : intB 1 TMx t = true) : cnt L (.tuple [.str "repeat", t, p]) = cntR L p := by
  have hb : begB (.tuple [.str "repeat", t, p]) = true := by
    have hw := wrd_t (ws := repW) (s := "repeat") (List.mem_singleton.mpr rfl)
    show (wrdB repW (.str "repeat") && intB 1 TMx t) = true
    rw [hw, h]; rfl
  cases L with
  | zero => rfl
  | succ L =>
    show (if plnB _ = true then 1 else if begB _ = true then _ else 0) = _
    rw [hb]
    rfl
theorem cnt_step {rc : Nat → List PyData → Option PyData} {L : Nat} (ih : ∀ c : PyData, gdD c = true → 1 ≤ L → rc 0 [c, .int ((L : Int) - 1)] = some (.int (cnt (L - 1) c))) {d : PyData} (hg : gdD d = true) : runF 2 6 (mb__law_counted rc) [d, .int (L : Nat)] = some (.int (cnt L d)) := by
  by_cases hd : ∃ s r, d = .tuple (.str s :: r)
  case neg =>
    have hd' : ∀ s r, d ≠ .tuple (.str s :: r) := fun s r e => hd ⟨s, r, e⟩
    rw [cnt_odd hd']
    have h1 : plnB d = false := by
      unfold plnB
      split
      · rename_i w
        cases w with
        | str s => exact absurd rfl (hd' s [])
        | _ => rfl
      · rename_i w x
        cases w with
        | str s => exact absurd rfl (hd' s [x])
        | _ => rfl
      · rfl
    have h2 : begB d = false := by
      unfold begB
      split
      · rename_i w t p
        cases w with
        | str s => exact absurd rfl (hd' s [t, p])
        | _ => rfl
      · rfl
    rw [cnt_no h1 h2]
  obtain ⟨s, r, rfl⟩ := hd
  have hs := str_shD hg
  have i1 : inD (.str s) (.tuple [.str "reverse", .str "restore"]) = some (.bool (wrdB bareW (.str s))) := in_strs hs (ws := bareW) (by decide +kernel)
  have i2 : inD (.str s) (.tuple [.str "up", .str "down"]) = some (.bool (wrdB updW (.str s))) := in_strs hs (ws := updW) (by decide +kernel)
  have i3 : inD (.str s) (.tuple [.str "first", .str "last"]) = some (.bool (wrdB cutW (.str s))) := in_strs hs (ws := cutW) (by decide +kernel)
  refine cnt_txt ?_
  by_cases hb : s ∈ bareW
  · rw [wrd_t hb] at i1
    have hn : s ≠ "repeat" := fun z => by rw [z] at hb; exact absurd hb (by decide)
    have e := eq_len r 1
    have val : cnt L (.tuple (.str s :: r)) = if decide ((r.length : Int) + 1 = 1) then 1 else 0 := by
      match r with
      | [] => exact cnt_pl (wrd_t hb)
      | [x] => exact cnt_no (by show (!wrdB bareW (.str s) && _) = false; rw [wrd_t hb]; rfl) (beg_no hn)
      | x :: y :: r => rw [decide_eq_false (by simp only [List.length_cons]; omega)]; exact cnt_no rfl (beg_no hn)
    rw [val]
    exact ⟨_, ev_seqR (ev_ifT (ev_tst (ev_bin rfl rfl i1) rfl) (ev_ret (ev_cb (ev_cons (ev_bin rfl rfl e) ev_nil) (int_of _))))⟩
  rw [wrd_f hb] at i1
  by_cases hu : s ∈ dirW
  · rw [wrd_t (upd_dir.mpr hu)] at i2
    have hn : s ≠ "repeat" := fun z => by rw [z] at hu; exact absurd hu (by decide)
    obtain ⟨v, e, hv⟩ := two_ret (rc := rc) (lo := 0) (hi := 3) (s := s) (r := r) (L := L)
    have val : cnt L (.tuple (.str s :: r)) = v := by
      rw [hv]
      match r with
      | [] => exact cnt_no (wrd_f hb) (beg_no hn)
      | [x] =>
        have hp : plnB (.tuple [.str s, x]) = intB 0 3 x := by
          show (!wrdB bareW (.str s) && (if wrdB dirW (.str s) = true then intB 0 3 x else _)) = _
          rw [wrd_f hb, wrd_t hu]; rfl
        show cnt L _ = if intB 0 3 x = true then (1 : Int) else 0
        cases hx : intB 0 3 x with
        | true => exact cnt_pl (hp.trans hx)
        | false => exact cnt_no (hp.trans hx) (beg_no hn)
      | _ :: _ :: _ => exact cnt_no rfl (beg_no hn)
    rw [val]
    exact ⟨_, ev_seq (ev_ifF (ev_tst (ev_bin rfl rfl i1) rfl) rfl) (ev_seqR (ev_ifT (ev_tst (ev_bin rfl rfl i2) rfl) (ev_ret e)))⟩
  rw [wrd_f (fun z => hu (upd_dir.mp z))] at i2
  by_cases hc : s ∈ cutW
  · rw [wrd_t hc] at i3
    have hn : s ≠ "repeat" := fun z => by rw [z] at hc; exact absurd hc (by decide)
    obtain ⟨v, e, hv⟩ := two_ret (rc := rc) (lo := 2) (hi := 29) (s := s) (r := r) (L := L)
    have val : cnt L (.tuple (.str s :: r)) = v := by
      rw [hv]
      match r with
      | [] => exact cnt_no (wrd_f hb) (beg_no hn)
      | [x] =>
        have hp : plnB (.tuple [.str s, x]) = intB 2 29 x := by
          show (!wrdB bareW (.str s) && (if wrdB dirW (.str s) = true then _ else wrdB cutW (.str s) && intB 2 29 x)) = _
          rw [wrd_f hb, wrd_f hu, wrd_t hc]; rfl
        show cnt L _ = if intB 2 29 x = true then (1 : Int) else 0
        cases hx : intB 2 29 x with
        | true => exact cnt_pl (hp.trans hx)
        | false => exact cnt_no (hp.trans hx) (beg_no hn)
      | _ :: _ :: _ => exact cnt_no rfl (beg_no hn)
    rw [val]
    exact ⟨_, ev_seq (ev_ifF (ev_tst (ev_bin rfl rfl i1) rfl) rfl) (ev_seq (ev_ifF (ev_tst (ev_bin rfl rfl i2) rfl) rfl) (ev_seqR (ev_ifT (ev_tst (ev_bin rfl rfl i3) rfl) (ev_ret e))))⟩
  rw [wrd_f hc] at i3
  have hpl : plnB (.tuple (.str s :: r)) = false := by
    match r with
    | [] => exact wrd_f hb
    | [x] =>
      show (!wrdB bareW (.str s) && (if wrdB dirW (.str s) = true then _ else wrdB cutW (.str s) && _)) = _
      rw [wrd_f hb, wrd_f hu, wrd_f hc]; rfl
    | _ :: _ :: _ => rfl
  have pre : ∀ {fl}, (sSeq (sIf (fOr (fTst (fBin neD (rdF 2) (fC (.str "repeat")))) (fOr (fTst (fBin neD (rdF 3) (fC (.int 3)))) (fOr (fTst (fBin ltD (rdF 1) (fC (.int 1)))) (fNot (fTst (fCB m__law_whole (fCons (fIxN 0 (fC (.int 1))) (fCons (fC (.int 1)) (fCons (fBin powD (fC (.int 10)) (fC (.int 30))) fNil))))))))) (sRet (fC (.int 0))) sNil) (sSeq (sSet 4 (fIf (fTst (fIsi "tuple" (fIxN 0 (fC (.int 2))))) (fFrz (nLc (iSeq (fIxN 0 (fC (.int 2)))) (gSet 5) fYes (fCB (rc 0) (fCons (rdF 5) (fCons (fBin subD (rdF 1) (fC (.int 1))) fNil))) [5])) (fFrz (fLst (fCons (fC (.int 0)) fNil))))) (sRet (fIf (fTst (fCmpN inD (fC (.int 0)) 4)) (fC (.int 0)) (fBin addD (fC (.int 1)) (fCB sumD (fCons (rdF 4) fNil))))))) (ctX s r L none) = some fl → ctT rc (ctX s r L none) = some fl := fun {fl} h => ev_seq (ev_ifF (ev_tst (ev_bin rfl rfl i1) rfl) rfl) (ev_seq (ev_ifF (ev_tst (ev_bin rfl rfl i2) rfl) rfl) (ev_seq (ev_ifF (ev_tst (ev_bin rfl rfl i3) rfl) rfl) h))
  by_cases hn : s = "repeat"
  case neg =>
    have e := ne_ofS s "repeat"
    rw [decide_eq_false hn] at e
    rw [cnt_no hpl (beg_no hn)]
    exact ⟨_, pre (ev_seqR (ev_ifT (ev_or1 (ev_tst (ev_bin rfl rfl e) rfl)) (ev_ret rfl)))⟩
  subst hn
  have e := ne_ofS "repeat" "repeat"
  rw [decide_eq_true rfl] at e
  by_cases hl : r.length = 2
  case neg =>
    have hb2 : begB (.tuple (.str "repeat" :: r)) = false := by
      match r, hl with
      | [], _ => rfl
      | [_], _ => rfl
      | [_, _], h => exact absurd rfl h
      | _ :: _ :: _ :: _, _ => rfl
    have e2 : neD (.int ((r.length : Int) + 1)) (.int 3) = some (.bool true) := by
      show some (PyData.bool (!decide ((r.length : Int) + 1 = 3))) = _
      rw [decide_eq_false (by omega)]; rfl
    rw [cnt_no hpl hb2]
    exact ⟨_, pre (ev_seqR (ev_ifT (ev_or0 (ev_tst (ev_bin rfl rfl e) rfl) (ev_or1 (ev_tst (ev_bin rfl rfl e2) rfl))) (ev_ret rfl)))⟩
  match r, hl with
  | [t, p], _ =>
    have e2 : neD (.int (([t, p].length : Int) + 1)) (.int 3) = some (.bool false) := rfl
    by_cases h0 : L = 0
    · subst h0
      have e3 : ltD (.int ((0 : Nat) : Int)) (.int 1) = some (.bool true) := rfl
      have val : cnt 0 (.tuple [.str "repeat", t, p]) = 0 := rfl
      rw [val]
      exact ⟨_, pre (ev_seqR (ev_ifT (ev_or0 (ev_tst (ev_bin rfl rfl e) rfl) (ev_or0 (ev_tst (ev_bin rfl rfl e2) rfl) (ev_or1 (ev_tst (ev_bin rfl rfl e3) rfl)))) (ev_ret rfl)))⟩
    have e3 : ltD (.int (L : Nat)) (.int 1) = some (.bool false) := by
      show some (PyData.bool (decide ((L : Int) < 1))) = _
      rw [decide_eq_false (by omega)]
    have e4 := whole_any (lo := 1) (hi := TMx) t
    cases ht : intB 1 TMx t with
    | false =>
      rw [ht] at e4
      have hb2 : begB (.tuple [.str "repeat", t, p]) = false := by
        show (wrdB repW (.str "repeat") && intB 1 TMx t) = false
        rw [ht, Bool.and_false]
      rw [cnt_no hpl hb2]
      refine ⟨ctX "repeat" [t, p] L none, pre (ev_seqR (ev_ifT (ev_or0 (ev_tst (ev_bin rfl rfl e) rfl) (ev_or0 (ev_tst (ev_bin rfl rfl e2) rfl) (ev_or0 (ev_tst (ev_bin rfl rfl e3) rfl) (ev_not (k := false) (ev_tst (ev_cb (ev_cons (ev_ixN rfl rfl rfl rfl) (ev_cons rfl (ev_cons (by rw [pwF]; rfl) ev_nil))) e4) rfl))))) (ev_ret rfl)))⟩
    | true =>
      rw [ht] at e4
      have pre2 : ∀ {fl}, ctU rc (ctX "repeat" [t, p] L none) = some fl → ctT rc (ctX "repeat" [t, p] L none) = some fl := fun {fl} h => pre (ev_seq (ev_ifF (ev_or0 (ev_tst (ev_bin rfl rfl e) rfl) (ev_or0 (ev_tst (ev_bin rfl rfl e2) rfl) (ev_or0 (ev_tst (ev_bin rfl rfl e3) rfl) (ev_not (k := true) (ev_tst (ev_cb (ev_cons (ev_ixN rfl rfl rfl rfl) (ev_cons rfl (ev_cons (by rw [pwF]; rfl) ev_nil))) e4) rfl))))) rfl) h)
      rw [cnt_beg ht]
      have hp : gdD p = true := gdDs_mem (gd_tup hg).2 p (by simp)
      obtain ⟨L', rfl⟩ : ∃ k, L = k + 1 := ⟨L - 1, by omega⟩
      have last : ∀ l : List Int, ∃ v, ((sRet (fIf (fTst (fCmpN inD (fC (.int 0)) 4)) (fC (.int 0)) (fBin addD (fC (.int 1)) (fCB sumD (fCons (rdF 4) fNil)))))) (ctX "repeat" [t, p] (L' + 1) (some (.fr (.list (l.map .int))))) = some (.rt (.int v) (ctX "repeat" [t, p] (L' + 1) (some (.fr (.list (l.map .int)))))) ∧ v = if l.any (fun x => decide (x = 0)) then 0 else 1 + l.sum := fun l => by
        have q1 := in_intsC 0 l
        rw [any0]
        cases hz : decide ((0 : Int) ∈ l) with
        | true =>
          rw [hz] at q1
          exact ⟨0, ev_ret (ev_iff (k := true) (ev_tst (ev_cmpN rfl rfl q1) rfl) rfl), rfl⟩
        | false =>
          rw [hz] at q1
          exact ⟨1 + l.sum, ev_ret (ev_iff (k := false) (ev_tst (ev_cmpN rfl rfl q1) rfl) (ev_bin rfl (ev_cb (ev_cons rfl ev_nil) (sum_intsC l)) rfl)), rfl⟩
      cases hi : insC p with
      | none =>
        obtain ⟨v, e5, hv⟩ := last [0]
        have : cntR (L' + 1) p = 0 := by unfold cntR; rw [hi]
        rw [this]
        have hv0 : v = 0 := hv
        subst hv0
        refine ⟨_, pre2 (ev_seq (e1 := ctX "repeat" [t, p] (L' + 1) (some (.fr (.list [.int 0])))) (ev_setE (ev_iff (k := false) (ev_isiD (d := p) (ev_ixN rfl rfl rfl rfl) (ins_no hi)) rfl) rfl) e5)⟩
      | some cs =>
        obtain rfl := ins_yes hi
        obtain ⟨v, e5, hv⟩ := last (cs.map (cnt L'))
        have : cntR (L' + 1) (.tuple cs) = v := by rw [hv]; rfl
        rw [this]
        have hcs := gd_tup hp
        have e6 := lc_img (i := 5) (fe := fCB (rc 0) (fCons (rdF 5) (fCons (fBin subD (rdF 1) (fC (.int 1))) fNil))) (e := fun c : PyData => c) (q := fun c => PyData.int (cnt L' c)) (env := ctX "repeat" [t, .tuple cs] (L' + 1) none) rfl cs fun c hc => by
          have := ih c (gdDs_mem hcs.2 c hc) (by omega)
          exact ev_cb (ev_cons rfl (ev_cons (ev_bin rfl rfl rfl) ev_nil)) this
        rw [List.map_id'] at e6
        refine ⟨_, pre2 (ev_seq (e1 := ctX "repeat" [t, .tuple cs] (L' + 1) (some (.fr (.list ((cs.map (cnt L')).map .int))))) (ev_setE (ev_iff (k := true) (ev_isiD (d := .tuple cs) (ev_ixN rfl rfl rfl rfl) rfl) (ev_frz (ev_lc (ds := cs) (e1 := ctX "repeat" [t, .tuple cs] (L' + 1) none) (ev_seqI (ev_ixN rfl rfl rfl rfl) rfl) hcs.1 rfl e6))) (by rw [List.map_map]; rfl)) e5)⟩
theorem cnt_any : ∀ (L f : Nat), L + 1 ≤ f → ∀ d : PyData, gdD d = true → rc__law_counted f 0 [d, .int (L : Nat)] = some (.int (cnt L d)) := by
  intro L
  induction L with
  | zero =>
    intro f hf d hg
    obtain ⟨f, rfl⟩ : ∃ g, f = g + 1 := ⟨f - 1, by omega⟩
    exact cnt_step (rc := rc__law_counted f) (fun c _ h => absurd h (by decide)) hg
  | succ L ih =>
    intro f hf d hg
    obtain ⟨f, rfl⟩ : ∃ g, f = g + 1 := ⟨f - 1, by omega⟩
    refine cnt_step (rc := rc__law_counted f) (fun c hc _ => ?_) hg
    have := ih f (by omega) c hc
    rw [show (((L + 1 : Nat) : Int) - 1) = (L : Int) by omega]
    exact this
end DL
end L2


set_option Elab.async false
set_option maxRecDepth 100000
set_option maxHeartbeats 4000000
set_option autoImplicit false
namespace L2
namespace DL
open PySem PySem.Spec PyProof.Rows
local instance labNone_K20G : Lab := { w := none, T := [], gd := True }
def goodB (d : PyData) : Bool := match insC d with
  | none => false
  | some cs => (badL cs 0 0).isNone
def fbL (d : PyData) : List PyData := match insC d with
  | none => [.none]
  | some cs => match badL cs 0 0 with
    | none => []
    | some k => [.int (k : Nat)]
theorem fb_good (d : PyData) : (fbL d).isEmpty = goodB d := by
  unfold fbL goodB
  cases insC d with
  | none => rfl
  | some cs => dsimp only; cases badL cs 0 0 <;> rfl
abbrev fbB := (sSeq (sSet 4 (fCB m__law_counted (fCons (rdF 3) (fCons (fC (.int 3)) fNil)))) (sSeq (sSet 1 (fBin addD (rdF 1) (rdF 4))) (sIf (fOr (fTst (fBin eqD (rdF 4) (fC (.int 0)))) (fTst (fBin gtD (rdF 1) (fC (.int 400))))) (sRet (fFrz (fLst (fCons (rdF 2) fNil)))) sNil)))
theorem fb_loop {P : Option DV} : ∀ (cs : List PyData) (t : Int) (k : Nat) (z2 z3 z4 : Option DV), (∀ c ∈ cs, gdD c = true) →
    match badL cs t k with
    | none => ∃ t' z2' z3' z4', forD cpG fbB ((rangeD (k : Int) cs.length).zipWith (fun a b => .tuple [a, b]) cs) [P, some (.fr (.int t)), z2, z3, z4] = some (.nx [P, some (.fr (.int t')), z2', z3', z4'])
    | some j => ∃ e, forD cpG fbB ((rangeD (k : Int) cs.length).zipWith (fun a b => .tuple [a, b]) cs) [P, some (.fr (.int t)), z2, z3, z4] = some (.rt (.list [.int (j : Nat)]) e)
  | [], t, k, z2, z3, z4, _ => ⟨t, z2, z3, z4, rfl⟩
  | c :: cs, t, k, z2, z3, z4, h => by
    have ec : m__law_counted [c, .int 3] = some (.int (cnt 3 c)) := cnt_any 3 12 (by decide) c (h c List.mem_cons_self)
    rw [List.length_cons, rangeD_succ, List.zipWith_cons_cons]
    let E : DEnv := [P, some (.fr (.int (t + cnt 3 c))), some (.fr (.int (k : Nat))), some (.fr c), some (.fr (.int (cnt 3 c)))]
    have st : ∀ {g : DEnv → Option DFlow} {fl : DFlow}, g E = some fl → sSeq (sSet 4 (fCB m__law_counted (fCons (rdF 3) (fCons (fC (.int 3)) fNil)))) (sSeq (sSet 1 (fBin addD (rdF 1) (rdF 4))) g) [P, some (.fr (.int t)), some (.fr (.int (k : Nat))), some (.fr c), z4] = some fl := fun {g fl} hg =>
      ev_seq (e1 := [P, some (.fr (.int t)), some (.fr (.int (k : Nat))), some (.fr c), some (.fr (.int (cnt 3 c)))]) (ev_setE (ev_cb (ev_cons rfl (ev_cons rfl ev_nil)) ec) rfl) (ev_seq (e1 := E) (ev_setE (ev_bin rfl rfl rfl) rfl) hg)
    have q1 : eqD (.int (cnt 3 c)) (.int 0) = some (.bool (decide (cnt 3 c = 0))) := rfl
    have q2 : gtD (.int (t + cnt 3 c)) (.int 400) = some (.bool (decide (t + cnt 3 c > 400))) := rfl
    by_cases hr : cnt 3 c = 0 ∨ t + cnt 3 c > 400
    · have hb : badL (c :: cs) t k = some k := if_pos hr
      rw [hb]
      have tt : fOr (fTst (fBin eqD (rdF 4) (fC (.int 0)))) (fTst (fBin gtD (rdF 1) (fC (.int 400)))) E = some (true, E) := by
        by_cases h0 : cnt 3 c = 0
        · rw [decide_eq_true h0] at q1
          exact ev_or1 (ev_tst (ev_bin rfl rfl q1) rfl)
        · rw [decide_eq_false h0] at q1
          rw [decide_eq_true (hr.resolve_left h0)] at q2
          exact ev_or0 (ev_tst (ev_bin rfl rfl q1) rfl) (ev_tst (ev_bin rfl rfl q2) rfl)
      exact ⟨E, ev_forRt rfl (st (ev_ifT tt (ev_ret (ev_frz (ev_lst (ev_cons rfl ev_nil) (by show (1 : Nat) ≤ 100000; decide))))))⟩
    · have hb : badL (c :: cs) t k = badL cs (t + cnt 3 c) (k + 1) := if_neg hr
      rw [hb]
      have ih := fb_loop (P := P) cs (t + cnt 3 c) (k + 1) (some (.fr (.int (k : Nat)))) (some (.fr c)) (some (.fr (.int (cnt 3 c)))) fun x hx => h x (List.mem_cons_of_mem _ hx)
      have hs : ((k : Nat) : Int) + 1 = ((k + 1 : Nat) : Int) := by omega
      rw [hs]
      rw [decide_eq_false (fun z => hr (.inl z))] at q1
      rw [decide_eq_false (fun z => hr (.inr z))] at q2
      have step : fbB [P, some (.fr (.int t)), some (.fr (.int (k : Nat))), some (.fr c), z4] = some (.nx E) := st (ev_ifF (ev_or0 (ev_tst (ev_bin rfl rfl q1) rfl) (ev_tst (ev_bin rfl rfl q2) rfl)) rfl)
      cases hj : badL cs (t + cnt 3 c) (k + 1) with
      | none =>
        rw [hj] at ih
        obtain ⟨t', y2, y3, y4, e⟩ := ih
        exact ⟨t', y2, y3, y4, ev_forN rfl step e⟩
      | some j =>
        rw [hj] at ih
        obtain ⟨e', e⟩ := ih
        exact ⟨e', ev_forN rfl step e⟩
theorem first_bad_any {d : PyData} (hd : gdD d = true) : m__law_first_bad [d] = some (.list (fbL d)) := by
  unfold fbL
  cases hi : insC d with
  | none => exact ev_runF rfl (env := [some (.fr d), none, none, none, none]) (ev_seqR (ev_ifT (ev_not (k := false) (ev_isiD rfl (ins_no hi))) (ev_ret rfl)))
  | some cs =>
    obtain rfl := ins_yes hi
    have L := fb_loop (P := some (.fr (.tuple cs))) cs 0 0 none none none (gdDs_mem (gd_tup hd).2)
    have pre : ∀ {g : DEnv → Option DFlow} {fl : DFlow}, sSeq (sFor (iArg enumTA (fCons (rdF 0) fNil)) cpG fbB) g [some (.fr (.tuple cs)), some (.fr (.int 0)), none, none, none] = some fl → sSeq ((sIf (fNot (fTst (fIsi "tuple" (rdF 0)))) (sRet (fFrz (fLst (fCons (fC .none) fNil)))) sNil)) (sSeq (sSet 1 (fC (.int 0))) (sSeq (sFor (iArg enumTA (fCons (rdF 0) fNil)) cpG fbB) g)) [some (.fr (.tuple cs)), none, none, none, none] = some fl := fun {g fl} h =>
      ev_seq (e1 := [some (.fr (.tuple cs)), none, none, none, none]) (ev_ifF (ev_not (k := true) (ev_isiD rfl rfl)) rfl) (ev_seq (e1 := [some (.fr (.tuple cs)), some (.fr (.int 0)), none, none, none]) rfl h)
    dsimp only
    cases hj : badL cs 0 0 with
    | none =>
      rw [hj] at L
      obtain ⟨t', y2, y3, y4, e⟩ := L
      exact ev_runF rfl (pre (ev_seq (ev_for (ds := (rangeD ((0 : Nat) : Int) cs.length).zipWith (fun a b => .tuple [a, b]) cs) rfl e) (ev_ret rfl)))
    | some j =>
      rw [hj] at L
      obtain ⟨e', e⟩ := L
      exact ev_runF rfl (pre (ev_seqR (ev_for (ds := (rangeD ((0 : Nat) : Int) cs.length).zipWith (fun a b => .tuple [a, b]) cs) rfl e)))
theorem fb_eq (d : PyData) : eqD (.list (fbL d)) (.list []) = some (.bool (goodB d)) := by
  rw [← fb_good]
  unfold fbL
  cases insC d with
  | none => kernel_rfl
  | some cs =>
    dsimp only
    cases badL cs 0 0 with
    | none => kernel_rfl
    | some k =>
      have s1 : shD (.list [.int (k : Nat)]) = true := (Ly.list (k := 0) fun d hd => by rw [List.mem_singleton.mp hd]; exact ly_int _).sh (by decide)
      have s2 : shD (.list []) = true := rfl
      show (if shD (.list [.int (k : Nat)]) && shD (.list []) then some (PyData.eqv (.list [.int (k : Nat)]) (.list [])) else none).map _ = _
      rw [s1, s2]
      rfl
end DL
end L2


set_option Elab.async false
set_option maxRecDepth 100000
set_option maxHeartbeats 4000000
set_option autoImplicit false
namespace L2
namespace DL
open PySem PySem.Spec PyProof.Rows
local instance labNone_K20Y : Lab := { w := none, T := [], gd := True }
/-! ### commands and programs -/
inductive PC : PyData → Prop
  | sort {d : Str} {c : Int} : d ∈ (["down", "up"] : List Str) → 0 ≤ c → c < 4 → PC (.tuple [.str d, .int c])
  | bare {w : Str} : w ∈ (["reverse", "restore"] : List Str) → PC (.tuple [.str w])
  | cut {w : Str} {k : Int} : w ∈ (["first", "last"] : List Str) → 2 ≤ k → k ≤ 29 → PC (.tuple [.str w, .int k])
inductive VL (R : PyData → Nat → Int → Prop) : List PyData → Nat → Int → Prop
  | nil : VL R [] 0 0
  | cons {c : PyData} {cs : List PyData} {a s : Nat} {b k : Int} : R c a b → VL R cs s k → VL R (c :: cs) (a + s) (b + k)
def repC (t : Int) (ps : List PyData) : PyData := .tuple [.str "repeat", .int t, .tuple ps]
/-- a command at most n repeats deep, its size, how many it performs; bounds of times and of what is repeated -/
def VC (tm km : Int) : Nat → PyData → Nat → Int → Prop
  | 0, c, a, b => PC c ∧ a = 1 ∧ b = 1
  | n + 1, c, a, b => (PC c ∧ a = 1 ∧ b = 1) ∨ ∃ (t : Int) (ps : List PyData) (s : Nat) (k : Int), c = repC t ps ∧ 1 ≤ t ∧ t ≤ tm ∧ VL (VC tm km n) ps s k ∧ 0 ≤ k ∧ k ≤ km ∧ a = s + 1 ∧ b = t * k
theorem VL.imp {R S : PyData → Nat → Int → Prop} (h : ∀ c a b, R c a b → S c a b) : ∀ {cs : List PyData} {s : Nat} {k : Int}, VL R cs s k → VL S cs s k
  | _, _, _, .nil => .nil
  | _, _, _, .cons a b => .cons (h _ _ _ a) (VL.imp h b)
theorem VC.up {tm km : Int} : ∀ {n : Nat} {c : PyData} {a : Nat} {b : Int}, VC tm km n c a b → VC tm km (n + 1) c a b
  | 0, _, _, _, h => .inl h
  | n + 1, _, _, _, h => by
    rcases h with h | ⟨t, ps, s, k, e, h1, h2, h3, h4⟩
    · exact .inl h
    · exact .inr ⟨t, ps, s, k, e, h1, h2, h3.imp fun _ _ _ z => VC.up z, h4⟩
theorem VC.mono {tm km tm' km' : Int} (ht : tm ≤ tm') (hk : km ≤ km') : ∀ {n : Nat} {c : PyData} {a : Nat} {b : Int}, VC tm km n c a b → VC tm' km' n c a b
  | 0, _, _, _, h => h
  | n + 1, _, _, _, h => by
    rcases h with h | ⟨t, ps, s, k, e, h1, h2, h3, h4, h5, h6⟩
    · exact .inl h
    · exact .inr ⟨t, ps, s, k, e, h1, Int.le_trans h2 ht, h3.imp fun _ _ _ z => VC.mono ht hk z, h4, Int.le_trans h5 hk, h6⟩
theorem VL.app {R : PyData → Nat → Int → Prop} : ∀ {cs ds : List PyData} {s s' : Nat} {k k' : Int}, VL R cs s k → VL R ds s' k' → VL R (cs ++ ds) (s + s') (k + k')
  | _, _, _, _, _, _, .nil, h => by rw [List.nil_append, Nat.zero_add, Int.zero_add]; exact h
  | _, _, _, _, _, _, .cons a b, h => by
    rw [List.cons_append, Nat.add_assoc, Int.add_assoc]
    exact .cons a (b.app h)
theorem VL.split {R : PyData → Nat → Int → Prop} : ∀ (n : Nat) {cs : List PyData} {s : Nat} {k : Int}, VL R cs s k → ∃ s1 s2 k1 k2, VL R (cs.take n) s1 k1 ∧ VL R (cs.drop n) s2 k2 ∧ s = s1 + s2 ∧ k = k1 + k2
  | 0, _, s, k, h => ⟨0, s, 0, k, .nil, h, by omega, by omega⟩
  | n + 1, _, _, _, .nil => ⟨0, 0, 0, 0, .nil, .nil, rfl, rfl⟩
  | n + 1, _, _, _, .cons (a := a) (b := b) x y => by
    obtain ⟨s1, s2, k1, k2, h1, h2, e1, e2⟩ := VL.split n y
    exact ⟨a + s1, s2, b + k1, k2, .cons x h1, h2, by omega, by omega⟩
theorem VC.one {tm km : Int} {c : PyData} (h : PC c) : ∀ n : Nat, VC tm km n c 1 1
  | 0 => ⟨h, rfl, rfl⟩
  | _ + 1 => .inl ⟨h, rfl, rfl⟩
/-! ### orders and plain commands as data -/
theorem PC.of {p : Pl} (h : PlOk p) : PC (plE p) := by
  cases p with
  | sort d c => exact .sort (by cases d <;> simp [dS]) h.1 h.2
  | rev => exact .bare (by simp)
  | res => exact .bare (by simp)
  | cut f k => exact .cut (by cases f <;> simp [cS]) h.1 h.2
theorem PC.to {c : PyData} (h : PC c) : ∃ p, PlOk p ∧ c = plE p := by
  cases h with
  | @sort d c hd h0 h1 =>
    simp only [List.mem_cons, List.not_mem_nil, or_false] at hd
    rcases hd with rfl | rfl
    · exact ⟨.sort false c, ⟨h0, h1⟩, rfl⟩
    · exact ⟨.sort true c, ⟨h0, h1⟩, rfl⟩
  | @bare w hw =>
    simp only [List.mem_cons, List.not_mem_nil, or_false] at hw
    rcases hw with rfl | rfl
    · exact ⟨.rev, trivial, rfl⟩
    · exact ⟨.res, trivial, rfl⟩
  | @cut w k hw h0 h1 =>
    simp only [List.mem_cons, List.not_mem_nil, or_false] at hw
    rcases hw with rfl | rfl
    · exact ⟨.cut true k, ⟨h0, h1⟩, rfl⟩
    · exact ⟨.cut false k, ⟨h0, h1⟩, rfl⟩
theorem pcs_to : ∀ cs : List PyData, (∀ c ∈ cs, PC c) → ∃ ps : List Pl, cs = ps.map plE ∧ ∀ p ∈ ps, PlOk p
  | [], _ => ⟨[], rfl, fun _ h => nomatch h⟩
  | c :: cs, h => by
    obtain ⟨p, hp, rfl⟩ := (h c List.mem_cons_self).to
    obtain ⟨ps, rfl, hps⟩ := pcs_to cs fun x hx => h x (List.mem_cons_of_mem _ hx)
    refine ⟨p :: ps, rfl, fun q hq => ?_⟩
    rcases List.mem_cons.mp hq with rfl | hq
    · exact hp
    · exact hps q hq
/-- a sort is by a column below -/
def ColB (w : Int) (x : PyData) : Prop := ∀ (d : Str) (c : Int), x = .tuple [.str d, .int c] → d ∈ (["down", "up"] : List Str) → c < w
abbrev stBody := (sSeq (sPar3 6 7 8 (fCons (fCR 0 m__law_draw (fCons (fC (.int 8)) fNil)) (fCons (fCR 0 m__law_draw (fCons (rdF 2) fNil)) (fCons (fBin addD (fC (.int 2)) (fCR 0 m__law_draw (fCons (fBin subD (rdF 3) (fC (.int 1))) fNil))) fNil)))) (sIf (fTst (fBin ltD (rdF 6) (fC (.int 3)))) (sApp 4 (fTup (fCons (fBin ixD (fFrz (fLst (fCons (fC (.str "up")) (fCons (fC (.str "down")) (fCons (fC (.str "up")) fNil))))) (rdF 6)) (fCons (rdF 7) fNil)))) (sIf (fTst (fBin eqD (rdF 6) (fC (.int 3)))) (sApp 4 (fTup (fCons (fC (.str "reverse")) fNil))) (sIf (fTst (fBin eqD (rdF 6) (fC (.int 4)))) (sApp 4 (fTup (fCons (fC (.str "restore")) fNil))) (sApp 4 (fTup (fCons (fBin ixD (fFrz (fLst (fCons (fC (.str "first")) (fCons (fC (.str "last")) (fCons (fC (.str "first")) fNil))))) (fBin subD (rdF 6) (fC (.int 5)))) (fCons (rdF 8) fNil))))))))
theorem step_turn {es found : List PyData} {a t w0 s0 m0 : Option DV} {wide size : Int} (hp : PoolOk es) (hw : 0 < wide ∧ wide ≤ 4) (hs : 2 ≤ size ∧ size ≤ 29) (hl : found.length < 100000) :
    ∃ es' c x y z, stBody [some (.rf es), a, some (.fr (.int wide)), some (.fr (.int size)), some (.ow found), t, w0, s0, m0] = some (.nx [some (.rf es'), a, some (.fr (.int wide)), some (.fr (.int size)), some (.ow (found ++ [c])), t, x, y, z]) ∧ PoolOk es' ∧ (PC c ∧ ColB wide c) := by
  obtain ⟨r1, es1, e1, p1, a1, b1⟩ := draw_spec hp (m := 8) (by omega) (by omega)
  obtain ⟨r2, es2, e2, p2, a2, b2⟩ := draw_spec p1 (m := wide) (by omega) (by omega)
  obtain ⟨r3, es3, e3, p3, a3, b3⟩ := draw_spec p2 (m := size - 1) (by omega) (by omega)
  have h0 : sPar3 6 7 8 (fCons (fCR 0 m__law_draw (fCons (fC (.int 8)) fNil)) (fCons (fCR 0 m__law_draw (fCons (rdF 2) fNil)) (fCons (fBin addD (fC (.int 2)) (fCR 0 m__law_draw (fCons (fBin subD (rdF 3) (fC (.int 1))) fNil))) fNil))) [some (.rf es), a, some (.fr (.int wide)), some (.fr (.int size)), some (.ow found), t, w0, s0, m0] = some (.nx [some (.rf es3), a, some (.fr (.int wide)), some (.fr (.int size)), some (.ow found), t, some (.fr (.int r1)), some (.fr (.int r2)), some (.fr (.int (2 + r3)))]) := by
    simp [sPar3, fCons, fCR, rdO, wrO, fC, fNil, rdF, fBin, intD, addD, e1, e2, e3]
  have hr : r1 = 0 ∨ r1 = 1 ∨ r1 = 2 ∨ r1 = 3 ∨ r1 = 4 ∨ r1 = 5 ∨ r1 = 6 ∨ r1 = 7 := by omega
  have fin : ∀ c, (PC c ∧ ColB wide c) → (sIf (fTst (fBin ltD (rdF 6) (fC (.int 3)))) (sApp 4 (fTup (fCons (fBin ixD (fFrz (fLst (fCons (fC (.str "up")) (fCons (fC (.str "down")) (fCons (fC (.str "up")) fNil))))) (rdF 6)) (fCons (rdF 7) fNil)))) (sIf (fTst (fBin eqD (rdF 6) (fC (.int 3)))) (sApp 4 (fTup (fCons (fC (.str "reverse")) fNil))) (sIf (fTst (fBin eqD (rdF 6) (fC (.int 4)))) (sApp 4 (fTup (fCons (fC (.str "restore")) fNil))) (sApp 4 (fTup (fCons (fBin ixD (fFrz (fLst (fCons (fC (.str "first")) (fCons (fC (.str "last")) (fCons (fC (.str "first")) fNil))))) (fBin subD (rdF 6) (fC (.int 5)))) (fCons (rdF 8) fNil))))))) [some (.rf es3), a, some (.fr (.int wide)), some (.fr (.int size)), some (.ow found), t, some (.fr (.int r1)), some (.fr (.int r2)), some (.fr (.int (2 + r3)))] = some (.nx [some (.rf es3), a, some (.fr (.int wide)), some (.fr (.int size)), some (.ow (found ++ [c])), t, some (.fr (.int r1)), some (.fr (.int r2)), some (.fr (.int (2 + r3)))]) → ∃ es' c x y z, stBody [some (.rf es), a, some (.fr (.int wide)), some (.fr (.int size)), some (.ow found), t, w0, s0, m0] = some (.nx [some (.rf es'), a, some (.fr (.int wide)), some (.fr (.int size)), some (.ow (found ++ [c])), t, x, y, z]) ∧ PoolOk es' ∧ (PC c ∧ ColB wide c) := fun c hc e => ⟨es3, c, _, _, _, ev_seq h0 e, p3, hc⟩
  have ps : ∀ d ∈ (["down", "up"] : List Str), (PC (.tuple [.str d, .int r2]) ∧ ColB wide (.tuple [.str d, .int r2])) := fun d hd => ⟨.sort hd a2 (by omega), fun d' c' e => by cases e; exact fun _ => b2⟩
  have pc : ∀ d ∈ (["first", "last"] : List Str), (PC (.tuple [.str d, .int (2 + r3)]) ∧ ColB wide (.tuple [.str d, .int (2 + r3)])) := fun d hd => ⟨.cut hd (by omega) (by omega), fun d' c' e => by
    cases e
    intro hm
    simp only [List.mem_cons, List.not_mem_nil, or_false] at hd hm
    rcases hd with rfl | rfl <;> rcases hm with h | h <;> exact absurd h (by decide)⟩
  rcases hr with rfl | rfl | rfl | rfl | rfl | rfl | rfl | rfl
  · exact fin _ (ps "up" (by simp)) (by simp [sIf, fTst, fBin, rdF, fC, intD, truthD, sApp, rdO, wrO, fTup, fCons, fNil, fFrz, fLst, ixD, atI, ixN, lim, hl])
  · exact fin _ (ps "down" (by simp)) (by simp [sIf, fTst, fBin, rdF, fC, intD, truthD, sApp, rdO, wrO, fTup, fCons, fNil, fFrz, fLst, ixD, atI, ixN, lim, hl])
  · exact fin _ (ps "up" (by simp)) (by simp [sIf, fTst, fBin, rdF, fC, intD, truthD, sApp, rdO, wrO, fTup, fCons, fNil, fFrz, fLst, ixD, atI, ixN, lim, hl])
  · exact fin _ ⟨.bare (w := "reverse") (by simp), fun d c e => by cases e⟩ (by simp [sIf, fTst, fBin, rdF, fC, intD, truthD, sApp, rdO, wrO, fTup, fCons, fNil, fFrz, fLst, ixD, atI, ixN, lim, hl, eqD, eqB])
  · exact fin _ ⟨.bare (w := "restore") (by simp), fun d c e => by cases e⟩ (by simp [sIf, fTst, fBin, rdF, fC, intD, truthD, sApp, rdO, wrO, fTup, fCons, fNil, fFrz, fLst, ixD, atI, ixN, lim, hl, eqD, eqB])
  · exact fin _ (pc "first" (by simp)) (by simp [sIf, fTst, fBin, rdF, fC, intD, truthD, sApp, rdO, wrO, fTup, fCons, fNil, fFrz, fLst, ixD, atI, ixN, lim, hl, eqD, eqB])
  · exact fin _ (pc "last" (by simp)) (by simp [sIf, fTst, fBin, rdF, fC, intD, truthD, sApp, rdO, wrO, fTup, fCons, fNil, fFrz, fLst, ixD, atI, ixN, lim, hl, eqD, eqB])
  · exact fin _ (pc "first" (by simp)) (by simp [sIf, fTst, fBin, rdF, fC, intD, truthD, sApp, rdO, wrO, fTup, fCons, fNil, fFrz, fLst, ixD, atI, ixN, lim, hl, eqD, eqB])
theorem step_loop {a : Option DV} {wide size : Int} (hw : 0 < wide ∧ wide ≤ 4) (hs : 2 ≤ size ∧ size ≤ 29) : ∀ (xs : List PyData) (es found : List PyData) (t w0 s0 m0 : Option DV), PoolOk es → found.length + xs.length ≤ 100000 → (∀ c ∈ found, PC c ∧ ColB wide c) →
    ∃ es' cs t' x y z, forD (gSet 5) stBody xs [some (.rf es), a, some (.fr (.int wide)), some (.fr (.int size)), some (.ow found), t, w0, s0, m0] = some (.nx [some (.rf es'), a, some (.fr (.int wide)), some (.fr (.int size)), some (.ow cs), t', x, y, z]) ∧ PoolOk es' ∧ (∀ c ∈ cs, PC c ∧ ColB wide c) ∧ cs.length = found.length + xs.length
  | [], es, found, t, w0, s0, m0, hp, hl, hf => ⟨es, found, t, w0, s0, m0, by rw [forD], hp, hf, rfl⟩
  | d :: xs, es, found, t, w0, s0, m0, hp, hl, hf => by
    rw [List.length_cons] at hl
    obtain ⟨es1, c, x, y, z, e1, p1, hc⟩ := step_turn (a := a) (t := some (.fr d)) (w0 := w0) (s0 := s0) (m0 := m0) hp hw hs (found := found) (by omega)
    obtain ⟨es', cs, t', x', y', z', e2, p2, hcs, hlen⟩ := step_loop hw hs xs es1 (found ++ [c]) (some (.fr d)) x y z p1 (by rw [List.length_append, List.length_singleton]; omega) (fun k hk => by
      rcases List.mem_append.mp hk with h | h
      · exact hf k h
      · rw [List.mem_singleton] at h; rw [h]; exact hc)
    refine ⟨es', cs, t', x', y', z', ev_forN rfl e1 e2, p2, hcs, ?_⟩
    rw [hlen, List.length_append, List.length_singleton, List.length_cons]
    omega
theorem stepsW_spec {es : List PyData} (hp : PoolOk es) {most wide size : Int} (hm : 0 ≤ most ∧ most ≤ 1000) (hw : 0 < wide ∧ wide ≤ 4) (hs : 2 ≤ size ∧ size ≤ 29) : ∃ cs es', m__law_steps es [.int most, .int wide, .int size] = some (.tuple cs, es') ∧ PoolOk es' ∧ (∀ c ∈ cs, PC c ∧ ColB wide c) ∧ (cs.length : Int) ≤ most := by
  obtain ⟨d, es1, e1, p1, a1, b1⟩ := draw_spec hp (m := most + 1) (by omega) (by omega)
  obtain ⟨es2, cs, t, x, y, z, e2, p2, hcs, hl⟩ := step_loop (a := some (.fr (.int most))) hw hs (rangeD 0 d.toNat) es1 [] none none none none p1 (by rw [rangeD_len, List.length_nil]; omega) (fun _ h => nomatch h)
  rw [rangeD_len, List.length_nil, Nat.zero_add] at hl
  refine ⟨cs, es2, ?_, p2, hcs, by omega⟩
  have hd : d ≤ 1000000 ∧ -1000000 ≤ d := by omega
  have hcl : cs.length ≤ 100000 := by omega
  refine ev_runR rfl (env := [some (.fr (.int most)), some (.fr (.int wide)), some (.fr (.int size)), some (.fr (.list cs)), t, x, y, z]) ?_
  refine ev_seq (e1 := [some (.rf es), some (.fr (.int most)), some (.fr (.int wide)), some (.fr (.int size)), some (.ow []), none, none, none, none]) rfl ?_
  refine ev_seq (ev_for (e1 := [some (.rf es1), some (.fr (.int most)), some (.fr (.int wide)), some (.fr (.int size)), some (.ow []), none, none, none, none]) ?_ e2) ?_
  · simp [iArg, fCons, fCR, rdO, wrO, fBin, addD, rdF, fC, fNil, e1, rng1, hd]
  · simp [sRet, fCB, fCons, rdF, fNil, tupleD]
def PlW (w : Int) : Pl → Prop
  | .sort _ c => c < w
  | _ => True
theorem pcs_toW {w : Int} (cs : List PyData) (h : ∀ c ∈ cs, PC c ∧ ColB w c) : ∃ ps : List Pl, cs = ps.map plE ∧ (∀ p ∈ ps, PlOk p) ∧ ∀ p ∈ ps, PlW w p := by
  obtain ⟨ps, rfl, h1⟩ := pcs_to cs fun c hc => (h c hc).1
  refine ⟨ps, rfl, h1, fun p hp => ?_⟩
  have h2 := (h (plE p) (List.mem_map_of_mem hp)).2
  cases p with
  | sort d c => exact h2 (dS d) c rfl (by cases d <;> simp [dS])
  | _ => trivial
end DL
end L2


set_option Elab.async false
set_option maxRecDepth 100000
set_option maxHeartbeats 4000000
set_option autoImplicit false
namespace L2
namespace DL
open PySem PySem.Spec PyProof.Rows
local instance labNone_K20C : Lab := { w := none, T := [], gd := True }
/-! ### columns of commands -/
def colsC : (n : Nat) → Cm n → List Int
  | 0, .sort _ c => [c]
  | 0, _ => []
  | _ + 1, .inl (.sort _ c) => [c]
  | _ + 1, .inl _ => []
  | n + 1, .inr (_, ps) => ps.flatMap (colsC n)
def cpE {n : Nat} (cs : List (Cm n)) : PyData := .tuple (cs.map (cmE n))
def colP : Pl → List Int
  | .sort _ c => [c]
  | _ => []
theorem cols0 (p : Cm 0) : colsC 0 p = colP p := by cases p <;> rfl
theorem colsI {n : Nat} (p : Pl) : colsC (n + 1) (.inl p) = colP p := by cases p <;> rfl
end DL
end L2


set_option Elab.async false
set_option maxRecDepth 100000
set_option maxHeartbeats 4000000
set_option autoImplicit false
namespace L2
namespace DL
open PySem PySem.Spec PyProof.Rows
local instance labNone_K20H : Lab := { w := none, T := [], gd := True }
theorem six_none (n d : Nat) : HT.sIx n d none = d := by simp [HT.sIx]
theorem six_some {n d : Nat} {i : Int} (h0 : 0 ≤ i) (h1 : i ≤ n) : HT.sIx n d (some i) = i.toNat := by
  show (if i < 0 then (i + (n : Int)).toNat else min i.toNat n) = _
  rw [if_neg (by omega), Nat.min_eq_left (by omega)]
theorem cut_lo {ds : List PyData} {i : Int} (h0 : 0 ≤ i) (h1 : i ≤ ds.length) : cutD ds none (some i) = ds.take i.toNat := by
  unfold cutD
  rw [six_none, six_some h0 h1, List.drop_zero, Nat.sub_zero]
theorem cut_hi {ds : List PyData} {i : Int} (h0 : 0 ≤ i) (h1 : i ≤ ds.length) : cutD ds (some i) none = ds.drop i.toNat := by
  unfold cutD
  rw [six_none, six_some h0 h1, List.take_of_length_le]
  rw [List.length_drop]
  exact Nat.le_refl _
/-! ### drawn programs that fit a width -/
def mkR {n : Nat} (t : Int) (qs : List (Cm n)) : Cm (n + 1) := .inr (t, qs)
def mkP {n : Nat} (p : Pl) : Cm (n + 1) := .inl p
def inlE {n : Nat} (ps : List Pl) : List (Cm (n + 1)) := ps.map mkP
theorem inlE_e {n : Nat} (ps : List Pl) : (inlE (n := n) ps).map (cmE (n + 1)) = ps.map plE := by unfold inlE; rw [List.map_map]; rfl
def fm : (n : Nat) → Cm n → Nat
  | 0, _ => 1
  | _ + 1, .inl _ => 1
  | n + 1, .inr (_, ps) => 5 * (ps.map (fm n)).sum
structure DrC (W tm : Int) (n : Nat) (c : Cm n) : Prop where
  ok : CmOk tm n c
  co : ∀ x ∈ colsC n c, x < W
theorem sum_app {α : Type} (f : α → Nat) (a b : List α) : ((a ++ b).map f).sum = (a.map f).sum + (b.map f).sum := by rw [List.map_append, List.sum_append]
theorem sum_ins {α : Type} (f : α → Nat) (l : List α) (i : Nat) (x : α) : ((l.take i ++ [x] ++ l.drop i).map f).sum = (l.map f).sum + f x := by
  have h := sum_app f (l.take i) (l.drop i)
  rw [List.take_append_drop] at h
  rw [sum_app, sum_app, h]
  show _ + (f x + 0) + _ = _
  omega
theorem sum_one {α : Type} {f : α → Nat} : ∀ {l : List α}, (∀ x ∈ l, f x = 1) → (l.map f).sum = l.length
  | [], _ => rfl
  | x :: l, h => by
    rw [List.map_cons, List.sum_cons, sum_one fun y hy => h y (List.mem_cons_of_mem _ hy), h x List.mem_cons_self, List.length_cons]
    omega
theorem szI {n : Nat} (ps : List Pl) : ((inlE (n := n) ps).map (szC (n + 1))).sum = ps.length := by
  rw [sum_one (fun x hx => by obtain ⟨p, _, rfl⟩ := List.mem_map.mp hx; rfl), inlE, List.length_map]
theorem fmI {n : Nat} (ps : List Pl) : ((inlE (n := n) ps).map (fm (n + 1))).sum = ps.length := by
  rw [sum_one (fun x hx => by obtain ⟨p, _, rfl⟩ := List.mem_map.mp hx; rfl), inlE, List.length_map]
theorem fm0 : ∀ ps : List (Cm 0), (ps.map (fm 0)).sum = ps.length
  | [] => rfl
  | _ :: ps => by rw [List.map_cons, List.sum_cons, fm0 ps, List.length_cons]; show 1 + _ = _; omega
theorem sz0 : ∀ ps : List (Cm 0), (ps.map (szC 0)).sum = ps.length
  | [] => rfl
  | _ :: ps => by rw [List.map_cons, List.sum_cons, sz0 ps, List.length_cons]; show 1 + _ = _; omega
def PlF (W : Int) (p : Pl) : Prop := PlOk p ∧ ∀ c ∈ colP p, c < W
theorem drc_inl {W tm : Int} {n : Nat} {ps : List Pl} (h : ∀ p ∈ ps, PlF W p) : ∀ c ∈ inlE (n := n) ps, DrC W tm (n + 1) c := fun c hc => by
  obtain ⟨p, hp, rfl⟩ := List.mem_map.mp hc
  exact ⟨(h p hp).1, fun x hx => (h p hp).2 x (by rw [← colsI (n := n) p]; exact hx)⟩
theorem drc_0 {W tm : Int} {ps : List Pl} (h : ∀ p ∈ ps, PlF W p) : ∀ c ∈ ps, DrC W tm 0 c := fun p hp => ⟨(h p hp).1, fun x hx => (h p hp).2 x (by rw [← cols0 p]; exact hx)⟩
theorem drc_rep {W tm t : Int} {n : Nat} {cs : List (Cm n)} (h1 : 1 ≤ t) (h2 : t ≤ tm) (h : ∀ c ∈ cs, DrC W tm n c) : DrC W tm (n + 1) (mkR t cs) := ⟨⟨h1, h2, fun c hc => (h c hc).ok⟩, fun x hx => by
  obtain ⟨c, hc, hx⟩ := List.mem_flatMap.mp (show x ∈ cs.flatMap (colsC n) from hx)
  exact (h c hc).co x hx⟩
theorem stq_spec {es : List PyData} (hp : PoolOk es) {most W size : Int} (hm : 0 ≤ most ∧ most ≤ 1000) (hw : 0 < W ∧ W ≤ 4) (hs : 2 ≤ size ∧ size ≤ 29) : ∃ (ps : List Pl) (es' : List PyData), m__law_steps es [.int most, .int W, .int size] = some (.tuple (ps.map plE), es') ∧ PoolOk es' ∧ (∀ p ∈ ps, PlF W p) ∧ (ps.length : Int) ≤ most := by
  obtain ⟨cs, es', e, p, h, hl⟩ := stepsW_spec hp hm hw hs
  obtain ⟨ps, rfl, h1, h2⟩ := pcs_toW cs h
  rw [List.length_map] at hl
  refine ⟨ps, es', e, p, fun p hp => ⟨h1 p hp, fun c hc => ?_⟩, hl⟩
  have := h2 p hp
  cases p with
  | sort d c' => rw [List.mem_singleton.mp hc]; exact this
  | _ => exact nomatch hc
theorem add_tup {a b : List PyData} (h : a.length + b.length ≤ 100000) : addD (.tuple a) (.tuple b) = some (.tuple (a ++ b)) := if_pos h
abbrev pgHead (g : DEnv → Option DFlow) := (sSeq (sSet 6 (fCR 0 m__law_steps (fCons (fC (.int 4)) (fCons (rdF 1) (fCons (rdF 2) fNil))))) (sSeq (sIf (fTst (fBin eqD (fCR 0 m__law_draw (fCons (fC (.int 3)) fNil)) (fC (.int 0)))) (sSeq (sSet 8 (fBin addD (fC (.int 1)) (fCR 0 m__law_draw (fCons (rdF 3) fNil)))) (sSet 6 (fBin addD (rdF 6) (fTup (fCons (fTup (fCons (fC (.str "repeat")) (fCons (rdF 8) (fCons (fCR 0 m__law_steps (fCons (fC (.int 3)) (fCons (rdF 1) (fCons (rdF 2) fNil)))) fNil)))) fNil))))) sNil) g))
theorem inner_spec {es : List PyData} {W size tm : Int} {f t i7 i8 : Option DV} {i6 : Option DV} (hp : PoolOk es) (hw : 0 < W ∧ W ≤ 4) (hs : 2 ≤ size ∧ size ≤ 29) (ht : 1 ≤ tm ∧ tm ≤ 1000000000000000000000000000000) :
    ∃ (es' : List PyData) (cs : List (Cm 1)) (i8' : Option DV), (∀ g, pgHead g [some (.rf es), some (.fr (.int W)), some (.fr (.int size)), some (.fr (.int tm)), f, t, i6, i7, i8] = g [some (.rf es'), some (.fr (.int W)), some (.fr (.int size)), some (.fr (.int tm)), f, t, some (.fr (.tuple (cs.map (cmE 1)))), i7, i8']) ∧ PoolOk es' ∧ (∀ c ∈ cs, DrC W tm 1 c) ∧ (cs.map (szC 1)).sum ≤ 8 ∧ (cs.map (fm 1)).sum ≤ 19 := by
  obtain ⟨ps, es1, e1, p1, hc, hl⟩ := stq_spec hp (most := 4) (by omega) hw hs
  obtain ⟨d, es2, e2, p2, a2, b2⟩ := draw_spec p1 (m := 3) (by omega) (by omega)
  by_cases hd : d = 0
  · obtain ⟨o, es3, e3, p3, a3, b3⟩ := draw_spec p2 (m := tm) (by omega) (by omega)
    obtain ⟨qs, es4, e4, p4, hq, hql⟩ := stq_spec p3 (most := 3) (by omega) hw hs
    have hdr := drc_rep (W := W) (tm := tm) (t := 1 + o) (n := 0) (cs := qs) (by omega) (by omega) (drc_0 (tm := tm) hq)
    have z1 : szC 1 (mkR (n := 0) (1 + o) qs) = 1 + List.length (α := Pl) qs := congrArg (1 + ·) (sz0 qs)
    have z2 : fm 1 (mkR (n := 0) (1 + o) qs) = 5 * List.length (α := Pl) qs := congrArg (5 * ·) (fm0 qs)
    refine ⟨es4, inlE (n := 0) ps ++ [mkR (n := 0) (1 + o) qs], some (.fr (.int (1 + o))), fun g => ?_, p4, fun c hc' => ?_, ?_, ?_⟩
    · rw [show (inlE (n := 0) ps ++ [mkR (n := 0) (1 + o) qs]).map (cmE 1) = ps.map plE ++ [.tuple [.str "repeat", .int (1 + o), .tuple (qs.map plE)]] by rw [List.map_append, inlE_e]; rfl]
      have c1 : (ps.map plE).length + 1 ≤ 100000 := by rw [List.length_map]; omega
      generalize ps.map plE = A at e1 c1 ⊢
      generalize qs.map plE = B at e4 ⊢
      simp [sSeq, sSet, sIf, fTst, fBin, fCR, rdO, wrO, fCons, fNil, fC, rdF, e1, e2, e3, e4, hd, eqD, eqB, truthD, addD, fTup, lim, c1]
    · rcases List.mem_append.mp hc' with h | h
      · exact drc_inl hc c h
      · rw [List.mem_singleton.mp h]
        exact hdr
    · rw [sum_app, szI]
      show _ + (szC 1 (mkR (n := 0) (1 + o) qs) + 0) ≤ 8
      omega
    · rw [sum_app, fmI]
      show _ + (fm 1 (mkR (n := 0) (1 + o) qs) + 0) ≤ 19
      omega
  · refine ⟨es2, inlE (n := 0) ps, i8, fun g => ?_, p2, drc_inl hc, by rw [szI]; omega, by rw [fmI]; omega⟩
    rw [inlE_e]
    generalize ps.map plE = A at e1 ⊢
    simp [sSeq, sSet, sIf, fTst, fBin, fCR, rdO, wrO, fCons, fNil, fC, rdF, e1, e2, hd, eqD, eqB, truthD, sNil]
abbrev pgBody := (sSeq (sSet 6 (fCR 0 m__law_steps (fCons (fC (.int 4)) (fCons (rdF 1) (fCons (rdF 2) fNil))))) (sSeq (sIf (fTst (fBin eqD (fCR 0 m__law_draw (fCons (fC (.int 3)) fNil)) (fC (.int 0)))) (sSeq (sSet 8 (fBin addD (fC (.int 1)) (fCR 0 m__law_draw (fCons (rdF 3) fNil)))) (sSet 6 (fBin addD (rdF 6) (fTup (fCons (fTup (fCons (fC (.str "repeat")) (fCons (rdF 8) (fCons (fCR 0 m__law_steps (fCons (fC (.int 3)) (fCons (rdF 1) (fCons (rdF 2) fNil)))) fNil)))) fNil))))) sNil) (sSeq (sSet 7 (fCR 0 m__law_draw (fCons (fBin addD (fLenN 4) (fC (.int 1))) fNil))) (sSet 4 (fBin addD (fBin addD (fSl (rdF 4) oNone (oSome (rdF 7))) (fTup (fCons (fTup (fCons (fC (.str "repeat")) (fCons (fBin addD (fC (.int 1)) (fCR 0 m__law_draw (fCons (rdF 3) fNil))) (fCons (rdF 6) fNil)))) fNil))) (fSl (rdF 4) (oSome (rdF 7)) oNone))))))
theorem prog_turn {es : List PyData} {found : List (Cm 2)} {W size tm : Int} {t i6 i7 i8 : Option DV} (hp : PoolOk es) (hw : 0 < W ∧ W ≤ 4) (hs : 2 ≤ size ∧ size ≤ 29) (ht : 1 ≤ tm ∧ tm ≤ 1000000000000000000000000000000) (hf : ∀ c ∈ found, DrC W tm 2 c) (hl : found.length ≤ 50000) :
    ∃ (es' : List PyData) (found' : List (Cm 2)) (a b c : Option DV), pgBody [some (.rf es), some (.fr (.int W)), some (.fr (.int size)), some (.fr (.int tm)), some (.fr (.tuple (found.map (cmE 2)))), t, i6, i7, i8] = some (.nx [some (.rf es'), some (.fr (.int W)), some (.fr (.int size)), some (.fr (.int tm)), some (.fr (.tuple (found'.map (cmE 2)))), t, a, b, c]) ∧ PoolOk es' ∧ (∀ c ∈ found', DrC W tm 2 c) ∧ found'.length = found.length + 1 ∧ (found'.map (szC 2)).sum ≤ (found.map (szC 2)).sum + 9 ∧ (found'.map (fm 2)).sum ≤ (found.map (fm 2)).sum + 95 := by
  obtain ⟨es1, cs, i8', e1, p1, hc, hs1, hf1⟩ := inner_spec (f := some (.fr (.tuple (found.map (cmE 2))))) (t := t) (i6 := i6) (i7 := i7) (i8 := i8) hp hw hs ht
  obtain ⟨at', es2, e2, p2, a2, b2⟩ := draw_spec p1 (m := (found.length : Int) + 1) (by omega) (by omega)
  obtain ⟨o, es3, e3, p3, a3, b3⟩ := draw_spec p2 (m := tm) (by omega) (by omega)
  have hdr := drc_rep (t := 1 + o) (by omega) (by omega) hc
  have z1 : szC 2 (mkR (1 + o) cs) = 1 + (cs.map (szC 1)).sum := rfl
  have z2 : fm 2 (mkR (1 + o) cs) = 5 * (cs.map (fm 1)).sum := rfl
  refine ⟨es3, found.take at'.toNat ++ [mkR (1 + o) cs] ++ found.drop at'.toNat, some (.fr (.tuple (cs.map (cmE 1)))), some (.fr (.int at')), i8', (e1 _).trans ?_, p3, fun c h => ?_, ?_, ?_, ?_⟩
  · rw [show (found.take at'.toNat ++ [mkR (1 + o) cs] ++ found.drop at'.toNat).map (cmE 2) = (found.map (cmE 2)).take at'.toNat ++ [.tuple [.str "repeat", .int (1 + o), .tuple (cs.map (cmE 1))]] ++ (found.map (cmE 2)).drop at'.toNat by rw [List.map_append, List.map_append, List.map_take, List.map_drop]; rfl]
    have hlm : (found.map (cmE 2)).length = found.length := List.length_map ..
    generalize cs.map (cmE 1) = B at *
    generalize found.map (cmE 2) = A at *
    have t1 : (A.take at'.toNat).length + 1 ≤ 100000 := by rw [List.length_take]; omega
    have t2 : (A.take at'.toNat).length + 1 + (A.drop at'.toNat).length ≤ 100000 := by rw [List.length_take, List.length_drop]; omega
    have c1 := cut_lo (ds := A) a2 (by omega)
    have c2 := cut_hi (ds := A) a2 (by omega)
    have t3 : (A.take at'.toNat ++ [PyData.tuple [.str "repeat", .int (1 + o), .tuple B]]).length + (A.drop at'.toNat).length ≤ 100000 := by rw [List.length_append, List.length_singleton]; exact t2
    rw [← hlm] at e2
    refine ev_seq (e1 := [some (.rf es2), some (.fr (.int W)), some (.fr (.int size)), some (.fr (.int tm)), some (.fr (.tuple A)), t, some (.fr (.tuple B)), some (.fr (.int at')), i8']) (by simp [sSet, fCR, rdO, wrO, fCons, fNil, fBin, fLenN, rdB, lenD, addD, fC, e2]) ?_
    refine ev_setE (e1 := [some (.rf es3), some (.fr (.int W)), some (.fr (.int size)), some (.fr (.int tm)), some (.fr (.tuple A)), t, some (.fr (.tuple B)), some (.fr (.int at')), i8']) (ev_bin (e1 := [some (.rf es3), some (.fr (.int W)), some (.fr (.int size)), some (.fr (.int tm)), some (.fr (.tuple A)), t, some (.fr (.tuple B)), some (.fr (.int at')), i8']) (a := .tuple (A.take at'.toNat ++ [.tuple [.str "repeat", .int (1 + o), .tuple B]])) (b := .tuple (A.drop at'.toNat)) ?_ ?_ (add_tup t3)) rfl
    · refine ev_bin (a := .tuple (A.take at'.toNat)) (b := .tuple [.tuple [.str "repeat", .int (1 + o), .tuple B]]) (e1 := [some (.rf es2), some (.fr (.int W)), some (.fr (.int size)), some (.fr (.int tm)), some (.fr (.tuple A)), t, some (.fr (.tuple B)), some (.fr (.int at')), i8']) ?_ ?_ (add_tup t1)
      · simp [fSl, rdF, oNone, oSome, slD, c1]
      · simp [fTup, fCons, fC, fBin, addD, fCR, rdO, wrO, rdF, fNil, e3, lim]
    · simp [fSl, rdF, oNone, oSome, slD, c2]
  · rcases List.mem_append.mp h with h | h
    · rcases List.mem_append.mp h with h | h
      · exact hf c (List.mem_of_mem_take h)
      · rw [List.mem_singleton.mp h]
        exact hdr
    · exact hf c (List.mem_of_mem_drop h)
  · rw [List.length_append, List.length_append, List.length_singleton, List.length_take, List.length_drop]
    omega
  · rw [sum_ins, z1]
    omega
  · rw [sum_ins, z2]
    omega
theorem prog_loop {W size tm : Int} (hw : 0 < W ∧ W ≤ 4) (hs : 2 ≤ size ∧ size ≤ 29) (ht : 1 ≤ tm ∧ tm ≤ 1000000000000000000000000000000) : ∀ (xs : List PyData) (es : List PyData) (found : List (Cm 2)) (t i6 i7 i8 : Option DV), PoolOk es → (∀ c ∈ found, DrC W tm 2 c) → found.length + xs.length ≤ 50000 →
    ∃ (es' : List PyData) (found' : List (Cm 2)) (t' a b c : Option DV), forD (gSet 5) pgBody xs [some (.rf es), some (.fr (.int W)), some (.fr (.int size)), some (.fr (.int tm)), some (.fr (.tuple (found.map (cmE 2)))), t, i6, i7, i8] = some (.nx [some (.rf es'), some (.fr (.int W)), some (.fr (.int size)), some (.fr (.int tm)), some (.fr (.tuple (found'.map (cmE 2)))), t', a, b, c]) ∧ PoolOk es' ∧ (∀ c ∈ found', DrC W tm 2 c) ∧ found'.length = found.length + xs.length ∧ (found'.map (szC 2)).sum ≤ (found.map (szC 2)).sum + 9 * xs.length ∧ (found'.map (fm 2)).sum ≤ (found.map (fm 2)).sum + 95 * xs.length
  | [], es, found, t, i6, i7, i8, hp, hf, _ => ⟨es, found, t, i6, i7, i8, by rw [forD], hp, hf, rfl, Nat.le_refl _, Nat.le_refl _⟩
  | x :: xs, es, found, t, i6, i7, i8, hp, hf, hl => by
    rw [List.length_cons] at hl
    obtain ⟨es1, f1, a, b, c, e1, p1, g1, g2, g3, g4⟩ := prog_turn (t := some (.fr x)) (i6 := i6) (i7 := i7) (i8 := i8) hp hw hs ht hf (by omega)
    obtain ⟨es', f', t', a', b', c', e2, p2, k1, k2, k3, k4⟩ := prog_loop hw hs ht xs es1 f1 (some (.fr x)) a b c p1 g1 (by omega)
    exact ⟨es', f', t', a', b', c', ev_forN rfl e1 e2, p2, k1, by rw [List.length_cons]; omega, by rw [List.length_cons]; omega, by rw [List.length_cons]; omega⟩
theorem prog_spec {es : List PyData} (hp : PoolOk es) {W size tm : Int} (hw : 0 < W ∧ W ≤ 4) (hs : 2 ≤ size ∧ size ≤ 29) (ht : 1 ≤ tm ∧ tm ≤ 1000000000000000000000000000000) :
    ∃ (cs : List (Cm 2)) (es' : List PyData), m__law_program es [.int W, .int size, .int tm] = some (cpE cs, es') ∧ PoolOk es' ∧ (∀ c ∈ cs, DrC W tm 2 c) ∧ cs.length ≤ 8 ∧ (cs.map (szC 2)).sum ≤ 24 ∧ (cs.map (fm 2)).sum ≤ 196 := by
  obtain ⟨ps, es1, e1, p1, hc, hl⟩ := stq_spec hp (most := 6) (by omega) hw hs
  obtain ⟨d, es2, e2, p2, a2, b2⟩ := draw_spec p1 (m := 3) (by omega) (by omega)
  have hlI : (inlE (n := 1) ps).length = ps.length := List.length_map ..
  obtain ⟨es3, cs, t, a, b, c, e3, p3, h1, h2, h3, h4⟩ := prog_loop hw hs ht (rangeD 0 d.toNat) es2 (inlE (n := 1) ps) none none none none p2 (drc_inl hc) (by rw [rangeD_len]; omega)
  rw [rangeD_len] at h2 h3 h4
  rw [szI] at h3
  rw [fmI] at h4
  rw [inlE_e] at e3
  have hd : d ≤ 1000000 ∧ -1000000 ≤ d := by omega
  refine ⟨cs, es3, ?_, p3, h1, by omega, by omega, by omega⟩
  unfold cpE
  generalize cs.map (cmE 2) = C at e3 ⊢
  generalize ps.map plE = A at e1 e3
  refine ev_runR rfl (env := [some (.fr (.int W)), some (.fr (.int size)), some (.fr (.int tm)), some (.fr (.tuple C)), t, a, b, c]) ?_
  refine ev_seq (e1 := [some (.rf es1), some (.fr (.int W)), some (.fr (.int size)), some (.fr (.int tm)), some (.fr (.tuple A)), none, none, none, none]) ?_ ?_
  · simp [sSet, fCR, rdO, wrO, fCons, fNil, fC, rdF, startE, e1]
  · refine ev_seq (ev_for (e1 := [some (.rf es2), some (.fr (.int W)), some (.fr (.int size)), some (.fr (.int tm)), some (.fr (.tuple A)), none, none, none, none]) ?_ e3) rfl
    simp [iArg, fCons, fCR, rdO, wrO, fC, fNil, e2, rng1, hd]
end DL
end L2


set_option Elab.async false
set_option maxRecDepth 100000
set_option maxHeartbeats 4000000
set_option autoImplicit false
namespace L2
namespace DL
open PySem PySem.Spec PyProof.Rows
local instance labNone_K20I : Lab := { w := none, T := [], gd := True }
/-! ### plain commands in words -/
def numT (i : Int) : Str := Str.ofString (toString i)
def tokP : Pl → Str
  | .sort d c => dS d ++ ":" ++ numT c
  | .rev => "reverse"
  | .res => "restore"
  | .cut f k => cS f ++ ":" ++ numT k
theorem all_pl {P : Pl → Prop} (h1 : P .rev) (h2 : P .res) (h3 : ∀ d, P (.sort d 0) ∧ P (.sort d 1) ∧ P (.sort d 2) ∧ P (.sort d 3))
    (h4 : ∀ f, P (.cut f 2) ∧ P (.cut f 3) ∧ P (.cut f 4) ∧ P (.cut f 5) ∧ P (.cut f 6) ∧ P (.cut f 7) ∧ P (.cut f 8) ∧ P (.cut f 9) ∧ P (.cut f 10) ∧ P (.cut f 11) ∧ P (.cut f 12) ∧ P (.cut f 13) ∧ P (.cut f 14) ∧ P (.cut f 15) ∧ P (.cut f 16) ∧ P (.cut f 17) ∧ P (.cut f 18) ∧ P (.cut f 19) ∧ P (.cut f 20) ∧ P (.cut f 21) ∧ P (.cut f 22) ∧ P (.cut f 23) ∧ P (.cut f 24) ∧ P (.cut f 25) ∧ P (.cut f 26) ∧ P (.cut f 27) ∧ P (.cut f 28) ∧ P (.cut f 29)) {p : Pl} (hp : PlOk p) : P p := by
  match p, hp with
  | .rev, _ => exact h1
  | .res, _ => exact h2
  | .sort d c, hp =>
    obtain ⟨a, b⟩ := hp
    obtain ⟨q0, q1, q2, q3⟩ := h3 d
    have : c = 0 ∨ c = 1 ∨ c = 2 ∨ c = 3 := by omega
    rcases this with rfl | rfl | rfl | rfl <;> assumption
  | .cut f k, hp =>
    obtain ⟨a, b⟩ := hp
    have q := h4 f
    have : k = 2 ∨ k = 3 ∨ k = 4 ∨ k = 5 ∨ k = 6 ∨ k = 7 ∨ k = 8 ∨ k = 9 ∨ k = 10 ∨ k = 11 ∨ k = 12 ∨ k = 13 ∨ k = 14 ∨ k = 15 ∨ k = 16 ∨ k = 17 ∨ k = 18 ∨ k = 19 ∨ k = 20 ∨ k = 21 ∨ k = 22 ∨ k = 23 ∨ k = 24 ∨ k = 25 ∨ k = 26 ∨ k = 27 ∨ k = 28 ∨ k = 29 := by omega
    rcases this with rfl | rfl | rfl | rfl | rfl | rfl | rfl | rfl | rfl | rfl | rfl | rfl | rfl | rfl | rfl | rfl | rfl | rfl | rfl | rfl | rfl | rfl | rfl | rfl | rfl | rfl | rfl | rfl <;> simp only [q]
/-- a word: not empty, no space in it, plain signs, short -/
def wordB (w : Str) : Bool := !w.cps.isEmpty && !w.cps.toList.contains 32 && w.cps.toList.all (· < 128) && decide (w.length ≤ 40)
theorem tk_pl {p : Pl} (hp : PlOk p) : (wordB (tokP p) && !decide (tokP p = "(") && !Txt.startswith (tokP p) ")x") = true :=
  all_pl (P := fun p => (wordB (tokP p) && !decide (tokP p = "(") && !Txt.startswith (tokP p) ")x") = true) (by kernel_rfl) (by kernel_rfl) (fun d => by cases d <;> (and_intros <;> kernel_rfl)) (fun g => by cases g <;> (and_intros <;> kernel_rfl)) hp
theorem lw_pl {p : Pl} (hp : PlOk p) (a b c : Option DV) : fTM1 joinG (fC (.str ":")) (fFrz (nLc (iSeq (rdF 2)) (gSet 4) fYes (fCB strC (fCons (rdF 4) fNil)) [4])) [a, b, some (.fr (plE p)), c, none] = some (.str (tokP p), [a, b, some (.fr (plE p)), c, none]) :=
  all_pl (P := fun p => fTM1 joinG (fC (.str ":")) (fFrz (nLc (iSeq (rdF 2)) (gSet 4) fYes (fCB strC (fCons (rdF 4) fNil)) [4])) [a, b, some (.fr (plE p)), c, none] = some (.str (tokP p), [a, b, some (.fr (plE p)), c, none])) (by kernel_rfl) (by kernel_rfl) (fun d => by cases d <;> (and_intros <;> kernel_rfl)) (fun g => by cases g <;> (and_intros <;> kernel_rfl)) hp

end DL
end L2


set_option Elab.async false
set_option maxRecDepth 100000
set_option maxHeartbeats 4000000
set_option autoImplicit false
namespace L2
namespace DL
open PySem PySem.Spec PyProof.Rows
local instance labNone_K20J : Lab := { w := none, T := [], gd := True }
/-! ### numbers in words -/
theorem nm_tl (n : Nat) : TL.tl (numT (n : Int)) = TL.numL n := TL.tl_num n
theorem num_len {n : Nat} (h : n ≤ 1000000000000000000000000000000) : (numT (n : Int)).length ≤ 31 := by
  rw [TL.len_tl, nm_tl]
  exact TL.numL_len (k := 31) (by decide) (by omega)
theorem all_tl (w : Str) (f : Nat → Bool) : w.cps.all f = (TL.tl w).all f := by
  unfold TL.tl
  rw [← Array.all_toList]
theorem ascii_of {w : Str} (h : ∀ c ∈ TL.tl w, c < 128) : Txt.isascii w = true := by
  unfold Txt.isascii
  rw [all_tl, List.all_eq_true]
  exact fun c hc => decide_eq_true (h c hc)
/-! ### the word that ends a repeat -/
def tokR (t : Int) : Str := ")x" ++ numT t
theorem tokR_tl (n : Nat) : TL.tl (tokR n) = 41 :: 120 :: TL.numL n := by
  show TL.tl (")x" ++ numT (n : Int)) = _
  rw [TL.tl_append, nm_tl]
  rfl
theorem tokR_len {n : Nat} (h : n ≤ 1000000000000000000000000000000) : (tokR n).length ≤ 33 := by
  have h1 := num_len h
  rw [TL.len_tl, nm_tl] at h1
  rw [TL.len_tl, tokR_tl, List.length_cons, List.length_cons]
  omega
theorem tokR_word {n : Nat} (h : n ≤ 1000000000000000000000000000000) : wordB (tokR n) = true := by
  have h1 := tokR_tl n
  have hd := TL.numL_digits n
  unfold wordB
  rw [Bool.and_eq_true, Bool.and_eq_true, Bool.and_eq_true]
  have e : (tokR (n : Int)).cps.toList = 41 :: 120 :: TL.numL n := h1
  refine ⟨⟨⟨?_, ?_⟩, ?_⟩, decide_eq_true (Nat.le_trans (tokR_len h) (by decide))⟩
  · rw [Bool.not_eq_true']
    cases hh : (tokR (n : Int)).cps.isEmpty with
    | false => rfl
    | true =>
      rw [Array.isEmpty_iff.mp hh] at e
      cases e
  · rw [e, Bool.not_eq_true']
    cases hh : (41 :: 120 :: TL.numL n).contains 32 with
    | false => rfl
    | true =>
      rw [List.contains_iff_mem] at hh
      rcases List.mem_cons.mp hh with z | hh
      · cases z
      · rcases List.mem_cons.mp hh with z | hh
        · cases z
        · have := hd 32 hh; omega
  · rw [e, List.all_eq_true]
    intro c hc
    rcases List.mem_cons.mp hc with rfl | hc
    · rfl
    · rcases List.mem_cons.mp hc with rfl | hc
      · rfl
      · have := hd c hc
        exact decide_eq_true (by omega)
end DL
end L2


set_option Elab.async false
set_option maxRecDepth 100000
set_option maxHeartbeats 4000000
set_option autoImplicit false
namespace L2
namespace DL
open PySem PySem.Spec PyProof.Rows
local instance labNone_K20K : Lab := { w := none, T := [], gd := True }
/-! ### programs in words -/
def toks : (n : Nat) → Cm n → List Str
  | 0, p => [tokP p]
  | _ + 1, .inl p => [tokP p]
  | n + 1, .inr (t, ps) => "(" :: (ps.flatMap (toks n) ++ [tokR t])
abbrev spS : Str := " "
def jn (ts : List Str) : Str := Txt.join spS ts
theorem tl_jn (ts : List Str) : TL.tl (jn ts) = TL.joinL [32] (ts.map TL.tl) := by
  unfold jn
  rw [TL.join_eq, TL.tl_join]
  rfl
theorem joinL_app (S : List Nat) : ∀ a b : List (List Nat), a ≠ [] → b ≠ [] → TL.joinL S (a ++ b) = TL.joinL S a ++ (S ++ TL.joinL S b)
  | [], _, h, _ => absurd rfl h
  | [p], b, _, hb => by
    cases b with
    | nil => exact absurd rfl hb
    | cons q r => rfl
  | p :: q :: r, b, _, hb => by
    show p ++ (S ++ TL.joinL S ((q :: r) ++ b)) = (p ++ (S ++ TL.joinL S (q :: r))) ++ (S ++ TL.joinL S b)
    rw [joinL_app S (q :: r) b (by simp) hb]
    simp only [List.append_assoc]
/-- joined pieces that are joined themselves -/
theorem joinL_flat (S : List Nat) : ∀ tss : List (List (List Nat)), (∀ ts ∈ tss, ts ≠ []) → TL.joinL S (tss.map (TL.joinL S)) = TL.joinL S tss.flatten
  | [], _ => rfl
  | [ts], _ => by
    show TL.joinL S ts = TL.joinL S (ts ++ [])
    rw [List.append_nil]
  | ts :: us :: r, h => by
    have ih := joinL_flat S (us :: r) fun x hx => h x (List.mem_cons_of_mem _ hx)
    have hu : us ≠ [] := h us (List.mem_cons_of_mem _ List.mem_cons_self)
    show TL.joinL S ts ++ (S ++ TL.joinL S ((us :: r).map (TL.joinL S))) = TL.joinL S (ts ++ (us :: r).flatten)
    rw [ih, joinL_app S ts _ (h ts List.mem_cons_self) (by
      rw [List.flatten_cons]
      intro z
      exact hu (List.append_eq_nil_iff.mp z).1)]
theorem jn_flat (tss : List (List Str)) (h : ∀ ts ∈ tss, ts ≠ []) : jn (tss.map jn) = jn tss.flatten := by
  apply TL.ext_tl
  rw [tl_jn, tl_jn, List.map_map, List.map_flatten, ← joinL_flat [32] (tss.map (List.map TL.tl)) fun ts hts => by
    obtain ⟨us, hus, rfl⟩ := List.mem_map.mp hts
    intro z
    exact h us hus (List.map_eq_nil_iff.mp z), List.map_map]
  congr 1
  exact List.map_congr_left fun ts _ => tl_jn ts
theorem jn_one (t : Str) : jn [t] = t := by
  apply TL.ext_tl
  rw [tl_jn]
  rfl
theorem toks_ne : ∀ (n : Nat) (c : Cm n), toks n c ≠ []
  | 0, _ => List.cons_ne_nil _ _
  | _ + 1, .inl _ => List.cons_ne_nil _ _
  | _ + 1, .inr _ => List.cons_ne_nil _ _
abbrev MX : Int := 1000000000000000000000000000000
theorem rep_nat {t : Int} (h0 : 1 ≤ t) (h1 : t ≤ MX) : ∃ n : Nat, t = n ∧ 1 ≤ n ∧ n ≤ 1000000000000000000000000000000 := by
  have h1 : t ≤ 1000000000000000000000000000000 := h1
  exact ⟨t.toNat, by omega, by omega, by omega⟩
/-- each word is a word; how many there are -/
theorem toks_ok {tm : Int} (ht : tm ≤ MX) : ∀ (n : Nat) (c : Cm n), CmOk tm n c → (∀ w ∈ toks n c, wordB w = true) ∧ (toks n c).length ≤ 2 * szC n c
  | 0, p, h => by
    have := tk_pl (p := p) h
    rw [Bool.and_eq_true, Bool.and_eq_true] at this
    exact ⟨fun w hw => by rw [List.mem_singleton.mp hw]; exact this.1.1, by show 1 ≤ 2; decide⟩
  | _ + 1, .inl p, h => by
    have := tk_pl (p := p) h
    rw [Bool.and_eq_true, Bool.and_eq_true] at this
    exact ⟨fun w hw => by rw [List.mem_singleton.mp hw]; exact this.1.1, by show 1 ≤ 2; decide⟩
  | n + 1, .inr (t, ps), h => by
    obtain ⟨h0, h1, h2⟩ := h
    obtain ⟨k, rfl, k0, k1⟩ := rep_nat h0 (Int.le_trans h1 ht)
    have key : (∀ w ∈ ps.flatMap (toks n), wordB w = true) ∧ (ps.flatMap (toks n)).length ≤ 2 * (ps.map (szC n)).sum := by
      clear h1
      induction ps with
      | nil => exact ⟨fun w hw => (by cases hw), Nat.le_refl _⟩
      | cons c cs ih =>
        obtain ⟨a1, a2⟩ := toks_ok ht n c (h2 c List.mem_cons_self)
        obtain ⟨b1, b2⟩ := ih fun x hx => h2 x (List.mem_cons_of_mem _ hx)
        rw [List.flatMap_cons, List.map_cons, List.sum_cons]
        refine ⟨fun w hw => ?_, by rw [List.length_append]; omega⟩
        rcases List.mem_append.mp hw with z | z
        · exact a1 w z
        · exact b1 w z
    refine ⟨fun w hw => ?_, ?_⟩
    · rcases List.mem_cons.mp hw with rfl | hw
      · kernel_rfl
      · rcases List.mem_append.mp hw with z | z
        · exact key.1 w z
        · rw [List.mem_singleton.mp z]; exact tokR_word k1
    · show ((("(" : Str) :: (ps.flatMap (toks n) ++ [tokR (k : Int)]))).length ≤ 2 * (1 + (ps.map (szC n)).sum)
      rw [List.length_cons, List.length_append, List.length_singleton]
      have := key.2
      omega
theorem tokss_ok {tm : Int} (ht : tm ≤ MX) {n : Nat} : ∀ {cs : List (Cm n)}, (∀ c ∈ cs, CmOk tm n c) → (∀ w ∈ cs.flatMap (toks n), wordB w = true) ∧ (cs.flatMap (toks n)).length ≤ 2 * (cs.map (szC n)).sum
  | [], _ => ⟨fun w hw => (by cases hw), Nat.le_refl _⟩
  | c :: cs, h => by
    obtain ⟨a1, a2⟩ := toks_ok ht n c (h c List.mem_cons_self)
    obtain ⟨b1, b2⟩ := tokss_ok ht (cs := cs) fun x hx => h x (List.mem_cons_of_mem _ hx)
    rw [List.flatMap_cons, List.map_cons, List.sum_cons]
    refine ⟨fun w hw => ?_, by rw [List.length_append]; omega⟩
    rcases List.mem_append.mp hw with z | z
    · exact a1 w z
    · exact b1 w z
theorem word_len {w : Str} (h : wordB w = true) : w.length ≤ 40 := by
  unfold wordB at h
  rw [Bool.and_eq_true] at h
  exact of_decide_eq_true h.2
theorem word_as {w : Str} (h : wordB w = true) : ∀ c ∈ TL.tl w, c < 128 := by
  unfold wordB at h
  rw [Bool.and_eq_true, Bool.and_eq_true, List.all_eq_true] at h
  exact fun c hc => of_decide_eq_true (h.1.2 c hc)
/-- how long joined words are -/
theorem jn_len : ∀ (ts : List Str), (jn ts).length ≤ (ts.map (·.length)).sum + ts.length
  | [] => Nat.zero_le _
  | [t] => by rw [jn_one]; simp
  | t :: u :: r => by
    have ih := jn_len (u :: r)
    have e : TL.tl (jn (t :: u :: r)) = TL.tl t ++ ([32] ++ TL.tl (jn (u :: r))) := by rw [tl_jn, tl_jn]; rfl
    rw [TL.len_tl, e, List.length_append, List.length_append, ← TL.len_tl, ← TL.len_tl]
    simp only [List.map_cons, List.sum_cons, List.length_cons, List.length_nil] at ih ⊢
    omega
theorem words_sum : ∀ {ts : List Str}, (∀ w ∈ ts, wordB w = true) → (ts.map (·.length)).sum ≤ 40 * ts.length
  | [], _ => Nat.le_refl _
  | t :: ts, h => by
    have h1 := word_len (h t List.mem_cons_self)
    have h2 := words_sum (ts := ts) fun x hx => h x (List.mem_cons_of_mem _ hx)
    rw [List.map_cons, List.sum_cons, List.length_cons]
    omega
theorem jn_le {ts : List Str} (h : ∀ w ∈ ts, wordB w = true) : (jn ts).length ≤ 41 * ts.length := by
  have h1 := jn_len ts
  have h2 := words_sum h
  omega
end DL
end L2


set_option Elab.async false
set_option maxRecDepth 100000
set_option maxHeartbeats 4000000
set_option autoImplicit false
namespace L2
namespace DL
open PySem PySem.Spec PyProof.Rows
local instance labNone_K20L : Lab := { w := none, T := [], gd := True }
/-! ### written_command -/
theorem ev_tm1 {g : Str → PyData → Option PyData} {f fe : DEnv → Option (PyData × DEnv)} {env e1 e2 : DEnv} {a : Str} {b d : PyData} (h : f env = some (.str a, e1)) (h2 : fe e1 = some (b, e2)) (h3 : g a b = some d) : fTM1 g f fe env = some (d, e2) := by
  unfold fTM1; rw [h]; show (fe e1).bind _ = _; rw [h2]; show (g a b).map _ = _; rw [h3]; rfl
theorem log_ok {n : Nat} (h : n ≤ 1000000000000000000000000000000) : ((n : Int)).natAbs.log2 < 1920 := by
  rw [Int.natAbs_natCast]
  by_cases h0 : n = 0
  · subst h0; decide
  · rw [Nat.log2_lt h0]
    exact Nat.lt_of_le_of_lt h (by decide +kernel)
theorem joinG_l {ys : List Str} (h : (ys.map (·.length)).sum + ys.length ≤ 100000) : joinG spS (.list (ys.map .str)) = some (.str (jn ys)) := by
  show (strsOf (ys.map PyData.str)).bind _ = _
  rw [strsOf_map]
  show (if (ys.map (·.length)).sum + ys.length * spS.length ≤ lim then some (PyData.str (Txt.join spS ys)) else none) = _
  have : spS.length = 1 := by decide +kernel
  rw [this, Nat.mul_one, if_pos h]
  rfl
theorem szC_pos : ∀ (n : Nat) (c : Cm n), 1 ≤ szC n c
  | 0, _ => Nat.le_refl _
  | _ + 1, .inl _ => Nat.le_refl _
  | _ + 1, .inr _ => Nat.le_add_right _ _
end DL
end L2


set_option Elab.async false
set_option maxRecDepth 100000
set_option maxHeartbeats 4000000
set_option autoImplicit false
namespace L2
namespace DL
open PySem PySem.Spec PyProof.Rows
local instance labNone_K20M : Lab := { w := none, T := [], gd := True }
/-! ### _law_written -/
def lt : (n : Nat) → Cm n → List (List Str)
  | 0, p => [[tokP p]]
  | _ + 1, .inl p => [[tokP p]]
  | n + 1, .inr (t, ps) => [("(" : Str)] :: ((if ps.isEmpty then [] else [ps.flatMap (toks n)]) ++ [[tokR t]])
theorem lt_flat : ∀ (n : Nat) (c : Cm n), (lt n c).flatten = toks n c
  | 0, _ => rfl
  | _ + 1, .inl _ => rfl
  | n + 1, .inr (t, ps) => by
    cases ps with
    | nil => rfl
    | cons c cs =>
      show ([("(" : Str)] ++ (((c :: cs).flatMap (toks n)) ++ ([tokR t] ++ []))) = _
      rw [List.append_nil]
      rfl
theorem flatMap_ne {n : Nat} {c : Cm n} {cs : List (Cm n)} : (c :: cs).flatMap (toks n) ≠ [] := by
  rw [List.flatMap_cons]
  intro z
  exact toks_ne n c (List.append_eq_nil_iff.mp z).1
theorem lt_ne : ∀ (n : Nat) (c : Cm n), ∀ ts ∈ lt n c, ts ≠ []
  | 0, p, ts, h => by rw [List.mem_singleton.mp h]; exact List.cons_ne_nil _ _
  | _ + 1, .inl p, ts, h => by rw [List.mem_singleton.mp h]; exact List.cons_ne_nil _ _
  | n + 1, .inr (t, ps), ts, h => by
    cases ps with
    | nil =>
      rcases List.mem_cons.mp h with rfl | h
      · exact List.cons_ne_nil _ _
      · rw [List.mem_singleton.mp h]; exact List.cons_ne_nil _ _
    | cons c cs =>
      rcases List.mem_cons.mp h with rfl | h
      · exact List.cons_ne_nil _ _
      · rcases List.mem_cons.mp h with rfl | h
        · exact flatMap_ne
        · rw [List.mem_singleton.mp h]; exact List.cons_ne_nil _ _
def lp (n : Nat) (c : Cm n) : List Str := (lt n c).map jn
theorem lps_jn {n : Nat} (cs : List (Cm n)) : jn (cs.flatMap (lp n)) = jn (cs.flatMap (toks n)) := by
  have h := jn_flat (cs.flatMap (lt n)) fun ts hts => by
    obtain ⟨c, _, hc⟩ := List.mem_flatMap.mp hts
    exact lt_ne n c ts hc
  rw [List.map_flatMap] at h
  show jn (cs.flatMap fun c => (lt n c).map jn) = _
  rw [h]
  congr 1
  rw [List.flatMap_def, List.flatten_flatten, List.map_map, List.flatMap_def]
  congr 1
  exact List.map_congr_left fun c _ => lt_flat n c
theorem lp_len {tm : Int} (ht : tm ≤ MX) : ∀ (n : Nat) (c : Cm n), CmOk tm n c → ((lp n c).map (·.length)).sum ≤ 82 * szC n c ∧ (lp n c).length ≤ 3
  | 0, p, h => by
    have := word_len ((toks_ok ht 0 p h).1 _ (List.mem_singleton.mpr rfl))
    show ([jn [tokP p]].map (·.length)).sum ≤ 82 * 1 ∧ 1 ≤ 3
    rw [jn_one]
    refine ⟨?_, by decide⟩
    show (tokP p).length + 0 ≤ _
    omega
  | n + 1, .inl p, h => by
    have := word_len ((toks_ok (n := n + 1) ht (.inl p) h).1 _ (List.mem_singleton.mpr rfl))
    show ([jn [tokP p]].map (·.length)).sum ≤ 82 * 1 ∧ 1 ≤ 3
    rw [jn_one]
    refine ⟨?_, by decide⟩
    show (tokP p).length + 0 ≤ _
    omega
  | n + 1, .inr (t, ps), h => by
    obtain ⟨h0, h1, h2⟩ := h
    obtain ⟨k, rfl, k0, k1⟩ := rep_nat h0 (Int.le_trans h1 ht)
    have h3 := tokR_len k1
    have h4 : ("(" : Str).length = 1 := by decide +kernel
    cases ps with
    | nil =>
      show ([jn [("(" : Str)], jn [tokR (k : Int)]].map (·.length)).sum ≤ 82 * (1 + 0) ∧ 2 ≤ 3
      rw [jn_one, jn_one]
      refine ⟨?_, by decide⟩
      show ("(" : Str).length + ((tokR (k : Int)).length + 0) ≤ _
      omega
    | cons c cs =>
      obtain ⟨a1, a2⟩ := tokss_ok ht h2
      have a3 := jn_le a1
      show ([jn [("(" : Str)], jn ((c :: cs).flatMap (toks n)), jn [tokR (k : Int)]].map (·.length)).sum ≤ 82 * (1 + ((c :: cs).map (szC n)).sum) ∧ 3 ≤ 3
      rw [jn_one, jn_one]
      refine ⟨?_, Nat.le_refl _⟩
      show ("(" : Str).length + ((jn ((c :: cs).flatMap (toks n))).length + ((tokR (k : Int)).length + 0)) ≤ _
      omega
theorem lps_len {tm : Int} (ht : tm ≤ MX) {n : Nat} : ∀ {cs : List (Cm n)}, (∀ c ∈ cs, CmOk tm n c) → ((cs.flatMap (lp n)).map (·.length)).sum ≤ 82 * (cs.map (szC n)).sum ∧ (cs.flatMap (lp n)).length ≤ 3 * (cs.map (szC n)).sum
  | [], _ => ⟨Nat.le_refl _, Nat.le_refl _⟩
  | c :: cs, h => by
    obtain ⟨a1, a2⟩ := lp_len ht n c (h c List.mem_cons_self)
    obtain ⟨b1, b2⟩ := lps_len ht (cs := cs) fun x hx => h x (List.mem_cons_of_mem _ hx)
    have := szC_pos n c
    rw [List.flatMap_cons, List.map_append, List.sum_append, List.length_append, List.map_cons, List.sum_cons]
    omega
theorem ly_dS (b : Bool) : Ly 0 (.str (dS b)) := by cases b <;> exact ⟨by kernel_rfl, rfl, Nat.le_refl _⟩
theorem mem2 {P : PyData → Prop} {a b : PyData} (ha : P a) (hb : P b) : ∀ d ∈ [a, b], P d := fun d hd => by
  rcases List.mem_cons.mp hd with rfl | hd
  · exact ha
  · rw [List.mem_singleton.mp hd]; exact hb
/-! ### commands may be compared -/
theorem ly_w {s : Str} (h : (PyData.str s).canLay0 = true) : Ly 0 (.str s) := ⟨h, rfl, Nat.le_refl _⟩
theorem mem1 {k : Nat} {a : PyData} (h : Ly k a) : ∀ d ∈ [a], Ly k d := fun d hd => by rw [List.mem_singleton.mp hd]; exact h
theorem ly_cS (b : Bool) : Ly 0 (.str (cS b)) := by cases b <;> exact ly_w (by kernel_rfl)
theorem ly_plE : ∀ p : Pl, Ly 1 (plE p)
  | .sort d c => Ly.tuple (mem2 (ly_dS d) (ly_int c))
  | .rev => Ly.tuple (mem1 (ly_w (by kernel_rfl)))
  | .res => Ly.tuple (mem1 (ly_w (by kernel_rfl)))
  | .cut f k => Ly.tuple (mem2 (ly_cS f) (ly_int k))
theorem nb_plE : ∀ p : Pl, nbD (plE p) = true
  | .sort d c => rfl
  | .rev => rfl
  | .res => rfl
  | .cut f k => rfl
theorem ly_cm : ∀ (n : Nat) (c : Cm n), Ly (2 * n + 1) (cmE n c) ∧ nbD (cmE n c) = true
  | 0, p => ⟨ly_plE p, nb_plE p⟩
  | n + 1, .inl p => ⟨(ly_plE p).mono (by omega), nb_plE p⟩
  | n + 1, .inr (t, ps) => by
    have h1 : Ly (2 * n + 2) (.tuple (ps.map (cmE n))) := Ly.tuple fun d hd => by
      obtain ⟨c, _, rfl⟩ := List.mem_map.mp hd
      exact (ly_cm n c).1
    have h2 : nbDs (ps.map (cmE n)) = true := nbDs_all fun d hd => by
      obtain ⟨c, _, rfl⟩ := List.mem_map.mp hd
      exact (ly_cm n c).2
    refine ⟨?_, ?_⟩
    · refine (Ly.tuple (k := 2 * n + 2) fun d hd => ?_).mono (by omega)
      simp only [List.mem_cons, List.not_mem_nil, or_false] at hd
      rcases hd with rfl | rfl | rfl
      · exact (ly_w (by kernel_rfl)).mono (Nat.zero_le _)
      · exact (ly_int t).mono (Nat.zero_le _)
      · exact h1
    · show (true && (true && (nbDs (ps.map (cmE n)) && true))) = true
      rw [h2]; rfl
theorem ly_cp {n : Nat} (cs : List (Cm n)) : Ly (2 * n + 2) (cpE cs) ∧ nbD (cpE cs) = true :=
  ⟨Ly.tuple fun d hd => by
    obtain ⟨c, _, rfl⟩ := List.mem_map.mp hd
    exact (ly_cm n c).1, nbDs_all fun d hd => by
    obtain ⟨c, _, rfl⟩ := List.mem_map.mp hd
    exact (ly_cm n c).2⟩
theorem eq_cp {n : Nat} (hn : n ≤ 3) (cs ds : List (Cm n)) : ∃ r, eqD (cpE cs) (cpE ds) = some (.bool r) ∧ neD (cpE cs) (cpE ds) = some (.bool (!r)) ∧ (r = true ↔ cpE cs = cpE ds) := by
  obtain ⟨r, e, h⟩ := eqB_nb (ly_cp cs).1 (ly_cp ds).1 (by omega) (by omega) (ly_cp cs).2 (ly_cp ds).2
  exact ⟨r, by unfold eqD; rw [e]; rfl, by unfold neD; rw [e]; rfl, h⟩
end DL
end L2


set_option Elab.async false
set_option maxRecDepth 100000
set_option maxHeartbeats 4000000
set_option autoImplicit false
namespace L2
namespace DL
open PySem PySem.Spec PyProof.Rows
local instance labNone_K20N : Lab := { w := none, T := [], gd := True }
/-! ### _law_written of a program -/
abbrev lwBody (g : Nat) := (sIf (fTst (fBin eqD (fIxN 2 (fC (.int 0))) (fC (.str "repeat")))) (sSeq (sSetN 3 (nRepL (fLst (fCons (fCB (rc__law_written g 0) (fCons (fIxN 2 (fC (.int 2))) fNil)) fNil)) (fCB intOfD (fCons (fBin neD (fIxN 2 (fC (.int 2))) (fTup fNil)) fNil)))) (sSetN 1 (nAdd (fFrz (nAdd (fFrz (nAdd (rdF 1) (fFrz (fLst (fCons (fC (.str "(")) fNil))))) (rdF 3))) (fFrz (fLst (fCons (fBin addD (fC (.str ")x")) (fCB strC (fCons (fIxN 2 (fC (.int 1))) fNil))) fNil)))))) (sApp 1 (fTM1 joinG (fC (.str ":")) (fFrz (nLc (iSeq (rdF 2)) (gSet 4) fYes (fCB strC (fCons (rdF 4) fNil)) [4])))))
abbrev lwE (P : PyData) (found : List Str) (z i : Option DV) : DEnv := [some (.fr P), some (.ow (found.map .str)), z, i, none]
theorem pl_head {p : Pl} (hp : PlOk p) (a b c e : Option DV) : fTst (fBin eqD (fIxN 2 (fC (.int 0))) (fC (.str "repeat"))) [a, b, some (.fr (plE p)), c, e] = some (false, [a, b, some (.fr (plE p)), c, e]) := by
  cases p with
  | sort d c => cases d <;> kernel_rfl
  | rev => kernel_rfl
  | res => kernel_rfl
  | cut f k => cases f <;> kernel_rfl
theorem neq_emp {n : Nat} (hn : n ≤ 3) (ps : List (Cm n)) : neD (.tuple (ps.map (cmE n))) (.tuple []) = some (.bool (!ps.isEmpty)) := by
  obtain ⟨r, _, e2, h⟩ := eq_cp hn ps []
  have : (r = true ↔ ps = []) := by
    rw [h]
    constructor
    · intro z
      injection z with z
      exact List.map_eq_nil_iff.mp z
    · rintro rfl; rfl
  have e3 : neD (.tuple (ps.map (cmE n))) (.tuple []) = some (.bool (!r)) := e2
  rw [e3]
  congr 2
  cases r with
  | true => rw [this.mp rfl]; rfl
  | false =>
    cases ps with
    | nil => exact absurd (this.mpr rfl) (by decide)
    | cons _ _ => rfl
theorem lw_pl_turn {P : PyData} {g : Nat} {n : Nat} {p : Pl} {found : List Str} {i : Option DV} (hp : PlOk p) (hl : found.length < 100000) : lwBody g (lwE P found (some (.fr (plE p))) i) = some (.nx (lwE P (found ++ [tokP p]) (some (.fr (plE p))) i)) := by
  refine ev_ifF (pl_head hp _ _ _ _) (ev_app (es0 := found.map .str) (es := found.map .str) rfl (lw_pl hp _ _ _) rfl (by show (found.map PyData.str).length < 100000; rw [List.length_map]; exact hl) ?_)
  show [some (DV.fr P), some (.ow (found.map PyData.str ++ [.str (tokP p)])), some (.fr (plE p)), i, none] = _
  unfold lwE
  rw [List.map_append]; rfl
theorem lw_rep_turn {P : PyData} {g n k : Nat} {ps : List (Cm n)} {found : List Str} {i : Option DV} {T : Str} (hn : n ≤ 3) (k1 : k ≤ 1000000000000000000000000000000) (hl : found.length + 10 < 100000) (hT : ps ≠ [] → T = jn (ps.flatMap (toks n))) (hin : rc__law_written g 0 [.tuple (ps.map (cmE n))] = some (.str T)) :
    ∃ i', lwBody g (lwE P found (some (.fr (repE k (ps.map (cmE n))))) i) = some (.nx (lwE P (found ++ lp (n + 1) (.inr ((k : Int), ps))) (some (.fr (repE k (ps.map (cmE n))))) i')) := by
  let X : List PyData := ps.map (cmE n)
  let R : PyData := .tuple [.str "repeat", .int (k : Nat), .tuple X]
  let E0 : DEnv := lwE P found (some (.fr R)) i
  have ix0 : fIxN 2 (fC (.int 0)) E0 = some (.str "repeat", E0) := ev_ixN (i := .int 0) (d0 := R) (d := R) rfl rfl rfl rfl
  have ix2 : fIxN 2 (fC (.int 2)) E0 = some (.tuple X, E0) := ev_ixN (i := .int 2) (d0 := R) (d := R) rfl rfl rfl rfl
  have t1 : fTst (fBin eqD (fIxN 2 (fC (.int 0))) (fC (.str "repeat"))) E0 = some (true, E0) := ev_tst (d := .bool true) (ev_bin ix0 rfl (by kernel_rfl)) rfl
  have t2 : fCB intOfD (fCons (fBin neD (fIxN 2 (fC (.int 2))) (fTup fNil)) fNil) E0 = some (.int (if ps.isEmpty then 0 else 1), E0) := by
    refine ev_cb (ev_cons (ev_bin ix2 rfl (neq_emp hn ps)) ev_nil) ?_
    cases ps <;> rfl
  let In : List Str := if ps.isEmpty then [] else [T]
  have t3 : nRepL (fLst (fCons (fCB (rc__law_written g 0) (fCons (fIxN 2 (fC (.int 2))) fNil)) fNil)) (fCB intOfD (fCons (fBin neD (fIxN 2 (fC (.int 2))) (fTup fNil)) fNil)) E0 = some (In.map .str, E0) := by
    have h := ev_repL (k := if ps.isEmpty then 0 else 1) (ev_lst (ev_cons (ev_cb (ev_cons ix2 ev_nil) hin) ev_nil) (by show 1 ≤ 100000; decide)) t2 (by
      cases ps with
      | nil => exact ⟨show (0 : Int) ≤ 0 by decide, show (0 : Int) ≤ 1000 by decide, show 1 ≤ 100 by decide⟩
      | cons _ _ => exact ⟨show (0 : Int) ≤ 1 by decide, show (1 : Int) ≤ 1000 by decide, show 1 ≤ 100 by decide⟩)
    rw [h]
    cases ps <;> rfl
  let E1 : DEnv := lwE P found (some (.fr R)) (some (.ow (In.map .str)))
  let E2 : DEnv := [some (.fr P), some (.fr (.list (found.map .str))), some (.fr R), some (.ow (In.map .str)), none]
  let E3 : DEnv := [some (.fr P), some (.fr (.list (found.map .str))), some (.fr R), some (.fr (.list (In.map .str))), none]
  have hIn : In.length ≤ 1 := by
    cases ps with
    | nil => exact Nat.zero_le _
    | cons _ _ => exact Nat.le_refl _
  have t4 : fBin addD (fC (.str ")x")) (fCB strC (fCons (fIxN 2 (fC (.int 1))) fNil)) E3 = some (.str (tokR k), E3) := by
    refine ev_bin rfl (ev_cb (ev_cons (ev_ixN (i := .int 1) (d0 := R) (d := R) rfl rfl rfl rfl) ev_nil) (if_pos (log_ok k1))) ?_
    have := num_len k1
    have h2 : (")x" : Str).length = 2 := by decide +kernel
    exact if_pos (show (")x" : Str).length + (numT k).length ≤ 100000 by omega)
  have e : (found.map PyData.str ++ [.str "("]) ++ In.map .str ++ [.str (tokR k)] = (found ++ lp (n + 1) (.inr ((k : Int), ps))).map .str := by
    have : lp (n + 1) (.inr ((k : Int), ps)) = ("(" : Str) :: (In ++ [tokR k]) := by
      show ((lt (n + 1) (.inr ((k : Int), ps))).map jn) = _
      cases ps with
      | nil =>
        show [jn [("(" : Str)], jn [tokR (k : Int)]] = [("(" : Str), tokR k]
        rw [jn_one, jn_one]
      | cons c cs =>
        show [jn [("(" : Str)], jn ((c :: cs).flatMap (toks n)), jn [tokR (k : Int)]] = [("(" : Str), T, tokR k]
        rw [jn_one, jn_one, hT (by simp)]
    rw [this, List.map_append, List.map_cons, List.map_append]
    simp [List.append_assoc]
  refine ⟨some (.fr (.list (In.map .str))), ev_ifT t1 (ev_seq (e1 := E1) (ev_setN t3 rfl) (ev_setN (e1 := E3) (ds := (found ++ lp (n + 1) (.inr ((k : Int), ps))).map .str) ?_ rfl))⟩
  rw [← e]
  refine ev_nAdd (ev_frz (ev_nAdd (ev_frz (ev_nAdd (a := found.map .str) (b := [.str "("]) (e1 := E2) rfl (ev_frz (ev_lst (ev_cons rfl ev_nil) (by show 1 ≤ 100000; decide))) ?_)) (b := In.map .str) (e2 := E3) rfl ?_)) (ev_frz (ev_lst (ev_cons t4 ev_nil) (by show 1 ≤ 100000; decide))) ?_
  · show (found.map PyData.str).length + 1 ≤ 100000
    rw [List.length_map]; omega
  · show (found.map PyData.str ++ [PyData.str "("]).length + (In.map PyData.str).length ≤ 100000
    rw [List.length_append, List.length_map, List.length_map, List.length_singleton]; omega
  · show ((found.map PyData.str ++ [PyData.str "("]) ++ In.map PyData.str).length + 1 ≤ 100000
    rw [List.length_append, List.length_append, List.length_map, List.length_map, List.length_singleton]; omega
end DL
end L2


set_option Elab.async false
set_option maxRecDepth 100000
set_option maxHeartbeats 4000000
set_option autoImplicit false
namespace L2
namespace DL
open PySem PySem.Spec PyProof.Rows
local instance labNone_K20O : Lab := { w := none, T := [], gd := True }
theorem lw_prog {tm : Int} (ht : tm ≤ MX) : ∀ (n f : Nat), n + 1 ≤ f → n ≤ 3 → ∀ cs : List (Cm n), (∀ c ∈ cs, CmOk tm n c) → (cs.map (szC n)).sum ≤ 400 → rc__law_written f 0 [.tuple (cs.map (cmE n))] = some (.str (jn (cs.flatMap (toks n)))) := by
  intro n
  induction n with
  | zero =>
    intro f hf hn cs h hs
    obtain ⟨g, rfl⟩ : ∃ g, f = g + 1 := ⟨f - 1, by omega⟩
    let P : PyData := .tuple (cs.map (cmE 0))
    have loop : ∀ (cs : List (Cm 0)) (found : List Str) (z i : Option DV), (∀ c ∈ cs, CmOk tm 0 c) → found.length + 3 * (cs.map (szC 0)).sum + 10 < 100000 → ∃ z' i', forD (gSet 2) (lwBody g) (cs.map (cmE 0)) (lwE P found z i) = some (.nx (lwE P (found ++ cs.flatMap (lp 0)) z' i')) := by
      intro cs
      induction cs with
      | nil => intro found z i _ _; exact ⟨z, i, by rw [List.flatMap_nil, List.append_nil]; rfl⟩
      | cons c cs ih =>
        intro found z i hc hl
        rw [List.map_cons, List.sum_cons] at hl
        have e1 := lw_pl_turn (P := P) (g := g) (n := 0) (p := c) (found := found) (i := i) (hc c List.mem_cons_self) (by omega)
        obtain ⟨z', i', e2⟩ := ih (found ++ [tokP c]) (some (.fr (plE c))) i (fun x hx => hc x (List.mem_cons_of_mem _ hx)) (by
          rw [List.length_append, List.length_singleton]
          have : szC 0 c = 1 := rfl
          omega)
        refine ⟨z', i', ?_⟩
        have e3 : found ++ (c :: cs).flatMap (lp 0) = (found ++ [tokP c]) ++ cs.flatMap (lp 0) := by
          rw [List.flatMap_cons, List.append_assoc]
          congr 2
        rw [e3]
        exact ev_forN rfl e1 e2
    obtain ⟨z', i', e⟩ := loop cs [] none none h (by show 0 + _ + 10 < _; omega)
    rw [List.nil_append] at e
    obtain ⟨b1, b2⟩ := lps_len ht h
    refine ev_runF rfl (ev_seq (e1 := lwE P [] none none) (ev_setN (ev_lst ev_nil (by show 0 ≤ 100000; decide)) rfl) (ev_seq (ev_for (ev_seqI rfl rfl) e) (ev_ret (ev_tm1 (a := spS) rfl rfl ?_))))
    rw [joinG_l (by omega), lps_jn]
  | succ n ihn =>
    intro f hf hn cs h hs
    obtain ⟨g, rfl⟩ : ∃ g, f = g + 1 := ⟨f - 1, by omega⟩
    let P : PyData := .tuple (cs.map (cmE (n + 1)))
    have loop : ∀ (cs : List (Cm (n + 1))) (found : List Str) (z i : Option DV), (∀ c ∈ cs, CmOk tm (n + 1) c) → (cs.map (szC (n + 1))).sum ≤ 400 → found.length + 3 * (cs.map (szC (n + 1))).sum + 10 < 100000 → ∃ z' i', forD (gSet 2) (lwBody g) (cs.map (cmE (n + 1))) (lwE P found z i) = some (.nx (lwE P (found ++ cs.flatMap (lp (n + 1))) z' i')) := by
      intro cs
      induction cs with
      | nil => intro found z i _ _ _; exact ⟨z, i, by rw [List.flatMap_nil, List.append_nil]; rfl⟩
      | cons c cs ih =>
        intro found z i hc hs hl
        rw [List.map_cons, List.sum_cons] at hl hs
        have hp := szC_pos (n + 1) c
        have turn : ∃ z1 i1, (lwBody g (lwE P found (some (.fr (cmE (n + 1) c))) i) = some (.nx (lwE P (found ++ lp (n + 1) c) z1 i1))) := by
          match c, hc c List.mem_cons_self with
          | .inl p, hp =>
            refine ⟨some (.fr (plE p)), i, ?_⟩
            rw [show lp (n + 1) (.inl p) = [tokP p] from congrArg (fun t => [t]) (jn_one _)]
            exact lw_pl_turn (P := P) (g := g) (n := n) (p := p) (found := found) (i := i) hp (by omega)
          | .inr (t, ps), hp =>
            obtain ⟨h0, h1, h2⟩ := hp
            obtain ⟨k, rfl, k0, k1⟩ := rep_nat h0 (Int.le_trans h1 ht)
            have hsz : szC (n + 1) (.inr ((k : Int), ps)) = 1 + (ps.map (szC n)).sum := rfl
            obtain ⟨i', e⟩ := lw_rep_turn (P := P) (g := g) (n := n) (k := k) (ps := ps) (found := found) (i := i) (by omega) k1 (by omega) (fun _ => rfl) (ihn g (by omega) (by omega) ps h2 (by omega))
            exact ⟨_, i', e⟩
        obtain ⟨z1, i1, e1⟩ := turn
        have hlp := (lp_len ht (n + 1) c (hc c List.mem_cons_self)).2
        obtain ⟨z', i', e2⟩ := ih (found ++ lp (n + 1) c) z1 i1 (fun x hx => hc x (List.mem_cons_of_mem _ hx)) (by omega) (by rw [List.length_append]; omega)
        refine ⟨z', i', ?_⟩
        rw [List.flatMap_cons, ← List.append_assoc]
        exact ev_forN rfl e1 e2
    obtain ⟨z', i', e⟩ := loop cs [] none none h hs (by show 0 + _ + 10 < _; omega)
    rw [List.nil_append] at e
    obtain ⟨b1, b2⟩ := lps_len ht h
    refine ev_runF rfl (ev_seq (e1 := lwE P [] none none) (ev_setN (ev_lst ev_nil (by show 0 ≤ 100000; decide)) rfl) (ev_seq (ev_for (ev_seqI rfl rfl) e) (ev_ret (ev_tm1 (a := spS) rfl rfl ?_))))
    rw [joinG_l (by omega), lps_jn]
end DL
end L2


set_option Elab.async false
set_option maxRecDepth 100000
set_option maxHeartbeats 4000000
set_option autoImplicit false
namespace L2
namespace DL
open PySem PySem.Spec PyProof.Rows
local instance labNone_K20Q : Lab := { w := none, T := [], gd := True }
/-! ### plain texts -/
def Asc (s : Str) : Prop := ∀ c ∈ TL.tl s, c < 128
structure Tx0 (B : Nat) (s : Str) : Prop where
  a : Asc s
  l : s.length ≤ B
theorem Tx0.mono {A B : Nat} {s : Str} (h : Tx0 A s) (k : A ≤ B) : Tx0 B s := ⟨h.a, Nat.le_trans h.l k⟩
theorem asc_dec {s : Str} (B : Nat) (h : ((TL.tl s).all (fun c => decide (c < 128)) && decide (s.length ≤ B)) = true) : Tx0 B s := by
  rw [Bool.and_eq_true, List.all_eq_true, decide_eq_true_eq] at h
  exact ⟨fun c hc => of_decide_eq_true (h.1 c hc), h.2⟩
theorem asc_ok {s : Str} (h : Asc s) : PyData.strOk s = true := by
  unfold PyData.strOk
  rw [all_tl, List.all_eq_true]
  exact fun c hc => decide_eq_true (by have := h c hc; omega)
theorem asc_sh {s : Str} (h : Asc s) : shD (.str s) = true := by
  have hl : PyData.canLay0 (.str s) = true := asc_ok h
  show (PyData.canLay0 (.str s) && decide ((PyData.str s).depth ≤ 64) && !(PyData.str s).hasDict) = true
  rw [hl]
  rfl
theorem asc_gd {s : Str} (h : Asc s) : gdD (.str s) = true := asc_sh h
/-! ### numbers -/
def digC (c : Nat) : Bool := decide (48 ≤ c) && decide (c ≤ 57)
def figL (l : List Nat) : Bool := l == [48] || (!l.isEmpty && l.head? != some 48 && l.all digC)
theorem dig_uni : ∀ c : Nat, c < 128 → Unicode.isDigit c = digC c := by decide +kernel
theorem dig_in : ∀ c : Nat, c < 128 → (Builtin.Str.occurrences "0123456789" ⟨#[c]⟩ 0 ("0123456789" : Str).length 1).isEmpty = !digC c := by decide +kernel
theorem isdigit_asc {t : Str} (h : Asc t) : Txt.isdigit t = (!(TL.tl t).isEmpty && (TL.tl t).all digC) := by
  unfold Txt.isdigit
  rw [all_tl, TL.len_tl]
  have e : (TL.tl t).all Unicode.isDigit = (TL.tl t).all digC := by
    have : ∀ l : List Nat, (∀ c ∈ l, c < 128) → l.all Unicode.isDigit = l.all digC := fun l => by
      induction l with
      | nil => exact fun _ => rfl
      | cons c l ih => intro hl; rw [List.all_cons, List.all_cons, dig_uni c (hl c List.mem_cons_self), ih fun x hx => hl x (List.mem_cons_of_mem _ hx)]
    exact this _ h
  rw [e]
  cases TL.tl t <;> rfl
theorem str0 {t : Str} : t = "0" ↔ TL.tl t = [48] := by
  constructor
  · rintro rfl; rfl
  · intro h; exact TL.ext_tl h
theorem strE {t : Str} : t = "" ↔ TL.tl t = [] := by
  constructor
  · rintro rfl; rfl
  · intro h; exact TL.ext_tl h
theorem ch0 (c : Nat) : ((⟨#[c]⟩ : Str) = "0") ↔ c = 48 := by
  rw [str0]
  constructor
  · intro h; cases h; rfl
  · rintro rfl; rfl
theorem ix_head {t : Str} {c : Nat} {r : List Nat} (h : TL.tl t = c :: r) (hl : t.length ≤ lim) : ixT (.str t) (.int 0) = some (.str ⟨#[c]⟩) := by
  show (if t.length ≤ lim then (atI t.cps.toList 0).map fun c => PyData.str ⟨#[c]⟩ else none) = _
  rw [if_pos hl]
  have e' : t.cps.toList = c :: r := h
  rw [e']
  unfold atI
  have : ixN (c :: r).length 0 = some 0 := by
    unfold ixN
    rw [if_pos (by decide), if_pos (by rw [List.length_cons]; omega)]
    rfl
  rw [this]
  rfl
theorem fig_spec {t : Str} (h : Asc t) (hl : t.length ≤ lim) : m__law_is_figure [.str t] = some (.bool (figL (TL.tl t))) := by
  let E : DEnv := [some (.fr (.str t)), none]
  have e1 : fBin eqD (rdF 0) (fC (.str "0")) E = some (.bool (decide (t = "0")), E) := ev_bin rfl rfl rfl
  have e2 : fBin neD (rdF 0) (fC (.str "")) E = some (.bool (!decide (t = "")), E) := ev_bin rfl rfl rfl
  refine ev_runF (env := E) rfl (ev_ret ?_)
  by_cases h0 : t = "0"
  · subst h0
    exact ev_orV1 e1
  rw [decide_eq_false h0] at e1
  have hne0 : TL.tl t ≠ [48] := fun z => h0 (str0.mpr z)
  refine ev_orV0 e1 ?_
  by_cases hE : t = ""
  · subst hE
    exact ev_andV0 e2
  rw [decide_eq_false hE] at e2
  have hne : TL.tl t ≠ [] := fun z => hE (strE.mpr z)
  refine ev_andV e2 ?_
  cases e : TL.tl t with
  | nil => exact absurd e hne
  | cons c r =>
    have ex : fBin ixT (rdF 0) (fC (.int 0)) E = some (.str ⟨#[c]⟩, E) := ev_bin rfl rfl (ix_head e hl)
    have e3 : fBin neD (fBin ixT (rdF 0) (fC (.int 0))) (fC (.str "0")) E = some (.bool (!decide ((⟨#[c]⟩ : Str) = "0")), E) := ev_bin ex rfl rfl
    have hfig : figL (c :: r) = (!decide (c = 48) && (c :: r).all digC) := by
      unfold figL
      have : ((c :: r) == [48]) = false := by
        rw [← e]
        exact beq_eq_false_iff_ne.mpr hne0
      rw [this]
      by_cases hc : c = 48
      · subst hc; rfl
      · show (false || (true && ((some c : Option Nat) != some 48) && (c :: r).all digC)) = _
        have : ((some c : Option Nat) != some 48) = true := by simpa using hc
        rw [this, decide_eq_false hc]
        rfl
    rw [hfig]
    by_cases hc : c = 48
    · rw [decide_eq_true ((ch0 c).mpr hc)] at e3
      rw [decide_eq_true hc]
      exact ev_andV0 e3
    rw [decide_eq_false (fun z => hc ((ch0 c).mp z))] at e3
    rw [decide_eq_false hc]
    refine ev_andV e3 ?_
    have lc := lc_img (i := 1) (fe := fBin inSD (rdF 1) (fC (.str "0123456789"))) (e := chS) (q := fun c => PyData.bool (digC c)) (env := E) rfl (TL.tl t) fun c hc => by
      refine ev_bin rfl rfl ?_
      show some (PyData.bool (!(Builtin.Str.occurrences "0123456789" ⟨#[c]⟩ 0 ("0123456789" : Str).length 1).isEmpty)) = _
      rw [dig_in c (h c hc), Bool.not_not]
    have hlen : ((TL.tl t).map chS).length ≤ lim := by rw [List.length_map, ← TL.len_tl]; exact hl
    rw [← e]
    exact ev_cb (ev_cons (ev_frz (ev_lc (ds := (TL.tl t).map chS) (e1 := E) rfl hlen rfl lc)) ev_nil) (all_map digC (TL.tl t))
/-- the number that is written -/
abbrev valS (t : Str) : Int := ((NumText.digitsVal (TL.tl t) : Nat) : Int)
theorem fig_digits {l : List Nat} (h : figL l = true) : NumText.AllDigits l ∧ l ≠ [] := by
  unfold figL at h
  rw [Bool.or_eq_true] at h
  rcases h with h | h
  · rw [beq_iff_eq.mp h]
    exact ⟨fun c hc => by rw [List.mem_singleton.mp hc]; decide, by simp⟩
  · rw [Bool.and_eq_true, Bool.and_eq_true] at h
    refine ⟨fun c hc => ?_, fun z => by subst z; cases h.1.1⟩
    have := List.all_eq_true.mp h.2 c hc
    unfold digC at this
    rw [Bool.and_eq_true, decide_eq_true_eq, decide_eq_true_eq] at this
    exact this
theorem int_fig {t : Str} (h : figL (TL.tl t) = true) (hl : t.length ≤ 4300) : PySem.intText? t = some (valS t) := by
  obtain ⟨a, b⟩ := fig_digits h
  exact PySem.intText_digits a b hl
theorem intLC_fig {t : Str} (ha : Asc t) (h : figL (TL.tl t) = true) (hl : t.length ≤ 4300) : intLC [.str t] = some (.int (valS t)) := by
  show (if t.length ≤ 640 ∨ t.length ≤ lim ∧ t.cps.all (· < 128) = true then (PySem.intText? t).map PyData.int else none) = _
  rw [if_pos (.inr ⟨Nat.le_trans hl (by decide), by rw [all_tl, List.all_eq_true]; exact fun c hc => decide_eq_true (ha c hc)⟩), int_fig h hl]
  rfl
/-- a number that is written by many signs is great -/
theorem fold_ge : ∀ (l : List Nat) (a : Nat), 10 ^ l.length * a ≤ l.foldl (fun acc c => acc * 10 + (c - 48)) a
  | [], a => by show 10 ^ 0 * a ≤ a; rw [Nat.pow_zero, Nat.one_mul]; exact Nat.le_refl _
  | x :: l, a => by
    refine Nat.le_trans ?_ (fold_ge l (a * 10 + (x - 48)))
    rw [List.length_cons, Nat.pow_succ, Nat.mul_assoc]
    exact Nat.mul_le_mul_left _ (by omega)
theorem val_ge (l : List Nat) (c : Nat) (h : ∀ x ∈ c :: l, 48 ≤ x ∧ x ≤ 57) (hc : c ≠ 48) : 10 ^ l.length ≤ NumText.digitsVal (c :: l) := by
  have h1 := h c List.mem_cons_self
  have h2 := fold_ge l (0 * 10 + (c - 48))
  have h3 : 10 ^ l.length * 1 ≤ 10 ^ l.length * (0 * 10 + (c - 48)) := Nat.mul_le_mul_left _ (by omega)
  rw [Nat.mul_one] at h3
  exact Nat.le_trans h3 h2
theorem big_fig {t : Str} (h : figL (TL.tl t) = true) (hl : 31 < t.length) : (1000000000000000000000000000000 : Int) < valS t := by
  obtain ⟨a, b⟩ := fig_digits h
  rw [TL.len_tl] at hl
  cases e : TL.tl t with
  | nil => exact absurd e b
  | cons c r =>
    rw [e] at hl h a
    rw [List.length_cons] at hl
    have hc : c ≠ 48 := by
      rintro rfl
      unfold figL at h
      rw [Bool.or_eq_true] at h
      rcases h with h | h
      · have := beq_iff_eq.mp h
        cases this
        rw [List.length_nil] at hl
        omega
      · rw [Bool.and_eq_true, Bool.and_eq_true] at h
        cases h.1.2
    have h1 := val_ge r c a hc
    have h2 : (10 : Nat) ^ 31 ≤ 10 ^ r.length := Nat.pow_le_pow_right (by decide) (by omega)
    show (1000000000000000000000000000000 : Int) < ((NumText.digitsVal (TL.tl t) : Nat) : Int)
    rw [e]
    have h3 : (1000000000000000000000000000000 : Nat) < 10 ^ 31 := by decide
    omega
/-- what read_number tells -/
def numS (t : Str) : PyData := if figL (TL.tl t) = true ∧ t.length ≤ 31 then .int (valS t) else .none
theorem rn_spec {t : Str} (ha : Asc t) (hl : t.length ≤ lim) : m_read_number [.str t] = some (numS t) := by
  let E : DEnv := [some (.fr (.str t))]
  have t1 : fTst (fTM0 ascG (rdF 0)) E = some (true, E) := ev_tst (d := .bool (Txt.isascii t)) rfl (by rw [ascii_of ha]; rfl)
  have t2 : fTst (fTM0 digG (rdF 0)) E = some (!(TL.tl t).isEmpty && (TL.tl t).all digC, E) := ev_tst (d := .bool (Txt.isdigit t)) rfl (by rw [isdigit_asc ha]; rfl)
  have tl : fLenN 0 E = some (.int (t.length : Nat), E) := ev_lenN (d := .str t) rfl (if_pos hl)
  unfold numS
  cases hd : (!(TL.tl t).isEmpty && (TL.tl t).all digC) with
  | false =>
    rw [hd] at t2
    have hf : figL (TL.tl t) = false := by
      cases e : figL (TL.tl t) with
      | false => rfl
      | true =>
        obtain ⟨a, b⟩ := fig_digits e
        have : (!(TL.tl t).isEmpty && (TL.tl t).all digC) = true := by
          rw [Bool.and_eq_true, List.all_eq_true]
          refine ⟨?_, fun c hc => ?_⟩
          · cases e2 : TL.tl t with
            | nil => exact absurd e2 b
            | cons _ _ => rfl
          · unfold digC
            rw [Bool.and_eq_true, decide_eq_true_eq, decide_eq_true_eq]
            exact a c hc
        rw [hd] at this
        cases this
    rw [hf, if_neg (fun z => by cases z.1)]
    exact ev_runF (env := E) rfl (ev_seqR (ev_ifT (ev_or0 (ev_not (k := true) t1) (ev_not t2)) rfl))
  | true =>
    rw [hd] at t2
    have s1 : sIf (fOr (fNot (fTst (fTM0 ascG (rdF 0)))) (fNot (fTst (fTM0 digG (rdF 0))))) (sRet (fC .none)) sNil E = some (.nx E) := ev_ifF (ev_or0 (ev_not (k := true) t1) (ev_not t2)) rfl
    rw [Bool.and_eq_true] at hd
    cases e : TL.tl t with
    | nil => rw [e] at hd; cases hd.1
    | cons c r =>
      have hlen : t.length = r.length + 1 := by rw [TL.len_tl, e]; rfl
      have e0 : fTst (fBin eqD (fBin ixT (rdF 0) (fC (.int 0))) (fC (.str "0"))) E = some (decide ((⟨#[c]⟩ : Str) = "0"), E) := ev_tst (d := .bool (decide ((⟨#[c]⟩ : Str) = "0"))) (ev_bin (ev_bin rfl rfl (ix_head e hl)) rfl rfl) rfl
      have eg : fTst (fBin gtD (fLenN 0) (fC (.int 1))) E = some (decide ((1 : Int) < (t.length : Nat)), E) := ev_tst (d := .bool (decide ((1 : Int) < (t.length : Nat)))) (ev_bin tl rfl rfl) rfl
      by_cases hz : 1 < t.length ∧ c = 48
      · rw [decide_eq_true (show (1 : Int) < (t.length : Nat) by omega)] at eg
        rw [decide_eq_true ((ch0 c).mpr hz.2)] at e0
        have hf : figL (c :: r) = false := by
          obtain ⟨h1, rfl⟩ := hz
          cases r with
          | nil => rw [List.length_nil] at hlen; omega
          | cons _ _ => rfl
        rw [hf, if_neg (fun z => by cases z.1)]
        exact ev_runF (env := E) rfl (ev_seq s1 (ev_seqR (ev_ifT (ev_and1 eg e0) rfl)))
      · have hf : figL (c :: r) = true := by
          unfold figL
          by_cases hc : c = 48
          · subst hc
            cases r with
            | nil => rfl
            | cons _ _ => rw [List.length_cons] at hlen; exact absurd ⟨by omega, rfl⟩ hz
          · rw [Bool.or_eq_true]
            right
            rw [← e, hd.2, e]
            show (true && ((some c : Option Nat) != some 48) && true) = true
            have : ((some c : Option Nat) != some 48) = true := by simpa using hc
            rw [this]
            rfl
        rw [hf]
        have s2 : sIf (fAnd (fTst (fBin gtD (fLenN 0) (fC (.int 1)))) (fTst (fBin eqD (fBin ixT (rdF 0) (fC (.int 0))) (fC (.str "0"))))) (sRet (fC .none)) sNil E = some (.nx E) := by
          by_cases h1 : 1 < t.length
          · rw [decide_eq_true (show (1 : Int) < (t.length : Nat) by omega)] at eg
            rw [decide_eq_false (fun z => hz ⟨h1, (ch0 c).mp z⟩)] at e0
            exact ev_ifF (ev_and1 eg e0) rfl
          · rw [decide_eq_false (show ¬ (1 : Int) < (t.length : Nat) by omega)] at eg
            exact ev_ifF (ev_and0 eg) rfl
        have sm : fCB lenD (fCons (fCB strC (fCons (fC cv_MOST_TIMES) fNil)) fNil) E = some (.int 31, E) := by kernel_rfl
        have el : fTst (fBin gtD (fLenN 0) (fCB lenD (fCons (fCB strC (fCons (fC cv_MOST_TIMES) fNil)) fNil))) E = some (decide ((31 : Int) < (t.length : Nat)), E) := ev_tst (d := .bool (decide ((31 : Int) < (t.length : Nat)))) (ev_bin tl sm rfl) rfl
        by_cases hb : t.length ≤ 31
        · rw [decide_eq_false (by omega)] at el
          rw [if_pos ⟨rfl, hb⟩]
          refine ev_runF (env := E) rfl (ev_seq s1 (ev_seq s2 (ev_seq (ev_ifF el rfl) (ev_ret (ev_cb (ev_cons rfl ev_nil) ?_)))))
          show (if t.length ≤ 640 then (PySem.intText? t).map PyData.int else none) = _
          rw [if_pos (by omega), int_fig (by rw [e]; exact hf) (by omega)]
          rfl
        · rw [decide_eq_true (by omega)] at el
          rw [if_neg (fun z => hb z.2)]
          exact ev_runF (env := E) rfl (ev_seq s1 (ev_seq s2 (ev_seqR (ev_ifT el rfl))))
end DL
end L2


set_option Elab.async false
set_option maxRecDepth 100000
set_option maxHeartbeats 4000000
set_option autoImplicit false
namespace L2
namespace DL
open PySem PySem.Spec PyProof.Rows
local instance labNone_K20R : Lab := { w := none, T := [], gd := True }
/-! ### words and colons -/
def mkS (l : List Nat) : Str := ⟨l.toArray⟩
theorem tl_mkS (l : List Nat) : TL.tl (mkS l) = l := by simp [mkS, TL.tl]
theorem first_in {s : Nat} : ∀ l : List Nat, s ∈ l → ∃ a b, l = a ++ s :: b ∧ s ∉ a
  | [], h => nomatch h
  | c :: l, h => by
    by_cases hc : c = s
    · subst hc; exact ⟨[], l, rfl, by simp⟩
    · rcases List.mem_cons.mp h with e | h
      · exact absurd e.symm hc
      · obtain ⟨a, b, e, ha⟩ := first_in l h
        refine ⟨c :: a, b, by rw [e]; rfl, fun z => ?_⟩
        rcases List.mem_cons.mp z with z | z
        · exact hc z.symm
        · exact ha z
abbrev colS : Str := ":"
theorem tl_col : TL.tl colS = [58] := rfl
theorem colon (w : Str) : 58 ∉ TL.tl w ∨ ∃ A B, w = A ++ colS ++ B ∧ TL.tl w = TL.tl A ++ 58 :: TL.tl B ∧ 58 ∉ TL.tl A := by
  by_cases h : 58 ∈ TL.tl w
  · obtain ⟨a, b, e, ha⟩ := first_in _ h
    refine .inr ⟨mkS a, mkS b, TL.ext_tl ?_, ?_, by rw [tl_mkS]; exact ha⟩
    · rw [TL.tl_append, TL.tl_append, tl_mkS, tl_mkS, tl_col, List.append_assoc]; exact e
    · rw [tl_mkS, tl_mkS]; exact e
  · exact .inl h
theorem spl_ne (S : List Nat) : ∀ (l : List Nat) (k : Nat) (acc : List Nat), TL.spl S k acc l ≠ []
  | [], k, acc => by rw [TL.spl_nil]; simp
  | c :: r, 0, acc => by
    cases h : TL.pre S (c :: r) with
    | true => rw [TL.spl_hit h]; simp
    | false => rw [TL.spl_miss h]; exact spl_ne S r 0 _
  | c :: r, k + 1, acc => by
    rw [TL.spl_pass]
    have : (c :: r).drop (k + 1) = r.drop k := rfl
    rw [this, ← TL.spl_pass]
    exact spl_ne S r k _
theorem split_none {w : Str} (h : 58 ∉ TL.tl w) : Txt.split w colS = [w] := by
  have := TL.split_join (y := colS) (s := 58) (S := []) tl_col (by decide +kernel) (parts := [w]) (by simp) (fun p hp => by rw [List.mem_singleton.mp hp]; exact h)
  have e : Txt.join colS [w] = w := by
    rw [TL.join_eq]
    apply TL.ext_tl
    rw [TL.tl_join]
    simp [TL.joinL]
  rwa [e] at this
theorem split_two {A B : Str} (ha : 58 ∉ TL.tl A) (hb : 58 ∉ TL.tl B) : Txt.split (A ++ colS ++ B) colS = [A, B] := by
  have := TL.split_join (y := colS) (s := 58) (S := []) tl_col (by decide +kernel) (parts := [A, B]) (by simp) (fun p hp => by
    rcases List.mem_cons.mp hp with rfl | hp
    · exact ha
    · rw [List.mem_singleton.mp hp]; exact hb)
  have e : Txt.join colS [A, B] = A ++ colS ++ B := by
    rw [TL.join_eq]
    apply TL.ext_tl
    rw [TL.tl_join, TL.tl_append, TL.tl_append]
    simp [TL.joinL]
  rwa [e] at this
theorem split_more {A B : Str} (ha : 58 ∉ TL.tl A) (hb : 58 ∈ TL.tl B) : (Txt.split (A ++ colS ++ B) colS).length ≠ 2 := by
  have h := TL.split_spl (A ++ colS ++ B) colS (by rw [tl_col]; simp) (TL.kind_ok (by decide +kernel))
  have h2 := congrArg List.length h
  rw [List.length_map] at h2
  rw [h2, tl_col, TL.tl_append, TL.tl_append, tl_col, List.append_assoc, TL.spl_part1 ha]
  obtain ⟨b1, b2, e, hb1⟩ := first_in _ hb
  rw [e, show b1 ++ 58 :: b2 = b1 ++ ([58] ++ b2) from rfl, TL.spl_part1 hb1]
  have := spl_ne [58] b2 0 []
  intro z
  rw [List.length_cons, List.length_cons] at z
  exact this (List.length_eq_zero_iff.mp (by omega))
/-! ### what is no command -/
def BadC (c : PyData) : Prop := ∀ L, cnt L c = 0
theorem bad_no {d : PyData} (h1 : plnB d = false) (h2 : begB d = false) : BadC d := fun _ => cnt_no h1 h2
theorem bad_one {w : Str} (h : w ∉ bareW) : BadC (.tuple [.str w]) := bad_no (wrd_f h) rfl
theorem bad_none (x : PyData) : BadC (.tuple [x, .none]) := bad_no (by
  show (!wrdB bareW x && (if wrdB dirW x then intB 0 3 .none else wrdB cutW x && intB 2 29 .none)) = false
  have : intB 0 3 .none = false := rfl
  have h2 : intB 2 29 .none = false := rfl
  rw [this, h2]
  cases wrdB bareW x <;> cases wrdB dirW x <;> cases wrdB cutW x <;> rfl) rfl
theorem bad_big (x : PyData) {n : Int} (h : 29 < n) : BadC (.tuple [x, .int n]) := bad_no (by
  show (!wrdB bareW x && (if wrdB dirW x then intB 0 3 (.int n) else wrdB cutW x && intB 2 29 (.int n))) = false
  have e1 : intB 0 3 (.int n) = false := by
    show (decide (0 ≤ n) && decide (n ≤ 3)) = false
    rw [decide_eq_false (show ¬ n ≤ 3 by omega), Bool.and_false]
  have e2 : intB 2 29 (.int n) = false := by
    show (decide (2 ≤ n) && decide (n ≤ 29)) = false
    rw [decide_eq_false (show ¬ n ≤ 29 by omega), Bool.and_false]
  rw [e1, e2]
  cases wrdB bareW x <;> cases wrdB dirW x <;> cases wrdB cutW x <;> rfl) rfl
theorem bad_rep0 (p : PyData) : BadC (.tuple [.str "repeat", .none, p]) := bad_no rfl (by
  show (wrdB repW (.str "repeat") && intB 1 TMx .none) = false
  rw [show intB 1 TMx .none = false from rfl, Bool.and_false])
theorem bad_repB {n : Int} (h : TMx < n) (p : PyData) : BadC (.tuple [.str "repeat", .int n, p]) := bad_no rfl (by
  show (wrdB repW (.str "repeat") && (decide (1 ≤ n) && decide (n ≤ TMx))) = false
  rw [decide_eq_false (show ¬ n ≤ TMx by omega), Bool.and_false, Bool.and_false])
theorem bad_in {t : PyData} {cs : List PyData} (h : ∃ c ∈ cs, BadC c) : BadC (.tuple [.str "repeat", t, .tuple cs]) := fun L => by
  obtain ⟨c, hc, hb⟩ := h
  by_cases hg : begB (.tuple [.str "repeat", t, .tuple cs]) = true
  · cases L with
    | zero => unfold cnt; rfl
    | succ L =>
      have e : cnt (L + 1) (.tuple [.str "repeat", t, .tuple cs]) = (if (cs.map (cnt L)).any (fun x => decide (x = 0)) then (0 : Int) else 1 + (cs.map (cnt L)).sum) := by
        show (if plnB _ = true then (1 : Int) else if begB _ = true then _ else 0) = _
        rw [if_neg (show ¬ plnB (.tuple [.str "repeat", t, .tuple cs]) = true by intro z; cases z), if_pos hg]
        rfl
      rw [e, if_pos]
      rw [List.any_eq_true]
      exact ⟨cnt L c, List.mem_map_of_mem hc, decide_eq_true (hb L)⟩
  · exact cnt_no rfl (Bool.eq_false_iff.mpr hg)
def known : List Str := ["reverse", "restore", "down", "up", "first", "last", "repeat"]
theorem bad_unk {s : Str} (h : s ∉ known) (r : List PyData) : BadC (.tuple (.str s :: r)) := by
  have h1 : s ∉ bareW := fun z => h (by simp [bareW] at z; simp [known]; rcases z with z | z <;> simp [z])
  have h2 : s ∉ dirW := fun z => h (by simp [dirW] at z; simp [known]; rcases z with z | z <;> simp [z])
  have h3 : s ∉ cutW := fun z => h (by simp [cutW] at z; simp [known]; rcases z with z | z <;> simp [z])
  have h4 : s ≠ "repeat" := fun z => h (by simp [known, z])
  refine bad_no ?_ (beg_no h4)
  match r with
  | [] => exact wrd_f h1
  | [x] =>
    show (!wrdB bareW (.str s) && (if wrdB dirW (.str s) then intB 0 3 x else wrdB cutW (.str s) && intB 2 29 x)) = false
    rw [wrd_f h1, wrd_f h2, wrd_f h3]
    rfl
  | _ :: _ :: _ => rfl
/-! ### one word, read by both -/
theorem bare_col : ∀ w ∈ bareW, 58 ∉ TL.tl w := by decide
theorem fig_free {l : List Nat} (h : 58 ∈ l) : figL l = false := by
  cases e : figL l with
  | false => rfl
  | true => have := (fig_digits e).1 58 h; omega
theorem num_no {t : Str} (h : figL (TL.tl t) = false) : numS t = .none := by
  unfold numS
  rw [h, if_neg (fun z => by cases z.1)]
theorem rc_spec {w : Str} (ha : Asc w) (hl : w.length ≤ lim) : (w ∈ bareW ∧ m_read_command [.str w] = some (.tuple [.str w])) ∨ (w ∉ bareW ∧ m_read_command [.str w] = some (.tuple [.str (Txt.partition w colS).1, numS (Txt.partition w colS).2.2]) ∨ ¬ (Asc (Txt.partition w colS).2.2 ∧ (Txt.partition w colS).2.2.length ≤ lim)) := by
  let E : DEnv := [some (.fr (.str w)), none, none, none]
  have e1 : inD (.str w) cv_BARE_WORDS = some (.bool (bareW.any fun x => decide (x = w))) := in_strs (ws := bareW) (asc_sh ha) (by decide +kernel)
  have t1 : fTst (fBin inD (rdF 0) (fC cv_BARE_WORDS)) E = some (bareW.any fun x => decide (x = w), E) := ev_tst (ev_bin rfl rfl e1) rfl
  by_cases h : w ∈ bareW
  · left
    have : (bareW.any fun x => decide (x = w)) = true := List.any_eq_true.mpr ⟨w, h, decide_eq_true rfl⟩
    rw [this] at t1
    exact ⟨h, ev_runF (env := E) rfl (ev_seqR (ev_ifT t1 (ev_ret (ev_tup (ds := [.str w]) (ev_cons rfl ev_nil) (by show 1 ≤ 100000; decide)))))⟩
  · right
    by_cases hq : Asc (Txt.partition w colS).2.2 ∧ (Txt.partition w colS).2.2.length ≤ lim
    · left
      refine ⟨h, ?_⟩
      have : (bareW.any fun x => decide (x = w)) = false := by
        rw [← Bool.not_eq_true, List.any_eq_true]
        rintro ⟨x, hx, e⟩
        exact h (by rw [← of_decide_eq_true e]; exact hx)
      rw [this] at t1
      let P := Txt.partition w colS
      have sp : sAsg (fTM1 partG (rdF 0) (fC (.str ":"))) (gTupD 3 (gsCons (gSet 1) (gsCons (gSet 2) (gsCons (gSet 3) gsNil)))) E = some (.nx [some (.fr (.str w)), some (.fr (.str P.1)), some (.fr (.str P.2.1)), some (.fr (.str P.2.2))]) := by
        have h1 : fTM1 partG (rdF 0) (fC (.str ":")) E = some (.tuple [.str P.1, .str P.2.1, .str P.2.2], E) := by
          show ((if (":" : Str).length ≠ 0 ∧ w.length ≤ lim then some (PyData.tuple [.str (Txt.partition w ":").1, .str (Txt.partition w ":").2.1, .str (Txt.partition w ":").2.2]) else none).map _) = _
          rw [if_pos ⟨by decide, hl⟩]
          rfl
        unfold sAsg
        rw [h1]
        rfl
      exact ev_runF rfl (ev_seq (e1 := E) (ev_ifF t1 rfl) (ev_seq sp (ev_ret (ev_tup (ds := [.str P.1, numS P.2.2]) (ev_cons rfl (ev_cons (ev_cb (ev_cons rfl ev_nil) (rn_spec hq.1 hq.2)) ev_nil)) (by show 2 ≤ 100000; decide)))))
    · exact .inr hq
theorem lrI_none {w : Str} (h : ((Txt.split w colS).map PyData.str).length ≠ 2) : lrItem m__law_is_figure w = some (.tuple [.str w]) := by
  unfold lrItem
  split
  · rename_i a b hL
    exact absurd (by rw [hL]; rfl) h
  · rfl
theorem gd_one {w : Str} (ha : Asc w) : gdD (.tuple [.str w]) = true := tup_gd (by show 1 ≤ 100000; decide) (by show (gdD (.str w) && true) = true; rw [asc_gd ha]; rfl)
theorem gd_two {w : Str} {x : PyData} (ha : Asc w) (hx : gdD x = true) : gdD (.tuple [.str w, x]) = true := tup_gd (by show 2 ≤ 100000; decide) (by show (gdD (.str w) && (gdD x && true)) = true; rw [asc_gd ha, hx]; rfl)
theorem gd_num (t : Str) : gdD (numS t) = true := by unfold numS; split <;> rfl
/-- both read the same, or both what is no command -/
theorem item_pair {w : Str} (ha : Asc w) (hl : w.length ≤ 4300) : ∃ cL cP, lrItem m__law_is_figure w = some cL ∧ m_read_command [.str w] = some cP ∧ gdD cL = true ∧ gdD cP = true ∧ (cL = cP ∨ BadC cL ∧ BadC cP) ∧ ((∃ r, TL.tl w = 41 :: r) → BadC cL) := by
  have hlim : w.length ≤ lim := Nat.le_trans hl (by decide)
  have par_no : ∀ s ∈ known, ∀ r, TL.tl s ≠ 41 :: r := by
    intro s hs r
    simp only [known, List.mem_cons, List.not_mem_nil, or_false] at hs
    rcases hs with rfl | rfl | rfl | rfl | rfl | rfl | rfl <;> (intro z; cases z)
  have unk1 : (∃ r, TL.tl w = 41 :: r) → BadC (.tuple [.str w]) := fun ⟨r, hr⟩ => bad_unk (fun z => par_no w z r hr) []
  rcases colon w with h | ⟨A, B, e, et, hA⟩
  · have hL := lrI_none (w := w) (by rw [split_none h]; exact (by decide : (1 : Nat) ≠ 2))
    have hp : Txt.partition w colS = (w, Str.empty, Str.empty) := TL.partition_none tl_col h
    rcases rc_spec ha hlim with ⟨hb, hc⟩ | ⟨hb, hc⟩ | hq
    · exact ⟨_, _, hL, hc, gd_one ha, gd_one ha, .inl rfl, unk1⟩
    · rw [hp] at hc
      exact ⟨_, _, hL, hc, gd_one ha, gd_two ha (gd_num _), .inr ⟨bad_one hb, by rw [show numS Str.empty = .none from rfl]; exact bad_none _⟩, unk1⟩
    · rw [hp] at hq
      exact absurd ⟨fun c hc => (by cases hc), Nat.zero_le _⟩ hq
  · have hnb : w ∉ bareW := fun z => bare_col w z (by rw [et]; simp)
    have hp : Txt.partition w colS = (A, colS, B) := by rw [e]; exact TL.partition_app tl_col hA
    have aA : Asc A := fun c hc => ha c (by rw [et]; simp [hc])
    have aB : Asc B := fun c hc => ha c (by rw [et]; simp [hc])
    have lB : B.length ≤ 4300 := by
      have : w.length = A.length + (1 + B.length) := by rw [TL.len_tl, et, List.length_append, List.length_cons, ← TL.len_tl, ← TL.len_tl]; omega
      omega
    have hc : m_read_command [.str w] = some (.tuple [.str A, numS B]) := by
      rcases rc_spec ha hlim with ⟨hb, _⟩ | ⟨_, hc⟩ | hq
      · exact absurd hb hnb
      · rw [hp] at hc; exact hc
      · rw [hp] at hq
        exact absurd ⟨aB, Nat.le_trans lB (by decide)⟩ hq
    by_cases hB : 58 ∈ TL.tl B
    · have hL := lrI_none (w := w) (by rw [List.length_map, e]; exact split_more hA hB)
      rw [num_no (fig_free hB)] at hc
      exact ⟨_, _, hL, hc, gd_one ha, gd_two aA rfl, .inr ⟨bad_one hnb, bad_none _⟩, unk1⟩
    · have hs : Txt.split w colS = [A, B] := by rw [e]; exact split_two hA hB
      have hfig := fig_spec aB (Nat.le_trans lB (by decide))
      have eL : lrItem m__law_is_figure w = if figL (TL.tl B) = true then some (.tuple [.str A, .int (valS B)]) else some (.tuple [.str w]) := by
        unfold lrItem
        rw [show Txt.split w ":" = [A, B] from hs]
        show ((m__law_is_figure [.str B]).bind fun r => (truthD r).bind fun k => if k then (intLC [.str B]).map fun n => PyData.tuple [.str A, n] else some (PyData.tuple [.str w])) = _
        rw [hfig]
        show (if figL (TL.tl B) = true then (intLC [.str B]).map fun n => PyData.tuple [.str A, n] else some (.tuple [.str w])) = _
        by_cases hf : figL (TL.tl B) = true
        · rw [if_pos hf, if_pos hf, intLC_fig aB hf lB]; rfl
        · rw [if_neg hf, if_neg hf]
      by_cases hf : figL (TL.tl B) = true
      · rw [if_pos hf] at eL
        have unk2 : (∃ r, TL.tl w = 41 :: r) → BadC (.tuple [.str A, .int (valS B)]) := fun ⟨r, hr⟩ => bad_unk (fun z => by
          cases hA2 : TL.tl A with
          | nil =>
            have : A = "" := TL.ext_tl hA2
            subst this
            exact absurd z (by decide)
          | cons c q =>
            rw [et, hA2] at hr
            have hc41 : c = 41 := (List.cons.inj hr).1
            subst hc41
            exact par_no A z q hA2) _
        by_cases h31 : B.length ≤ 31
        · have hn : numS B = .int (valS B) := if_pos ⟨hf, h31⟩
          rw [hn] at hc
          exact ⟨_, _, eL, hc, gd_two aA rfl, gd_two aA rfl, .inl rfl, unk2⟩
        · have hn : numS B = .none := if_neg fun z => h31 z.2
          rw [hn] at hc
          have hv := big_fig hf (by omega)
          exact ⟨_, _, eL, hc, gd_two aA rfl, gd_two aA rfl, .inr ⟨bad_big _ (by omega), bad_none _⟩, unk2⟩
      · rw [if_neg hf] at eL
        rw [num_no (Bool.eq_false_iff.mpr hf)] at hc
        exact ⟨_, _, eL, hc, gd_one ha, gd_two aA rfl, .inr ⟨bad_one hnb, bad_none _⟩, unk1⟩
end DL
end L2


set_option Elab.async false
set_option maxRecDepth 100000
set_option maxHeartbeats 4000000
set_option autoImplicit false
namespace L2
namespace DL
open PySem PySem.Spec PyProof.Rows
local instance labNone_K20S : Lab := { w := none, T := [], gd := True }
theorem rwS (mN mC : List PyData → Option PyData) (w : Str) (ws cur : List PyData) (up : List (List PyData)) : rwRun mN mC (.str w :: ws) cur up =
    (if w = "(" then (if up.length < lim then rwRun mN mC ws [] (cur :: up) else none)
    else if Txt.startswith w ")x" = true then match up with
      | [] => some .none
      | c2 :: up2 => if w.length ≤ lim then (mN [.str (cutS w (some 2) none)]).bind fun n => if c2.length < lim then rwRun mN mC ws (c2 ++ [.tuple [.str "repeat", n, .tuple cur]]) up2 else none else none
    else (mC [.str w]).bind fun c => if cur.length < lim then rwRun mN mC ws (cur ++ [c]) up else none) := rfl
/-! ### both readers, step by step -/
theorem rp_len : (Str.ofString ")x").length = 2 := by kernel_rfl
theorem rp_tl : (Str.ofString ")x").cps.toList = [41, 120] := by kernel_rfl
theorem tl_cut2 (w : Str) : TL.tl (cutS w none (some 2)) = (TL.tl w).take 2 := by
  show ((TL.tl w).drop (HT.sIx w.length 0 none)).take (HT.sIx w.length w.length (some 2) - HT.sIx w.length 0 none) = _
  rw [six_none]
  have : HT.sIx w.length w.length (some 2) = min 2 w.length := by
    by_cases h : 2 ≤ w.length
    · rw [six_some (by decide) (by omega)]; show 2 = _; omega
    · have h2 : w.length = 0 ∨ w.length = 1 := by omega
      rcases h2 with h2 | h2 <;> (rw [h2]; rfl)
  rw [this, Nat.sub_zero, List.drop_zero, TL.len_tl]
  by_cases h : 2 ≤ (TL.tl w).length
  · rw [Nat.min_eq_left h]
  · rw [Nat.min_eq_right (by omega), List.take_of_length_le (Nat.le_refl _), List.take_of_length_le (by omega)]
theorem tl_cutE (w : Str) : ∃ k, TL.tl (cutS w (some 2) none) = ((TL.tl w).drop k).take (w.length - k) :=
  ⟨HT.sIx w.length 0 (some 2), by
    show ((TL.tl w).drop (HT.sIx w.length 0 (some 2))).take (HT.sIx w.length w.length none - HT.sIx w.length 0 (some 2)) = _
    rw [six_none]⟩
theorem st_eq (w : Str) : Txt.startswith w ")x" = decide (cutS w none (some 2) = ")x") := by
  rw [Bool.eq_iff_iff, decide_eq_true_eq]
  have h1 : Txt.startswith w ")x" = true ↔ (TL.tl w).take 2 = [41, 120] := by
    unfold Txt.startswith Builtin.Str.subAt
    rw [Bool.and_eq_true, decide_eq_true_eq, beq_iff_eq]
    constructor
    · rintro ⟨_, e⟩
      have := congrArg Array.toList e
      have h3 : List.take (Str.ofString ")x").length w.cps.toList = (Str.ofString ")x").cps.toList := by simpa using this
      rw [rp_len, rp_tl] at h3
      exact h3
    · intro e
      refine ⟨?_, ?_⟩
      · have := congrArg List.length e
        rw [List.length_take, ← TL.len_tl] at this
        show 0 + 2 ≤ w.length
        simp at this
        omega
      · apply Array.toList_inj.mp
        have h3 : List.take (Str.ofString ")x").length w.cps.toList = (Str.ofString ")x").cps.toList := by rw [rp_len, rp_tl]; exact e
        simpa using h3
  have h2 : cutS w none (some 2) = ")x" ↔ (TL.tl w).take 2 = [41, 120] := ⟨fun e => by rw [← tl_cut2, e]; rfl, fun e => TL.ext_tl (by rw [tl_cut2, e]; rfl)⟩
  rw [h1, h2]
structure Wd (w : Str) : Prop where
  a : Asc w
  l : w.length ≤ 4300
structure Ok (N : Nat) (cur : List PyData) (up : List (List PyData)) : Prop where
  g : gdDs cur = true
  gu : ∀ u ∈ up, gdDs u = true
  l : cur.length ≤ N
  lu : up.length ≤ N
  ll : ∀ u ∈ up, u.length ≤ N
def Dm (cur : List PyData) (up : List (List PyData)) : Prop := (∃ c ∈ cur, BadC c) ∨ ∃ u ∈ up, ∃ c ∈ u, BadC c
theorem gds_app {a : List PyData} {c : PyData} (h : gdDs a = true) (hc : gdD c = true) : gdDs (a ++ [c]) = true := gdDs_of fun d hd => by
  rcases List.mem_append.mp hd with hd | hd
  · exact gdDs_mem h d hd
  · rw [List.mem_singleton.mp hd]; exact hc
theorem Ok.app {N : Nat} {cur : List PyData} {up : List (List PyData)} (h : Ok N cur up) {c : PyData} (hc : gdD c = true) : Ok (N + 1) (cur ++ [c]) up :=
  ⟨gds_app h.g hc, h.gu, by rw [List.length_append, List.length_singleton]; have := h.l; omega, by have := h.lu; omega, fun u hu => by have := h.ll u hu; omega⟩
theorem Dm.app {cur : List PyData} {up : List (List PyData)} (h : Dm cur up) (c : PyData) : Dm (cur ++ [c]) up := by
  rcases h with ⟨x, hx, b⟩ | h
  · exact .inl ⟨x, List.mem_append_left _ hx, b⟩
  · exact .inr h
theorem dm_last {cur : List PyData} {up : List (List PyData)} {c : PyData} (h : BadC c) : Dm (cur ++ [c]) up := .inl ⟨c, List.mem_append_right _ (List.mem_singleton.mpr rfl), h⟩
theorem Ok.push {N : Nat} {cur : List PyData} {up : List (List PyData)} (h : Ok N cur up) : Ok (N + 1) [] (cur :: up) :=
  ⟨rfl, fun u hu => by
    rcases List.mem_cons.mp hu with rfl | hu
    · exact h.g
    · exact h.gu u hu, Nat.zero_le _, by rw [List.length_cons]; have := h.lu; omega, fun u hu => by
    rcases List.mem_cons.mp hu with rfl | hu
    · have := h.l; omega
    · have := h.ll u hu; omega⟩
theorem Dm.push {cur : List PyData} {up : List (List PyData)} (h : Dm cur up) : Dm [] (cur :: up) := by
  rcases h with h | ⟨u, hu, h⟩
  · exact .inr ⟨cur, List.mem_cons_self, h⟩
  · exact .inr ⟨u, List.mem_cons_of_mem _ hu, h⟩
theorem Ok.pop {N : Nat} {cur c2 : List PyData} {up2 : List (List PyData)} (h : Ok N cur (c2 :: up2)) (hN : N ≤ 100000) {n : PyData} (hn : gdD n = true) : Ok (N + 1) (c2 ++ [.tuple [.str "repeat", n, .tuple cur]]) up2 := by
  have hg : gdD (.tuple [.str "repeat", n, .tuple cur]) = true := tup_gd (by show 3 ≤ 100000; decide) (by
    have : gdD (.tuple cur) = true := tup_gd (Nat.le_trans h.l hN) h.g
    show (gdD (.str "repeat") && (gdD n && (gdD (.tuple cur) && true))) = true
    rw [hn, this, show gdD (.str "repeat") = true by kernel_rfl]
    rfl)
  refine ⟨gds_app (h.gu _ List.mem_cons_self) hg, fun u hu => h.gu u (List.mem_cons_of_mem _ hu), ?_, ?_, fun u hu => ?_⟩
  · rw [List.length_append, List.length_singleton]; have := h.ll c2 List.mem_cons_self; omega
  · have := h.lu; rw [List.length_cons] at this; omega
  · have := h.ll u (List.mem_cons_of_mem _ hu); omega
theorem Dm.pop {cur c2 : List PyData} {up2 : List (List PyData)} (h : Dm cur (c2 :: up2)) (n : PyData) : Dm (c2 ++ [.tuple [.str "repeat", n, .tuple cur]]) up2 := by
  rcases h with h | ⟨u, hu, h⟩
  · exact dm_last (bad_in h)
  · rcases List.mem_cons.mp hu with rfl | hu
    · obtain ⟨c, hc, b⟩ := h
      exact .inl ⟨c, List.mem_append_left _ hc, b⟩
    · exact .inr ⟨u, hu, h⟩
theorem wd_cut {w : Str} (h : Wd w) : Wd (cutS w (some 2) none) := by
  obtain ⟨k, e⟩ := tl_cutE w
  refine ⟨fun c hc => h.a c ?_, ?_⟩
  · rw [e] at hc
    exact List.mem_of_mem_drop (List.mem_of_mem_take hc)
  · rw [TL.len_tl, e, List.length_take, List.length_drop, ← TL.len_tl]
    have := h.l
    omega
theorem one_step {w : Str} (hw : Wd w) {N : Nat} {cur : List PyData} {up : List (List PyData)} (h : Ok N cur up) (hN : N < 50000) :
    ∃ c1 u1, lrStep m__law_is_figure w cur up = some (c1, u1) ∧ Ok (N + 1) c1 u1 ∧ (Dm cur up → Dm c1 u1) ∧
      (((∀ ws, rwRun m_read_number m_read_command (.str w :: ws) cur up = some .none) ∧ Dm c1 u1) ∨
       ∃ c2 u2, (∀ ws, rwRun m_read_number m_read_command (.str w :: ws) cur up = rwRun m_read_number m_read_command ws c2 u2) ∧ Ok (N + 1) c2 u2 ∧ (Dm cur up → Dm c2 u2) ∧ ((c1 = c2 ∧ u1 = u2) ∨ (Dm c1 u1 ∧ Dm c2 u2))) := by
  have hl := h.l
  have hlu := h.lu
  have wl := hw.l
  have limE : lim = 100000 := rfl
  obtain ⟨cL, cP, eL, eP, gL, gP, rel, bad⟩ := item_pair hw.a hw.l
  have eAdd : lrAdd m__law_is_figure w cur up = some (cur ++ [cL], up) := by
    unfold lrAdd
    rw [eL]
    show (if cur.length < lim then some (cur ++ [cL], up) else none) = _
    rw [if_pos (by omega)]
  have eS := rwS m_read_number m_read_command w
  by_cases h1 : w = "("
  · refine ⟨[], cur :: up, ?_, h.push, Dm.push, .inr ⟨[], cur :: up, fun ws => ?_, h.push, Dm.push, .inl ⟨rfl, rfl⟩⟩⟩
    · unfold lrStep
      rw [if_pos (by omega), if_pos h1, if_pos (by omega)]
    · rw [eS, if_pos h1, if_pos (by omega)]
  by_cases h2 : cutS w none (some 2) = ")x"
  · have hst : Txt.startswith w ")x" = true := by rw [st_eq, decide_eq_true h2]
    have hpar : ∃ r, TL.tl w = 41 :: r := by
      have := congrArg TL.tl h2
      rw [tl_cut2] at this
      cases e : TL.tl w with
      | nil => rw [e] at this; cases this
      | cons a r =>
        rw [e] at this
        have : a = 41 := by
          cases r with
          | nil => cases this
          | cons b r => exact (List.cons.inj this).1
        subst this
        exact ⟨r, rfl⟩
    have hwc := wd_cut hw
    have wcl := hwc.l
    have hfig := fig_spec hwc.a (by omega)
    have hnum := rn_spec hwc.a (by omega)
    cases up with
    | nil =>
      refine ⟨cur ++ [cL], [], ?_, h.app gL, fun d => d.app _, .inl ⟨fun ws => ?_, dm_last (bad hpar)⟩⟩
      · unfold lrStep
        rw [if_pos (by omega), if_neg h1, if_pos h2]
        exact eAdd
      · rw [eS, if_neg h1, if_pos hst]
    | cons c2 up2 =>
      have hc2 := h.ll c2 List.mem_cons_self
      have eR : ∀ ws, rwRun m_read_number m_read_command (.str w :: ws) cur (c2 :: up2) = rwRun m_read_number m_read_command ws (c2 ++ [.tuple [.str "repeat", numS (cutS w (some 2) none), .tuple cur]]) up2 := fun ws => by
        rw [eS, if_neg h1, if_pos hst]
        show (if w.length ≤ lim then (m_read_number [.str (cutS w (some 2) none)]).bind fun n => if c2.length < lim then rwRun m_read_number m_read_command ws (c2 ++ [.tuple [.str "repeat", n, .tuple cur]]) up2 else none else none) = _
        rw [if_pos (by omega), hnum]
        show (if c2.length < lim then _ else none) = _
        rw [if_pos (by omega)]
      have oR := h.pop (by omega) (gd_num (cutS w (some 2) none))
      by_cases hf : figL (TL.tl (cutS w (some 2) none)) = true
      · have eLs : lrStep m__law_is_figure w cur (c2 :: up2) = some (c2 ++ [.tuple [.str "repeat", .int (valS (cutS w (some 2) none)), .tuple cur]], up2) := by
          unfold lrStep
          rw [if_pos (by omega), if_neg h1, if_pos h2]
          show ((m__law_is_figure [.str (cutS w (some 2) none)]).bind fun r => (truthD r).bind fun k => if k then (intLC [.str (cutS w (some 2) none)]).bind fun n => if c2.length < lim then some (c2 ++ [PyData.tuple [.str "repeat", n, .tuple cur]], up2) else none else lrAdd m__law_is_figure w cur (c2 :: up2)) = _
          rw [hfig, hf]
          show ((intLC [.str (cutS w (some 2) none)]).bind fun n => if c2.length < lim then some (c2 ++ [PyData.tuple [.str "repeat", n, .tuple cur]], up2) else none) = _
          rw [intLC_fig hwc.a hf wcl]
          show (if c2.length < lim then _ else none) = _
          rw [if_pos (by omega)]
        have oL := h.pop (by omega) (n := .int (valS (cutS w (some 2) none))) rfl
        refine ⟨_, _, eLs, oL, fun d => d.pop _, .inr ⟨_, _, eR, oR, fun d => d.pop _, ?_⟩⟩
        by_cases h31 : (cutS w (some 2) none).length ≤ 31
        · have hn : numS (cutS w (some 2) none) = .int (valS (cutS w (some 2) none)) := if_pos ⟨hf, h31⟩
          rw [hn]
          exact .inl ⟨rfl, rfl⟩
        · have hn : numS (cutS w (some 2) none) = .none := if_neg fun z => h31 z.2
          rw [hn]
          exact .inr ⟨dm_last (bad_repB (big_fig hf (by omega)) _), dm_last (bad_rep0 _)⟩
      · have eLs : lrStep m__law_is_figure w cur (c2 :: up2) = some (cur ++ [cL], c2 :: up2) := by
          unfold lrStep
          rw [if_pos (by omega), if_neg h1, if_pos h2]
          show ((m__law_is_figure [.str (cutS w (some 2) none)]).bind fun r => (truthD r).bind fun k => if k then (intLC [.str (cutS w (some 2) none)]).bind fun n => if c2.length < lim then some (c2 ++ [PyData.tuple [.str "repeat", n, .tuple cur]], up2) else none else lrAdd m__law_is_figure w cur (c2 :: up2)) = _
          rw [hfig, Bool.eq_false_iff.mpr hf]
          exact eAdd
        refine ⟨_, _, eLs, h.app gL, fun d => d.app _, .inr ⟨_, _, eR, oR, fun d => d.pop _, .inr ⟨dm_last (bad hpar), ?_⟩⟩⟩
        rw [num_no (Bool.eq_false_iff.mpr hf)]
        exact dm_last (bad_rep0 _)
  · have hst : Txt.startswith w ")x" = false := by rw [st_eq, decide_eq_false h2]
    refine ⟨cur ++ [cL], up, ?_, h.app gL, fun d => d.app _, .inr ⟨cur ++ [cP], up, fun ws => ?_, h.app gP, fun d => d.app _, ?_⟩⟩
    · unfold lrStep
      rw [if_pos (by omega), if_neg h1, if_neg h2]
      exact eAdd
    · rw [eS, if_neg h1, if_neg (by rw [hst]; decide), eP]
      show (if cur.length < lim then _ else none) = _
      rw [if_pos (by omega)]
    · rcases rel with rfl | ⟨b1, b2⟩
      · exact .inl ⟨rfl, rfl⟩
      · exact .inr ⟨dm_last b1, dm_last b2⟩
/-! ### whole texts -/
def Wds (ws : List PyData) : Prop := ∀ d ∈ ws, ∃ s, d = .str s ∧ Wd s
theorem lr_cons (w : Str) (ws cur : List PyData) (up : List (List PyData)) : lrRun m__law_is_figure (.str w :: ws) cur up = (lrStep m__law_is_figure w cur up).bind fun s => lrRun m__law_is_figure ws s.1 s.2 := rfl
theorem lr_doom : ∀ (ws : List PyData), Wds ws → ∀ {N : Nat} {cur : List PyData} {up : List (List PyData)}, Ok N cur up → N + ws.length ≤ 50000 → Dm cur up → ∃ c1 u1, lrRun m__law_is_figure ws cur up = some (c1, u1) ∧ Ok (N + ws.length) c1 u1 ∧ Dm c1 u1
  | [], _, N, cur, up, h, _, d => ⟨cur, up, rfl, h, d⟩
  | x :: ws, hw, N, cur, up, h, hN, d => by
    obtain ⟨w, rfl, wd⟩ := hw x List.mem_cons_self
    rw [List.length_cons] at hN
    obtain ⟨c1, u1, e1, o1, d1, _⟩ := one_step wd h (by omega)
    obtain ⟨c2, u2, e2, o2, d2⟩ := lr_doom ws (fun y hy => hw y (List.mem_cons_of_mem _ hy)) o1 (by omega) (d1 d)
    refine ⟨c2, u2, ?_, by rw [List.length_cons, show N + (ws.length + 1) = N + 1 + ws.length by omega]; exact o2, d2⟩
    rw [lr_cons, e1]
    exact e2
def BadR (d : PyData) : Prop := d = .none ∨ ∃ c1, d = .tuple c1 ∧ gdDs c1 = true ∧ c1.length ≤ 50000 ∧ ∃ c ∈ c1, BadC c
theorem rw_doom : ∀ (ws : List PyData), Wds ws → ∀ {N : Nat} {cur : List PyData} {up : List (List PyData)}, Ok N cur up → N + ws.length ≤ 50000 → Dm cur up → ∃ d, rwRun m_read_number m_read_command ws cur up = some d ∧ BadR d
  | [], _, N, cur, up, h, hN, d => by
    cases up with
    | nil =>
      rcases d with d | ⟨u, hu, _⟩
      · exact ⟨_, rfl, .inr ⟨cur, rfl, h.g, by have := h.l; rw [List.length_nil] at hN; omega, d⟩⟩
      · cases hu
    | cons c up => exact ⟨.none, rfl, .inl rfl⟩
  | x :: ws, hw, N, cur, up, h, hN, d => by
    obtain ⟨w, rfl, wd⟩ := hw x List.mem_cons_self
    rw [List.length_cons] at hN
    obtain ⟨c1, u1, e1, o1, d1, z⟩ := one_step wd h (by omega)
    rcases z with ⟨z, _⟩ | ⟨c2, u2, z, o2, d2, _⟩
    · exact ⟨.none, z ws, .inl rfl⟩
    · obtain ⟨r, e, b⟩ := rw_doom ws (fun y hy => hw y (List.mem_cons_of_mem _ hy)) o2 (by omega) (d2 d)
      exact ⟨r, by rw [z]; exact e, b⟩
theorem both_run : ∀ (ws : List PyData), Wds ws → ∀ {N : Nat} {cur : List PyData} {up : List (List PyData)}, Ok N cur up → N + ws.length ≤ 50000 →
    ∃ c1 u1 d, lrRun m__law_is_figure ws cur up = some (c1, u1) ∧ rwRun m_read_number m_read_command ws cur up = some d ∧ Ok (N + ws.length) c1 u1 ∧ (d = (if u1.isEmpty then PyData.tuple c1 else .none) ∨ (Dm c1 u1 ∧ BadR d))
  | [], _, N, cur, up, h, _ => ⟨cur, up, if up.isEmpty then .tuple cur else .none, rfl, by cases up <;> rfl, h, .inl rfl⟩
  | x :: ws, hw, N, cur, up, h, hN => by
    obtain ⟨w, rfl, wd⟩ := hw x List.mem_cons_self
    have hws : Wds ws := fun y hy => hw y (List.mem_cons_of_mem _ hy)
    rw [List.length_cons] at hN
    rw [show N + (PyData.str w :: ws).length = N + 1 + ws.length by rw [List.length_cons]; omega]
    obtain ⟨c1, u1, e1, o1, d1, z⟩ := one_step wd h (by omega)
    rcases z with ⟨z, dm⟩ | ⟨c2, u2, z, o2, d2, ⟨rfl, rfl⟩ | ⟨m1, m2⟩⟩
    · obtain ⟨c3, u3, e3, o3, d3⟩ := lr_doom ws hws o1 (by omega) dm
      exact ⟨c3, u3, .none, by rw [lr_cons, e1]; exact e3, z ws, o3, .inr ⟨d3, .inl rfl⟩⟩
    · obtain ⟨c3, u3, d, e3, e4, o3, r⟩ := both_run ws hws o1 (by omega)
      exact ⟨c3, u3, d, by rw [lr_cons, e1]; exact e3, by rw [z]; exact e4, o3, r⟩
    · obtain ⟨c3, u3, e3, o3, d3⟩ := lr_doom ws hws o1 (by omega) m1
      obtain ⟨d, e4, b4⟩ := rw_doom ws hws o2 (by omega) m2
      exact ⟨c3, u3, d, by rw [lr_cons, e1]; exact e3, by rw [z]; exact e4, o3, .inr ⟨d3, b4⟩⟩
theorem bad_doom : ∀ (cs : List PyData) (t : Int) (k : Nat), (∃ c ∈ cs, BadC c) → (badL cs t k).isNone = false
  | [], _, _, h => by obtain ⟨c, hc, _⟩ := h; cases hc
  | c :: cs, t, k, h => by
    unfold badL
    split
    · rfl
    · rename_i hn
      obtain ⟨x, hx, hb⟩ := h
      rcases List.mem_cons.mp hx with rfl | hx
      · exact absurd (.inl (hb 3)) hn
      · exact bad_doom cs _ _ ⟨x, hx, hb⟩
theorem BadR.no {d : PyData} (h : BadR d) : goodB d = false := by
  rcases h with rfl | ⟨c1, rfl, _, _, hb⟩
  · rfl
  · exact bad_doom c1 0 0 hb
theorem BadR.gd {d : PyData} (h : BadR d) : gdD d = true := by
  rcases h with rfl | ⟨c1, rfl, hg, hl, _⟩
  · rfl
  · exact tup_gd (by omega) hg
end DL
end L2


set_option Elab.async false
set_option maxRecDepth 100000
set_option maxHeartbeats 4000000
set_option autoImplicit false
namespace L2
namespace DL
open PySem PySem.Spec PyProof.Rows
local instance labNone_K20T : Lab := { w := none, T := [], gd := True }
structure PgO (n : Nat) (cs : List (Cm n)) : Prop where
  n3 : n ≤ 3
  ok : ∀ c ∈ cs, CmOk MX n c
  sz : (cs.map (szC n)).sum ≤ 400
theorem pl_shown {p : Pl} (hp : PlOk p) : ((plE p).showable && emD (plE p) && decide ((plE p).shown.length ≤ 110)) = true :=
  all_pl (P := fun p => ((plE p).showable && emD (plE p) && decide ((plE p).shown.length ≤ 110)) = true) (by kernel_rfl) (by kernel_rfl) (fun d => by cases d <;> (and_intros <;> kernel_rfl)) (fun g => by cases g <;> (and_intros <;> kernel_rfl)) hp
structure Shw (B : Nat) (d : PyData) : Prop where
  sh : d.showable = true
  em : emD d = true
  ln : d.shown.length ≤ B
theorem shw_all : ∀ {ds : List PyData} {B : Nat}, (∀ d ∈ ds, d.showable = true ∧ emD d = true) → PyData.showableAll ds = true ∧ emDs ds = true
  | [], _, _ => ⟨rfl, rfl⟩
  | d :: ds, B, h => by
    obtain ⟨a1, a2⟩ := h d List.mem_cons_self
    obtain ⟨b1, b2⟩ := shw_all (B := B) (ds := ds) fun x hx => h x (List.mem_cons_of_mem _ hx)
    exact ⟨by show (d.showable && PyData.showableAll ds) = true; rw [a1, b1]; rfl, by show (emD d && emDs ds) = true; rw [a2, b2]; rfl⟩
theorem shw_cm : ∀ (n : Nat) (c : Cm n), CmOk MX n c → Shw ((120 + 2 * n) * szC n c) (cmE n c)
  | 0, p, h => by
    have := pl_shown (p := p) h
    rw [Bool.and_eq_true, Bool.and_eq_true] at this
    exact ⟨this.1.1, this.1.2, Nat.le_trans (of_decide_eq_true this.2) (by show 110 ≤ (120 + 2 * 0) * 1; decide)⟩
  | n + 1, .inl p, h => by
    have := pl_shown (p := p) h
    rw [Bool.and_eq_true, Bool.and_eq_true] at this
    exact ⟨this.1.1, this.1.2, Nat.le_trans (of_decide_eq_true this.2) (by show 110 ≤ (120 + 2 * (n + 1)) * 1; omega)⟩
  | n + 1, .inr (t, ps), h => by
    obtain ⟨h0, h1, h2⟩ := h
    obtain ⟨k, rfl, k0, k1⟩ := rep_nat h0 h1
    have inner : (PyData.showableAll (ps.map (cmE n)) = true ∧ emDs (ps.map (cmE n)) = true) ∧ ((PyData.shownAll (ps.map (cmE n))).map (·.length)).sum + 2 * (PyData.shownAll (ps.map (cmE n))).length ≤ (122 + 2 * n) * (ps.map (szC n)).sum := by
      clear h1
      induction ps with
      | nil => exact ⟨⟨rfl, rfl⟩, Nat.le_refl _⟩
      | cons c cs ih =>
        obtain ⟨a1, a2, a3⟩ := shw_cm n c (h2 c List.mem_cons_self)
        obtain ⟨⟨b1, b2⟩, b3⟩ := ih fun x hx => h2 x (List.mem_cons_of_mem _ hx)
        have hp := szC_pos n c
        refine ⟨⟨by show ((cmE n c).showable && PyData.showableAll (cs.map (cmE n))) = true; rw [a1, b1]; rfl, by show (emD (cmE n c) && emDs (cs.map (cmE n))) = true; rw [a2, b2]; rfl⟩, ?_⟩
        show ((cmE n c).shown.length + ((PyData.shownAll (cs.map (cmE n))).map (·.length)).sum) + 2 * ((PyData.shownAll (cs.map (cmE n))).length + 1) ≤ (122 + 2 * n) * (szC n c + (cs.map (szC n)).sum)
        have e1 : (122 + 2 * n) * (szC n c + (cs.map (szC n)).sum) = (120 + 2 * n) * szC n c + 2 * szC n c + (122 + 2 * n) * (cs.map (szC n)).sum := by rw [Nat.mul_add, show 122 + 2 * n = (120 + 2 * n) + 2 by omega, Nat.add_mul]
        omega
    obtain ⟨⟨i1, i2⟩, i3⟩ := inner
    have hrep : (reprText "repeat").length = 8 := by decide +kernel
    have hk : (PyData.shown (.int (k : Nat))).length ≤ 31 := num_len k1
    have hki : (PyData.int (k : Nat)).showable = true := decide_eq_true (log_ok k1)
    have ht := tupleText_len_le (PyData.shownAll (ps.map (cmE n)))
    refine ⟨?_, ?_, ?_⟩
    · show (true && ((PyData.int (k : Nat)).showable && (PyData.showableAll (ps.map (cmE n)) && true))) = true
      rw [hki, i1]; rfl
    · show (true && (true && (emDs (ps.map (cmE n)) && true))) = true
      rw [i2]; rfl
    · have h3 := tupleText_len_le [reprText "repeat", PyData.shown (.int (k : Nat)), tupleText (PyData.shownAll (ps.map (cmE n)))]
      show (tupleText [reprText "repeat", PyData.shown (.int (k : Nat)), tupleText (PyData.shownAll (ps.map (cmE n)))]).length ≤ (120 + 2 * (n + 1)) * (1 + (ps.map (szC n)).sum)
      have e : ([reprText "repeat", PyData.shown (.int (k : Nat)), tupleText (PyData.shownAll (ps.map (cmE n)))].map (·.length)).sum = (reprText "repeat").length + ((PyData.shown (.int (k : Nat))).length + ((tupleText (PyData.shownAll (ps.map (cmE n)))).length + 0)) := rfl
      rw [e, hrep] at h3
      have e2 : (120 + 2 * (n + 1)) * (1 + (ps.map (szC n)).sum) = (122 + 2 * n) + (122 + 2 * n) * (ps.map (szC n)).sum := by rw [show 120 + 2 * (n + 1) = 122 + 2 * n by omega, Nat.mul_add, Nat.mul_one]
      rw [e2]
      have e3 : [reprText "repeat", PyData.shown (.int (k : Nat)), tupleText (PyData.shownAll (ps.map (cmE n)))].length = 3 := rfl
      rw [e3] at h3
      omega
theorem shw_cp {n : Nat} {cs : List (Cm n)} (h : PgO n cs) : Shw 60000 (cpE cs) := by
  have hsz := h.sz
  have hn := h.n3
  obtain ⟨a1, a2⟩ := shw_all (B := 0) (ds := cs.map (cmE n)) fun d hd => by
    obtain ⟨c, hc, rfl⟩ := List.mem_map.mp hd
    exact ⟨(shw_cm n c (h.ok c hc)).sh, (shw_cm n c (h.ok c hc)).em⟩
  refine ⟨a1, a2, ?_⟩
  have key : ∀ cs : List (Cm n), (∀ c ∈ cs, CmOk MX n c) → ((PyData.shownAll (cs.map (cmE n))).map (·.length)).sum + 2 * (PyData.shownAll (cs.map (cmE n))).length ≤ (122 + 2 * n) * (cs.map (szC n)).sum := by
    intro cs
    induction cs with
    | nil => intro _; exact Nat.le_refl _
    | cons c cs ih =>
      intro hc
      have a3 := (shw_cm n c (hc c List.mem_cons_self)).ln
      have b3 := ih fun x hx => hc x (List.mem_cons_of_mem _ hx)
      have hp := szC_pos n c
      show ((cmE n c).shown.length + ((PyData.shownAll (cs.map (cmE n))).map (·.length)).sum) + 2 * ((PyData.shownAll (cs.map (cmE n))).length + 1) ≤ (122 + 2 * n) * (szC n c + (cs.map (szC n)).sum)
      have e1 : (122 + 2 * n) * (szC n c + (cs.map (szC n)).sum) = (120 + 2 * n) * szC n c + 2 * szC n c + (122 + 2 * n) * (cs.map (szC n)).sum := by rw [Nat.mul_add, show 122 + 2 * n = (120 + 2 * n) + 2 by omega, Nat.add_mul]
      omega
  have h1 := key cs h.ok
  have h2 := tupleText_len_le (PyData.shownAll (cs.map (cmE n)))
  have h3 : (122 + 2 * n) * (cs.map (szC n)).sum ≤ 128 * 400 := Nat.mul_le_mul (by omega) hsz
  show (tupleText (PyData.shownAll (cs.map (cmE n)))).length ≤ _
  omega
theorem repr_ok {B : Nat} {d : PyData} (h : Shw B d) (hB : B ≤ 1000000) (hd : d.depth ≤ 64) : reprE [d] = some (.str d.shown) := by
  show (if reprOkE d then some (PyData.str d.shown) else none) = _
  rw [if_pos]
  simp only [reprOkE, Bool.and_eq_true, decide_eq_true_eq]
  have h1 := h.ln
  exact ⟨⟨⟨h.sh, h.em⟩, by rw [sizeLine_eq]; omega⟩, hd⟩

/-! ### a text, split -/
theorem spl32 : ∀ (l acc : List Nat), (∀ q ∈ TL.spl [32] 0 acc l, (∀ c ∈ q, c ∈ acc ++ l) ∧ q.length ≤ acc.length + l.length) ∧ (TL.spl [32] 0 acc l).length ≤ l.length + 1
  | [], acc => by
    rw [TL.spl_nil]
    refine ⟨fun q hq => ?_, Nat.le_refl _⟩
    rw [List.mem_singleton.mp hq]
    exact ⟨fun c hc => List.mem_append_left _ hc, Nat.le_refl _⟩
  | c :: r, acc => by
    cases h : TL.pre [32] (c :: r) with
    | true =>
      rw [TL.spl_hit h]
      show (∀ q ∈ acc :: TL.spl [32] 0 [] r, _) ∧ (acc :: TL.spl [32] 0 [] r).length ≤ _
      obtain ⟨a, b⟩ := spl32 r []
      refine ⟨fun q hq => ?_, by rw [List.length_cons, List.length_cons]; omega⟩
      rcases List.mem_cons.mp hq with rfl | hq
      · exact ⟨fun x hx => List.mem_append_left _ hx, by omega⟩
      · obtain ⟨a1, a2⟩ := a q hq
        rw [List.nil_append] at a1
        rw [List.length_nil] at a2
        exact ⟨fun x hx => List.mem_append_right _ (List.mem_cons_of_mem _ (a1 x hx)), by rw [List.length_cons]; omega⟩
    | false =>
      rw [TL.spl_miss h]
      obtain ⟨a, b⟩ := spl32 r (acc ++ [c])
      refine ⟨fun q hq => ?_, by rw [List.length_cons]; omega⟩
      obtain ⟨a1, a2⟩ := a q hq
      rw [List.length_append, List.length_singleton] at a2
      refine ⟨fun x hx => ?_, by rw [List.length_cons]; omega⟩
      have := a1 x hx
      rwa [List.append_assoc] at this
theorem split_sp (p : Str) : (Txt.split p spS).map TL.tl = TL.spl [32] 0 [] (TL.tl p) := TL.split_spl p spS (by show TL.tl spS ≠ []; simp [spS, TL.tl]; decide) (TL.kind_ok (by decide +kernel))
theorem split_wd {p : Str} (ha : Asc p) {B : Nat} (hl : p.length ≤ B) : (∀ w ∈ Txt.split p spS, Tx0 B w) ∧ (Txt.split p spS).length ≤ p.length + 1 := by
  obtain ⟨a, b⟩ := spl32 (TL.tl p) []
  have e := split_sp p
  refine ⟨fun w hw => ?_, ?_⟩
  · have hm : TL.tl w ∈ TL.spl [32] 0 [] (TL.tl p) := by rw [← e]; exact List.mem_map_of_mem hw
    obtain ⟨a1, a2⟩ := a _ hm
    rw [List.nil_append] at a1
    rw [List.length_nil] at a2
    exact ⟨fun c hc => ha c (a1 c hc), by rw [TL.len_tl]; rw [TL.len_tl] at hl; omega⟩
  · have := congrArg List.length e
    rw [List.length_map] at this
    rw [this, TL.len_tl]
    exact b
/-! ### the law's reader, the program's reader -/
def WS (p : Str) : List PyData := if p = "" then [] else (Txt.split p spS).map .str
theorem ws_ok {p : Str} (h : Tx0 4000 p) : Wds (WS p) ∧ (WS p).length ≤ 4001 := by
  unfold WS
  split
  · exact ⟨fun d hd => (by cases hd), Nat.zero_le _⟩
  · obtain ⟨a, b⟩ := split_wd h.a h.l
    refine ⟨fun d hd => ?_, by rw [List.length_map]; have := h.l; omega⟩
    obtain ⟨w, hw, rfl⟩ := List.mem_map.mp hd
    exact ⟨w, rfl, (a w hw).a, Nat.le_trans (a w hw).l (by decide)⟩
abbrev rdE0 (p : Str) : DEnv := [some (.fr (.str p)), none, none, none, none]
theorem lrI_ev {p : Str} (h : Tx0 4000 p) : lrI (rdE0 p) = some (WS p, rdE0 p) := by
  have hlen := h.l
  have e1 : nSplit (rdF 0) (fC (.str " ")) (rdE0 p) = some ((Txt.split p spS).map .str, rdE0 p) := ev_nsplit (f := rdF 0) (fe := fC (.str " ")) rfl rfl (by decide) (Nat.le_trans h.l (by decide))
  have e2 : fCB intOfD (fCons (fBin neD (rdF 0) (fC (.str ""))) fNil) (rdE0 p) = some (.int (if (!decide (p = "")) then 1 else 0), rdE0 p) := ev_cb (ev_cons (ev_bin rfl rfl (ne_ofS p "")) ev_nil) (int_of _)
  have hl : ((Txt.split p spS).map PyData.str).length ≤ lim := by
    have := (split_wd h.a h.l).2
    rw [List.length_map]
    show _ ≤ 100000
    omega
  refine ev_seqI (d := .list (WS p)) (ev_frz (ds := WS p) ?_) rfl
  have e3 := ev_repM (k := if (!decide (p = "")) then 1 else 0) e1 e2 ⟨by split <;> decide, by split <;> decide, hl⟩
  rw [e3]
  unfold WS
  by_cases hp : p = ""
  · rw [if_pos hp, decide_eq_true hp]; rfl
  · rw [if_neg hp, decide_eq_false hp]
    show some ((List.replicate 1 ((Txt.split p spS).map PyData.str)).flatten, rdE0 p) = _
    rw [show List.replicate 1 ((Txt.split p spS).map PyData.str) = [(Txt.split p spS).map PyData.str] from rfl]
    show some ((Txt.split p spS).map PyData.str ++ [], rdE0 p) = _
    rw [List.append_nil]
theorem read_law {p : Str} (h : Tx0 4000 p) {c1 : List PyData} {u1 : List (List PyData)} (e : lrRun m__law_is_figure (WS p) [] [] = some (c1, u1)) (hg : gdDs c1 = true) (hl : c1.length ≤ 50000) : m__law_read [.str p] = some (.list (if u1.isEmpty && goodB (.tuple c1) then [.tuple c1] else [])) := by
  let L : List PyData := (c1 :: u1).reverse.map .list
  let E : DEnv := [some (.fr (.str p)), some (.fr (.list L)), none, none, none]
  have hgt : gdD (.tuple c1) = true := tup_gd (by omega) hg
  have eg : ((lrM m__law_is_figure (sRet (fIf (fAnd (fTst (fBin eqD (fLenN 1) (fC (.int 1)))) (fTst (fBin eqD (fCB m__law_first_bad (fCons (fCB tupleD (fCons (fIxN 1 (fC (.int 0))) fNil)) fNil)) (fFrz (fLst fNil))))) (fFrz (fLst (fCons (fCB tupleD (fCons (fIxN 1 (fC (.int 0))) fNil)) fNil))) (fFrz (fLst fNil)))))) (rdE0 p) = (sRet (fIf (fAnd (fTst (fBin eqD (fLenN 1) (fC (.int 1)))) (fTst (fBin eqD (fCB m__law_first_bad (fCons (fCB tupleD (fCons (fIxN 1 (fC (.int 0))) fNil)) fNil)) (fFrz (fLst fNil))))) (fFrz (fLst (fCons (fCB tupleD (fCons (fIxN 1 (fC (.int 0))) fNil)) fNil))) (fFrz (fLst fNil)))) E := by
    show (lrI (rdE0 p)).bind _ = _
    rw [lrI_ev h]
    show (lrRun m__law_is_figure (WS p) [] []).bind _ = _
    rw [e]
    rfl
  have el : fLenN 1 E = some (.int (L.length : Nat), E) := ev_lenN (d := .list L) rfl rfl
  have hL : L.length = u1.length + 1 := by show ((c1 :: u1).reverse.map PyData.list).length = _; rw [List.length_map, List.length_reverse, List.length_cons]
  refine ev_runF (env := E) rfl (ev_seq (e1 := rdE0 p) (ev_ifF (ev_not (k := true) (ev_isiD (d := .str p) rfl rfl)) rfl) (eg.trans (ev_ret ?_)))
  cases u1 with
  | nil =>
    have t1 : fTst (fBin eqD (fLenN 1) (fC (.int 1))) E = some (true, E) := ev_tst (d := .bool true) (ev_bin el rfl rfl) rfl
    have q0 : fCB tupleD (fCons (fIxN 1 (fC (.int 0))) fNil) E = some (.tuple c1, E) := ev_cb (ev_cons (ev_ixN (i := .int 0) (d0 := .list L) (d := .list L) rfl rfl rfl rfl) ev_nil) rfl
    have t2 : fTst (fBin eqD (fCB m__law_first_bad (fCons (fCB tupleD (fCons (fIxN 1 (fC (.int 0))) fNil)) fNil)) (fFrz (fLst fNil))) E = some (goodB (.tuple c1), E) := ev_tst (d := .bool (goodB (.tuple c1))) (ev_bin (ev_cb (ev_cons q0 ev_nil) (first_bad_any hgt)) rfl (fb_eq _)) rfl
    refine ev_iff (ev_and1 t1 t2) ?_
    cases goodB (.tuple c1) with
    | true => exact ev_frz (ev_lst (ev_cons q0 ev_nil) (by show 1 ≤ 100000; decide))
    | false => rfl
  | cons u us =>
    have t1 : fTst (fBin eqD (fLenN 1) (fC (.int 1))) E = some (false, E) := by
      refine ev_tst (d := .bool false) (ev_bin el rfl ?_) rfl
      show some (PyData.bool (decide (((L.length : Nat) : Int) = 1))) = _
      rw [decide_eq_false (by rw [hL, List.length_cons]; omega)]
    exact ev_iff (k := false) (ev_and0 t1) rfl
theorem is_prog {d : PyData} (hd : gdD d = true) : mo_is_program [d] = some (.bool (goodB d)) := by
  have e := check_any hd
  have hx : (chkX d = .ok .none ∧ goodB d = true) ∨ (∃ y, chkX d = .ex "InvalidProgram" "index" y ∧ goodB d = false) := by
    unfold chkX goodB
    cases insC d with
    | none => exact .inr ⟨_, rfl, rfl⟩
    | some cs =>
      dsimp only
      have hb := bad_eq cs 0 0 (by decide)
      rw [show (400 : Int) - 0 = 400 from rfl] at hb
      rw [hb]
      cases badL cs 0 0 with
      | none => exact .inl ⟨rfl, rfl⟩
      | some k => exact .inr ⟨_, rfl, rfl⟩
  let E : DEnv := [some (.fr d)]
  rcases hx with ⟨h1, h2⟩ | ⟨y, h1, h2⟩
  · rw [h1] at e
    rw [h2]
    have : m_is_program [d] = some (.ok (.bool true)) := by
      refine ev_runX rfl (ev_seq (e1 := E) ?_ rfl)
      show ((fCX m_check_program (fCons (rdF 0) fNil) E).map _).bind _ = _
      rw [ev_cX (ev_cons rfl ev_nil) e]
      rfl
    show okX (m_is_program [d]) = _
    rw [this]; rfl
  · rw [h1] at e
    rw [h2]
    have : m_is_program [d] = some (.ok (.bool false)) := by
      refine ev_runX (env := E) rfl (ev_seqR ?_)
      show ((fCX m_check_program (fCons (rdF 0) fNil) E).map _).bind _ = _
      rw [ev_cX (ev_cons rfl ev_nil) e]
      rfl
    show okX (m_is_program [d]) = _
    rw [this]; rfl
def prX (p : Str) (d : PyData) : XR := if goodB d then .ok d else .ex "InvalidText" "text" (.str p)
theorem parse_any {p : Str} (h : Tx0 4000 p) {d : PyData} (e : rwRun m_read_number m_read_command (WS p) [] [] = some d) (hg : gdD d = true) : m_parse_program [.str p] = some (prX p d) := by
  let E0 : DEnv := [some (.fr (.str p)), none]
  let E1 : DEnv := [some (.fr (.str p)), some (.fr d)]
  have hsp : fTM1 splitG (rdF 0) (fC (.str " ")) E0 = some (.list ((Txt.split p spS).map .str), E0) := by
    show ((if (" " : Str).length ≠ 0 ∧ p.length ≤ lim then some (PyData.list ((Txt.split p " ").map .str)) else none).map _) = _
    rw [if_pos ⟨by decide, Nat.le_trans h.l (by decide)⟩]
    rfl
  have s1 : sIf (fNot (fTst (fIsi "str" (rdF 0)))) (sRaise "InvalidText" "text" (rdF 0)) sNil E0 = some (.nx E0) := ev_ifF (ev_not (k := true) (ev_isiD (d := .str p) rfl rfl)) rfl
  have t : fTst (fBin neD (rdF 0) (fC (.str ""))) E0 = some (!decide (p = ""), E0) := ev_tst (d := .bool (!decide (p = ""))) (ev_bin rfl rfl (ne_ofS p "")) rfl
  have s2 : sSet 1 (fIf (fTst (fBin neD (rdF 0) (fC (.str "")))) (fCB m_read_words (fCons (fTM1 splitG (rdF 0) (fC (.str " "))) fNil)) (fTup fNil)) E0 = some (.nx E1) := by
    refine ev_setE (e1 := E0) (d := d) (ev_iff t ?_) rfl
    unfold WS at e
    by_cases hp : p = ""
    · rw [if_pos hp] at e
      rw [decide_eq_true hp]
      cases e
      rfl
    · rw [if_neg hp] at e
      rw [decide_eq_false hp]
      refine ev_cb (ev_cons hsp ev_nil) ?_
      refine ev_runF (env := [some (.fr (.list ((Txt.split p spS).map .str))), none, none, none]) rfl ?_
      show (rwRun m_read_number m_read_command ((Txt.split p spS).map .str) [] []).map _ = _
      rw [e]
      rfl
  have t3 : fNot (fTst (fCB mo_is_program (fCons (rdF 1) fNil))) E1 = some (!goodB d, E1) := ev_not (ev_tst (d := .bool (goodB d)) (ev_cb (ev_cons rfl ev_nil) (is_prog hg)) rfl)
  unfold prX
  cases hb : goodB d with
  | true =>
    rw [hb] at t3
    exact ev_runX rfl (ev_seq s1 (ev_seq s2 (ev_seq (ev_ifF t3 rfl) rfl)))
  | false =>
    rw [hb] at t3
    exact ev_runXe (env := E1) rfl (ev_seq s1 (ev_seq s2 (ev_seqX (ev_ifT t3 rfl))))
/-! ### what is shown -/
theorem rchar_ok : ∀ c : Nat, c < 128 → (∀ y ∈ Builtin.Str.reprChar 39 c, y < 1114112) ∧ ∀ y ∈ Builtin.Str.reprChar 34 c, y < 1114112 := by decide +kernel
theorem rquote (x : Str) : reprQuote x = 39 ∨ reprQuote x = 34 := by
  unfold reprQuote
  split
  · exact .inr rfl
  · exact .inl rfl
theorem fold_ok {q : Nat} (hq : q = 39 ∨ q = 34) : ∀ (l : List Nat) (acc : Array Nat), (∀ y ∈ acc.toList, y < 1114112) → (∀ c ∈ l, c < 128) → ∀ y ∈ (l.foldl (fun out c => out ++ (Builtin.Str.reprChar q c).toArray) acc).toList, y < 1114112
  | [], _, h, _ => h
  | c :: l, acc, h, hl => by
    refine fold_ok hq l _ (fun y hy => ?_) fun x hx => hl x (List.mem_cons_of_mem _ hx)
    rw [Array.toList_append] at hy
    rcases List.mem_append.mp hy with hy | hy
    · exact h y hy
    · have := rchar_ok c (hl c List.mem_cons_self)
      rcases hq with rfl | rfl
      · exact this.1 y (by simpa using hy)
      · exact this.2 y (by simpa using hy)
theorem rtext_ok {x : Str} (h : Asc x) : PyData.strOk (reprText x) = true := by
  unfold PyData.strOk
  rw [all_tl, List.all_eq_true]
  intro y hy
  refine decide_eq_true ?_
  have hq := rquote x
  unfold reprText TL.tl at hy
  rw [Array.toList_push, ← Array.foldl_toList] at hy
  rcases List.mem_append.mp hy with hy | hy
  · exact fold_ok hq _ _ (fun z hz => by
      have : z = reprQuote x := by simpa using hz
      rcases hq with q | q <;> omega) h y hy
  · rw [List.mem_singleton.mp hy]
    rcases hq with q | q <;> omega
theorem show_str {p : Str} (h : Tx0 4000 p) : reprE [.str p] = some (.str (PyData.str p).shown) ∧ Ly 0 (.str (PyData.str p).shown) := by
  have h1 := StrLaws.reprText_len p fun c hc => Nat.lt_trans (h.a c hc) (by decide)
  have h2 := h.l
  have s : Shw 45000 (.str p) := ⟨rfl, rfl, by show (reprText p).length ≤ _; omega⟩
  exact ⟨repr_ok s (by decide) (Nat.zero_le _), ly_shown (rtext_ok h.a)⟩
end DL
end L2


set_option Elab.async false
set_option maxRecDepth 100000
set_option maxHeartbeats 4000000
set_option autoImplicit false
namespace L2
namespace DL
open PySem PySem.Spec PyProof.Rows
local instance labNone_K20U : Lab := { w := none, T := [], gd := True }
/-! ### any data that is a program is one of the program's own -/
theorem plE_of {d : PyData} (h : plnB d = true) : ∃ p : Pl, d = plE p ∧ PlOk p := by
  unfold plnB at h
  split at h
  · rename_i w
    cases w with
    | str s =>
      have := wrd_iff.mp h
      simp only [bareW, List.mem_cons, List.not_mem_nil, or_false] at this
      rcases this with rfl | rfl
      · exact ⟨.rev, rfl, trivial⟩
      · exact ⟨.res, rfl, trivial⟩
    | _ => cases h
  · rename_i w x
    cases w with
    | str s =>
      obtain ⟨h1, h2⟩ := (Bool.and_eq_true _ _).mp h
      by_cases hd : wrdB dirW (.str s) = true
      · rw [if_pos hd] at h2
        have hd := wrd_iff.mp hd
        simp only [dirW, List.mem_cons, List.not_mem_nil, or_false] at hd
        cases x with
        | int i =>
          obtain ⟨a, b⟩ := (Bool.and_eq_true _ _).mp h2
          have a := of_decide_eq_true a
          have b := of_decide_eq_true b
          rcases hd with rfl | rfl
          · exact ⟨.sort false i, rfl, a, by omega⟩
          · exact ⟨.sort true i, rfl, a, by omega⟩
        | _ => cases h2
      · rw [if_neg hd] at h2
        obtain ⟨h3, h4⟩ := (Bool.and_eq_true _ _).mp h2
        have hd := wrd_iff.mp h3
        simp only [cutW, List.mem_cons, List.not_mem_nil, or_false] at hd
        cases x with
        | int i =>
          obtain ⟨a, b⟩ := (Bool.and_eq_true _ _).mp h4
          have a := of_decide_eq_true a
          have b := of_decide_eq_true b
          rcases hd with rfl | rfl
          · exact ⟨.cut true i, rfl, a, b⟩
          · exact ⟨.cut false i, rfl, a, b⟩
        | _ => cases h4
    | _ => cases h
  · cases h
theorem beg_of {d : PyData} (h : begB d = true) : ∃ (i : Int) (p : PyData), d = .tuple [.str "repeat", .int i, p] ∧ 1 ≤ i ∧ i ≤ TMx := by
  unfold begB at h
  split at h
  · rename_i w t p
    obtain ⟨h1, h2⟩ := (Bool.and_eq_true _ _).mp h
    cases w with
    | str s =>
      have := List.mem_singleton.mp (wrd_iff.mp h1)
      subst this
      cases t with
      | int i =>
        obtain ⟨a, b⟩ := (Bool.and_eq_true _ _).mp h2
        exact ⟨i, p, rfl, of_decide_eq_true a, of_decide_eq_true b⟩
      | _ => cases h2
    | _ => cases h1
  · cases h
theorem cms_of {L : Nat} (ih : ∀ c : PyData, cnt L c ≠ 0 → ∃ x : Cm L, c = cmE L x ∧ CmOk TMx L x ∧ (szC L x : Int) = cnt L c) : ∀ cs : List PyData, (cs.map (cnt L)).any (fun x => decide (x = 0)) = false → ∃ xs : List (Cm L), cs = xs.map (cmE L) ∧ (∀ x ∈ xs, CmOk TMx L x) ∧ (((xs.map (szC L)).sum : Nat) : Int) = (cs.map (cnt L)).sum
  | [], _ => ⟨[], rfl, (fun _ h => nomatch h), rfl⟩
  | c :: cs, h => by
    rw [List.map_cons, List.any_cons] at h
    obtain ⟨h1, h2⟩ := Bool.or_eq_false_iff.mp h
    obtain ⟨x, e1, o1, s1⟩ := ih c (of_decide_eq_false h1)
    obtain ⟨xs, e2, o2, s2⟩ := cms_of ih cs h2
    refine ⟨x :: xs, by rw [List.map_cons, ← e1, ← e2], fun y hy => ?_, ?_⟩
    · rcases List.mem_cons.mp hy with rfl | hy
      · exact o1
      · exact o2 y hy
    · rw [List.map_cons, List.sum_cons, List.map_cons, List.sum_cons, ← s1, ← s2]
      omega
theorem cm_of : ∀ (L : Nat) (c : PyData), cnt L c ≠ 0 → ∃ x : Cm L, c = cmE L x ∧ CmOk TMx L x ∧ (szC L x : Int) = cnt L c
  | 0, c, h => by
    have hp : plnB c = true := by
      cases hb : plnB c with
      | true => rfl
      | false => unfold cnt at h; rw [hb] at h; exact absurd rfl h
    obtain ⟨p, e, ok⟩ := plE_of hp
    exact ⟨p, e, ok, by rw [cnt_pl hp]; rfl⟩
  | L + 1, c, h => by
    by_cases hp : plnB c = true
    · obtain ⟨p, e, ok⟩ := plE_of hp
      exact ⟨.inl p, e, ok, by rw [cnt_pl hp]; rfl⟩
    · have hb : begB c = true := by
        cases hb : begB c with
        | true => rfl
        | false => exact absurd (cnt_no (Bool.eq_false_iff.mpr hp) hb) h
      obtain ⟨i, p, rfl, h1, h2⟩ := beg_of hb
      have e : cnt (L + 1) (.tuple [.str "repeat", .int i, p]) = (match insC p with | some cs => if (cs.map (cnt L)).any (fun x => decide (x = 0)) then (0 : Int) else 1 + (cs.map (cnt L)).sum | none => 0) := by
        show (if plnB _ = true then (1 : Int) else if begB _ = true then _ else 0) = _
        rw [if_neg hp, if_pos hb]
        rfl
      rw [e] at h ⊢
      cases hi : insC p with
      | none => rw [hi] at h; exact absurd rfl h
      | some cs =>
        obtain rfl := ins_yes hi
        have hi' : insC (.tuple cs) = some cs := rfl
        rw [hi'] at h
        dsimp only at h ⊢
        by_cases hz : (cs.map (cnt L)).any (fun x => decide (x = 0)) = true
        · rw [if_pos hz] at h; exact absurd rfl h
        · obtain ⟨xs, e2, o2, s2⟩ := cms_of (cm_of L) cs (Bool.eq_false_iff.mpr hz)
          refine ⟨.inr (i, xs), by rw [e2]; rfl, ⟨h1, h2, o2⟩, ?_⟩
          rw [if_neg hz, ← s2]
          show ((1 + (xs.map (szC L)).sum : Nat) : Int) = _
          omega
theorem badL_none : ∀ (cs : List PyData) (t : Int) (k : Nat), t ≤ 400 → badL cs t k = none → (cs.map (cnt 3)).any (fun x => decide (x = 0)) = false ∧ t + (cs.map (cnt 3)).sum ≤ 400
  | [], t, _, ht, _ => ⟨rfl, by show t + 0 ≤ 400; omega⟩
  | c :: cs, t, k, ht, h => by
    unfold badL at h
    split at h
    · cases h
    · rename_i hn
      obtain ⟨a, b⟩ := badL_none cs _ (k + 1) (by omega) h
      rw [List.map_cons, List.any_cons, List.sum_cons, a, Bool.or_false]
      exact ⟨decide_eq_false fun z => hn (.inl z), by omega⟩
/-- a program of the program's own -/
structure CsO (cs : List (Cm 3)) : Prop where
  ok : ∀ c ∈ cs, CmOk TMx 3 c
  sz : (cs.map (szC 3)).sum ≤ 400
theorem prg_fb {d : PyData} (h : fbL d = []) : ∃ cs : List (Cm 3), d = cpE cs ∧ CsO cs := by
  unfold fbL at h
  cases hi : insC d with
  | none => rw [hi] at h; cases h
  | some ds =>
    rw [hi] at h
    dsimp only at h
    cases hj : badL ds 0 0 with
    | some k => rw [hj] at h; cases h
    | none =>
      obtain ⟨a, b⟩ := badL_none ds 0 0 (by decide) hj
      obtain ⟨cs, e, ok, s⟩ := cms_of (cm_of 3) ds a
      exact ⟨cs, by rw [ins_yes hi, e]; rfl, ok, by omega⟩
/-! ### what is told of a text -/
theorem ev_tryAsR {mt : Str → Option Bool} {at' : Str → Str} {i : Nat} {gb gh : DEnv → Option DFlow} {env e e2 : DEnv} {c a : Str} {d x : PyData} (h : gb env = some (.ex c a d e)) (h2 : mt c = some true) (h3 : a = at' c) (h4 : gh (e.set i (some (.fr (excD c a d)))) = some (.rt x e2)) : sTryAs mt at' i gb gh env = some (.rt x e2) := by
  unfold sTryAs
  rw [h]
  show ((mt c).bind fun b => if b then if a = at' c then (gh (e.set i (some (.fr (excD c a d))))).bind _ else none else _) = _
  rw [h2]
  show (if a = at' c then (gh (e.set i (some (.fr (excD c a d))))).bind _ else none) = _
  rw [if_pos h3, h4]
  rfl
theorem ev_tryAsN {mt : Str → Option Bool} {at' : Str → Str} {i : Nat} {gb gh : DEnv → Option DFlow} {env e : DEnv} (h : gb env = some (.nx e)) : sTryAs mt at' i gb gh env = some (.nx e) := by
  unfold sTryAs
  rw [h]
  rfl
theorem ev_stXe {f : DEnv → Option DX} {env e1 : DEnv} {i : Nat} {c a : Str} {d : PyData} (h : f env = some (.ex c a d e1)) : sSetX i f env = some (.ex c a d e1) := by unfold sSetX; rw [h]; rfl
theorem ev_cXK0 {gD : List PyData → List PyData} {m : List PyData → Option XR} {fk : DEnv → Option (List PyData × DEnv)} {env e1 : DEnv} {ds : List PyData} {r : XR} (h : fk env = some (ds, e1)) (h2 : m (gD ds) = some r) : fCXK0 gD m fk env = some (toX e1 r) := by
  unfold fCXK0; rw [h]; show (m (gD ds)).map _ = _; rw [h2]; rfl
theorem kd_txt (d : PyData) : m__law_kind [excD "InvalidText" "text" d] = some (.int 6) := by kernel_rfl
abbrev anE (x : PyData) (b : Bool) (y z : Option DV) : DEnv := [some (.fr x), some (.fr (.bool b)), y, z]
abbrev anC := (fIfX (fTst (rdF 1)) (fCXK0 gd_parse_program_text m_parse_program (fCons (rdF 0) fNil)) (fCX m_parse_program (fCons (rdF 0) fNil)))
theorem an_call {x : PyData} {b : Bool} {r : XR} (h : m_parse_program [x] = some r) : anC (anE x b none none) = some (toX (anE x b none none) r) := by
  refine ev_ifX (k := b) (ev_tst (d := .bool b) rfl rfl) ?_
  cases b with
  | true => exact ev_cXK0 (ev_cons rfl ev_nil) h
  | false => exact ev_cX (ev_cons rfl ev_nil) h
theorem answer_ok {x d : PyData} {b : Bool} {s : Str} (h : m_parse_program [x] = some (.ok d)) (hs : reprE [d] = some (.str s)) : m__law_answer [x, .bool b] = some (.list [.str s]) := by
  have e := an_call (b := b) h
  let E : DEnv := anE x b (some (.fr d)) none
  exact ev_runF (env := E) rfl (ev_seq (e1 := E) (ev_tryAsN (ev_stX e rfl)) (ev_ret (ev_frz (ev_lst (ev_cons (ev_cb (ev_cons rfl ev_nil) hs) ev_nil) (by show 1 ≤ 100000; decide)))))
theorem answer_ex {x : PyData} {b : Bool} {s : Str} (h : m_parse_program [x] = some (.ex "InvalidText" "text" x)) (hs : reprE [x] = some (.str s)) : m__law_answer [x, .bool b] = some (.list [.int 6, .str s]) := by
  have e := an_call (b := b) h
  let ex := excD "InvalidText" "text" x
  let E : DEnv := anE x b none (some (.fr ex))
  refine ev_runF (env := E) rfl (ev_seqR (ev_tryAsR (ev_stXe e) (by kernel_rfl) (by kernel_rfl) ?_))
  have q : fCB reprE (fCons (fExA "text" (rdF 3)) fNil) E = some (.str s, E) := ev_cb (ev_cons (d := x) (by kernel_rfl) ev_nil) hs
  exact ev_ret (ev_frz (ev_lst (ev_cons (ev_cb (ev_cons rfl ev_nil) (kd_txt x)) (ev_cons (ev_iff (k := true) (by kernel_rfl) q) ev_nil)) (by show 2 ≤ 100000; decide)))
theorem eqD_self {k : Nat} {a : PyData} (ha : Ly k a) (hk : k ≤ 64) : eqD a a = some (.bool true) := by
  unfold eqD; rw [eqB_self ha hk]; rfl
theorem ly_l1 {s : Str} (h : Ly 0 (.str s)) : Ly 1 (.list [.str s]) := Ly.list fun d hd => by rw [List.mem_singleton.mp hd]; exact h
theorem ly_l2 {k : Int} {s : Str} (h : Ly 0 (.str s)) : Ly 1 (.list [.int k, .str s]) := Ly.list fun d hd => by
  rcases List.mem_cons.mp hd with rfl | hd
  · exact ly_int _
  · rw [List.mem_singleton.mp hd]; exact h
abbrev tdE (x : PyData) (b : Bool) (y : PyData) : DEnv := [some (.fr x), some (.fr (.bool b)), some (.fr y)]
theorem told_no {x : PyData} {b : Bool} {s : Str} (h1 : m__law_read [x] = some (.list [])) (h2 : m_parse_program [x] = some (.ex "InvalidText" "text" x)) (hs : reprE [x] = some (.str s)) (hl : Ly 0 (.str s)) : m__law_told_right [x, .bool b] = some (.bool true) := by
  let E : DEnv := tdE x b (.list [])
  have e := answer_ex (b := b) h2 hs
  refine ev_runF (env := E) rfl (ev_seq (e1 := E) (ev_setE (ev_cb (ev_cons rfl ev_nil) h1) rfl) (ev_ret (ev_bin (b := .list [.int 6, .str s]) (ev_cb (ev_cons rfl (ev_cons rfl ev_nil)) e) (ev_iff (k := false) (e1 := E) (ev_tst (d := .bool false) (ev_bin (a := .list []) (b := .list []) rfl rfl rfl) rfl) ?_) (eqD_self (ly_l2 hl) (by decide)))))
  exact ev_frz (ev_lst (ev_cons rfl (ev_cons (ev_cb (ev_cons rfl ev_nil) hs) ev_nil)) (by show 2 ≤ 100000; decide))
theorem ne_one {x : PyData} (h : Ly 40 x) : neD (.list [x]) (.list []) = some (.bool true) := by
  have a1 := (Ly.list (ds := [x]) fun d hd => by rw [List.mem_singleton] at hd; rw [hd]; exact h).sh (by decide)
  show ((if shD (.list [x]) && shD (.list []) then some (PyData.eqv (.list [x]) (.list [])) else none).map fun k => PyData.bool (!k)) = _
  rw [a1, show shD (.list []) = true from rfl]
  rfl
theorem told_yes {x d : PyData} {b : Bool} {s : Str} (h1 : m__law_read [x] = some (.list [d])) (h2 : m_parse_program [x] = some (.ok d)) (hd : Ly 40 d) (hs : reprE [d] = some (.str s)) (hl : Ly 0 (.str s)) : m__law_told_right [x, .bool b] = some (.bool true) := by
  let E : DEnv := tdE x b (.list [d])
  have e := answer_ok (b := b) h2 hs
  have q0 : fIxN 2 (fC (.int 0)) E = some (d, E) := ev_ixN (i := .int 0) (d0 := .list [d]) (d := .list [d]) rfl rfl rfl rfl
  refine ev_runF (env := E) rfl (ev_seq (e1 := E) (ev_setE (ev_cb (ev_cons rfl ev_nil) h1) rfl) (ev_ret (ev_bin (b := .list [.str s]) (ev_cb (ev_cons rfl (ev_cons rfl ev_nil)) e) (ev_iff (k := true) (e1 := E) (ev_tst (ev_bin rfl rfl (ne_one hd)) rfl) ?_) (eqD_self (ly_l1 hl) (by decide)))))
  exact ev_frz (ev_lst (ev_cons (ev_cb (ev_cons q0 ev_nil) hs) ev_nil) (by show 1 ≤ 100000; decide))
theorem wk_all {ds : List PyData} (h : ∀ d ∈ ds, wordsOk d = true) : wordsOk (.tuple ds) = true := wordsOk_all h
theorem wk_two {a : Str} (h : wordsOk (.str a) = true) (n : Int) : wordsOk (.tuple [.str a, .int n]) = true := wk_all fun x hx => by
  rcases List.mem_cons.mp hx with rfl | hx
  · exact h
  · rw [List.mem_singleton.mp hx]; rfl
theorem wk_pl (p : Pl) : wordsOk (plE p) = true := by
  cases p with
  | sort d c => cases d <;> exact wk_two (by decide +kernel) c
  | rev => decide +kernel
  | res => decide +kernel
  | cut f k => cases f <;> exact wk_two (by decide +kernel) k
theorem wk_cm : ∀ (n : Nat) (c : Cm n), wordsOk (cmE n c) = true
  | 0, p => wk_pl p
  | n + 1, .inl p => wk_pl p
  | n + 1, .inr (t, ps) => wk_all fun x hx => by
    rcases List.mem_cons.mp hx with rfl | hx
    · decide +kernel
    · rcases List.mem_cons.mp hx with rfl | hx
      · rfl
      · rw [List.mem_singleton.mp hx]
        refine wk_all fun y hy => ?_
        obtain ⟨c, _, rfl⟩ := List.mem_map.mp hy
        exact wk_cm n c
theorem wk_cp {n : Nat} (cs : List (Cm n)) : wordsOk (cpE cs) = true := wk_all fun y hy => by
  obtain ⟨c, _, rfl⟩ := List.mem_map.mp hy
  exact wk_cm n c
theorem dp_cp (cs : List (Cm 3)) : (cpE cs).depth ≤ 64 := by have := (ly_cp cs).1; exact Nat.le_trans this.dp (by decide)
theorem good_cs {d : PyData} (h : goodB d = true) : ∃ cs : List (Cm 3), d = cpE cs ∧ PgO 3 cs := by
  have : fbL d = [] := by
    have := fb_good d
    rw [h] at this
    exact List.isEmpty_iff.mp this
  obtain ⟨cs, e, hc⟩ := prg_fb this
  exact ⟨cs, e, Nat.le_refl 3, hc.ok, hc.sz⟩
theorem told_any {p : Str} (h : Tx0 4000 p) (b : Bool) : m__law_told_right [.str p, .bool b] = some (.bool true) := by
  obtain ⟨w1, w2⟩ := ws_ok h
  obtain ⟨c1, u1, d, e1, e2, o, r⟩ := both_run (WS p) w1 (N := 0) (cur := []) (up := []) ⟨rfl, (fun _ hu => nomatch hu), Nat.le_refl _, Nat.le_refl _, (fun _ hu => nomatch hu)⟩ (by omega)
  have hol := o.l
  have gc1 : gdD (.tuple c1) = true := tup_gd (by omega) o.g
  have hr := read_law h e1 o.g (by omega)
  obtain ⟨hs, hl⟩ := show_str h
  have no : (u1.isEmpty && goodB (.tuple c1)) = false → goodB d = false → gdD d = true → m__law_told_right [.str p, .bool b] = some (.bool true) := fun q1 q2 q3 => by
    have hp := parse_any h e2 q3
    unfold prX at hp
    rw [q2] at hp
    rw [q1] at hr
    exact told_no hr hp hs hl
  rcases r with r | ⟨dm, br⟩
  · cases u1 with
    | nil =>
      have r : d = .tuple c1 := r
      cases hg : goodB (.tuple c1) with
      | false => exact no (by rw [hg]; rfl) (by rw [r]; exact hg) (by rw [r]; exact gc1)
      | true =>
        have hp := parse_any h e2 (by rw [r]; exact gc1)
        rw [r] at hp
        unfold prX at hp
        rw [hg] at hp
        rw [hg] at hr
        obtain ⟨cs, e, pg⟩ := good_cs hg
        rw [e] at hp hr
        exact told_yes hr hp ((ly_cp cs).1.mono (by decide)) (repr_ok (shw_cp pg) (by decide) (dp_cp cs)) (ly_shown (wk_cp cs))
    | cons u us =>
      have r : d = .none := r
      exact no rfl (by rw [r]; rfl) (by rw [r]; rfl)
  · refine no ?_ br.no br.gd
    cases u1 with
    | nil =>
      rcases dm with dm | ⟨u, hu, _⟩
      · have := bad_doom c1 0 0 dm
        show (true && (badL c1 0 0).isNone) = false
        rw [this]
        rfl
      · cases hu
    | cons u us => rfl
end DL
end L2


set_option Elab.async false
set_option maxRecDepth 100000
set_option maxHeartbeats 4000000
set_option autoImplicit false
namespace L2
namespace DL
open PySem PySem.Spec PyProof.Rows
local instance labNone_K20V : Lab := { w := none, T := [], gd := True }
/-! ### a text with one thing changed -/
theorem splN : ∀ (l acc : List Nat), ((TL.spl [32] 0 acc l).map List.length).sum + (TL.spl [32] 0 acc l).length ≤ acc.length + l.length + 1
  | [], acc => by
    rw [TL.spl_nil]
    show acc.length + 0 + 1 ≤ acc.length + 0 + 1
    exact Nat.le_refl _
  | c :: r, acc => by
    cases h : TL.pre [32] (c :: r) with
    | true =>
      rw [TL.spl_hit h]
      show ((acc :: TL.spl [32] 0 [] r).map List.length).sum + (acc :: TL.spl [32] 0 [] r).length ≤ _
      have := splN r []
      rw [List.map_cons, List.sum_cons, List.length_cons, List.length_cons]
      rw [List.length_nil] at this
      omega
    | false =>
      rw [TL.spl_miss h]
      have := splN r (acc ++ [c])
      rw [List.length_append, List.length_singleton] at this
      rw [List.length_cons]
      omega
def szW (ws : List Str) : Nat := (ws.map (·.length)).sum + ws.length
theorem split_sum (p : Str) : szW (Txt.split p spS) ≤ p.length + 1 := by
  have e := split_sp p
  have h := splN (TL.tl p) []
  rw [← e, List.map_map, List.length_map, List.length_nil, ← TL.len_tl] at h
  have : (List.length ∘ TL.tl) = fun w : Str => w.length := funext fun w => (TL.len_tl w).symm
  rw [this] at h
  unfold szW
  omega
theorem szW_app (a b : List Str) : szW (a ++ b) = szW a + szW b := by
  unfold szW
  rw [List.map_append, List.sum_append, List.length_append]
  omega
theorem szW_cons (t : Str) (b : List Str) : szW (t :: b) = t.length + 1 + szW b := by
  unfold szW
  rw [List.map_cons, List.sum_cons, List.length_cons]
  omega
theorem szW_ins (ws : List Str) (i : Nat) (t : Str) : szW (ws.take i ++ t :: ws.drop i) = szW ws + t.length + 1 := by
  have h := szW_app (ws.take i) (ws.drop i)
  rw [List.take_append_drop] at h
  rw [szW_app, szW_cons]
  omega
theorem szW_set (t : Str) : ∀ (ws : List Str) (k : Nat), szW (ws.set k t) ≤ szW ws + t.length
  | [], _ => Nat.le_add_right _ _
  | w :: ws, 0 => by rw [List.set_cons_zero, szW_cons, szW_cons]; omega
  | w :: ws, k + 1 => by
    have := szW_set t ws k
    rw [List.set_cons_succ, szW_cons, szW_cons]
    omega
theorem szW_era : ∀ (ws : List Str) (k : Nat), szW (ws.eraseIdx k) ≤ szW ws
  | [], _ => Nat.le_refl _
  | w :: ws, 0 => by rw [List.eraseIdx_cons_zero, szW_cons]; omega
  | w :: ws, k + 1 => by
    have := szW_era ws k
    rw [List.eraseIdx_cons_succ, szW_cons, szW_cons]
    omega
theorem jn_asc : ∀ ts : List Str, (∀ w ∈ ts, Asc w) → Asc (jn ts)
  | [], _ => fun c hc => by rw [tl_jn] at hc; cases hc
  | [t], h => by rw [jn_one]; exact h t List.mem_cons_self
  | t :: u :: r, h => fun c hc => by
    have e : TL.tl (jn (t :: u :: r)) = TL.tl t ++ ([32] ++ TL.tl (jn (u :: r))) := by rw [tl_jn, tl_jn]; rfl
    rw [e] at hc
    rcases List.mem_append.mp hc with z | z
    · exact h t List.mem_cons_self c z
    · rcases List.mem_append.mp z with z | z
      · rw [List.mem_singleton.mp z]; decide
      · exact jn_asc (u :: r) (fun x hx => h x (List.mem_cons_of_mem _ hx)) c z
theorem joined {ws : List Str} {B : Nat} (ha : ∀ w ∈ ws, Asc w) (hl : szW ws ≤ B) : Tx0 B (jn ws) := ⟨jn_asc ws ha, Nat.le_trans (jn_len ws) hl⟩
theorem joinG_w {ws : List Str} (h : szW ws ≤ 100000) : joinG spS (.list (ws.map .str)) = some (.str (jn ws)) := joinG_l h
theorem tl_cut (z : Str) (lo hi : Option Int) : TL.tl (cutS z lo hi) = ((TL.tl z).drop (HT.sIx z.length 0 lo)).take (HT.sIx z.length z.length hi - HT.sIx z.length 0 lo) := rfl
theorem cut_asc {z : Str} (lo hi : Option Int) (h : Asc z) : Asc (cutS z lo hi) := fun c hc => by
  rw [tl_cut] at hc
  exact h c (List.mem_of_mem_drop (List.mem_of_mem_take hc))
theorem cut_lenS (z : Str) (lo hi : Option Int) : (cutS z lo hi).length ≤ HT.sIx z.length z.length hi - HT.sIx z.length 0 lo := by
  rw [TL.len_tl, tl_cut, List.length_take]
  exact Nat.min_le_left _ _
theorem six_pos {n d : Nat} {i : Int} (h0 : 0 ≤ i) : HT.sIx n d (some i) = min i.toNat n := by
  show (if i < 0 then _ else _) = _
  rw [if_neg (by omega)]
theorem asc_app {a b : Str} (ha : Asc a) (hb : Asc b) : Asc (a ++ b) := fun c hc => by
  rw [TL.tl_append] at hc
  rcases List.mem_append.mp hc with h | h
  · exact ha c h
  · exact hb c h
theorem len_app (a b : Str) : (a ++ b).length = a.length + b.length := by
  rw [TL.len_tl, TL.tl_append, List.length_append, ← TL.len_tl, ← TL.len_tl]
abbrev sgS : Str := "updownrevsfilat ()x:0123456789.-+_U"
theorem sg_at : ∀ k : Nat, k < 35 → atI sgS.cps.toList (k : Int) = some (sgS.cps.toList.getD k 0) ∧ sgS.cps.toList.getD k 0 < 128 := by decide +kernel
theorem sg_len : sgS.length ≤ lim := by decide +kernel
theorem sg_ix {r : Int} (h0 : 0 ≤ r) (h1 : r < 35) : ∃ c : Nat, c < 128 ∧ ixT (.str sgS) (.int r) = some (.str ⟨#[c]⟩) := by
  obtain ⟨k, rfl⟩ := Int.eq_ofNat_of_zero_le h0
  obtain ⟨a, b⟩ := sg_at k (by omega)
  refine ⟨_, b, ?_⟩
  show (if sgS.length ≤ lim then (atI sgS.cps.toList (k : Int)).map fun c => PyData.str ⟨#[c]⟩ else none) = _
  rw [if_pos sg_len, a]
  rfl
theorem mul_one : ∀ c : Nat, c < 128 → Txt.mul (⟨#[c]⟩ : Str) 1 = ⟨#[c]⟩ := by decide +kernel
theorem mul1 (c : Nat) (h : c < 128) : mulS0D (.str ⟨#[c]⟩) (.int 1) = some (.str ⟨#[c]⟩) := by
  have : mulS0D (.str ⟨#[c]⟩) (.int 1) = some (.str (Txt.mul (⟨#[c]⟩ : Str) 1)) := rfl
  rw [this, mul_one c h]
theorem mul0 (c : Nat) : mulS0D (.str ⟨#[c]⟩) (.int 0) = some (.str Str.empty) := rfl
theorem ev_slT {f : DEnv → Option (PyData × DEnv)} {fl fh : DEnv → Option (Option Int × DEnv)} {env e1 e2 e3 : DEnv} {z : Str} {l h : Option Int} (h1 : f env = some (.str z, e1)) (h2 : fl e1 = some (l, e2)) (h3 : fh e2 = some (h, e3)) (h4 : z.length ≤ lim) : fSlT f fl fh env = some (.str (cutS z l h), e3) := by
  unfold fSlT
  rw [h1]
  show (fl e1).bind _ = _
  rw [h2]
  show (fh e2).bind _ = _
  rw [h3]
  show (if z.length ≤ lim then some (PyData.str (cutS z l h)) else none).map _ = _
  rw [if_pos h4]
  rfl
theorem ev_asgS {j : Nat} {f g : DEnv → Option (PyData × DEnv)} {env e1 e2 e3 : DEnv} {es0 es : List PyData} {d : PyData} {i : Int} {k : Nat} (h : f env = some (d, e1)) (h0 : rdO j e1 = some es0) (h1 : g e1 = some (.int i, e2)) (h2 : rdO j e2 = some es) (hk : ixN es.length i = some k) (he : wrO j (es.set k d) e2 = e3) : sAsg f (gSubD j g) env = some (.nx e3) := by
  unfold sAsg
  rw [h]
  show (gSubD j g d e1).map _ = _
  unfold gSubD
  rw [h0]
  show ((g e1).bind _).map _ = _
  rw [h1]
  show ((rdO j e2).bind _).map _ = _
  rw [h2]
  show ((ixN es.length i).map _).map _ = _
  rw [hk, ← he]
  rfl
theorem ev_popI {j : Nat} {f : DEnv → Option (PyData × DEnv)} {env e1 e2 : DEnv} {es0 es : List PyData} {d : PyData} {i : Int} {k : Nat} (h0 : rdO j env = some es0) (h : f env = some (.int i, e1)) (h1 : rdO j e1 = some es) (hl : es.length ≤ lim) (hk : ixN es.length i = some k) (hd : es[k]? = some d) (he : wrO j (es.eraseIdx k) e1 = e2) : fPop j f env = some (d, e2) := by
  unfold fPop
  rw [h0]
  show (f env).bind _ = _
  rw [h]
  show (rdO j e1).bind _ = _
  rw [h1]
  show (if es.length ≤ lim then (ixN es.length i).bind _ else none) = _
  rw [if_pos hl, hk]
  show (es[k]?).map _ = _
  rw [hd, ← he]
  rfl
theorem ixN_in {n : Nat} {i : Int} (h0 : 0 ≤ i) (h1 : i < n) : ixN n i = some i.toNat := by
  unfold ixN
  rw [if_pos h0, if_pos (by omega)]
theorem atI_in {ds : List PyData} {i : Int} (h0 : 0 ≤ i) (h1 : i < (ds.length : Nat)) : atI ds i = some (ds[i.toNat]'(by omega)) := by
  unfold atI
  rw [ixN_in h0 h1]
  show ds[i.toNat]? = _
  exact List.getElem?_eq_getElem _
/-- the slots: pool, page, odd words, way, place, sign, words, thing, spot -/
abbrev spE (es : List PyData) (p : Str) (os : List PyData) (a b c d e f : Option DV) : DEnv := [some (.rf es), some (.fr (.str p)), some (.fr (.list os)), a, b, c, d, e, f]
theorem spl_some {p : Str} : Txt.split p spS ≠ [] := fun z => by
  have h := split_sp p
  rw [z] at h
  exact spl_ne [32] _ 0 [] h.symm
end DL
end L2


set_option Elab.async false
set_option maxRecDepth 100000
set_option maxHeartbeats 4000000
set_option autoImplicit false
namespace L2
namespace DL
open PySem PySem.Spec PyProof.Rows
local instance labNone_K20W : Lab := { w := none, T := [], gd := True }
theorem map_era {α β : Type} (f : α → β) : ∀ (l : List α) (k : Nat), (l.map f).eraseIdx k = (l.eraseIdx k).map f
  | [], _ => rfl
  | _ :: _, 0 => rfl
  | a :: l, k + 1 => by
    show f a :: (l.map f).eraseIdx k = f a :: (l.eraseIdx k).map f
    rw [map_era f l k]
abbrev spMul := fBin mulS0D (rdF 5) (fCB intOfD (fCons (fBin neD (rdF 3) (fC (.int 1))) fNil))
abbrev spOff := fBin addD (rdF 4) (fCB intOfD (fCons (fBin gtD (rdF 3) (fC (.int 0))) fNil))
abbrev spWay := (sIf (fTst (fBin eqD (rdF 3) (fC (.int 3)))) (sInsert 6 (rdF 8) (rdF 7)) (sIf (fTst (fBin eqD (rdF 3) (fC (.int 4)))) (sAsg (rdF 7) (gSubD 6 (rdF 8))) (sExpr (fPop 6 (rdF 8)))))
theorem spoilt_spec {es : List PyData} (he : PoolOk es) {p : Str} {B : Nat} (hp : Tx0 B p) (hB : B ≤ 10000) {os : List PyData} (ho : ∀ d ∈ os, ∃ y, d = .str y ∧ Tx0 40 y) (hn : 0 < os.length) (hl : os.length ≤ 1000) :
    ∃ p' es', m__law_spoilt es [.str p, .list os] = some (.str p', es') ∧ PoolOk es' ∧ Tx0 (B + 45) p' := by
  have pl := hp.l
  have limE : lim = 100000 := rfl
  obtain ⟨r1, es1, d1, p1, a1, b1⟩ := draw_spec he (m := 6) (by decide) (by decide)
  obtain ⟨r2, es2, d2, p2, a2, b2⟩ := draw_spec p1 (m := (p.length : Nat) + 1) (by omega) (by omega)
  obtain ⟨r3, es3, d3, p3, a3, b3⟩ := draw_spec p2 (m := 35) (by decide) (by decide)
  obtain ⟨c, hc, hx⟩ := sg_ix a3 b3
  have c1 : fCR 0 m__law_draw (fCons (fC (.int 6)) fNil) (spE es p os none none none none none none) = some (.int r1, spE es1 p os none none none none none none) := ev_crE rfl (ev_cons rfl ev_nil) rfl d1 rfl
  have c2 : fCR 0 m__law_draw (fCons (fBin addD (fLenN 1) (fC (.int 1))) fNil) (spE es1 p os none none none none none none) = some (.int r2, spE es2 p os none none none none none none) :=
    ev_crE rfl (ev_cons (ev_bin (a := .int (p.length : Nat)) (ev_lenN (d := .str p) rfl (if_pos (by omega))) rfl (d := .int ((p.length : Nat) + 1)) rfl) ev_nil) rfl d2 rfl
  have s1 : sPar 3 4 (fCons (fCR 0 m__law_draw (fCons (fC (.int 6)) fNil)) (fCons (fCR 0 m__law_draw (fCons (fBin addD (fLenN 1) (fC (.int 1))) fNil)) fNil)) (spE es p os none none none none none none) = some (.nx (spE es2 p os (some (.fr (.int r1))) (some (.fr (.int r2))) none none none none)) := ev_par (ev_cons c1 (ev_cons c2 ev_nil)) rfl
  have c3 : fCR 0 m__law_draw (fCons (fC (.int 35)) fNil) (spE es2 p os (some (.fr (.int r1))) (some (.fr (.int r2))) none none none none) = some (.int r3, spE es3 p os (some (.fr (.int r1))) (some (.fr (.int r2))) none none none none) := ev_crE rfl (ev_cons rfl ev_nil) rfl d3 rfl
  let E4 := spE es3 p os (some (.fr (.int r1))) (some (.fr (.int r2))) (some (.fr (.str ⟨#[c]⟩))) none none none
  have s2 : sSet 5 (fBin ixT (fC (.str sgS)) (fCR 0 m__law_draw (fCons (fC (.int 35)) fNil))) (spE es2 p os (some (.fr (.int r1))) (some (.fr (.int r2))) none none none none) = some (.nx E4) := ev_setE (ev_bin rfl c3 hx) rfl
  have t1 : fTst (fBin ltD (rdF 3) (fC (.int 3))) E4 = some (decide (r1 < 3), E4) := ev_tst (d := .bool (decide (r1 < 3))) (ev_bin rfl rfl rfl) rfl
  have hc1 : Tx0 1 (⟨#[c]⟩ : Str) := ⟨(fun x hx => by
    have h : x ∈ [c] := hx
    rw [List.mem_singleton.mp h]
    exact hc), Nat.le_refl 1⟩
  have hc0 : Tx0 1 Str.empty := ⟨(fun x hx => nomatch hx), Nat.zero_le 1⟩
  by_cases h3 : r1 < 3
  · rw [decide_eq_true h3] at t1
    have hA : (cutS p none (some r2)).length ≤ r2.toNat := by
      have := cut_lenS p none (some r2)
      rw [six_pos a2, six_none] at this
      omega
    have hC : ∀ j : Int, r2 ≤ j → (cutS p (some j) none).length ≤ p.length - r2.toNat := fun j hj => by
      have := cut_lenS p (some j) none
      rw [six_pos (by omega), six_none] at this
      omega
    have fin : ∀ (S : Str) (j : Int), Tx0 1 S → r2 ≤ j → spMul E4 = some (.str S, E4) → spOff E4 = some (.int j, E4) → ∃ p' es', m__law_spoilt es [.str p, .list os] = some (.str p', es') ∧ PoolOk es' ∧ Tx0 (B + 45) p' := fun S j hS hj e1 e2 => by
      have hCj := hC j hj
      have hSl := hS.l
      have l1 : (cutS p none (some r2)).length + S.length ≤ lim := by omega
      have l2 : (cutS p none (some r2) ++ S).length + (cutS p (some j) none).length ≤ lim := by rw [len_app]; omega
      refine ⟨(cutS p none (some r2) ++ S) ++ cutS p (some j) none, es3, ?_, p3, asc_app (asc_app (cut_asc _ _ hp.a) hS.a) (cut_asc _ _ hp.a), by rw [len_app, len_app]; omega⟩
      exact ev_runR rfl (ev_seq s1 (ev_seq s2 (ev_seqR (ev_ifT t1 (ev_ret (ev_bin (ev_bin (ev_slT rfl rfl (ev_oS rfl) (by omega)) e1 (if_pos l1)) (ev_slT rfl (ev_oS e2) rfl (by omega)) (if_pos l2)))))))
    have hr : r1 = 0 ∨ r1 = 1 ∨ r1 = 2 := by omega
    rcases hr with hr | hr | hr
    · refine fin ⟨#[c]⟩ (r2 + 0) hc1 (by omega) ?_ ?_
      · subst hr; exact ev_bin rfl (ev_cb (ev_cons (ev_bin rfl rfl rfl) ev_nil) rfl) (mul1 c hc)
      · subst hr; exact ev_bin rfl (ev_cb (ev_cons (ev_bin rfl rfl rfl) ev_nil) rfl) rfl
    · refine fin Str.empty (r2 + 1) hc0 (by omega) ?_ ?_
      · subst hr; exact ev_bin rfl (ev_cb (ev_cons (ev_bin rfl rfl rfl) ev_nil) rfl) (mul0 c)
      · subst hr; exact ev_bin rfl (ev_cb (ev_cons (ev_bin rfl rfl rfl) ev_nil) rfl) rfl
    · refine fin ⟨#[c]⟩ (r2 + 1) hc1 (by omega) ?_ ?_
      · subst hr; exact ev_bin rfl (ev_cb (ev_cons (ev_bin rfl rfl rfl) ev_nil) rfl) (mul1 c hc)
      · subst hr; exact ev_bin rfl (ev_cb (ev_cons (ev_bin rfl rfl rfl) ev_nil) rfl) rfl
  · rw [decide_eq_false h3] at t1
    obtain ⟨w1, w2⟩ := split_wd hp.a hp.l
    have w3 := split_sum p
    have w4 : 0 < (Txt.split p spS).length := by
      cases e : Txt.split p spS with
      | nil => exact absurd e spl_some
      | cons _ _ => exact Nat.succ_pos _
    generalize hws : Txt.split p spS = ws at w1 w2 w3 w4
    have wl : (ws.map PyData.str).length = ws.length := List.length_map ..
    obtain ⟨r4, es4, d4, p4, a4, b4⟩ := draw_spec p3 (m := (os.length : Nat)) (by omega) (by omega)
    obtain ⟨r5, es5, d5, p5, a5, b5⟩ := draw_spec p4 (m := ((ws.map PyData.str).length : Nat)) (by omega) (by omega)
    have hi := atI_in a4 b4
    obtain ⟨y, ey, hy⟩ := ho _ (List.getElem_mem (l := os) (n := r4.toNat) (by omega))
    rw [ey] at hi
    have hyl := hy.l
    have wa : ∀ w ∈ ws, Asc w := fun w hw => (w1 w hw).a
    have c4 : fCR 0 m__law_draw (fCons (fLenN 2) fNil) E4 = some (.int r4, spE es4 p os (some (.fr (.int r1))) (some (.fr (.int r2))) (some (.fr (.str ⟨#[c]⟩))) none none none) := ev_crE rfl (ev_cons (ev_lenN (d := .list os) rfl rfl) ev_nil) rfl d4 rfl
    let E5 := spE es4 p os (some (.fr (.int r1))) (some (.fr (.int r2))) (some (.fr (.str ⟨#[c]⟩))) (some (.ow (ws.map .str))) (some (.fr (.str y))) none
    let E6 := spE es5 p os (some (.fr (.int r1))) (some (.fr (.int r2))) (some (.fr (.str ⟨#[c]⟩))) (some (.ow (ws.map .str))) (some (.fr (.str y))) (some (.fr (.int r5)))
    have s4 : sParND 6 7 (nSplit (rdF 1) (fC (.str " "))) (fIxN 2 (fCR 0 m__law_draw (fCons (fLenN 2) fNil))) E4 = some (.nx E5) :=
      ev_parND (a := ws.map .str) (by rw [← hws]; exact ev_nsplit rfl rfl (by decide) (by omega)) (ev_ixN (i := .int r4) (d0 := .list os) (d := .list os) rfl c4 rfl hi) rfl
    have s5 : sSet 8 (fCR 0 m__law_draw (fCons (fLenN 6) fNil)) E5 = some (.nx E6) := ev_setE (ev_crE (e2 := spE es5 p os (some (.fr (.int r1))) (some (.fr (.int r2))) (some (.fr (.str ⟨#[c]⟩))) (some (.ow (ws.map .str))) (some (.fr (.str y))) none) rfl (ev_cons (ev_lenN (d := .list (ws.map .str)) rfl rfl) ev_nil) rfl d5 rfl) rfl
    have fin : ∀ ws' : List Str, (∀ w ∈ ws', Asc w) → szW ws' ≤ B + 45 → spWay E6 = some (.nx (spE es5 p os (some (.fr (.int r1))) (some (.fr (.int r2))) (some (.fr (.str ⟨#[c]⟩))) (some (.ow (ws'.map .str))) (some (.fr (.str y))) (some (.fr (.int r5))))) → ∃ p' es', m__law_spoilt es [.str p, .list os] = some (.str p', es') ∧ PoolOk es' ∧ Tx0 (B + 45) p' := fun ws' h1 h2 h4 => by
      refine ⟨jn ws', es5, ?_, p5, joined h1 h2⟩
      exact ev_runR rfl (ev_seq s1 (ev_seq s2 (ev_seq (ev_ifF t1 rfl) (ev_seq s4 (ev_seq s5 (ev_seq h4 (ev_ret (ev_tm1 rfl rfl (joinG_w (by omega))))))))))
    have hr : r1 = 3 ∨ r1 = 4 ∨ r1 = 5 := by omega
    have ix5 : ixN (ws.map PyData.str).length r5 = some r5.toNat := ixN_in a5 b5
    rcases hr with hr | hr | hr
    · refine fin (ws.take r5.toNat ++ y :: ws.drop r5.toNat) (fun w hw => ?_) (by rw [szW_ins]; omega) ?_
      · rcases List.mem_append.mp hw with h | h
        · exact wa w (List.mem_of_mem_take h)
        · rcases List.mem_cons.mp h with rfl | h
          · exact hy.a
          · exact wa w (List.mem_of_mem_drop h)
      · subst hr
        refine ev_ifT (ev_tst (d := .bool true) (ev_bin rfl rfl rfl) rfl) (ev_insert (es0 := ws.map .str) (zs := ws.map .str) rfl rfl rfl rfl ⟨a5, by omega, by omega⟩ ?_)
        rw [← List.map_take, ← List.map_drop, ← List.map_cons (f := PyData.str), ← List.map_append]
        rfl
    · refine fin (ws.set r5.toNat y) (fun w hw => ?_) (by have := szW_set y ws r5.toNat; omega) ?_
      · rcases List.mem_or_eq_of_mem_set hw with h | rfl
        · exact wa w h
        · exact hy.a
      · subst hr
        refine ev_ifF (ev_tst (d := .bool false) (ev_bin rfl rfl rfl) rfl) (ev_ifT (ev_tst (d := .bool true) (ev_bin rfl rfl rfl) rfl) (ev_asgS (es0 := ws.map .str) (es := ws.map .str) rfl rfl rfl rfl ix5 ?_))
        rw [List.map_set]
        rfl
    · refine fin (ws.eraseIdx r5.toNat) (fun w hw => wa w (List.mem_of_mem_eraseIdx hw)) (by have := szW_era ws r5.toNat; omega) ?_
      subst hr
      refine ev_ifF (ev_tst (d := .bool false) (ev_bin rfl rfl rfl) rfl) (ev_ifF (ev_tst (d := .bool false) (ev_bin rfl rfl rfl) rfl) (ev_expr (ev_popI (es0 := ws.map .str) (es := ws.map .str) (d := .str (ws[r5.toNat]'(by omega))) rfl rfl rfl (by omega) ix5 ?_ ?_)))
      · rw [List.getElem?_map, List.getElem?_eq_getElem (by omega)]
        rfl
      · rw [map_era]
        rfl
end DL
end L2


set_option Elab.async false
set_option maxRecDepth 100000
set_option maxHeartbeats 4000000
set_option autoImplicit false
namespace L2
namespace DL
open PySem PySem.Spec PyProof.Rows
local instance labNone_K20X : Lab := { w := none, T := [], gd := True }
/-! ### right_spec -/
abbrev R0 : DEnv := [none, none, none, none, none, none]
def own1 (x : Option DFlow) : List PyData := match x with
  | some (.nx (_ :: some (.ow l) :: _)) => l
  | _ => []
def od0 : List PyData := own1 (((sSetN 1 (fLst (fCons (fC (.str "")) (fCons (fC (.str "(")) (fCons (fC (.str ")")) (fCons (fC (.str ")x1")) (fCons (fC (.str ")x0")) (fCons (fC (.str ")x02")) (fCons (fC (.str ")x")) (fCons (fC (.str "( )x2")) (fCons (fC (.str "reverse:0")) (fCons (fC (.str "restore:")) (fCons (fC (.str "up")) (fCons (fC (.str "up:")) (fCons (fC (.str "up:4")) fNil)))))))))))))))) R0)
def od1 : List PyData := own1 (((sSetN 1 (nAdd (rdF 1) (fFrz (fLst (fCons (fC (.str "up:00")) (fCons (fC (.str "up:3")) (fCons (fC (.str "down:-1")) (fCons (fC (.str "first:1")) (fCons (fC (.str "first:2")) (fCons (fC (.str "last:29")) (fCons (fC (.str "last:30")) (fCons (fC (.str "last:2:2")) (fCons (fC (.str "place:0")) fNil)))))))))))))) [none, some (.ow od0), none, none, none, none])
def od2 : List PyData := own1 (((sSetN 1 (nAdd (rdF 1) (fFrz (fLst (fCons (fC (.str "repeat")) (fCons (fC (.str "repeat:2")) (fCons (fBin addD (fC (.str ")x1")) (fBin mulSD (fC (.str "0")) (fC (.int 30)))) (fCons (fBin addD (fBin addD (fC (.str ")x1")) (fBin mulSD (fC (.str "0")) (fC (.int 29)))) (fC (.str "1"))) (fCons (fC (.str "()x3")) (fCons (fC (.str "up:0)x2")) (fCons (fC (.str "UP:0")) fNil)))))))))))) [none, some (.ow od1), none, none, none, none])
def od3 : List PyData := own1 (((sSetN 1 (nAdd (rdF 1) (fFrz (fLst (fCons (fC (.str "up:1_0")) (fCons (fC (.str "first:1_0")) (fCons (fC (.str ":")) (fCons (fC (.str ":2")) (fCons (fC (.str "up:0:")) fNil)))))))))) [none, some (.ow od2), none, none, none, none])
def txB (B : Nat) (d : PyData) : Bool := match d with
  | .str y => (TL.tl y).all (fun c => decide (c < 128)) && decide (y.length ≤ B)
  | _ => false
theorem txB_ok {B : Nat} {d : PyData} (h : txB B d = true) : ∃ y, d = .str y ∧ Tx0 B y := by
  cases d with
  | str y => exact ⟨y, rfl, asc_dec B h⟩
  | _ => cases h
theorem od_tx : ∀ d ∈ od3, ∃ y, d = .str y ∧ Tx0 40 y := by
  have h : od3.all (txB 40) = true := by decide +kernel
  exact fun d hd => txB_ok (List.all_eq_true.mp h d hd)
theorem od_len : 0 < od3.length ∧ od3.length ≤ 1000 := by decide +kernel
def OddV (v : Option DV) : Prop := v = some (.ow od3) ∨ v = some (.fr (.list od3))
abbrev rtE (es : List PyData) (v t p m b : Option DV) : DEnv := [some (.rf es), v, t, p, m, b]
theorem rd_odd {v : Option DV} (h : OddV v) (es : List PyData) (t p m b : Option DV) : rdF 1 (rtE es v t p m b) = some (.list od3, rtE es (some (.fr (.list od3))) t p m b) := by
  rcases h with rfl | rfl <;> rfl
abbrev rtIn := (sSeq (sSet 5 (fCR 0 m__law_spoilt (fCons (rdF 3) (fCons (rdF 1) fNil)))) (sIf (fOr (fNot (fTst (fCB m__law_told_right (fCons (rdF 5) (fCons (fC (.bool false)) fNil))))) (fNot (fTst (fCB m__law_told_right (fCons (fCR 0 m__law_spoilt (fCons (rdF 5) (fCons (rdF 1) fNil))) (fCons (fC (.bool true)) fNil)))))) (sRet (fC (.bool false))) sNil))
theorem in_turn {es : List PyData} (he : PoolOk es) {p : Str} (hp : Tx0 2000 p) {v t m b : Option DV} (hv : OddV v) : ∃ es' q, rtIn (rtE es v t (some (.fr (.str p))) m b) = some (.nx (rtE es' (some (.fr (.list od3))) t (some (.fr (.str p))) m (some (.fr (.str q))))) ∧ PoolOk es' := by
  obtain ⟨q, es1, e1, p1, h1⟩ := spoilt_spec he hp (by decide) od_tx od_len.1 od_len.2
  obtain ⟨q2, es2, e2, p2, h2⟩ := spoilt_spec p1 h1 (by decide) od_tx od_len.1 od_len.2
  have g1 := told_any (h1.mono (by decide)) false
  have g2 := told_any (h2.mono (by decide)) true
  refine ⟨es2, q, ?_, p2⟩
  refine ev_seq (e1 := rtE es1 (some (.fr (.list od3))) t (some (.fr (.str p))) m (some (.fr (.str q)))) (ev_setE (e1 := rtE es1 (some (.fr (.list od3))) t (some (.fr (.str p))) m b) (ev_crE (e1 := rtE es (some (.fr (.list od3))) t (some (.fr (.str p))) m b) rfl (ev_cons rfl (ev_cons (rd_odd hv es t _ m b) ev_nil)) rfl e1 rfl) rfl) ?_
  refine ev_ifF (e1 := rtE es2 (some (.fr (.list od3))) t (some (.fr (.str p))) m (some (.fr (.str q)))) (ev_or0 (ev_not (k := true) (ev_tst (d := .bool true) (ev_cb (ev_cons rfl (ev_cons rfl ev_nil)) g1) rfl)) (ev_not (k := true) (ev_tst (d := .bool true) (ev_cb (ev_cons (ev_crE (e1 := rtE es1 (some (.fr (.list od3))) t (some (.fr (.str p))) m (some (.fr (.str q)))) rfl (ev_cons rfl (ev_cons rfl ev_nil)) rfl e2 rfl) (ev_cons rfl ev_nil)) g2) rfl))) rfl
theorem in_loop {p : Str} (hp : Tx0 2000 p) {t : Option DV} : ∀ (xs es : List PyData) (v m b : Option DV), PoolOk es → OddV v → ∃ es' v' m' b', forD (gSet 4) rtIn xs (rtE es v t (some (.fr (.str p))) m b) = some (.nx (rtE es' v' t (some (.fr (.str p))) m' b')) ∧ PoolOk es' ∧ OddV v'
  | [], es, v, m, b, he, hv => ⟨es, v, m, b, rfl, he, hv⟩
  | x :: xs, es, v, m, b, he, hv => by
    obtain ⟨es1, q, e1, p1⟩ := in_turn he hp (t := t) (m := some (.fr x)) (b := b) hv
    obtain ⟨es2, v2, m2, b2, e2, p2, o2⟩ := in_loop hp (t := t) xs es1 _ (some (.fr x)) (some (.fr (.str q))) p1 (.inr rfl)
    exact ⟨es2, v2, m2, b2, ev_forN rfl e1 e2, p2, o2⟩
abbrev rtOut := (sSeq (sSet 3 (fCB m__law_written (fCons (fCR 0 m__law_program (fCons (fC (.int 4)) (fCons (fC (.int 29)) (fCons (fBin ixD (fFrz (fLst (fCons (fC (.int 9)) (fCons (fBin powD (fC (.int 10)) (fC (.int 30))) fNil)))) (fCR 0 m__law_draw (fCons (fC (.int 2)) fNil))) fNil)))) fNil))) (sSeq (sIf (fNot (fTst (fCB m__law_told_right (fCons (rdF 3) (fCons (fC (.bool false)) fNil))))) (sRet (fC (.bool false))) sNil) (sFor (iArg rng1 (fCons (fC (.int 10)) fNil)) (gSet 4) (sSeq (sSet 5 (fCR 0 m__law_spoilt (fCons (rdF 3) (fCons (rdF 1) fNil)))) (sIf (fOr (fNot (fTst (fCB m__law_told_right (fCons (rdF 5) (fCons (fC (.bool false)) fNil))))) (fNot (fTst (fCB m__law_told_right (fCons (fCR 0 m__law_spoilt (fCons (rdF 5) (fCons (rdF 1) fNil))) (fCons (fC (.bool true)) fNil)))))) (sRet (fC (.bool false))) sNil)))))
abbrev rtTm := fBin ixD (fFrz (fLst (fCons (fC (.int 9)) (fCons (fBin powD (fC (.int 10)) (fC (.int 30))) fNil)))) (fCR 0 m__law_draw (fCons (fC (.int 2)) fNil))
theorem out_turn {es : List PyData} (he : PoolOk es) {v t p m b : Option DV} (hv : OddV v) : ∃ es' v' p' m' b', rtOut (rtE es v t p m b) = some (.nx (rtE es' v' t p' m' b')) ∧ PoolOk es' ∧ OddV v' := by
  obtain ⟨r, es1, d1, p1, a1, b1⟩ := draw_spec he (m := 2) (by decide) (by decide)
  obtain ⟨tm, ht, h1, h2⟩ : ∃ tm : Int, ixD (.list [.int 9, .int 1000000000000000000000000000000]) (.int r) = some (.int tm) ∧ 1 ≤ tm ∧ tm ≤ MX := by
    have : r = 0 ∨ r = 1 := by omega
    rcases this with e | e
    · exact ⟨9, by rw [e]; rfl, by decide, by decide⟩
    · exact ⟨MX, by rw [e]; rfl, by decide, by decide⟩
  obtain ⟨cs, es2, e2, p2, hc, _, hs, _⟩ := prog_spec p1 (W := 4) (size := 29) (tm := tm) (by omega) (by omega) ⟨h1, h2⟩
  have ok : ∀ c ∈ cs, CmOk tm 2 c := fun c hm => (hc c hm).ok
  have hw : m__law_written [cpE cs] = some (.str (jn (cs.flatMap (toks 2)))) := lw_prog h2 2 12 (by decide) (by decide) cs ok (by omega)
  obtain ⟨a1', a2'⟩ := tokss_ok h2 ok
  have tx : Tx0 2000 (jn (cs.flatMap (toks 2))) := ⟨jn_asc _ fun w hw => word_as (a1' w hw), by have := jn_le a1'; omega⟩
  generalize jn (cs.flatMap (toks 2)) = pg at hw tx
  have t0 : rtTm (rtE es v t p m b) = some (.int tm, rtE es1 v t p m b) :=
    ev_bin (a := .list [.int 9, .int 1000000000000000000000000000000]) (ev_frz (ev_lst (ev_cons rfl (ev_cons (ev_bin rfl rfl (by kernel_rfl)) ev_nil)) (by show 2 ≤ 100000; decide))) (ev_crE (e2 := rtE es1 v t p m b) rfl (ev_cons rfl ev_nil) rfl d1 rfl) ht
  obtain ⟨es3, v3, m3, b3, e3, p3, o3⟩ := in_loop tx (t := t) [.int 0, .int 1, .int 2, .int 3, .int 4, .int 5, .int 6, .int 7, .int 8, .int 9] es2 v m b p2 hv
  refine ⟨es3, v3, some (.fr (.str pg)), m3, b3, ?_, p3, o3⟩
  refine ev_seq (e1 := rtE es2 v t (some (.fr (.str pg))) m b) (ev_setE (ev_cb (ev_cons (ev_crE (e1 := rtE es1 v t p m b) (e2 := rtE es2 v t p m b) rfl (ev_cons rfl (ev_cons rfl (ev_cons t0 ev_nil))) rfl e2 rfl) ev_nil) hw) rfl) ?_
  refine ev_seq (e1 := rtE es2 v t (some (.fr (.str pg))) m b) (ev_ifF (ev_not (k := true) (ev_tst (d := .bool true) (ev_cb (ev_cons rfl (ev_cons rfl ev_nil)) (told_any (tx.mono (by decide)) false)) rfl)) rfl) ?_
  exact ev_for (by kernel_rfl) e3
theorem out_loop : ∀ (xs es : List PyData) (v t p m b : Option DV), PoolOk es → OddV v → ∃ es' v' t' p' m' b', forD (gSet 2) rtOut xs (rtE es v t p m b) = some (.nx (rtE es' v' t' p' m' b')) ∧ PoolOk es'
  | [], es, v, t, p, m, b, he, hv => ⟨es, v, t, p, m, b, rfl, he⟩
  | x :: xs, es, v, t, p, m, b, he, hv => by
    obtain ⟨es1, v1, q1, m1, b1, e1, p1, o1⟩ := out_turn he (t := some (.fr x)) (p := p) (m := m) (b := b) hv
    obtain ⟨es2, v2, t2, q2, m2, b2, e2, p2⟩ := out_loop xs es1 v1 (some (.fr x)) q1 m1 b1 p1 o1
    exact ⟨es2, v2, t2, q2, m2, b2, ev_forN rfl e1 e2, p2⟩
theorem right_spec {es : List PyData} (he : PoolOk es) : ∃ es', m__law_right es [] = some (.bool true, es') ∧ PoolOk es' := by
  obtain ⟨es1, v1, t1, q1, m1, b1, e1, p1⟩ := out_loop [.int 0, .int 1, .int 2] es (some (.ow od3)) none none none none he (.inl rfl)
  refine ⟨es1, ?_, p1⟩
  refine ev_runR (env := [v1, t1, q1, m1, b1]) rfl ?_
  refine ev_seq (e1 := rtE es (some (.ow od0)) none none none none) (by kernel_rfl) ?_
  refine ev_seq (e1 := rtE es (some (.ow od1)) none none none none) (by kernel_rfl) ?_
  refine ev_seq (e1 := rtE es (some (.ow od2)) none none none none) (by kernel_rfl) ?_
  refine ev_seq (e1 := rtE es (some (.ow od3)) none none none none) (by kernel_rfl) ?_
  exact ev_seq (ev_for (ds := [.int 0, .int 1, .int 2]) (by kernel_rfl) e1) (ev_ret rfl)
end DL
end L2


set_option Elab.async false
set_option maxRecDepth 100000
set_option maxHeartbeats 4000000
set_option autoImplicit false
namespace L2
namespace DL
open PySem PySem.Spec PyProof.Rows
local instance labNone_K20Y2 : Lab := { w := none, T := [], gd := True }
/-! ### the law: its fixed texts -/
theorem asc_mul {x : Str} (h : Asc x) (n : Int) : Asc (Txt.mul x n) := by
  unfold Txt.mul
  split
  · exact fun c hc => nomatch hc
  · split
    · exact h
    · intro c hc
      have gen : ∀ (k : Nat) (acc : Array Nat), (∀ c ∈ acc.toList, c < 128) → ∀ c ∈ ((List.replicate k x.cps).foldl (· ++ ·) acc).toList, c < 128 := fun k => by
        induction k with
        | zero => exact fun acc ha => ha
        | succ k ih =>
          intro acc ha
          rw [List.replicate_succ, List.foldl_cons]
          refine ih _ fun c hc => ?_
          rw [Array.toList_append] at hc
          rcases List.mem_append.mp hc with z | z
          · exact ha c z
          · exact h c z
      exact gen _ #[] (fun c hc => nomatch hc) c hc
theorem mul_leS {x : Str} {n : Int} (k : Nat) (h0 : 0 ≤ n) (h : (x.length : Int) * n ≤ (k : Nat)) : (Txt.mul x n).length ≤ k := by
  have := PyProof.Rows.len_mul x n
  rw [decide_eq_false (show ¬ n < 0 by omega)] at this
  have e : (if false = true then (0 : Int) else n) = n := rfl
  rw [e] at this
  omega
def m19 : Str := Txt.mul "1" 1900
def m39 : Str := Txt.mul "up:0 " 399
theorem m19_tx : Tx0 1900 m19 := ⟨asc_mul (asc_dec 1 (s := "1") (by decide +kernel)).a _, mul_leS _ (by decide) (by decide +kernel)⟩
theorem m39_tx : Tx0 1995 m39 := ⟨asc_mul (asc_dec 5 (s := "up:0 ") (by decide +kernel)).a _, mul_leS _ (by decide) (by decide +kernel)⟩
theorem mul_m19 : mulSD (.str "1") (.int 1900) = some (.str m19) := by
  unfold m19
  show (if 1 ≤ ("1" : Str).length ∧ ("1" : Str).length ≤ 1000 ∧ (1 : Int) ≤ 1900 ∧ (1900 : Int) ≤ 2000 then some (PyData.str (Txt.mul "1" 1900)) else none) = _
  exact if_pos (by decide +kernel)
theorem mul_m39 : mulSD (.str "up:0 ") (.int 399) = some (.str m39) := by
  unfold m39
  show (if 1 ≤ ("up:0 " : Str).length ∧ ("up:0 " : Str).length ≤ 1000 ∧ (1 : Int) ≤ 399 ∧ (399 : Int) ≤ 2000 then some (PyData.str (Txt.mul "up:0 " 399)) else none) = _
  exact if_pos (by decide +kernel)
theorem len4a : ("( )x" : Str).length = 4 := by decide +kernel
theorem len4b : ("up:0" : Str).length = 4 := by decide +kernel
theorem add_m19 : addD (.str "( )x") (.str m19) = some (.str ("( )x" ++ m19)) := by
  have h := m19_tx.l
  have h2 := len4a
  have limE : lim = 100000 := rfl
  show (if ("( )x" : Str).length + m19.length ≤ lim then some (PyData.str ("( )x" ++ m19)) else none) = _
  exact if_pos (by omega)
theorem add_m39 : addD (.str m39) (.str "up:0") = some (.str (m39 ++ "up:0")) := by
  have h := m39_tx.l
  have h2 := len4b
  have limE : lim = 100000 := rfl
  show (if m39.length + ("up:0" : Str).length ≤ lim then some (PyData.str (m39 ++ "up:0")) else none) = _
  exact if_pos (by omega)
def lst1 (x : Option (List PyData × DEnv)) : List PyData := match x with
  | some (l, _) => l
  | none => []
def one1 (x : Option (PyData × DEnv)) : PyData := match x with
  | some (d, _) => d
  | none => .none
def Td (d : PyData) : Prop := ∀ b, m__law_told_right [d, .bool b] = some (.bool true)
theorem td_B {d : PyData} (h : txB 4000 d = true) : Td d := fun b => by
  obtain ⟨y, rfl, hy⟩ := txB_ok h
  exact told_any hy b
theorem td_all {ds : List PyData} (h : ds.all (txB 4000) = true) : ∀ d ∈ ds, Td d := fun d hd => td_B (List.all_eq_true.mp h d hd)
theorem td_app {a b : List PyData} (ha : ∀ d ∈ a, Td d) (hb : ∀ d ∈ b, Td d) : ∀ d ∈ a ++ b, Td d := fun d hd => (List.mem_append.mp hd).elim (ha d) (hb d)
abbrev fxE (F : PyData) (l : List PyData) : DEnv := [some (.fr F), some (.ow l), none, none]
abbrev fxG (F : PyData) (l : List PyData) : DEnv := [some (.fr F), some (.fr (.list l)), none, none]
theorem add_stm {F : PyData} {L : DEnv → Option (List PyData × DEnv)} {a c : List PyData} (h : L (fxG F a) = some (c, fxG F a)) (hc : c.length ≤ 1000) (hl : a.length ≤ 1000) : sSetN 1 (nAdd (rdF 1) (fFrz (fLst L))) (fxE F a) = some (.nx (fxE F (a ++ c))) := by
  have limE : lim = 100000 := rfl
  exact ev_setN (ev_nAdd (e1 := fxG F a) rfl (ev_frz (ev_lst h (by omega))) (by omega)) rfl
theorem app_stm {F d : PyData} {a : List PyData} (hl : a.length ≤ 1000) : sApp 1 (fC d) (fxE F a) = some (.nx (fxE F (a ++ [d]))) := by
  have limE : lim = 100000 := rfl
  exact ev_app rfl rfl rfl (by omega) rfl
def cq0 : List PyData := lst1 ((fCons (fC (.str " ")) (fCons (fC (.str "reverse ")) (fCons (fC (.str " reverse")) (fCons (fC (.str "up:0  up:1")) (fCons (fC (.str "up:0,up:1")) (fCons (fC (.str "(")) (fCons (fC (.str ")")) (fCons (fC (.str "()x2")) (fCons (fC (.str "( )x0")) (fCons (fC (.str "( )x01")) (fCons (fC (.str "( )x1")) (fCons (fC (.str "-")) fNil)))))))))))) [none, none, none, none])
theorem ct0 : cq0.all (txB 4000) = true := by decide +kernel
def cq1 : List PyData := lst1 ((fCons (fC (.str "( reverse)x2")) (fCons (fC (.str "(reverse )x2")) (fCons (fC (.str "( reverse )x")) (fCons (fC (.str "( reverse ) x2")) (fCons (fC (.str "reverse )x2")) (fCons (fC (.str "( reverse")) fNil)))))) [none, none, none, none])
theorem ct1 : cq1.all (txB 4000) = true := by decide +kernel
def cq2 : List PyData := lst1 ((fCons (fC (.str "up 0")) fNil) [none, none, none, none])
theorem ct2 : cq2.all (txB 4000) = true := by decide +kernel
def cq3 : List PyData := lst1 ((fCons (fC (.str "( ( reverse )x2")) (fCons (fBin addD (fC (.str "( reverse )x1")) (fBin mulSD (fC (.str "0")) (fC (.int 30)))) (fCons (fBin addD (fC (.str "( reverse )x1")) (fBin mulSD (fC (.str "0")) (fC (.int 31)))) (fCons (fC (.str "up:0")) (fCons (fC (.str "up:00")) fNil))))) [none, none, none, none])
theorem ct3 : cq3.all (txB 4000) = true := by decide +kernel
def cq4 : List PyData := lst1 ((fCons (fC (.str "up:3")) fNil) [none, none, none, none])
theorem ct4 : cq4.all (txB 4000) = true := by decide +kernel
def cq5 : List PyData := lst1 ((fCons (fC (.str "up:4")) (fCons (fC (.str "up:")) (fCons (fC (.str "up")) (fCons (fC (.str "up:+1")) (fCons (fC (.str "up:-1")) (fCons (fC (.str "up:1.0")) (fCons (fC (.str "up:01")) (fCons (fC (.str "up:1_0")) (fCons (fC (.str "first:2")) (fCons (fC (.str "first:1")) fNil)))))))))) [none, none, none, none])
theorem ct5 : cq5.all (txB 4000) = true := by decide +kernel
def cq6 : List PyData := lst1 ((fCons (fC (.str "first:02")) fNil) [none, none, none, none])
theorem ct6 : cq6.all (txB 4000) = true := by decide +kernel
def cq7 : List PyData := lst1 ((fCons (fC (.str "last:29")) (fCons (fC (.str "last:30")) (fCons (fC (.str "last:1_0")) (fCons (fC (.str "reverse:1")) (fCons (fC (.str "restore:")) (fCons (fC (.str "Reverse")) (fCons (fC (.str "sort:1")) (fCons (fC (.str "place:1")) fNil)))))))) [none, none, none, none])
theorem ct7 : cq7.all (txB 4000) = true := by decide +kernel
def cq8 : List PyData := lst1 ((fCons (fC (.str "repeat:2")) fNil) [none, none, none, none])
theorem ct8 : cq8.all (txB 4000) = true := by decide +kernel
def ca9 : List PyData := [one1 ((fBin addD (fBin addD (fBin mulSD (fC (.str "( ")) (fC (.int 3))) (fC (.str "up:0"))) (fBin mulSD (fC (.str " )x2")) (fC (.int 3)))) [none, none, none, none]), one1 ((fBin addD (fBin addD (fBin mulSD (fC (.str "( ")) (fC (.int 4))) (fC (.str "up:0"))) (fBin mulSD (fC (.str " )x2")) (fC (.int 4)))) [none, none, none, none])]
def cb9 : List PyData := lst1 ((fCons (fC (.str "")) fNil) [none, none, none, none])
theorem cat9 : ca9.all (txB 4000) = true := by decide +kernel
theorem cbt9 : cb9.all (txB 4000) = true := by decide +kernel
def cq9 : List PyData := ca9 ++ .str ("( )x" ++ m19) :: cb9
theorem lt9 : Tx0 4000 ("( )x" ++ m19) := ⟨asc_app (asc_dec 4 (s := "( )x") (by decide +kernel)).a m19_tx.a, by have := m19_tx.l; have h2 := len4a; rw [len_app]; omega⟩
theorem ct9 : ∀ d ∈ cq9, Td d := td_app (td_all cat9) fun d hd => by
  rcases List.mem_cons.mp hd with rfl | hd
  · exact fun b => told_any lt9 b
  · exact td_all cbt9 d hd
theorem ce9 (E : DEnv) : (fCons (fBin addD (fC (.str "( )x")) (fBin mulSD (fC (.str "1")) (fC (.int 1900)))) (fCons (fC (.str "")) fNil)) E = some (.str ("( )x" ++ m19) :: cb9, E) := ev_cons (d := .str ("( )x" ++ m19)) (ev_bin (b := .str m19) rfl (ev_bin rfl rfl mul_m19) add_m19) (ds := cb9) (by kernel_rfl)
theorem cl9 (E : DEnv) : (fCons (fBin addD (fBin addD (fBin mulSD (fC (.str "( ")) (fC (.int 3))) (fC (.str "up:0"))) (fBin mulSD (fC (.str " )x2")) (fC (.int 3)))) (fCons (fBin addD (fBin addD (fBin mulSD (fC (.str "( ")) (fC (.int 4))) (fC (.str "up:0"))) (fBin mulSD (fC (.str " )x2")) (fC (.int 4)))) (fCons (fBin addD (fC (.str "( )x")) (fBin mulSD (fC (.str "1")) (fC (.int 1900)))) (fCons (fC (.str "")) fNil)))) E = some (cq9, E) := ev_cons (d := one1 ((fBin addD (fBin addD (fBin mulSD (fC (.str "( ")) (fC (.int 3))) (fC (.str "up:0"))) (fBin mulSD (fC (.str " )x2")) (fC (.int 3)))) [none, none, none, none])) (e1 := E) (by kernel_rfl) (ev_cons (d := one1 ((fBin addD (fBin addD (fBin mulSD (fC (.str "( ")) (fC (.int 4))) (fC (.str "up:0"))) (fBin mulSD (fC (.str " )x2")) (fC (.int 4)))) [none, none, none, none])) (e1 := E) (by kernel_rfl) (ce9 E))
def ca10 : List PyData := []
def cb10 : List PyData := lst1 ((fCons (fC (.str "up:0:0")) (fCons (fC (.str ":0")) (fCons (fC (.str ":")) (fCons (fC (.str "up:(")) (fCons (fC (.str "( )x2:0")) fNil))))) [none, none, none, none])
theorem cat10 : ca10.all (txB 4000) = true := by decide +kernel
theorem cbt10 : cb10.all (txB 4000) = true := by decide +kernel
def cq10 : List PyData := ca10 ++ .str (m39 ++ "up:0") :: cb10
theorem lt10 : Tx0 4000 (m39 ++ "up:0") := ⟨asc_app m39_tx.a (asc_dec 4 (s := "up:0") (by decide +kernel)).a, by have := m39_tx.l; have h2 := len4b; rw [len_app]; omega⟩
theorem ct10 : ∀ d ∈ cq10, Td d := td_app (td_all cat10) fun d hd => by
  rcases List.mem_cons.mp hd with rfl | hd
  · exact fun b => told_any lt10 b
  · exact td_all cbt10 d hd
theorem ce10 (E : DEnv) : (fCons (fBin addD (fBin mulSD (fC (.str "up:0 ")) (fC (.int 399))) (fC (.str "up:0"))) (fCons (fC (.str "up:0:0")) (fCons (fC (.str ":0")) (fCons (fC (.str ":")) (fCons (fC (.str "up:(")) (fCons (fC (.str "( )x2:0")) fNil)))))) E = some (.str (m39 ++ "up:0") :: cb10, E) := ev_cons (d := .str (m39 ++ "up:0")) (ev_bin (a := .str m39) (ev_bin rfl rfl mul_m39) rfl add_m39) (ds := cb10) (by kernel_rfl)
theorem cl10 (E : DEnv) : (fCons (fBin addD (fBin mulSD (fC (.str "up:0 ")) (fC (.int 399))) (fC (.str "up:0"))) (fCons (fC (.str "up:0:0")) (fCons (fC (.str ":0")) (fCons (fC (.str ":")) (fCons (fC (.str "up:(")) (fCons (fC (.str "( )x2:0")) fNil)))))) E = some (cq10, E) := ce10 E
def cq11 : List PyData := lst1 ((fCons (fC (.str "( )x1_0")) (fCons (fBin addD (fC (.str "first:")) (fBin mulSD (fC (.str "2")) (fC (.int 39)))) fNil)) [none, none, none, none])
theorem ct11 : cq11.all (txB 4000) = true := by decide +kernel
def cq12 : List PyData := [.none, .int 5, .bool true, .tuple [], .tuple [.tuple [.str "up", .int 0]], .list [.str "up:0"], .dict [], .int (-1), .tuple [.str "up:0"]]
theorem oth_told : ∀ d ∈ cq12, Td d := by
  intro d hd b
  simp only [cq12, List.mem_cons, List.not_mem_nil, or_false] at hd
  rcases hd with rfl | rfl | rfl | rfl | rfl | rfl | rfl | rfl | rfl <;> cases b <;> kernel_rfl
def fx0 : List PyData := cq0
def fx1 : List PyData := fx0 ++ cq1
def fx2 : List PyData := fx1 ++ [.str "up 0"]
def fx3 : List PyData := fx2 ++ cq3
def fx4 : List PyData := fx3 ++ [.str "up:3"]
def fx5 : List PyData := fx4 ++ cq5
def fx6 : List PyData := fx5 ++ [.str "first:02"]
def fx7 : List PyData := fx6 ++ cq7
def fx8 : List PyData := fx7 ++ [.str "repeat:2"]
def fx9 : List PyData := fx8 ++ cq9
def fx10 : List PyData := fx9 ++ cq10
def fx11 : List PyData := fx10 ++ cq11
def fx12 : List PyData := fx11 ++ cq12
theorem fx_told : ∀ d ∈ fx12, Td d := td_app (td_app (td_app (td_app (td_app (td_app (td_app (td_app (td_app (td_app (td_app (td_app (td_all ct0) (td_all ct1)) (td_all ct2)) (td_all ct3)) (td_all ct4)) (td_all ct5)) (td_all ct6)) (td_all ct7)) (td_all ct8)) (ct9)) (ct10)) (td_all ct11)) (oth_told)
theorem fn0 : fx0.length ≤ 1000 := by decide +kernel
theorem fn1 : fx1.length ≤ 1000 := by decide +kernel
theorem fn2 : fx2.length ≤ 1000 := by decide +kernel
theorem fn3 : fx3.length ≤ 1000 := by decide +kernel
theorem fn4 : fx4.length ≤ 1000 := by decide +kernel
theorem fn5 : fx5.length ≤ 1000 := by decide +kernel
theorem fn6 : fx6.length ≤ 1000 := by decide +kernel
theorem fn7 : fx7.length ≤ 1000 := by decide +kernel
theorem fn8 : fx8.length ≤ 1000 := by decide +kernel
theorem fn9 : fx9.length ≤ 1000 := by decide +kernel
theorem fn10 : fx10.length ≤ 1000 := by decide +kernel
theorem fn11 : fx11.length ≤ 1000 := by decide +kernel
theorem fn12 : fx12.length ≤ 1000 := by decide +kernel
theorem fs0 (F : PyData) : (sSetN 1 (fLst (fCons (fC (.str " ")) (fCons (fC (.str "reverse ")) (fCons (fC (.str " reverse")) (fCons (fC (.str "up:0  up:1")) (fCons (fC (.str "up:0,up:1")) (fCons (fC (.str "(")) (fCons (fC (.str ")")) (fCons (fC (.str "()x2")) (fCons (fC (.str "( )x0")) (fCons (fC (.str "( )x01")) (fCons (fC (.str "( )x1")) (fCons (fC (.str "-")) fNil)))))))))))))) [some (.fr F), none, none, none] = some (.nx (fxE F fx0)) := by kernel_rfl
theorem fs1 (F : PyData) : (sSetN 1 (nAdd (rdF 1) (fFrz (fLst (fCons (fC (.str "( reverse)x2")) (fCons (fC (.str "(reverse )x2")) (fCons (fC (.str "( reverse )x")) (fCons (fC (.str "( reverse ) x2")) (fCons (fC (.str "reverse )x2")) (fCons (fC (.str "( reverse")) fNil)))))))))) (fxE F fx0) = some (.nx (fxE F fx1)) := add_stm (c := cq1) (by kernel_rfl) (by decide +kernel) fn0
theorem fs2 (F : PyData) : (sApp 1 (fC (.str "up 0"))) (fxE F fx1) = some (.nx (fxE F fx2)) := app_stm fn1
theorem fs3 (F : PyData) : (sSetN 1 (nAdd (rdF 1) (fFrz (fLst (fCons (fC (.str "( ( reverse )x2")) (fCons (fBin addD (fC (.str "( reverse )x1")) (fBin mulSD (fC (.str "0")) (fC (.int 30)))) (fCons (fBin addD (fC (.str "( reverse )x1")) (fBin mulSD (fC (.str "0")) (fC (.int 31)))) (fCons (fC (.str "up:0")) (fCons (fC (.str "up:00")) fNil))))))))) (fxE F fx2) = some (.nx (fxE F fx3)) := add_stm (c := cq3) (by kernel_rfl) (by decide +kernel) fn2
theorem fs4 (F : PyData) : (sApp 1 (fC (.str "up:3"))) (fxE F fx3) = some (.nx (fxE F fx4)) := app_stm fn3
theorem fs5 (F : PyData) : (sSetN 1 (nAdd (rdF 1) (fFrz (fLst (fCons (fC (.str "up:4")) (fCons (fC (.str "up:")) (fCons (fC (.str "up")) (fCons (fC (.str "up:+1")) (fCons (fC (.str "up:-1")) (fCons (fC (.str "up:1.0")) (fCons (fC (.str "up:01")) (fCons (fC (.str "up:1_0")) (fCons (fC (.str "first:2")) (fCons (fC (.str "first:1")) fNil)))))))))))))) (fxE F fx4) = some (.nx (fxE F fx5)) := add_stm (c := cq5) (by kernel_rfl) (by decide +kernel) fn4
theorem fs6 (F : PyData) : (sApp 1 (fC (.str "first:02"))) (fxE F fx5) = some (.nx (fxE F fx6)) := app_stm fn5
theorem fs7 (F : PyData) : (sSetN 1 (nAdd (rdF 1) (fFrz (fLst (fCons (fC (.str "last:29")) (fCons (fC (.str "last:30")) (fCons (fC (.str "last:1_0")) (fCons (fC (.str "reverse:1")) (fCons (fC (.str "restore:")) (fCons (fC (.str "Reverse")) (fCons (fC (.str "sort:1")) (fCons (fC (.str "place:1")) fNil)))))))))))) (fxE F fx6) = some (.nx (fxE F fx7)) := add_stm (c := cq7) (by kernel_rfl) (by decide +kernel) fn6
theorem fs8 (F : PyData) : (sApp 1 (fC (.str "repeat:2"))) (fxE F fx7) = some (.nx (fxE F fx8)) := app_stm fn7
theorem fs9 (F : PyData) : (sSetN 1 (nAdd (rdF 1) (fFrz (fLst (fCons (fBin addD (fBin addD (fBin mulSD (fC (.str "( ")) (fC (.int 3))) (fC (.str "up:0"))) (fBin mulSD (fC (.str " )x2")) (fC (.int 3)))) (fCons (fBin addD (fBin addD (fBin mulSD (fC (.str "( ")) (fC (.int 4))) (fC (.str "up:0"))) (fBin mulSD (fC (.str " )x2")) (fC (.int 4)))) (fCons (fBin addD (fC (.str "( )x")) (fBin mulSD (fC (.str "1")) (fC (.int 1900)))) (fCons (fC (.str "")) fNil)))))))) (fxE F fx8) = some (.nx (fxE F fx9)) := add_stm (c := cq9) (cl9 _) (by decide +kernel) fn8
theorem fs10 (F : PyData) : (sSetN 1 (nAdd (rdF 1) (fFrz (fLst (fCons (fBin addD (fBin mulSD (fC (.str "up:0 ")) (fC (.int 399))) (fC (.str "up:0"))) (fCons (fC (.str "up:0:0")) (fCons (fC (.str ":0")) (fCons (fC (.str ":")) (fCons (fC (.str "up:(")) (fCons (fC (.str "( )x2:0")) fNil)))))))))) (fxE F fx9) = some (.nx (fxE F fx10)) := add_stm (c := cq10) (cl10 _) (by decide +kernel) fn9
theorem fs11 (F : PyData) : (sSetN 1 (nAdd (rdF 1) (fFrz (fLst (fCons (fC (.str "( )x1_0")) (fCons (fBin addD (fC (.str "first:")) (fBin mulSD (fC (.str "2")) (fC (.int 39)))) fNil)))))) (fxE F fx10) = some (.nx (fxE F fx11)) := add_stm (c := cq11) (by kernel_rfl) (by decide +kernel) fn10
theorem fs12 (F : PyData) : (sSetN 1 (nAdd (rdF 1) (fFrz (fLst (fCons (fC .none) (fCons (fC (.int 5)) (fCons (fC (.bool true)) (fCons (fTup fNil) (fCons (fTup (fCons (fTup (fCons (fC (.str "up")) (fCons (fC (.int 0)) fNil))) fNil)) (fCons (fFrz (fLst (fCons (fC (.str "up:0")) fNil))) (fCons (fC (.dict [])) (fCons (fNeg (fC (.int 1))) (fCons (fTup (fCons (fC (.str "up:0")) fNil)) fNil))))))))))))) (fxE F fx11) = some (.nx (fxE F fx12)) := add_stm (c := cq12) (by kernel_rfl) (by decide +kernel) fn11
abbrev tdB := fAndV (fCB m__law_told_right (fCons (rdF 3) (fCons (fC (.bool false)) fNil))) (fCB m__law_told_right (fCons (rdF 3) (fCons (fC (.bool true)) fNil)))
theorem td_lc {F v : Option DV} : ∀ ds : List PyData, (∀ d ∈ ds, Td d) → lcD (gSet 3) fYes tdB [3] ds [F, none, v, none] = some (ds.map fun _ => .bool true, [F, none, v, none])
  | [], _ => rfl
  | d :: ds, h => by
    have h1 := h d List.mem_cons_self
    have e : tdB [F, none, v, some (.fr d)] = some (.bool true, [F, none, v, some (.fr d)]) := ev_andV (ev_cb (ev_cons rfl (ev_cons rfl ev_nil)) (h1 false)) (ev_cb (ev_cons rfl (ev_cons rfl ev_nil)) (h1 true))
    have ih := td_lc (F := F) (v := v) ds fun x hx => h x (List.mem_cons_of_mem _ hx)
    rw [lcD]
    show (tdB [F, none, v, some (.fr d)]).bind _ = _
    rw [e]
    show (lcD (gSet 3) fYes tdB [3] ds [F, none, v, none]).map _ = _
    rw [ih]
    rfl
theorem all_true (ds : List PyData) : allD [.list (ds.map fun _ => PyData.bool true)] = some (.bool true) := by
  have := all_map (fun _ : PyData => true) ds
  rw [this]
  congr 2
  exact List.all_eq_true.mpr fun _ _ => rfl
theorem law_spec (ns : List Int) : m_law [.list (ns.map .int)] = some (.bool true) := by
  have lenF : lenD [.list (ns.map .int)] = some (.int ((ns.map PyData.int).length : Nat)) := rfl
  have hc : ∀ k : Int, 0 ≤ k → k ≤ 1000 → ∃ c : Int, m__law_cell [.list (ns.map .int), .int k] = some (.int c) := fun k h0 h1 => cell_spec ns h0 h1
  have told := fx_told
  have few : fx12.length ≤ lim := Nat.le_trans fn12 (by decide)
  have sC := fs12
  generalize fx12 = fx at told few sC
  generalize hF : PyData.list (ns.map .int) = F at lenF hc
  obtain ⟨m, em, m1, m2⟩ := mm_b (a := 6) (by decide) (env := fxE F fx) (n := (ns.map PyData.int).length) (ev_lenN rfl lenF)
  refine ev_runF rfl (env := fxE F fx) ?_
  refine ev_seq (fs0 F) ?_
  refine ev_seq (fs1 F) ?_
  refine ev_seq (fs2 F) ?_
  refine ev_seq (fs3 F) ?_
  refine ev_seq (fs4 F) ?_
  refine ev_seq (fs5 F) ?_
  refine ev_seq (fs6 F) ?_
  refine ev_seq (fs7 F) ?_
  refine ev_seq (fs8 F) ?_
  refine ev_seq (fs9 F) ?_
  refine ev_seq (fs10 F) ?_
  refine ev_seq (fs11 F) ?_
  refine ev_seq (sC F) ?_
  refine ev_seq (e1 := fxE F fx) (ev_ifF (ev_not (k := true) (ev_tst (d := .bool true) (ev_cb (ev_cons (ev_frz (ev_lcH (ds := fx) rfl few rfl (td_lc fx told) rfl)) ev_nil) (all_true fx)) rfl)) rfl) ?_
  subst hF
  exact law_fin (mr := m__law_right) (mp := m__law_pool) (mc := m__law_cell) (PO := PoolOk) (ns := ns) hc pool_spec (fun es hp => (right_spec hp).imp fun _ h => h.1) (v := 2) (env := fxE (.list (ns.map .int)) fx) ⟨m, em, m1, by omega⟩ rfl (fun _ => rfl) (fun _ => rfl)
end DL
end L2


set_option Elab.async false
set_option maxRecDepth 100000
set_option maxHeartbeats 4000000
set_option autoImplicit false
namespace L2
namespace DL
open PySem PySem.Spec PyProof.Rows
def mkTx [Lab] {w : World} (hw : LabW.w = some w) {K : PySem.W.Frag} {h base : Heap} {mg : Str → Option Value} (X : K.In h) (G : h.Ns mainGlobals mg)
    {f0 : Addr} {od0 an0 : Option Addr} {sl0 : Array (Option Value)} {oc0 kV0 dc0 pm0 cd0 ct0 : Value}
    {f1 : Addr} {od1 an1 : Option Addr} {sl1 : Array (Option Value)} {oc1 kV1 dc1 pm1 cd1 ct1 : Value}
    {f2 : Addr} {od2 an2 : Option Addr} {sl2 : Array (Option Value)} {oc2 kV2 dc2 pm2 cd2 ct2 : Value}
    {f3 : Addr} {od3 an3 : Option Addr} {sl3 : Array (Option Value)} {oc3 kV3 dc3 pm3 cd3 ct3 : Value}
    {f4 : Addr} {od4 an4 : Option Addr} {sl4 : Array (Option Value)} {oc4 kV4 dc4 pm4 cd4 ct4 : Value}
    {f5 : Addr} {od5 an5 : Option Addr} {sl5 : Array (Option Value)} {oc5 kV5 dc5 pm5 cd5 ct5 : Value}
    {f6 : Addr} {od6 an6 : Option Addr} {sl6 : Array (Option Value)} {oc6 kV6 dc6 pm6 cd6 ct6 : Value}
    {f7 : Addr} {od7 an7 : Option Addr} {sl7 : Array (Option Value)} {oc7 kV7 dc7 pm7 cd7 ct7 : Value}
    {f8 : Addr} {od8 an8 : Option Addr} {sl8 : Array (Option Value)} {oc8 kV8 dc8 pm8 cd8 ct8 : Value}
    {f9 : Addr} {od9 an9 : Option Addr} {sl9 : Array (Option Value)} {oc9 kV9 dc9 pm9 cd9 ct9 : Value}
    {f10 : Addr} {od10 an10 : Option Addr} {sl10 : Array (Option Value)} {oc10 kV10 dc10 pm10 cd10 ct10 : Value}
    {f11 : Addr} {od11 an11 : Option Addr} {sl11 : Array (Option Value)} {oc11 kV11 dc11 pm11 cd11 ct11 : Value}
    {f12 : Addr} {od12 an12 : Option Addr} {sl12 : Array (Option Value)} {oc12 kV12 dc12 pm12 cd12 ct12 : Value}
    {f13 : Addr} {od13 an13 : Option Addr} {sl13 : Array (Option Value)} {oc13 kV13 dc13 pm13 cd13 ct13 : Value}
    {f14 : Addr} {od14 an14 : Option Addr} {sl14 : Array (Option Value)} {oc14 kV14 dc14 pm14 cd14 ct14 : Value}
    {f15 : Addr} {od15 an15 : Option Addr} {sl15 : Array (Option Value)} {oc15 kV15 dc15 pm15 cd15 ct15 : Value}
    {f16 : Addr} {od16 an16 : Option Addr} {sl16 : Array (Option Value)} {oc16 kV16 dc16 pm16 cd16 ct16 : Value}
    {f17 : Addr} {od17 an17 : Option Addr} {sl17 : Array (Option Value)} {oc17 kV17 dc17 pm17 cd17 ct17 : Value}
    {f18 : Addr} {od18 an18 : Option Addr} {sl18 : Array (Option Value)} {oc18 kV18 dc18 pm18 cd18 ct18 : Value}
    {f19 : Addr} {od19 an19 : Option Addr} {sl19 : Array (Option Value)} {oc19 kV19 dc19 pm19 cd19 ct19 : Value}
    {f20 : Addr} {od20 an20 : Option Addr} {sl20 : Array (Option Value)} {oc20 kV20 dc20 pm20 cd20 ct20 : Value}
    {f21 : Addr} {od21 an21 : Option Addr} {sl21 : Array (Option Value)} {oc21 kV21 dc21 pm21 cd21 ct21 : Value}
    {f22 : Addr} {od22 an22 : Option Addr} {sl22 : Array (Option Value)} {oc22 kV22 dc22 pm22 cd22 ct22 : Value}
    {f23 : Addr} {od23 an23 : Option Addr} {sl23 : Array (Option Value)} {oc23 kV23 dc23 pm23 cd23 ct23 : Value}
    {f24 : Addr} {od24 an24 : Option Addr} {sl24 : Array (Option Value)} {oc24 kV24 dc24 pm24 cd24 ct24 : Value}
    {f25 : Addr} {od25 an25 : Option Addr} {sl25 : Array (Option Value)} {oc25 kV25 dc25 pm25 cd25 ct25 : Value}
    {f26 : Addr} {od26 an26 : Option Addr} {sl26 : Array (Option Value)} {oc26 kV26 dc26 pm26 cd26 ct26 : Value}
    {f27 : Addr} {od27 an27 : Option Addr} {sl27 : Array (Option Value)} {oc27 kV27 dc27 pm27 cd27 ct27 : Value}
    {f28 : Addr} {od28 an28 : Option Addr} {sl28 : Array (Option Value)} {oc28 kV28 dc28 pm28 cd28 ct28 : Value}
    {f29 : Addr} {od29 an29 : Option Addr} {sl29 : Array (Option Value)} {oc29 kV29 dc29 pm29 cd29 ct29 : Value}
    {f30 : Addr} {od30 an30 : Option Addr} {sl30 : Array (Option Value)} {oc30 kV30 dc30 pm30 cd30 ct30 : Value}
    {f31 : Addr} {od31 an31 : Option Addr} {sl31 : Array (Option Value)} {oc31 kV31 dc31 pm31 cd31 ct31 : Value}
    {C_InvalidProgram : Addr}
    {C_InvalidText : Addr}
    {C_TableError : Addr}
    {C_FindError : Addr}
    {C_LimitError : Addr}
    {C_LastRecord : Addr}
    {C_TooManyEdits : Addr}
    {C_TooManyRecords : Addr}
    {C_NothingToUndo : Addr}
    {C_NoPlace : Addr}
    {C_MissingColumn : Addr}
    {C_InvalidCommand : Addr}
    {C_InvalidEdit : Addr}
    {C_InvalidValue : Addr}
    {C_InvalidRecord : Addr}
    {C_InvalidLimit : Addr}
    {C_InvalidPlaces : Addr}
    {C_InvalidNumber : Addr}
    {C_InvalidOrder : Addr}
    {C_InvalidColumns : Addr}
    {C_InvalidTable : Addr}
    {FI_InvalidProgram : Addr} {xod_InvalidProgram xan_InvalidProgram : Option Addr} {xsl_InvalidProgram : Array (Option Value)} {xoc_InvalidProgram xkV_InvalidProgram xdc_InvalidProgram xpm_InvalidProgram xcd_InvalidProgram xct_InvalidProgram : Value}
    {FI_InvalidText : Addr} {xod_InvalidText xan_InvalidText : Option Addr} {xsl_InvalidText : Array (Option Value)} {xoc_InvalidText xkV_InvalidText xdc_InvalidText xpm_InvalidText xcd_InvalidText xct_InvalidText : Value}
    (a0 : PySem.W.nsIn K mainGlobals "is_integer" = some (some (.ref f0))) (l0 : K.lookup f0 = some ⟨oc0, od0, .func (PySem.W.fnOf "is_integer" "is_integer" (defArgs (topS 28)) (defBody (topS 28)) (defScope (topS 28)) .none kV0 dc0 pm0 an0 cd0 ct0), sl0⟩) (c0 : PySem.W.codeIn K cd0 "is_integer" = true) (k0 : PySem.W.keepIn K (.ref f0) = true)
    (a1 : PySem.W.nsIn K mainGlobals "is_word" = some (some (.ref f1))) (l1 : K.lookup f1 = some ⟨oc1, od1, .func (PySem.W.fnOf "is_word" "is_word" (defArgs (topS 31)) (defBody (topS 31)) (defScope (topS 31)) .none kV1 dc1 pm1 an1 cd1 ct1), sl1⟩) (c1 : PySem.W.codeIn K cd1 "is_word" = true) (k1 : PySem.W.keepIn K (.ref f1) = true)
    (a2 : PySem.W.nsIn K mainGlobals "is_sort_column" = some (some (.ref f2))) (l2 : K.lookup f2 = some ⟨oc2, od2, .func (PySem.W.fnOf "is_sort_column" "is_sort_column" (defArgs (topS 32)) (defBody (topS 32)) (defScope (topS 32)) .none kV2 dc2 pm2 an2 cd2 ct2), sl2⟩) (c2 : PySem.W.codeIn K cd2 "is_sort_column" = true) (k2 : PySem.W.keepIn K (.ref f2) = true)
    (a3 : PySem.W.nsIn K mainGlobals "is_size" = some (some (.ref f3))) (l3 : K.lookup f3 = some ⟨oc3, od3, .func (PySem.W.fnOf "is_size" "is_size" (defArgs (topS 37)) (defBody (topS 37)) (defScope (topS 37)) .none kV3 dc3 pm3 an3 cd3 ct3), sl3⟩) (c3 : PySem.W.codeIn K cd3 "is_size" = true) (k3 : PySem.W.keepIn K (.ref f3) = true)
    (a4 : PySem.W.nsIn K mainGlobals "is_times" = some (some (.ref f4))) (l4 : K.lookup f4 = some ⟨oc4, od4, .func (PySem.W.fnOf "is_times" "is_times" (defArgs (topS 38)) (defBody (topS 38)) (defScope (topS 38)) .none kV4 dc4 pm4 an4 cd4 ct4), sl4⟩) (c4 : PySem.W.codeIn K cd4 "is_times" = true) (k4 : PySem.W.keepIn K (.ref f4) = true)
    (a5 : PySem.W.nsIn K mainGlobals "is_plain_command" = some (some (.ref f5))) (l5 : K.lookup f5 = some ⟨oc5, od5, .func (PySem.W.fnOf "is_plain_command" "is_plain_command" (defArgs (topS 39)) (defBody (topS 39)) (defScope (topS 39)) .none kV5 dc5 pm5 an5 cd5 ct5), sl5⟩) (c5 : PySem.W.codeIn K cd5 "is_plain_command" = true) (k5 : PySem.W.keepIn K (.ref f5) = true)
    (a6 : PySem.W.nsIn K mainGlobals "begins_repeat" = some (some (.ref f6))) (l6 : K.lookup f6 = some ⟨oc6, od6, .func (PySem.W.fnOf "begins_repeat" "begins_repeat" (defArgs (topS 40)) (defBody (topS 40)) (defScope (topS 40)) .none kV6 dc6 pm6 an6 cd6 ct6), sl6⟩) (c6 : PySem.W.codeIn K cd6 "begins_repeat" = true) (k6 : PySem.W.keepIn K (.ref f6) = true)
    (a7 : PySem.W.nsIn K mainGlobals "room_behind" = some (some (.ref f7))) (l7 : K.lookup f7 = some ⟨oc7, od7, .func (PySem.W.fnOf "room_behind" "room_behind" (defArgs (topS 41)) (defBody (topS 41)) (defScope (topS 41)) .none kV7 dc7 pm7 an7 cd7 ct7), sl7⟩) (c7 : PySem.W.codeIn K cd7 "room_behind" = true) (k7 : PySem.W.keepIn K (.ref f7) = true)
    (a8 : PySem.W.nsIn K mainGlobals "room_behind_command" = some (some (.ref f8))) (l8 : K.lookup f8 = some ⟨oc8, od8, .func (PySem.W.fnOf "room_behind_command" "room_behind_command" (defArgs (topS 42)) (defBody (topS 42)) (defScope (topS 42)) .none kV8 dc8 pm8 an8 cd8 ct8), sl8⟩) (c8 : PySem.W.codeIn K cd8 "room_behind_command" = true) (k8 : PySem.W.keepIn K (.ref f8) = true)
    (a9 : PySem.W.nsIn K mainGlobals "check_program" = some (some (.ref f9))) (l9 : K.lookup f9 = some ⟨oc9, od9, .func (PySem.W.fnOf "check_program" "check_program" (defArgs (topS 43)) (defBody (topS 43)) (defScope (topS 43)) .none kV9 dc9 pm9 an9 cd9 ct9), sl9⟩) (c9 : PySem.W.codeIn K cd9 "check_program" = true) (k9 : PySem.W.keepIn K (.ref f9) = true)
    (a10 : PySem.W.nsIn K mainGlobals "is_program" = some (some (.ref f10))) (l10 : K.lookup f10 = some ⟨oc10, od10, .func (PySem.W.fnOf "is_program" "is_program" (defArgs (topS 44)) (defBody (topS 44)) (defScope (topS 44)) .none kV10 dc10 pm10 an10 cd10 ct10), sl10⟩) (c10 : PySem.W.codeIn K cd10 "is_program" = true) (k10 : PySem.W.keepIn K (.ref f10) = true)
    (a11 : PySem.W.nsIn K mainGlobals "read_number" = some (some (.ref f11))) (l11 : K.lookup f11 = some ⟨oc11, od11, .func (PySem.W.fnOf "read_number" "read_number" (defArgs (topS 46)) (defBody (topS 46)) (defScope (topS 46)) .none kV11 dc11 pm11 an11 cd11 ct11), sl11⟩) (c11 : PySem.W.codeIn K cd11 "read_number" = true) (k11 : PySem.W.keepIn K (.ref f11) = true)
    (a12 : PySem.W.nsIn K mainGlobals "read_command" = some (some (.ref f12))) (l12 : K.lookup f12 = some ⟨oc12, od12, .func (PySem.W.fnOf "read_command" "read_command" (defArgs (topS 47)) (defBody (topS 47)) (defScope (topS 47)) .none kV12 dc12 pm12 an12 cd12 ct12), sl12⟩) (c12 : PySem.W.codeIn K cd12 "read_command" = true) (k12 : PySem.W.keepIn K (.ref f12) = true)
    (a13 : PySem.W.nsIn K mainGlobals "read_words" = some (some (.ref f13))) (l13 : K.lookup f13 = some ⟨oc13, od13, .func (PySem.W.fnOf "read_words" "read_words" (defArgs (topS 48)) (defBody (topS 48)) (defScope (topS 48)) .none kV13 dc13 pm13 an13 cd13 ct13), sl13⟩) (c13 : PySem.W.codeIn K cd13 "read_words" = true) (k13 : PySem.W.keepIn K (.ref f13) = true)
    (a14 : PySem.W.nsIn K mainGlobals "parse_program" = some (some (.ref f14))) (l14 : K.lookup f14 = some ⟨oc14, od14, .func (PySem.W.fnOf "parse_program" "parse_program" (defArgs (topS 49)) (defBody (topS 49)) (defScope (topS 49)) .none kV14 dc14 pm14 an14 cd14 ct14), sl14⟩) (c14 : PySem.W.codeIn K cd14 "parse_program" = true) (k14 : PySem.W.keepIn K (.ref f14) = true)
    (a15 : PySem.W.nsIn K mainGlobals "_law_cell" = some (some (.ref f15))) (l15 : K.lookup f15 = some ⟨oc15, od15, .func (PySem.W.fnOf "_law_cell" "_law_cell" (defArgs (topS 51)) (defBody (topS 51)) (defScope (topS 51)) .none kV15 dc15 pm15 an15 cd15 ct15), sl15⟩) (c15 : PySem.W.codeIn K cd15 "_law_cell" = true) (k15 : PySem.W.keepIn K (.ref f15) = true)
    (a16 : PySem.W.nsIn K mainGlobals "_law_pool" = some (some (.ref f16))) (l16 : K.lookup f16 = some ⟨oc16, od16, .func (PySem.W.fnOf "_law_pool" "_law_pool" (defArgs (topS 52)) (defBody (topS 52)) (defScope (topS 52)) .none kV16 dc16 pm16 an16 cd16 ct16), sl16⟩) (c16 : PySem.W.codeIn K cd16 "_law_pool" = true) (k16 : PySem.W.keepIn K (.ref f16) = true)
    (a17 : PySem.W.nsIn K mainGlobals "_law_draw" = some (some (.ref f17))) (l17 : K.lookup f17 = some ⟨oc17, od17, .func (PySem.W.fnOf "_law_draw" "_law_draw" (defArgs (topS 53)) (defBody (topS 53)) (defScope (topS 53)) .none kV17 dc17 pm17 an17 cd17 ct17), sl17⟩) (c17 : PySem.W.codeIn K cd17 "_law_draw" = true) (k17 : PySem.W.keepIn K (.ref f17) = true)
    (a18 : PySem.W.nsIn K mainGlobals "_law_steps" = some (some (.ref f18))) (l18 : K.lookup f18 = some ⟨oc18, od18, .func (PySem.W.fnOf "_law_steps" "_law_steps" (defArgs (topS 54)) (defBody (topS 54)) (defScope (topS 54)) .none kV18 dc18 pm18 an18 cd18 ct18), sl18⟩) (c18 : PySem.W.codeIn K cd18 "_law_steps" = true) (k18 : PySem.W.keepIn K (.ref f18) = true)
    (a19 : PySem.W.nsIn K mainGlobals "_law_program" = some (some (.ref f19))) (l19 : K.lookup f19 = some ⟨oc19, od19, .func (PySem.W.fnOf "_law_program" "_law_program" (defArgs (topS 55)) (defBody (topS 55)) (defScope (topS 55)) .none kV19 dc19 pm19 an19 cd19 ct19), sl19⟩) (c19 : PySem.W.codeIn K cd19 "_law_program" = true) (k19 : PySem.W.keepIn K (.ref f19) = true)
    (a20 : PySem.W.nsIn K mainGlobals "_law_kind" = some (some (.ref f20))) (l20 : K.lookup f20 = some ⟨oc20, od20, .func (PySem.W.fnOf "_law_kind" "_law_kind" (defArgs (topS 56)) (defBody (topS 56)) (defScope (topS 56)) .none kV20 dc20 pm20 an20 cd20 ct20), sl20⟩) (c20 : PySem.W.codeIn K cd20 "_law_kind" = true) (k20 : PySem.W.keepIn K (.ref f20) = true)
    (a21 : PySem.W.nsIn K mainGlobals "_law_whole" = some (some (.ref f21))) (l21 : K.lookup f21 = some ⟨oc21, od21, .func (PySem.W.fnOf "_law_whole" "_law_whole" (defArgs (topS 57)) (defBody (topS 57)) (defScope (topS 57)) .none kV21 dc21 pm21 an21 cd21 ct21), sl21⟩) (c21 : PySem.W.codeIn K cd21 "_law_whole" = true) (k21 : PySem.W.keepIn K (.ref f21) = true)
    (a22 : PySem.W.nsIn K mainGlobals "_law_counted" = some (some (.ref f22))) (l22 : K.lookup f22 = some ⟨oc22, od22, .func (PySem.W.fnOf "_law_counted" "_law_counted" (defArgs (topS 58)) (defBody (topS 58)) (defScope (topS 58)) .none kV22 dc22 pm22 an22 cd22 ct22), sl22⟩) (c22 : PySem.W.codeIn K cd22 "_law_counted" = true) (k22 : PySem.W.keepIn K (.ref f22) = true)
    (a23 : PySem.W.nsIn K mainGlobals "_law_first_bad" = some (some (.ref f23))) (l23 : K.lookup f23 = some ⟨oc23, od23, .func (PySem.W.fnOf "_law_first_bad" "_law_first_bad" (defArgs (topS 59)) (defBody (topS 59)) (defScope (topS 59)) .none kV23 dc23 pm23 an23 cd23 ct23), sl23⟩) (c23 : PySem.W.codeIn K cd23 "_law_first_bad" = true) (k23 : PySem.W.keepIn K (.ref f23) = true)
    (a24 : PySem.W.nsIn K mainGlobals "_law_written" = some (some (.ref f24))) (l24 : K.lookup f24 = some ⟨oc24, od24, .func (PySem.W.fnOf "_law_written" "_law_written" (defArgs (topS 60)) (defBody (topS 60)) (defScope (topS 60)) .none kV24 dc24 pm24 an24 cd24 ct24), sl24⟩) (c24 : PySem.W.codeIn K cd24 "_law_written" = true) (k24 : PySem.W.keepIn K (.ref f24) = true)
    (a25 : PySem.W.nsIn K mainGlobals "_law_is_figure" = some (some (.ref f25))) (l25 : K.lookup f25 = some ⟨oc25, od25, .func (PySem.W.fnOf "_law_is_figure" "_law_is_figure" (defArgs (topS 61)) (defBody (topS 61)) (defScope (topS 61)) .none kV25 dc25 pm25 an25 cd25 ct25), sl25⟩) (c25 : PySem.W.codeIn K cd25 "_law_is_figure" = true) (k25 : PySem.W.keepIn K (.ref f25) = true)
    (a26 : PySem.W.nsIn K mainGlobals "_law_read" = some (some (.ref f26))) (l26 : K.lookup f26 = some ⟨oc26, od26, .func (PySem.W.fnOf "_law_read" "_law_read" (defArgs (topS 62)) (defBody (topS 62)) (defScope (topS 62)) .none kV26 dc26 pm26 an26 cd26 ct26), sl26⟩) (c26 : PySem.W.codeIn K cd26 "_law_read" = true) (k26 : PySem.W.keepIn K (.ref f26) = true)
    (a27 : PySem.W.nsIn K mainGlobals "_law_answer" = some (some (.ref f27))) (l27 : K.lookup f27 = some ⟨oc27, od27, .func (PySem.W.fnOf "_law_answer" "_law_answer" (defArgs (topS 63)) (defBody (topS 63)) (defScope (topS 63)) .none kV27 dc27 pm27 an27 cd27 ct27), sl27⟩) (c27 : PySem.W.codeIn K cd27 "_law_answer" = true) (k27 : PySem.W.keepIn K (.ref f27) = true)
    (a28 : PySem.W.nsIn K mainGlobals "_law_told_right" = some (some (.ref f28))) (l28 : K.lookup f28 = some ⟨oc28, od28, .func (PySem.W.fnOf "_law_told_right" "_law_told_right" (defArgs (topS 64)) (defBody (topS 64)) (defScope (topS 64)) .none kV28 dc28 pm28 an28 cd28 ct28), sl28⟩) (c28 : PySem.W.codeIn K cd28 "_law_told_right" = true) (k28 : PySem.W.keepIn K (.ref f28) = true)
    (a29 : PySem.W.nsIn K mainGlobals "_law_spoilt" = some (some (.ref f29))) (l29 : K.lookup f29 = some ⟨oc29, od29, .func (PySem.W.fnOf "_law_spoilt" "_law_spoilt" (defArgs (topS 65)) (defBody (topS 65)) (defScope (topS 65)) .none kV29 dc29 pm29 an29 cd29 ct29), sl29⟩) (c29 : PySem.W.codeIn K cd29 "_law_spoilt" = true) (k29 : PySem.W.keepIn K (.ref f29) = true)
    (a30 : PySem.W.nsIn K mainGlobals "_law_right" = some (some (.ref f30))) (l30 : K.lookup f30 = some ⟨oc30, od30, .func (PySem.W.fnOf "_law_right" "_law_right" (defArgs (topS 66)) (defBody (topS 66)) (defScope (topS 66)) .none kV30 dc30 pm30 an30 cd30 ct30), sl30⟩) (c30 : PySem.W.codeIn K cd30 "_law_right" = true) (k30 : PySem.W.keepIn K (.ref f30) = true)
    (a31 : PySem.W.nsIn K mainGlobals "law" = some (some (.ref f31))) (l31 : K.lookup f31 = some ⟨oc31, od31, .func (PySem.W.fnOf "law" "law" (defArgs (topS 67)) (defBody (topS 67)) (defScope (topS 67)) .none kV31 dc31 pm31 an31 cd31 ct31), sl31⟩) (c31 : PySem.W.codeIn K cd31 "law" = true) (k31 : PySem.W.keepIn K (.ref f31) = true)
    (n_ArithmeticError : PySem.W.nsIn K mainGlobals "ArithmeticError" = some none)
    (n_LookupError : PySem.W.nsIn K mainGlobals "LookupError" = some none)
    (n_ValueError : PySem.W.nsIn K mainGlobals "ValueError" = some none)
    (n_abs : PySem.W.nsIn K mainGlobals "abs" = some none)
    (n_all : PySem.W.nsIn K mainGlobals "all" = some none)
    (n_bool : PySem.W.nsIn K mainGlobals "bool" = some none)
    (n_divmod : PySem.W.nsIn K mainGlobals "divmod" = some none)
    (n_enumerate : PySem.W.nsIn K mainGlobals "enumerate" = some none)
    (n_int : PySem.W.nsIn K mainGlobals "int" = some none)
    (n_isinstance : PySem.W.nsIn K mainGlobals "isinstance" = some none)
    (n_len : PySem.W.nsIn K mainGlobals "len" = some none)
    (n_max : PySem.W.nsIn K mainGlobals "max" = some none)
    (n_min : PySem.W.nsIn K mainGlobals "min" = some none)
    (n_range : PySem.W.nsIn K mainGlobals "range" = some none)
    (n_repr : PySem.W.nsIn K mainGlobals "repr" = some none)
    (n_str : PySem.W.nsIn K mainGlobals "str" = some none)
    (n_sum : PySem.W.nsIn K mainGlobals "sum" = some none)
    (n_tuple : PySem.W.nsIn K mainGlobals "tuple" = some none)
    (tdg : PySem.W.nsIn K cStatics "sys.int_max_str_digits" = some none)
    (c_MOST_KEYS : ∀ [LabW], ∃ uv : Value × V, mg "MOST_KEYS" = some uv.1 ∧ RelV uv.2 uv.1 ∧ ∀ Z, DD K Z uv.2 cv_MOST_KEYS)
    (c_LEAST_SIZE : ∀ [LabW], ∃ uv : Value × V, mg "LEAST_SIZE" = some uv.1 ∧ RelV uv.2 uv.1 ∧ ∀ Z, DD K Z uv.2 cv_LEAST_SIZE)
    (c_MOST_SIZE : ∀ [LabW], ∃ uv : Value × V, mg "MOST_SIZE" = some uv.1 ∧ RelV uv.2 uv.1 ∧ ∀ Z, DD K Z uv.2 cv_MOST_SIZE)
    (c_MOST_TIMES : ∀ [LabW], ∃ uv : Value × V, mg "MOST_TIMES" = some uv.1 ∧ RelV uv.2 uv.1 ∧ ∀ Z, DD K Z uv.2 cv_MOST_TIMES)
    (c_CUTS : ∀ [LabW], ∃ uv : Value × V, mg "CUTS" = some uv.1 ∧ RelV uv.2 uv.1 ∧ ∀ Z, DD K Z uv.2 cv_CUTS)
    (c_DIRECTIONS : ∀ [LabW], ∃ uv : Value × V, mg "DIRECTIONS" = some uv.1 ∧ RelV uv.2 uv.1 ∧ ∀ Z, DD K Z uv.2 cv_DIRECTIONS)
    (c_BARE_WORDS : ∀ [LabW], ∃ uv : Value × V, mg "BARE_WORDS" = some uv.1 ∧ RelV uv.2 uv.1 ∧ ∀ Z, DD K Z uv.2 cv_BARE_WORDS)
    (c_MOST_NESTED : ∀ [LabW], ∃ uv : Value × V, mg "MOST_NESTED" = some uv.1 ∧ RelV uv.2 uv.1 ∧ ∀ Z, DD K Z uv.2 cv_MOST_NESTED)
    (c_MOST_COMMANDS : ∀ [LabW], ∃ uv : Value × V, mg "MOST_COMMANDS" = some uv.1 ∧ RelV uv.2 uv.1 ∧ ∀ Z, DD K Z uv.2 cv_MOST_COMMANDS)
    (xa_InvalidProgram : PySem.W.nsIn K mainGlobals "InvalidProgram" = some (some (.ref C_InvalidProgram)))
    (xa_InvalidText : PySem.W.nsIn K mainGlobals "InvalidText" = some (some (.ref C_InvalidText)))
    (xa_TableError : PySem.W.nsIn K mainGlobals "TableError" = some (some (.ref C_TableError)))
    (xa_FindError : PySem.W.nsIn K mainGlobals "FindError" = some (some (.ref C_FindError)))
    (xa_LimitError : PySem.W.nsIn K mainGlobals "LimitError" = some (some (.ref C_LimitError)))
    (xa_LastRecord : PySem.W.nsIn K mainGlobals "LastRecord" = some (some (.ref C_LastRecord)))
    (xa_TooManyEdits : PySem.W.nsIn K mainGlobals "TooManyEdits" = some (some (.ref C_TooManyEdits)))
    (xa_TooManyRecords : PySem.W.nsIn K mainGlobals "TooManyRecords" = some (some (.ref C_TooManyRecords)))
    (xa_NothingToUndo : PySem.W.nsIn K mainGlobals "NothingToUndo" = some (some (.ref C_NothingToUndo)))
    (xa_NoPlace : PySem.W.nsIn K mainGlobals "NoPlace" = some (some (.ref C_NoPlace)))
    (xa_MissingColumn : PySem.W.nsIn K mainGlobals "MissingColumn" = some (some (.ref C_MissingColumn)))
    (xa_InvalidCommand : PySem.W.nsIn K mainGlobals "InvalidCommand" = some (some (.ref C_InvalidCommand)))
    (xa_InvalidEdit : PySem.W.nsIn K mainGlobals "InvalidEdit" = some (some (.ref C_InvalidEdit)))
    (xa_InvalidValue : PySem.W.nsIn K mainGlobals "InvalidValue" = some (some (.ref C_InvalidValue)))
    (xa_InvalidRecord : PySem.W.nsIn K mainGlobals "InvalidRecord" = some (some (.ref C_InvalidRecord)))
    (xa_InvalidLimit : PySem.W.nsIn K mainGlobals "InvalidLimit" = some (some (.ref C_InvalidLimit)))
    (xa_InvalidPlaces : PySem.W.nsIn K mainGlobals "InvalidPlaces" = some (some (.ref C_InvalidPlaces)))
    (xa_InvalidNumber : PySem.W.nsIn K mainGlobals "InvalidNumber" = some (some (.ref C_InvalidNumber)))
    (xa_InvalidOrder : PySem.W.nsIn K mainGlobals "InvalidOrder" = some (some (.ref C_InvalidOrder)))
    (xa_InvalidColumns : PySem.W.nsIn K mainGlobals "InvalidColumns" = some (some (.ref C_InvalidColumns)))
    (xa_InvalidTable : PySem.W.nsIn K mainGlobals "InvalidTable" = some (some (.ref C_InvalidTable)))
    (xi_InvalidProgram : PySem.W.findIn K (.ref C_InvalidProgram) "__init__" = some (some (.ref FI_InvalidProgram))) (xt_InvalidProgram : PySem.W.typeIn K (.ref FI_InvalidProgram) = some (.type "function")) (xn_InvalidProgram : PySem.W.findIn K (.ref C_InvalidProgram) "index" = some none) (xl_InvalidProgram : K.lookup FI_InvalidProgram = some ⟨xoc_InvalidProgram, xod_InvalidProgram, .func (PySem.W.fnOf "__init__" "InvalidProgram.__init__" (defArgs (inS 5 0)) (defBody (inS 5 0)) (defScope (inS 5 0)) .none xkV_InvalidProgram xdc_InvalidProgram xpm_InvalidProgram xan_InvalidProgram xcd_InvalidProgram xct_InvalidProgram), xsl_InvalidProgram⟩) (xc_InvalidProgram : PySem.W.codeIn K xcd_InvalidProgram "InvalidProgram.__init__" = true) (xk_InvalidProgram : PySem.W.keepIn K (.ref FI_InvalidProgram) = true) (x_InvalidProgram : OexC K C_InvalidProgram)
    (xi_InvalidText : PySem.W.findIn K (.ref C_InvalidText) "__init__" = some (some (.ref FI_InvalidText))) (xt_InvalidText : PySem.W.typeIn K (.ref FI_InvalidText) = some (.type "function")) (xn_InvalidText : PySem.W.findIn K (.ref C_InvalidText) "text" = some none) (xl_InvalidText : K.lookup FI_InvalidText = some ⟨xoc_InvalidText, xod_InvalidText, .func (PySem.W.fnOf "__init__" "InvalidText.__init__" (defArgs (inS 8 0)) (defBody (inS 8 0)) (defScope (inS 8 0)) .none xkV_InvalidText xdc_InvalidText xpm_InvalidText xan_InvalidText xcd_InvalidText xct_InvalidText), xsl_InvalidText⟩) (xc_InvalidText : PySem.W.codeIn K xcd_InvalidText "InvalidText.__init__" = true) (xk_InvalidText : PySem.W.keepIn K (.ref FI_InvalidText) = true) (x_InvalidText : OexC K C_InvalidText)
    (xe_InvalidProgram_InvalidProgram : PySem.W.exmOne K (.ref C_InvalidProgram) (.ref C_InvalidProgram) = some true)
    (xe_InvalidText_InvalidProgram : PySem.W.exmOne K (.ref C_InvalidText) (.ref C_InvalidProgram) = some false)
    (xe_InvalidProgram_TableError : PySem.W.exmOne K (.ref C_InvalidProgram) (.ref C_TableError) = some true)
    (xe_InvalidText_TableError : PySem.W.exmOne K (.ref C_InvalidText) (.ref C_TableError) = some true)
    (xe_InvalidProgram_FindError : PySem.W.exmOne K (.ref C_InvalidProgram) (.ref C_FindError) = some false)
    (xe_InvalidText_FindError : PySem.W.exmOne K (.ref C_InvalidText) (.ref C_FindError) = some false)
    (xe_InvalidProgram_LimitError : PySem.W.exmOne K (.ref C_InvalidProgram) (.ref C_LimitError) = some false)
    (xe_InvalidText_LimitError : PySem.W.exmOne K (.ref C_InvalidText) (.ref C_LimitError) = some false)
    (kx_InvalidProgram : kexB K C_InvalidProgram = true)
    (kx_InvalidText : kexB K C_InvalidText = true)
    (kt_ArithmeticError : kitTab K [(C_InvalidProgram, .type "ArithmeticError", false), (C_InvalidText, .type "ArithmeticError", false)] = true)
    (kt_LookupError : kitTab K [(C_InvalidProgram, .type "LookupError", false), (C_InvalidText, .type "LookupError", false)] = true)
    (kt_ValueError : kitTab K [(C_InvalidProgram, .type "ValueError", true), (C_InvalidText, .type "ValueError", true)] = true)
    (kt_LimitError : kitTab K [(C_InvalidProgram, .ref C_LimitError, false), (C_InvalidText, .ref C_LimitError, false)] = true)
    (kt_FindError : kitTab K [(C_InvalidProgram, .ref C_FindError, false), (C_InvalidText, .ref C_FindError, false)] = true)
    (kt_TableError : kitTab K [(C_InvalidProgram, .ref C_TableError, true), (C_InvalidText, .ref C_TableError, true)] = true)
    (kt_LastRecord : kitTab K [(C_InvalidProgram, .ref C_LastRecord, false), (C_InvalidText, .ref C_LastRecord, false)] = true)
    (kt_TooManyEdits : kitTab K [(C_InvalidProgram, .ref C_TooManyEdits, false), (C_InvalidText, .ref C_TooManyEdits, false)] = true)
    (kt_TooManyRecords : kitTab K [(C_InvalidProgram, .ref C_TooManyRecords, false), (C_InvalidText, .ref C_TooManyRecords, false)] = true)
    (kt_NothingToUndo : kitTab K [(C_InvalidProgram, .ref C_NothingToUndo, false), (C_InvalidText, .ref C_NothingToUndo, false)] = true)
    (kt_NoPlace : kitTab K [(C_InvalidProgram, .ref C_NoPlace, false), (C_InvalidText, .ref C_NoPlace, false)] = true)
    (kt_MissingColumn : kitTab K [(C_InvalidProgram, .ref C_MissingColumn, false), (C_InvalidText, .ref C_MissingColumn, false)] = true)
    (kt_InvalidCommand : kitTab K [(C_InvalidProgram, .ref C_InvalidCommand, false), (C_InvalidText, .ref C_InvalidCommand, false)] = true)
    (kt_InvalidEdit : kitTab K [(C_InvalidProgram, .ref C_InvalidEdit, false), (C_InvalidText, .ref C_InvalidEdit, false)] = true)
    (kt_InvalidValue : kitTab K [(C_InvalidProgram, .ref C_InvalidValue, false), (C_InvalidText, .ref C_InvalidValue, false)] = true)
    (kt_InvalidRecord : kitTab K [(C_InvalidProgram, .ref C_InvalidRecord, false), (C_InvalidText, .ref C_InvalidRecord, false)] = true)
    (kt_InvalidLimit : kitTab K [(C_InvalidProgram, .ref C_InvalidLimit, false), (C_InvalidText, .ref C_InvalidLimit, false)] = true)
    (kt_InvalidText : kitTab K [(C_InvalidProgram, .ref C_InvalidText, false), (C_InvalidText, .ref C_InvalidText, true)] = true)
    (kt_InvalidPlaces : kitTab K [(C_InvalidProgram, .ref C_InvalidPlaces, false), (C_InvalidText, .ref C_InvalidPlaces, false)] = true)
    (kt_InvalidNumber : kitTab K [(C_InvalidProgram, .ref C_InvalidNumber, false), (C_InvalidText, .ref C_InvalidNumber, false)] = true)
    (kt_InvalidProgram : kitTab K [(C_InvalidProgram, .ref C_InvalidProgram, true), (C_InvalidText, .ref C_InvalidProgram, false)] = true)
    (kt_InvalidOrder : kitTab K [(C_InvalidProgram, .ref C_InvalidOrder, false), (C_InvalidText, .ref C_InvalidOrder, false)] = true)
    (kt_InvalidColumns : kitTab K [(C_InvalidProgram, .ref C_InvalidColumns, false), (C_InvalidText, .ref C_InvalidColumns, false)] = true)
    (kt_InvalidTable : kitTab K [(C_InvalidProgram, .ref C_InvalidTable, false), (C_InvalidText, .ref C_InvalidTable, false)] = true)
    (hCC : LabW.C = clsOf [("InvalidProgram", C_InvalidProgram), ("InvalidText", C_InvalidText), ("TableError", C_TableError), ("FindError", C_FindError), ("LimitError", C_LimitError), ("LastRecord", C_LastRecord), ("TooManyEdits", C_TooManyEdits), ("TooManyRecords", C_TooManyRecords), ("NothingToUndo", C_NothingToUndo), ("NoPlace", C_NoPlace), ("MissingColumn", C_MissingColumn), ("InvalidCommand", C_InvalidCommand), ("InvalidEdit", C_InvalidEdit), ("InvalidValue", C_InvalidValue), ("InvalidRecord", C_InvalidRecord), ("InvalidLimit", C_InvalidLimit), ("InvalidPlaces", C_InvalidPlaces), ("InvalidNumber", C_InvalidNumber), ("InvalidOrder", C_InvalidOrder), ("InvalidColumns", C_InvalidColumns), ("InvalidTable", C_InvalidTable)] 0) : Tx Lab.T K mg base w where
  hw := hw
  A := fun i => match i with
    | 0 => f0
    | 1 => f1
    | 2 => f2
    | 3 => f3
    | 4 => f4
    | 5 => f5
    | 6 => f6
    | 7 => f7
    | 8 => f8
    | 9 => f9
    | 10 => f10
    | 11 => f11
    | 12 => f12
    | 13 => f13
    | 14 => f14
    | 15 => f15
    | 16 => f16
    | 17 => f17
    | 18 => f18
    | 19 => f19
    | 20 => f20
    | 21 => f21
    | 22 => f22
    | 23 => f23
    | 24 => f24
    | 25 => f25
    | 26 => f26
    | 27 => f27
    | 28 => f28
    | 29 => f29
    | 30 => f30
    | 31 => f31
    | _ => f0
  FD := fun i => match i with
    | 0 => (PySem.W.fnOf "is_integer" "is_integer" (defArgs (topS 28)) (defBody (topS 28)) (defScope (topS 28)) .none kV0 dc0 pm0 an0 cd0 ct0)
    | 1 => (PySem.W.fnOf "is_word" "is_word" (defArgs (topS 31)) (defBody (topS 31)) (defScope (topS 31)) .none kV1 dc1 pm1 an1 cd1 ct1)
    | 2 => (PySem.W.fnOf "is_sort_column" "is_sort_column" (defArgs (topS 32)) (defBody (topS 32)) (defScope (topS 32)) .none kV2 dc2 pm2 an2 cd2 ct2)
    | 3 => (PySem.W.fnOf "is_size" "is_size" (defArgs (topS 37)) (defBody (topS 37)) (defScope (topS 37)) .none kV3 dc3 pm3 an3 cd3 ct3)
    | 4 => (PySem.W.fnOf "is_times" "is_times" (defArgs (topS 38)) (defBody (topS 38)) (defScope (topS 38)) .none kV4 dc4 pm4 an4 cd4 ct4)
    | 5 => (PySem.W.fnOf "is_plain_command" "is_plain_command" (defArgs (topS 39)) (defBody (topS 39)) (defScope (topS 39)) .none kV5 dc5 pm5 an5 cd5 ct5)
    | 6 => (PySem.W.fnOf "begins_repeat" "begins_repeat" (defArgs (topS 40)) (defBody (topS 40)) (defScope (topS 40)) .none kV6 dc6 pm6 an6 cd6 ct6)
    | 7 => (PySem.W.fnOf "room_behind" "room_behind" (defArgs (topS 41)) (defBody (topS 41)) (defScope (topS 41)) .none kV7 dc7 pm7 an7 cd7 ct7)
    | 8 => (PySem.W.fnOf "room_behind_command" "room_behind_command" (defArgs (topS 42)) (defBody (topS 42)) (defScope (topS 42)) .none kV8 dc8 pm8 an8 cd8 ct8)
    | 9 => (PySem.W.fnOf "check_program" "check_program" (defArgs (topS 43)) (defBody (topS 43)) (defScope (topS 43)) .none kV9 dc9 pm9 an9 cd9 ct9)
    | 10 => (PySem.W.fnOf "is_program" "is_program" (defArgs (topS 44)) (defBody (topS 44)) (defScope (topS 44)) .none kV10 dc10 pm10 an10 cd10 ct10)
    | 11 => (PySem.W.fnOf "read_number" "read_number" (defArgs (topS 46)) (defBody (topS 46)) (defScope (topS 46)) .none kV11 dc11 pm11 an11 cd11 ct11)
    | 12 => (PySem.W.fnOf "read_command" "read_command" (defArgs (topS 47)) (defBody (topS 47)) (defScope (topS 47)) .none kV12 dc12 pm12 an12 cd12 ct12)
    | 13 => (PySem.W.fnOf "read_words" "read_words" (defArgs (topS 48)) (defBody (topS 48)) (defScope (topS 48)) .none kV13 dc13 pm13 an13 cd13 ct13)
    | 14 => (PySem.W.fnOf "parse_program" "parse_program" (defArgs (topS 49)) (defBody (topS 49)) (defScope (topS 49)) .none kV14 dc14 pm14 an14 cd14 ct14)
    | 15 => (PySem.W.fnOf "_law_cell" "_law_cell" (defArgs (topS 51)) (defBody (topS 51)) (defScope (topS 51)) .none kV15 dc15 pm15 an15 cd15 ct15)
    | 16 => (PySem.W.fnOf "_law_pool" "_law_pool" (defArgs (topS 52)) (defBody (topS 52)) (defScope (topS 52)) .none kV16 dc16 pm16 an16 cd16 ct16)
    | 17 => (PySem.W.fnOf "_law_draw" "_law_draw" (defArgs (topS 53)) (defBody (topS 53)) (defScope (topS 53)) .none kV17 dc17 pm17 an17 cd17 ct17)
    | 18 => (PySem.W.fnOf "_law_steps" "_law_steps" (defArgs (topS 54)) (defBody (topS 54)) (defScope (topS 54)) .none kV18 dc18 pm18 an18 cd18 ct18)
    | 19 => (PySem.W.fnOf "_law_program" "_law_program" (defArgs (topS 55)) (defBody (topS 55)) (defScope (topS 55)) .none kV19 dc19 pm19 an19 cd19 ct19)
    | 20 => (PySem.W.fnOf "_law_kind" "_law_kind" (defArgs (topS 56)) (defBody (topS 56)) (defScope (topS 56)) .none kV20 dc20 pm20 an20 cd20 ct20)
    | 21 => (PySem.W.fnOf "_law_whole" "_law_whole" (defArgs (topS 57)) (defBody (topS 57)) (defScope (topS 57)) .none kV21 dc21 pm21 an21 cd21 ct21)
    | 22 => (PySem.W.fnOf "_law_counted" "_law_counted" (defArgs (topS 58)) (defBody (topS 58)) (defScope (topS 58)) .none kV22 dc22 pm22 an22 cd22 ct22)
    | 23 => (PySem.W.fnOf "_law_first_bad" "_law_first_bad" (defArgs (topS 59)) (defBody (topS 59)) (defScope (topS 59)) .none kV23 dc23 pm23 an23 cd23 ct23)
    | 24 => (PySem.W.fnOf "_law_written" "_law_written" (defArgs (topS 60)) (defBody (topS 60)) (defScope (topS 60)) .none kV24 dc24 pm24 an24 cd24 ct24)
    | 25 => (PySem.W.fnOf "_law_is_figure" "_law_is_figure" (defArgs (topS 61)) (defBody (topS 61)) (defScope (topS 61)) .none kV25 dc25 pm25 an25 cd25 ct25)
    | 26 => (PySem.W.fnOf "_law_read" "_law_read" (defArgs (topS 62)) (defBody (topS 62)) (defScope (topS 62)) .none kV26 dc26 pm26 an26 cd26 ct26)
    | 27 => (PySem.W.fnOf "_law_answer" "_law_answer" (defArgs (topS 63)) (defBody (topS 63)) (defScope (topS 63)) .none kV27 dc27 pm27 an27 cd27 ct27)
    | 28 => (PySem.W.fnOf "_law_told_right" "_law_told_right" (defArgs (topS 64)) (defBody (topS 64)) (defScope (topS 64)) .none kV28 dc28 pm28 an28 cd28 ct28)
    | 29 => (PySem.W.fnOf "_law_spoilt" "_law_spoilt" (defArgs (topS 65)) (defBody (topS 65)) (defScope (topS 65)) .none kV29 dc29 pm29 an29 cd29 ct29)
    | 30 => (PySem.W.fnOf "_law_right" "_law_right" (defArgs (topS 66)) (defBody (topS 66)) (defScope (topS 66)) .none kV30 dc30 pm30 an30 cd30 ct30)
    | 31 => (PySem.W.fnOf "law" "law" (defArgs (topS 67)) (defBody (topS 67)) (defScope (topS 67)) .none kV31 dc31 pm31 an31 cd31 ct31)
    | _ => (PySem.W.fnOf "is_integer" "is_integer" (defArgs (topS 28)) (defBody (topS 28)) (defScope (topS 28)) .none kV0 dc0 pm0 an0 cd0 ct0)
  D_is_integer := fun_mk (st := (topS 28)) l0 c0 k0
  g_is_integer := PySem.W.mg_of X G a0
  D_is_word := fun_mk (st := (topS 31)) l1 c1 k1
  g_is_word := PySem.W.mg_of X G a1
  D_is_sort_column := fun_mk (st := (topS 32)) l2 c2 k2
  g_is_sort_column := PySem.W.mg_of X G a2
  D_is_size := fun_mk (st := (topS 37)) l3 c3 k3
  g_is_size := PySem.W.mg_of X G a3
  D_is_times := fun_mk (st := (topS 38)) l4 c4 k4
  g_is_times := PySem.W.mg_of X G a4
  D_is_plain_command := fun_mk (st := (topS 39)) l5 c5 k5
  g_is_plain_command := PySem.W.mg_of X G a5
  D_begins_repeat := fun_mk (st := (topS 40)) l6 c6 k6
  g_begins_repeat := PySem.W.mg_of X G a6
  D_room_behind := fun_mk (st := (topS 41)) l7 c7 k7
  g_room_behind := PySem.W.mg_of X G a7
  D_room_behind_command := fun_mk (st := (topS 42)) l8 c8 k8
  g_room_behind_command := PySem.W.mg_of X G a8
  D_check_program := fun_mk (st := (topS 43)) l9 c9 k9
  g_check_program := PySem.W.mg_of X G a9
  D_is_program := fun_mk (st := (topS 44)) l10 c10 k10
  g_is_program := PySem.W.mg_of X G a10
  D_read_number := fun_mk (st := (topS 46)) l11 c11 k11
  g_read_number := PySem.W.mg_of X G a11
  D_read_command := fun_mk (st := (topS 47)) l12 c12 k12
  g_read_command := PySem.W.mg_of X G a12
  D_read_words := fun_mk (st := (topS 48)) l13 c13 k13
  g_read_words := PySem.W.mg_of X G a13
  D_parse_program := fun_mk (st := (topS 49)) l14 c14 k14
  g_parse_program := PySem.W.mg_of X G a14
  D__law_cell := fun_mk (st := (topS 51)) l15 c15 k15
  g__law_cell := PySem.W.mg_of X G a15
  D__law_pool := fun_mk (st := (topS 52)) l16 c16 k16
  g__law_pool := PySem.W.mg_of X G a16
  D__law_draw := fun_mk (st := (topS 53)) l17 c17 k17
  g__law_draw := PySem.W.mg_of X G a17
  D__law_steps := fun_mk (st := (topS 54)) l18 c18 k18
  g__law_steps := PySem.W.mg_of X G a18
  D__law_program := fun_mk (st := (topS 55)) l19 c19 k19
  g__law_program := PySem.W.mg_of X G a19
  D__law_kind := fun_mk (st := (topS 56)) l20 c20 k20
  g__law_kind := PySem.W.mg_of X G a20
  D__law_whole := fun_mk (st := (topS 57)) l21 c21 k21
  g__law_whole := PySem.W.mg_of X G a21
  D__law_counted := fun_mk (st := (topS 58)) l22 c22 k22
  g__law_counted := PySem.W.mg_of X G a22
  D__law_first_bad := fun_mk (st := (topS 59)) l23 c23 k23
  g__law_first_bad := PySem.W.mg_of X G a23
  D__law_written := fun_mk (st := (topS 60)) l24 c24 k24
  g__law_written := PySem.W.mg_of X G a24
  D__law_is_figure := fun_mk (st := (topS 61)) l25 c25 k25
  g__law_is_figure := PySem.W.mg_of X G a25
  D__law_read := fun_mk (st := (topS 62)) l26 c26 k26
  g__law_read := PySem.W.mg_of X G a26
  D__law_answer := fun_mk (st := (topS 63)) l27 c27 k27
  g__law_answer := PySem.W.mg_of X G a27
  D__law_told_right := fun_mk (st := (topS 64)) l28 c28 k28
  g__law_told_right := PySem.W.mg_of X G a28
  D__law_spoilt := fun_mk (st := (topS 65)) l29 c29 k29
  g__law_spoilt := PySem.W.mg_of X G a29
  D__law_right := fun_mk (st := (topS 66)) l30 c30 k30
  g__law_right := PySem.W.mg_of X G a30
  D_law := fun_mk (st := (topS 67)) l31 c31 k31
  g_law := PySem.W.mg_of X G a31
  n_ArithmeticError := PySem.W.mg_none_of X G n_ArithmeticError
  n_LookupError := PySem.W.mg_none_of X G n_LookupError
  n_ValueError := PySem.W.mg_none_of X G n_ValueError
  n_abs := PySem.W.mg_none_of X G n_abs
  n_all := PySem.W.mg_none_of X G n_all
  n_bool := PySem.W.mg_none_of X G n_bool
  n_divmod := PySem.W.mg_none_of X G n_divmod
  n_enumerate := PySem.W.mg_none_of X G n_enumerate
  n_int := PySem.W.mg_none_of X G n_int
  n_isinstance := PySem.W.mg_none_of X G n_isinstance
  n_len := PySem.W.mg_none_of X G n_len
  n_max := PySem.W.mg_none_of X G n_max
  n_min := PySem.W.mg_none_of X G n_min
  n_range := PySem.W.mg_none_of X G n_range
  n_repr := PySem.W.mg_none_of X G n_repr
  n_str := PySem.W.mg_none_of X G n_str
  n_sum := PySem.W.mg_none_of X G n_sum
  n_tuple := PySem.W.mg_none_of X G n_tuple
  t_digits := tdg
  c_MOST_KEYS := c_MOST_KEYS
  c_LEAST_SIZE := c_LEAST_SIZE
  c_MOST_SIZE := c_MOST_SIZE
  c_MOST_TIMES := c_MOST_TIMES
  c_CUTS := c_CUTS
  c_DIRECTIONS := c_DIRECTIONS
  c_BARE_WORDS := c_BARE_WORDS
  c_MOST_NESTED := c_MOST_NESTED
  c_MOST_COMMANDS := c_MOST_COMMANDS
  xm_InvalidProgram := PySem.W.mg_of X G xa_InvalidProgram
  xm_InvalidText := PySem.W.mg_of X G xa_InvalidText
  xm_TableError := PySem.W.mg_of X G xa_TableError
  xm_FindError := PySem.W.mg_of X G xa_FindError
  xm_LimitError := PySem.W.mg_of X G xa_LimitError
  xm_LastRecord := PySem.W.mg_of X G xa_LastRecord
  xm_TooManyEdits := PySem.W.mg_of X G xa_TooManyEdits
  xm_TooManyRecords := PySem.W.mg_of X G xa_TooManyRecords
  xm_NothingToUndo := PySem.W.mg_of X G xa_NothingToUndo
  xm_NoPlace := PySem.W.mg_of X G xa_NoPlace
  xm_MissingColumn := PySem.W.mg_of X G xa_MissingColumn
  xm_InvalidCommand := PySem.W.mg_of X G xa_InvalidCommand
  xm_InvalidEdit := PySem.W.mg_of X G xa_InvalidEdit
  xm_InvalidValue := PySem.W.mg_of X G xa_InvalidValue
  xm_InvalidRecord := PySem.W.mg_of X G xa_InvalidRecord
  xm_InvalidLimit := PySem.W.mg_of X G xa_InvalidLimit
  xm_InvalidPlaces := PySem.W.mg_of X G xa_InvalidPlaces
  xm_InvalidNumber := PySem.W.mg_of X G xa_InvalidNumber
  xm_InvalidOrder := PySem.W.mg_of X G xa_InvalidOrder
  xm_InvalidColumns := PySem.W.mg_of X G xa_InvalidColumns
  xm_InvalidTable := PySem.W.mg_of X G xa_InvalidTable
  xi_InvalidProgram := xi_InvalidProgram
  xt_InvalidProgram := xt_InvalidProgram
  xn_InvalidProgram := xn_InvalidProgram
  xD_InvalidProgram := fun_mk (st := (inS 5 0)) xl_InvalidProgram xc_InvalidProgram xk_InvalidProgram
  x_InvalidProgram := x_InvalidProgram
  xi_InvalidText := xi_InvalidText
  xt_InvalidText := xt_InvalidText
  xn_InvalidText := xn_InvalidText
  xD_InvalidText := fun_mk (st := (inS 8 0)) xl_InvalidText xc_InvalidText xk_InvalidText
  x_InvalidText := x_InvalidText
  xe_InvalidProgram_InvalidProgram := xe_InvalidProgram_InvalidProgram
  xe_InvalidText_InvalidProgram := xe_InvalidText_InvalidProgram
  xe_InvalidProgram_TableError := xe_InvalidProgram_TableError
  xe_InvalidText_TableError := xe_InvalidText_TableError
  xe_InvalidProgram_FindError := xe_InvalidProgram_FindError
  xe_InvalidText_FindError := xe_InvalidText_FindError
  xe_InvalidProgram_LimitError := xe_InvalidProgram_LimitError
  xe_InvalidText_LimitError := xe_InvalidText_LimitError
  hC := hCC.symm
  kx_InvalidProgram := kx_InvalidProgram
  kx_InvalidText := kx_InvalidText
  kt_ArithmeticError := kt_ArithmeticError
  kt_LookupError := kt_LookupError
  kt_ValueError := kt_ValueError
  kt_LimitError := kt_LimitError
  kt_FindError := kt_FindError
  kt_TableError := kt_TableError
  kt_LastRecord := kt_LastRecord
  kt_TooManyEdits := kt_TooManyEdits
  kt_TooManyRecords := kt_TooManyRecords
  kt_NothingToUndo := kt_NothingToUndo
  kt_NoPlace := kt_NoPlace
  kt_MissingColumn := kt_MissingColumn
  kt_InvalidCommand := kt_InvalidCommand
  kt_InvalidEdit := kt_InvalidEdit
  kt_InvalidValue := kt_InvalidValue
  kt_InvalidRecord := kt_InvalidRecord
  kt_InvalidLimit := kt_InvalidLimit
  kt_InvalidText := kt_InvalidText
  kt_InvalidPlaces := kt_InvalidPlaces
  kt_InvalidNumber := kt_InvalidNumber
  kt_InvalidProgram := kt_InvalidProgram
  kt_InvalidOrder := kt_InvalidOrder
  kt_InvalidColumns := kt_InvalidColumns
  kt_InvalidTable := kt_InvalidTable
  C := clsOf [("InvalidProgram", C_InvalidProgram), ("InvalidText", C_InvalidText), ("TableError", C_TableError), ("FindError", C_FindError), ("LimitError", C_LimitError), ("LastRecord", C_LastRecord), ("TooManyEdits", C_TooManyEdits), ("TooManyRecords", C_TooManyRecords), ("NothingToUndo", C_NothingToUndo), ("NoPlace", C_NoPlace), ("MissingColumn", C_MissingColumn), ("InvalidCommand", C_InvalidCommand), ("InvalidEdit", C_InvalidEdit), ("InvalidValue", C_InvalidValue), ("InvalidRecord", C_InvalidRecord), ("InvalidLimit", C_InvalidLimit), ("InvalidPlaces", C_InvalidPlaces), ("InvalidNumber", C_InvalidNumber), ("InvalidOrder", C_InvalidOrder), ("InvalidColumns", C_InvalidColumns), ("InvalidTable", C_InvalidTable)] 0
  FI := clsOf [("InvalidProgram", FI_InvalidProgram), ("InvalidText", FI_InvalidText)] 0
  FDI := clsOf [("InvalidProgram", (PySem.W.fnOf "__init__" "InvalidProgram.__init__" (defArgs (inS 5 0)) (defBody (inS 5 0)) (defScope (inS 5 0)) .none xkV_InvalidProgram xdc_InvalidProgram xpm_InvalidProgram xan_InvalidProgram xcd_InvalidProgram xct_InvalidProgram)), ("InvalidText", (PySem.W.fnOf "__init__" "InvalidText.__init__" (defArgs (inS 8 0)) (defBody (inS 8 0)) (defScope (inS 8 0)) .none xkV_InvalidText xdc_InvalidText xpm_InvalidText xan_InvalidText xcd_InvalidText xct_InvalidText))] (PySem.W.fnOf "__init__" "InvalidProgram.__init__" (defArgs (inS 5 0)) (defBody (inS 5 0)) (defScope (inS 5 0)) .none xkV_InvalidProgram xdc_InvalidProgram xpm_InvalidProgram xan_InvalidProgram xcd_InvalidProgram xct_InvalidProgram)
theorem all_mk {l : PySem.W.OpenLaw} {w : World} {K : PySem.W.Frag} {h : Heap} {mg : Str → Option Value} {fa : Addr} (X : K.In h) (G : h.Ns mainGlobals mg) (hfa : mg "law" = some (.ref fa))
    {f0 : Addr} {od0 an0 : Option Addr} {sl0 : Array (Option Value)} {oc0 kV0 dc0 pm0 cd0 ct0 : Value}
    {f1 : Addr} {od1 an1 : Option Addr} {sl1 : Array (Option Value)} {oc1 kV1 dc1 pm1 cd1 ct1 : Value}
    {f2 : Addr} {od2 an2 : Option Addr} {sl2 : Array (Option Value)} {oc2 kV2 dc2 pm2 cd2 ct2 : Value}
    {f3 : Addr} {od3 an3 : Option Addr} {sl3 : Array (Option Value)} {oc3 kV3 dc3 pm3 cd3 ct3 : Value}
    {f4 : Addr} {od4 an4 : Option Addr} {sl4 : Array (Option Value)} {oc4 kV4 dc4 pm4 cd4 ct4 : Value}
    {f5 : Addr} {od5 an5 : Option Addr} {sl5 : Array (Option Value)} {oc5 kV5 dc5 pm5 cd5 ct5 : Value}
    {f6 : Addr} {od6 an6 : Option Addr} {sl6 : Array (Option Value)} {oc6 kV6 dc6 pm6 cd6 ct6 : Value}
    {f7 : Addr} {od7 an7 : Option Addr} {sl7 : Array (Option Value)} {oc7 kV7 dc7 pm7 cd7 ct7 : Value}
    {f8 : Addr} {od8 an8 : Option Addr} {sl8 : Array (Option Value)} {oc8 kV8 dc8 pm8 cd8 ct8 : Value}
    {f9 : Addr} {od9 an9 : Option Addr} {sl9 : Array (Option Value)} {oc9 kV9 dc9 pm9 cd9 ct9 : Value}
    {f10 : Addr} {od10 an10 : Option Addr} {sl10 : Array (Option Value)} {oc10 kV10 dc10 pm10 cd10 ct10 : Value}
    {f11 : Addr} {od11 an11 : Option Addr} {sl11 : Array (Option Value)} {oc11 kV11 dc11 pm11 cd11 ct11 : Value}
    {f12 : Addr} {od12 an12 : Option Addr} {sl12 : Array (Option Value)} {oc12 kV12 dc12 pm12 cd12 ct12 : Value}
    {f13 : Addr} {od13 an13 : Option Addr} {sl13 : Array (Option Value)} {oc13 kV13 dc13 pm13 cd13 ct13 : Value}
    {f14 : Addr} {od14 an14 : Option Addr} {sl14 : Array (Option Value)} {oc14 kV14 dc14 pm14 cd14 ct14 : Value}
    {f15 : Addr} {od15 an15 : Option Addr} {sl15 : Array (Option Value)} {oc15 kV15 dc15 pm15 cd15 ct15 : Value}
    {f16 : Addr} {od16 an16 : Option Addr} {sl16 : Array (Option Value)} {oc16 kV16 dc16 pm16 cd16 ct16 : Value}
    {f17 : Addr} {od17 an17 : Option Addr} {sl17 : Array (Option Value)} {oc17 kV17 dc17 pm17 cd17 ct17 : Value}
    {f18 : Addr} {od18 an18 : Option Addr} {sl18 : Array (Option Value)} {oc18 kV18 dc18 pm18 cd18 ct18 : Value}
    {f19 : Addr} {od19 an19 : Option Addr} {sl19 : Array (Option Value)} {oc19 kV19 dc19 pm19 cd19 ct19 : Value}
    {f20 : Addr} {od20 an20 : Option Addr} {sl20 : Array (Option Value)} {oc20 kV20 dc20 pm20 cd20 ct20 : Value}
    {f21 : Addr} {od21 an21 : Option Addr} {sl21 : Array (Option Value)} {oc21 kV21 dc21 pm21 cd21 ct21 : Value}
    {f22 : Addr} {od22 an22 : Option Addr} {sl22 : Array (Option Value)} {oc22 kV22 dc22 pm22 cd22 ct22 : Value}
    {f23 : Addr} {od23 an23 : Option Addr} {sl23 : Array (Option Value)} {oc23 kV23 dc23 pm23 cd23 ct23 : Value}
    {f24 : Addr} {od24 an24 : Option Addr} {sl24 : Array (Option Value)} {oc24 kV24 dc24 pm24 cd24 ct24 : Value}
    {f25 : Addr} {od25 an25 : Option Addr} {sl25 : Array (Option Value)} {oc25 kV25 dc25 pm25 cd25 ct25 : Value}
    {f26 : Addr} {od26 an26 : Option Addr} {sl26 : Array (Option Value)} {oc26 kV26 dc26 pm26 cd26 ct26 : Value}
    {f27 : Addr} {od27 an27 : Option Addr} {sl27 : Array (Option Value)} {oc27 kV27 dc27 pm27 cd27 ct27 : Value}
    {f28 : Addr} {od28 an28 : Option Addr} {sl28 : Array (Option Value)} {oc28 kV28 dc28 pm28 cd28 ct28 : Value}
    {f29 : Addr} {od29 an29 : Option Addr} {sl29 : Array (Option Value)} {oc29 kV29 dc29 pm29 cd29 ct29 : Value}
    {f30 : Addr} {od30 an30 : Option Addr} {sl30 : Array (Option Value)} {oc30 kV30 dc30 pm30 cd30 ct30 : Value}
    {f31 : Addr} {od31 an31 : Option Addr} {sl31 : Array (Option Value)} {oc31 kV31 dc31 pm31 cd31 ct31 : Value}
    {C_InvalidProgram : Addr}
    {C_InvalidText : Addr}
    {C_TableError : Addr}
    {C_FindError : Addr}
    {C_LimitError : Addr}
    {C_LastRecord : Addr}
    {C_TooManyEdits : Addr}
    {C_TooManyRecords : Addr}
    {C_NothingToUndo : Addr}
    {C_NoPlace : Addr}
    {C_MissingColumn : Addr}
    {C_InvalidCommand : Addr}
    {C_InvalidEdit : Addr}
    {C_InvalidValue : Addr}
    {C_InvalidRecord : Addr}
    {C_InvalidLimit : Addr}
    {C_InvalidPlaces : Addr}
    {C_InvalidNumber : Addr}
    {C_InvalidOrder : Addr}
    {C_InvalidColumns : Addr}
    {C_InvalidTable : Addr}
    {FI_InvalidProgram : Addr} {xod_InvalidProgram xan_InvalidProgram : Option Addr} {xsl_InvalidProgram : Array (Option Value)} {xoc_InvalidProgram xkV_InvalidProgram xdc_InvalidProgram xpm_InvalidProgram xcd_InvalidProgram xct_InvalidProgram : Value}
    {FI_InvalidText : Addr} {xod_InvalidText xan_InvalidText : Option Addr} {xsl_InvalidText : Array (Option Value)} {xoc_InvalidText xkV_InvalidText xdc_InvalidText xpm_InvalidText xcd_InvalidText xct_InvalidText : Value}
    (a0 : PySem.W.nsIn K mainGlobals "is_integer" = some (some (.ref f0))) (l0 : K.lookup f0 = some ⟨oc0, od0, .func (PySem.W.fnOf "is_integer" "is_integer" (defArgs (topS 28)) (defBody (topS 28)) (defScope (topS 28)) .none kV0 dc0 pm0 an0 cd0 ct0), sl0⟩) (c0 : PySem.W.codeIn K cd0 "is_integer" = true) (k0 : PySem.W.keepIn K (.ref f0) = true)
    (a1 : PySem.W.nsIn K mainGlobals "is_word" = some (some (.ref f1))) (l1 : K.lookup f1 = some ⟨oc1, od1, .func (PySem.W.fnOf "is_word" "is_word" (defArgs (topS 31)) (defBody (topS 31)) (defScope (topS 31)) .none kV1 dc1 pm1 an1 cd1 ct1), sl1⟩) (c1 : PySem.W.codeIn K cd1 "is_word" = true) (k1 : PySem.W.keepIn K (.ref f1) = true)
    (a2 : PySem.W.nsIn K mainGlobals "is_sort_column" = some (some (.ref f2))) (l2 : K.lookup f2 = some ⟨oc2, od2, .func (PySem.W.fnOf "is_sort_column" "is_sort_column" (defArgs (topS 32)) (defBody (topS 32)) (defScope (topS 32)) .none kV2 dc2 pm2 an2 cd2 ct2), sl2⟩) (c2 : PySem.W.codeIn K cd2 "is_sort_column" = true) (k2 : PySem.W.keepIn K (.ref f2) = true)
    (a3 : PySem.W.nsIn K mainGlobals "is_size" = some (some (.ref f3))) (l3 : K.lookup f3 = some ⟨oc3, od3, .func (PySem.W.fnOf "is_size" "is_size" (defArgs (topS 37)) (defBody (topS 37)) (defScope (topS 37)) .none kV3 dc3 pm3 an3 cd3 ct3), sl3⟩) (c3 : PySem.W.codeIn K cd3 "is_size" = true) (k3 : PySem.W.keepIn K (.ref f3) = true)
    (a4 : PySem.W.nsIn K mainGlobals "is_times" = some (some (.ref f4))) (l4 : K.lookup f4 = some ⟨oc4, od4, .func (PySem.W.fnOf "is_times" "is_times" (defArgs (topS 38)) (defBody (topS 38)) (defScope (topS 38)) .none kV4 dc4 pm4 an4 cd4 ct4), sl4⟩) (c4 : PySem.W.codeIn K cd4 "is_times" = true) (k4 : PySem.W.keepIn K (.ref f4) = true)
    (a5 : PySem.W.nsIn K mainGlobals "is_plain_command" = some (some (.ref f5))) (l5 : K.lookup f5 = some ⟨oc5, od5, .func (PySem.W.fnOf "is_plain_command" "is_plain_command" (defArgs (topS 39)) (defBody (topS 39)) (defScope (topS 39)) .none kV5 dc5 pm5 an5 cd5 ct5), sl5⟩) (c5 : PySem.W.codeIn K cd5 "is_plain_command" = true) (k5 : PySem.W.keepIn K (.ref f5) = true)
    (a6 : PySem.W.nsIn K mainGlobals "begins_repeat" = some (some (.ref f6))) (l6 : K.lookup f6 = some ⟨oc6, od6, .func (PySem.W.fnOf "begins_repeat" "begins_repeat" (defArgs (topS 40)) (defBody (topS 40)) (defScope (topS 40)) .none kV6 dc6 pm6 an6 cd6 ct6), sl6⟩) (c6 : PySem.W.codeIn K cd6 "begins_repeat" = true) (k6 : PySem.W.keepIn K (.ref f6) = true)
    (a7 : PySem.W.nsIn K mainGlobals "room_behind" = some (some (.ref f7))) (l7 : K.lookup f7 = some ⟨oc7, od7, .func (PySem.W.fnOf "room_behind" "room_behind" (defArgs (topS 41)) (defBody (topS 41)) (defScope (topS 41)) .none kV7 dc7 pm7 an7 cd7 ct7), sl7⟩) (c7 : PySem.W.codeIn K cd7 "room_behind" = true) (k7 : PySem.W.keepIn K (.ref f7) = true)
    (a8 : PySem.W.nsIn K mainGlobals "room_behind_command" = some (some (.ref f8))) (l8 : K.lookup f8 = some ⟨oc8, od8, .func (PySem.W.fnOf "room_behind_command" "room_behind_command" (defArgs (topS 42)) (defBody (topS 42)) (defScope (topS 42)) .none kV8 dc8 pm8 an8 cd8 ct8), sl8⟩) (c8 : PySem.W.codeIn K cd8 "room_behind_command" = true) (k8 : PySem.W.keepIn K (.ref f8) = true)
    (a9 : PySem.W.nsIn K mainGlobals "check_program" = some (some (.ref f9))) (l9 : K.lookup f9 = some ⟨oc9, od9, .func (PySem.W.fnOf "check_program" "check_program" (defArgs (topS 43)) (defBody (topS 43)) (defScope (topS 43)) .none kV9 dc9 pm9 an9 cd9 ct9), sl9⟩) (c9 : PySem.W.codeIn K cd9 "check_program" = true) (k9 : PySem.W.keepIn K (.ref f9) = true)
    (a10 : PySem.W.nsIn K mainGlobals "is_program" = some (some (.ref f10))) (l10 : K.lookup f10 = some ⟨oc10, od10, .func (PySem.W.fnOf "is_program" "is_program" (defArgs (topS 44)) (defBody (topS 44)) (defScope (topS 44)) .none kV10 dc10 pm10 an10 cd10 ct10), sl10⟩) (c10 : PySem.W.codeIn K cd10 "is_program" = true) (k10 : PySem.W.keepIn K (.ref f10) = true)
    (a11 : PySem.W.nsIn K mainGlobals "read_number" = some (some (.ref f11))) (l11 : K.lookup f11 = some ⟨oc11, od11, .func (PySem.W.fnOf "read_number" "read_number" (defArgs (topS 46)) (defBody (topS 46)) (defScope (topS 46)) .none kV11 dc11 pm11 an11 cd11 ct11), sl11⟩) (c11 : PySem.W.codeIn K cd11 "read_number" = true) (k11 : PySem.W.keepIn K (.ref f11) = true)
    (a12 : PySem.W.nsIn K mainGlobals "read_command" = some (some (.ref f12))) (l12 : K.lookup f12 = some ⟨oc12, od12, .func (PySem.W.fnOf "read_command" "read_command" (defArgs (topS 47)) (defBody (topS 47)) (defScope (topS 47)) .none kV12 dc12 pm12 an12 cd12 ct12), sl12⟩) (c12 : PySem.W.codeIn K cd12 "read_command" = true) (k12 : PySem.W.keepIn K (.ref f12) = true)
    (a13 : PySem.W.nsIn K mainGlobals "read_words" = some (some (.ref f13))) (l13 : K.lookup f13 = some ⟨oc13, od13, .func (PySem.W.fnOf "read_words" "read_words" (defArgs (topS 48)) (defBody (topS 48)) (defScope (topS 48)) .none kV13 dc13 pm13 an13 cd13 ct13), sl13⟩) (c13 : PySem.W.codeIn K cd13 "read_words" = true) (k13 : PySem.W.keepIn K (.ref f13) = true)
    (a14 : PySem.W.nsIn K mainGlobals "parse_program" = some (some (.ref f14))) (l14 : K.lookup f14 = some ⟨oc14, od14, .func (PySem.W.fnOf "parse_program" "parse_program" (defArgs (topS 49)) (defBody (topS 49)) (defScope (topS 49)) .none kV14 dc14 pm14 an14 cd14 ct14), sl14⟩) (c14 : PySem.W.codeIn K cd14 "parse_program" = true) (k14 : PySem.W.keepIn K (.ref f14) = true)
    (a15 : PySem.W.nsIn K mainGlobals "_law_cell" = some (some (.ref f15))) (l15 : K.lookup f15 = some ⟨oc15, od15, .func (PySem.W.fnOf "_law_cell" "_law_cell" (defArgs (topS 51)) (defBody (topS 51)) (defScope (topS 51)) .none kV15 dc15 pm15 an15 cd15 ct15), sl15⟩) (c15 : PySem.W.codeIn K cd15 "_law_cell" = true) (k15 : PySem.W.keepIn K (.ref f15) = true)
    (a16 : PySem.W.nsIn K mainGlobals "_law_pool" = some (some (.ref f16))) (l16 : K.lookup f16 = some ⟨oc16, od16, .func (PySem.W.fnOf "_law_pool" "_law_pool" (defArgs (topS 52)) (defBody (topS 52)) (defScope (topS 52)) .none kV16 dc16 pm16 an16 cd16 ct16), sl16⟩) (c16 : PySem.W.codeIn K cd16 "_law_pool" = true) (k16 : PySem.W.keepIn K (.ref f16) = true)
    (a17 : PySem.W.nsIn K mainGlobals "_law_draw" = some (some (.ref f17))) (l17 : K.lookup f17 = some ⟨oc17, od17, .func (PySem.W.fnOf "_law_draw" "_law_draw" (defArgs (topS 53)) (defBody (topS 53)) (defScope (topS 53)) .none kV17 dc17 pm17 an17 cd17 ct17), sl17⟩) (c17 : PySem.W.codeIn K cd17 "_law_draw" = true) (k17 : PySem.W.keepIn K (.ref f17) = true)
    (a18 : PySem.W.nsIn K mainGlobals "_law_steps" = some (some (.ref f18))) (l18 : K.lookup f18 = some ⟨oc18, od18, .func (PySem.W.fnOf "_law_steps" "_law_steps" (defArgs (topS 54)) (defBody (topS 54)) (defScope (topS 54)) .none kV18 dc18 pm18 an18 cd18 ct18), sl18⟩) (c18 : PySem.W.codeIn K cd18 "_law_steps" = true) (k18 : PySem.W.keepIn K (.ref f18) = true)
    (a19 : PySem.W.nsIn K mainGlobals "_law_program" = some (some (.ref f19))) (l19 : K.lookup f19 = some ⟨oc19, od19, .func (PySem.W.fnOf "_law_program" "_law_program" (defArgs (topS 55)) (defBody (topS 55)) (defScope (topS 55)) .none kV19 dc19 pm19 an19 cd19 ct19), sl19⟩) (c19 : PySem.W.codeIn K cd19 "_law_program" = true) (k19 : PySem.W.keepIn K (.ref f19) = true)
    (a20 : PySem.W.nsIn K mainGlobals "_law_kind" = some (some (.ref f20))) (l20 : K.lookup f20 = some ⟨oc20, od20, .func (PySem.W.fnOf "_law_kind" "_law_kind" (defArgs (topS 56)) (defBody (topS 56)) (defScope (topS 56)) .none kV20 dc20 pm20 an20 cd20 ct20), sl20⟩) (c20 : PySem.W.codeIn K cd20 "_law_kind" = true) (k20 : PySem.W.keepIn K (.ref f20) = true)
    (a21 : PySem.W.nsIn K mainGlobals "_law_whole" = some (some (.ref f21))) (l21 : K.lookup f21 = some ⟨oc21, od21, .func (PySem.W.fnOf "_law_whole" "_law_whole" (defArgs (topS 57)) (defBody (topS 57)) (defScope (topS 57)) .none kV21 dc21 pm21 an21 cd21 ct21), sl21⟩) (c21 : PySem.W.codeIn K cd21 "_law_whole" = true) (k21 : PySem.W.keepIn K (.ref f21) = true)
    (a22 : PySem.W.nsIn K mainGlobals "_law_counted" = some (some (.ref f22))) (l22 : K.lookup f22 = some ⟨oc22, od22, .func (PySem.W.fnOf "_law_counted" "_law_counted" (defArgs (topS 58)) (defBody (topS 58)) (defScope (topS 58)) .none kV22 dc22 pm22 an22 cd22 ct22), sl22⟩) (c22 : PySem.W.codeIn K cd22 "_law_counted" = true) (k22 : PySem.W.keepIn K (.ref f22) = true)
    (a23 : PySem.W.nsIn K mainGlobals "_law_first_bad" = some (some (.ref f23))) (l23 : K.lookup f23 = some ⟨oc23, od23, .func (PySem.W.fnOf "_law_first_bad" "_law_first_bad" (defArgs (topS 59)) (defBody (topS 59)) (defScope (topS 59)) .none kV23 dc23 pm23 an23 cd23 ct23), sl23⟩) (c23 : PySem.W.codeIn K cd23 "_law_first_bad" = true) (k23 : PySem.W.keepIn K (.ref f23) = true)
    (a24 : PySem.W.nsIn K mainGlobals "_law_written" = some (some (.ref f24))) (l24 : K.lookup f24 = some ⟨oc24, od24, .func (PySem.W.fnOf "_law_written" "_law_written" (defArgs (topS 60)) (defBody (topS 60)) (defScope (topS 60)) .none kV24 dc24 pm24 an24 cd24 ct24), sl24⟩) (c24 : PySem.W.codeIn K cd24 "_law_written" = true) (k24 : PySem.W.keepIn K (.ref f24) = true)
    (a25 : PySem.W.nsIn K mainGlobals "_law_is_figure" = some (some (.ref f25))) (l25 : K.lookup f25 = some ⟨oc25, od25, .func (PySem.W.fnOf "_law_is_figure" "_law_is_figure" (defArgs (topS 61)) (defBody (topS 61)) (defScope (topS 61)) .none kV25 dc25 pm25 an25 cd25 ct25), sl25⟩) (c25 : PySem.W.codeIn K cd25 "_law_is_figure" = true) (k25 : PySem.W.keepIn K (.ref f25) = true)
    (a26 : PySem.W.nsIn K mainGlobals "_law_read" = some (some (.ref f26))) (l26 : K.lookup f26 = some ⟨oc26, od26, .func (PySem.W.fnOf "_law_read" "_law_read" (defArgs (topS 62)) (defBody (topS 62)) (defScope (topS 62)) .none kV26 dc26 pm26 an26 cd26 ct26), sl26⟩) (c26 : PySem.W.codeIn K cd26 "_law_read" = true) (k26 : PySem.W.keepIn K (.ref f26) = true)
    (a27 : PySem.W.nsIn K mainGlobals "_law_answer" = some (some (.ref f27))) (l27 : K.lookup f27 = some ⟨oc27, od27, .func (PySem.W.fnOf "_law_answer" "_law_answer" (defArgs (topS 63)) (defBody (topS 63)) (defScope (topS 63)) .none kV27 dc27 pm27 an27 cd27 ct27), sl27⟩) (c27 : PySem.W.codeIn K cd27 "_law_answer" = true) (k27 : PySem.W.keepIn K (.ref f27) = true)
    (a28 : PySem.W.nsIn K mainGlobals "_law_told_right" = some (some (.ref f28))) (l28 : K.lookup f28 = some ⟨oc28, od28, .func (PySem.W.fnOf "_law_told_right" "_law_told_right" (defArgs (topS 64)) (defBody (topS 64)) (defScope (topS 64)) .none kV28 dc28 pm28 an28 cd28 ct28), sl28⟩) (c28 : PySem.W.codeIn K cd28 "_law_told_right" = true) (k28 : PySem.W.keepIn K (.ref f28) = true)
    (a29 : PySem.W.nsIn K mainGlobals "_law_spoilt" = some (some (.ref f29))) (l29 : K.lookup f29 = some ⟨oc29, od29, .func (PySem.W.fnOf "_law_spoilt" "_law_spoilt" (defArgs (topS 65)) (defBody (topS 65)) (defScope (topS 65)) .none kV29 dc29 pm29 an29 cd29 ct29), sl29⟩) (c29 : PySem.W.codeIn K cd29 "_law_spoilt" = true) (k29 : PySem.W.keepIn K (.ref f29) = true)
    (a30 : PySem.W.nsIn K mainGlobals "_law_right" = some (some (.ref f30))) (l30 : K.lookup f30 = some ⟨oc30, od30, .func (PySem.W.fnOf "_law_right" "_law_right" (defArgs (topS 66)) (defBody (topS 66)) (defScope (topS 66)) .none kV30 dc30 pm30 an30 cd30 ct30), sl30⟩) (c30 : PySem.W.codeIn K cd30 "_law_right" = true) (k30 : PySem.W.keepIn K (.ref f30) = true)
    (a31 : PySem.W.nsIn K mainGlobals "law" = some (some (.ref f31))) (l31 : K.lookup f31 = some ⟨oc31, od31, .func (PySem.W.fnOf "law" "law" (defArgs (topS 67)) (defBody (topS 67)) (defScope (topS 67)) .none kV31 dc31 pm31 an31 cd31 ct31), sl31⟩) (c31 : PySem.W.codeIn K cd31 "law" = true) (k31 : PySem.W.keepIn K (.ref f31) = true)
    (n_ArithmeticError : PySem.W.nsIn K mainGlobals "ArithmeticError" = some none)
    (n_LookupError : PySem.W.nsIn K mainGlobals "LookupError" = some none)
    (n_ValueError : PySem.W.nsIn K mainGlobals "ValueError" = some none)
    (n_abs : PySem.W.nsIn K mainGlobals "abs" = some none)
    (n_all : PySem.W.nsIn K mainGlobals "all" = some none)
    (n_bool : PySem.W.nsIn K mainGlobals "bool" = some none)
    (n_divmod : PySem.W.nsIn K mainGlobals "divmod" = some none)
    (n_enumerate : PySem.W.nsIn K mainGlobals "enumerate" = some none)
    (n_int : PySem.W.nsIn K mainGlobals "int" = some none)
    (n_isinstance : PySem.W.nsIn K mainGlobals "isinstance" = some none)
    (n_len : PySem.W.nsIn K mainGlobals "len" = some none)
    (n_max : PySem.W.nsIn K mainGlobals "max" = some none)
    (n_min : PySem.W.nsIn K mainGlobals "min" = some none)
    (n_range : PySem.W.nsIn K mainGlobals "range" = some none)
    (n_repr : PySem.W.nsIn K mainGlobals "repr" = some none)
    (n_str : PySem.W.nsIn K mainGlobals "str" = some none)
    (n_sum : PySem.W.nsIn K mainGlobals "sum" = some none)
    (n_tuple : PySem.W.nsIn K mainGlobals "tuple" = some none)
    (tdg : PySem.W.nsIn K cStatics "sys.int_max_str_digits" = some none)
    (c_MOST_KEYS : ∀ [LabW], ∃ uv : Value × V, mg "MOST_KEYS" = some uv.1 ∧ RelV uv.2 uv.1 ∧ ∀ Z, DD K Z uv.2 cv_MOST_KEYS)
    (c_LEAST_SIZE : ∀ [LabW], ∃ uv : Value × V, mg "LEAST_SIZE" = some uv.1 ∧ RelV uv.2 uv.1 ∧ ∀ Z, DD K Z uv.2 cv_LEAST_SIZE)
    (c_MOST_SIZE : ∀ [LabW], ∃ uv : Value × V, mg "MOST_SIZE" = some uv.1 ∧ RelV uv.2 uv.1 ∧ ∀ Z, DD K Z uv.2 cv_MOST_SIZE)
    (c_MOST_TIMES : ∀ [LabW], ∃ uv : Value × V, mg "MOST_TIMES" = some uv.1 ∧ RelV uv.2 uv.1 ∧ ∀ Z, DD K Z uv.2 cv_MOST_TIMES)
    (c_CUTS : ∀ [LabW], ∃ uv : Value × V, mg "CUTS" = some uv.1 ∧ RelV uv.2 uv.1 ∧ ∀ Z, DD K Z uv.2 cv_CUTS)
    (c_DIRECTIONS : ∀ [LabW], ∃ uv : Value × V, mg "DIRECTIONS" = some uv.1 ∧ RelV uv.2 uv.1 ∧ ∀ Z, DD K Z uv.2 cv_DIRECTIONS)
    (c_BARE_WORDS : ∀ [LabW], ∃ uv : Value × V, mg "BARE_WORDS" = some uv.1 ∧ RelV uv.2 uv.1 ∧ ∀ Z, DD K Z uv.2 cv_BARE_WORDS)
    (c_MOST_NESTED : ∀ [LabW], ∃ uv : Value × V, mg "MOST_NESTED" = some uv.1 ∧ RelV uv.2 uv.1 ∧ ∀ Z, DD K Z uv.2 cv_MOST_NESTED)
    (c_MOST_COMMANDS : ∀ [LabW], ∃ uv : Value × V, mg "MOST_COMMANDS" = some uv.1 ∧ RelV uv.2 uv.1 ∧ ∀ Z, DD K Z uv.2 cv_MOST_COMMANDS)
    (xa_InvalidProgram : PySem.W.nsIn K mainGlobals "InvalidProgram" = some (some (.ref C_InvalidProgram)))
    (xa_InvalidText : PySem.W.nsIn K mainGlobals "InvalidText" = some (some (.ref C_InvalidText)))
    (xa_TableError : PySem.W.nsIn K mainGlobals "TableError" = some (some (.ref C_TableError)))
    (xa_FindError : PySem.W.nsIn K mainGlobals "FindError" = some (some (.ref C_FindError)))
    (xa_LimitError : PySem.W.nsIn K mainGlobals "LimitError" = some (some (.ref C_LimitError)))
    (xa_LastRecord : PySem.W.nsIn K mainGlobals "LastRecord" = some (some (.ref C_LastRecord)))
    (xa_TooManyEdits : PySem.W.nsIn K mainGlobals "TooManyEdits" = some (some (.ref C_TooManyEdits)))
    (xa_TooManyRecords : PySem.W.nsIn K mainGlobals "TooManyRecords" = some (some (.ref C_TooManyRecords)))
    (xa_NothingToUndo : PySem.W.nsIn K mainGlobals "NothingToUndo" = some (some (.ref C_NothingToUndo)))
    (xa_NoPlace : PySem.W.nsIn K mainGlobals "NoPlace" = some (some (.ref C_NoPlace)))
    (xa_MissingColumn : PySem.W.nsIn K mainGlobals "MissingColumn" = some (some (.ref C_MissingColumn)))
    (xa_InvalidCommand : PySem.W.nsIn K mainGlobals "InvalidCommand" = some (some (.ref C_InvalidCommand)))
    (xa_InvalidEdit : PySem.W.nsIn K mainGlobals "InvalidEdit" = some (some (.ref C_InvalidEdit)))
    (xa_InvalidValue : PySem.W.nsIn K mainGlobals "InvalidValue" = some (some (.ref C_InvalidValue)))
    (xa_InvalidRecord : PySem.W.nsIn K mainGlobals "InvalidRecord" = some (some (.ref C_InvalidRecord)))
    (xa_InvalidLimit : PySem.W.nsIn K mainGlobals "InvalidLimit" = some (some (.ref C_InvalidLimit)))
    (xa_InvalidPlaces : PySem.W.nsIn K mainGlobals "InvalidPlaces" = some (some (.ref C_InvalidPlaces)))
    (xa_InvalidNumber : PySem.W.nsIn K mainGlobals "InvalidNumber" = some (some (.ref C_InvalidNumber)))
    (xa_InvalidOrder : PySem.W.nsIn K mainGlobals "InvalidOrder" = some (some (.ref C_InvalidOrder)))
    (xa_InvalidColumns : PySem.W.nsIn K mainGlobals "InvalidColumns" = some (some (.ref C_InvalidColumns)))
    (xa_InvalidTable : PySem.W.nsIn K mainGlobals "InvalidTable" = some (some (.ref C_InvalidTable)))
    (xi_InvalidProgram : PySem.W.findIn K (.ref C_InvalidProgram) "__init__" = some (some (.ref FI_InvalidProgram))) (xt_InvalidProgram : PySem.W.typeIn K (.ref FI_InvalidProgram) = some (.type "function")) (xn_InvalidProgram : PySem.W.findIn K (.ref C_InvalidProgram) "index" = some none) (xl_InvalidProgram : K.lookup FI_InvalidProgram = some ⟨xoc_InvalidProgram, xod_InvalidProgram, .func (PySem.W.fnOf "__init__" "InvalidProgram.__init__" (defArgs (inS 5 0)) (defBody (inS 5 0)) (defScope (inS 5 0)) .none xkV_InvalidProgram xdc_InvalidProgram xpm_InvalidProgram xan_InvalidProgram xcd_InvalidProgram xct_InvalidProgram), xsl_InvalidProgram⟩) (xc_InvalidProgram : PySem.W.codeIn K xcd_InvalidProgram "InvalidProgram.__init__" = true) (xk_InvalidProgram : PySem.W.keepIn K (.ref FI_InvalidProgram) = true) (x_InvalidProgram : OexC K C_InvalidProgram)
    (xi_InvalidText : PySem.W.findIn K (.ref C_InvalidText) "__init__" = some (some (.ref FI_InvalidText))) (xt_InvalidText : PySem.W.typeIn K (.ref FI_InvalidText) = some (.type "function")) (xn_InvalidText : PySem.W.findIn K (.ref C_InvalidText) "text" = some none) (xl_InvalidText : K.lookup FI_InvalidText = some ⟨xoc_InvalidText, xod_InvalidText, .func (PySem.W.fnOf "__init__" "InvalidText.__init__" (defArgs (inS 8 0)) (defBody (inS 8 0)) (defScope (inS 8 0)) .none xkV_InvalidText xdc_InvalidText xpm_InvalidText xan_InvalidText xcd_InvalidText xct_InvalidText), xsl_InvalidText⟩) (xc_InvalidText : PySem.W.codeIn K xcd_InvalidText "InvalidText.__init__" = true) (xk_InvalidText : PySem.W.keepIn K (.ref FI_InvalidText) = true) (x_InvalidText : OexC K C_InvalidText)
    (xe_InvalidProgram_InvalidProgram : PySem.W.exmOne K (.ref C_InvalidProgram) (.ref C_InvalidProgram) = some true)
    (xe_InvalidText_InvalidProgram : PySem.W.exmOne K (.ref C_InvalidText) (.ref C_InvalidProgram) = some false)
    (xe_InvalidProgram_TableError : PySem.W.exmOne K (.ref C_InvalidProgram) (.ref C_TableError) = some true)
    (xe_InvalidText_TableError : PySem.W.exmOne K (.ref C_InvalidText) (.ref C_TableError) = some true)
    (xe_InvalidProgram_FindError : PySem.W.exmOne K (.ref C_InvalidProgram) (.ref C_FindError) = some false)
    (xe_InvalidText_FindError : PySem.W.exmOne K (.ref C_InvalidText) (.ref C_FindError) = some false)
    (xe_InvalidProgram_LimitError : PySem.W.exmOne K (.ref C_InvalidProgram) (.ref C_LimitError) = some false)
    (xe_InvalidText_LimitError : PySem.W.exmOne K (.ref C_InvalidText) (.ref C_LimitError) = some false)
    (kx_InvalidProgram : kexB K C_InvalidProgram = true)
    (kx_InvalidText : kexB K C_InvalidText = true)
    (kt_ArithmeticError : kitTab K [(C_InvalidProgram, .type "ArithmeticError", false), (C_InvalidText, .type "ArithmeticError", false)] = true)
    (kt_LookupError : kitTab K [(C_InvalidProgram, .type "LookupError", false), (C_InvalidText, .type "LookupError", false)] = true)
    (kt_ValueError : kitTab K [(C_InvalidProgram, .type "ValueError", true), (C_InvalidText, .type "ValueError", true)] = true)
    (kt_LimitError : kitTab K [(C_InvalidProgram, .ref C_LimitError, false), (C_InvalidText, .ref C_LimitError, false)] = true)
    (kt_FindError : kitTab K [(C_InvalidProgram, .ref C_FindError, false), (C_InvalidText, .ref C_FindError, false)] = true)
    (kt_TableError : kitTab K [(C_InvalidProgram, .ref C_TableError, true), (C_InvalidText, .ref C_TableError, true)] = true)
    (kt_LastRecord : kitTab K [(C_InvalidProgram, .ref C_LastRecord, false), (C_InvalidText, .ref C_LastRecord, false)] = true)
    (kt_TooManyEdits : kitTab K [(C_InvalidProgram, .ref C_TooManyEdits, false), (C_InvalidText, .ref C_TooManyEdits, false)] = true)
    (kt_TooManyRecords : kitTab K [(C_InvalidProgram, .ref C_TooManyRecords, false), (C_InvalidText, .ref C_TooManyRecords, false)] = true)
    (kt_NothingToUndo : kitTab K [(C_InvalidProgram, .ref C_NothingToUndo, false), (C_InvalidText, .ref C_NothingToUndo, false)] = true)
    (kt_NoPlace : kitTab K [(C_InvalidProgram, .ref C_NoPlace, false), (C_InvalidText, .ref C_NoPlace, false)] = true)
    (kt_MissingColumn : kitTab K [(C_InvalidProgram, .ref C_MissingColumn, false), (C_InvalidText, .ref C_MissingColumn, false)] = true)
    (kt_InvalidCommand : kitTab K [(C_InvalidProgram, .ref C_InvalidCommand, false), (C_InvalidText, .ref C_InvalidCommand, false)] = true)
    (kt_InvalidEdit : kitTab K [(C_InvalidProgram, .ref C_InvalidEdit, false), (C_InvalidText, .ref C_InvalidEdit, false)] = true)
    (kt_InvalidValue : kitTab K [(C_InvalidProgram, .ref C_InvalidValue, false), (C_InvalidText, .ref C_InvalidValue, false)] = true)
    (kt_InvalidRecord : kitTab K [(C_InvalidProgram, .ref C_InvalidRecord, false), (C_InvalidText, .ref C_InvalidRecord, false)] = true)
    (kt_InvalidLimit : kitTab K [(C_InvalidProgram, .ref C_InvalidLimit, false), (C_InvalidText, .ref C_InvalidLimit, false)] = true)
    (kt_InvalidText : kitTab K [(C_InvalidProgram, .ref C_InvalidText, false), (C_InvalidText, .ref C_InvalidText, true)] = true)
    (kt_InvalidPlaces : kitTab K [(C_InvalidProgram, .ref C_InvalidPlaces, false), (C_InvalidText, .ref C_InvalidPlaces, false)] = true)
    (kt_InvalidNumber : kitTab K [(C_InvalidProgram, .ref C_InvalidNumber, false), (C_InvalidText, .ref C_InvalidNumber, false)] = true)
    (kt_InvalidProgram : kitTab K [(C_InvalidProgram, .ref C_InvalidProgram, true), (C_InvalidText, .ref C_InvalidProgram, false)] = true)
    (kt_InvalidOrder : kitTab K [(C_InvalidProgram, .ref C_InvalidOrder, false), (C_InvalidText, .ref C_InvalidOrder, false)] = true)
    (kt_InvalidColumns : kitTab K [(C_InvalidProgram, .ref C_InvalidColumns, false), (C_InvalidText, .ref C_InvalidColumns, false)] = true)
    (kt_InvalidTable : kitTab K [(C_InvalidProgram, .ref C_InvalidTable, false), (C_InvalidText, .ref C_InvalidTable, false)] = true) :
    LawG l w K 23 "_law_script" m_law mg fa h := by
  have e := hfa.symm.trans (PySem.W.mg_of X G a31)
  cases e
  refine ⟨(PySem.W.fnOf "law" "law" (defArgs (topS 67)) (defBody (topS 67)) (defScope (topS 67)) .none kV31 dc31 pm31 an31 cd31 ct31), [], { w := some w, T := [], gd := True, C := clsOf [("InvalidProgram", C_InvalidProgram), ("InvalidText", C_InvalidText), ("TableError", C_TableError), ("FindError", C_FindError), ("LimitError", C_LimitError), ("LastRecord", C_LastRecord), ("TooManyEdits", C_TooManyEdits), ("TooManyRecords", C_TooManyRecords), ("NothingToUndo", C_NothingToUndo), ("NoPlace", C_NoPlace), ("MissingColumn", C_MissingColumn), ("InvalidCommand", C_InvalidCommand), ("InvalidEdit", C_InvalidEdit), ("InvalidValue", C_InvalidValue), ("InvalidRecord", C_InvalidRecord), ("InvalidLimit", C_InvalidLimit), ("InvalidPlaces", C_InvalidPlaces), ("InvalidNumber", C_InvalidNumber), ("InvalidOrder", C_InvalidOrder), ("InvalidColumns", C_InvalidColumns), ("InvalidTable", C_InvalidTable)] 0 }, fun c q hc => ?_, fun q hq => ?_, fun s v => .of_eq rfl, fun base hK hG hT => ?_⟩
  · exact nomatch hc
  · exact nomatch hq
  · letI : Lab := { w := some w, T := [], gd := True, C := clsOf [("InvalidProgram", C_InvalidProgram), ("InvalidText", C_InvalidText), ("TableError", C_TableError), ("FindError", C_FindError), ("LimitError", C_LimitError), ("LastRecord", C_LastRecord), ("TooManyEdits", C_TooManyEdits), ("TooManyRecords", C_TooManyRecords), ("NothingToUndo", C_NothingToUndo), ("NoPlace", C_NoPlace), ("MissingColumn", C_MissingColumn), ("InvalidCommand", C_InvalidCommand), ("InvalidEdit", C_InvalidEdit), ("InvalidValue", C_InvalidValue), ("InvalidRecord", C_InvalidRecord), ("InvalidLimit", C_InvalidLimit), ("InvalidPlaces", C_InvalidPlaces), ("InvalidNumber", C_InvalidNumber), ("InvalidOrder", C_InvalidOrder), ("InvalidColumns", C_InvalidColumns), ("InvalidTable", C_InvalidTable)] 0 }
    haveI : LabR := ⟨trivial⟩
    exact ok_law (mkTx rfl X G a0 l0 c0 k0 a1 l1 c1 k1 a2 l2 c2 k2 a3 l3 c3 k3 a4 l4 c4 k4 a5 l5 c5 k5 a6 l6 c6 k6 a7 l7 c7 k7 a8 l8 c8 k8 a9 l9 c9 k9 a10 l10 c10 k10 a11 l11 c11 k11 a12 l12 c12 k12 a13 l13 c13 k13 a14 l14 c14 k14 a15 l15 c15 k15 a16 l16 c16 k16 a17 l17 c17 k17 a18 l18 c18 k18 a19 l19 c19 k19 a20 l20 c20 k20 a21 l21 c21 k21 a22 l22 c22 k22 a23 l23 c23 k23 a24 l24 c24 k24 a25 l25 c25 k25 a26 l26 c26 k26 a27 l27 c27 k27 a28 l28 c28 k28 a29 l29 c29 k29 a30 l30 c30 k30 a31 l31 c31 k31 n_ArithmeticError n_LookupError n_ValueError n_abs n_all n_bool n_divmod n_enumerate n_int n_isinstance n_len n_max n_min n_range n_repr n_str n_sum n_tuple tdg c_MOST_KEYS c_LEAST_SIZE c_MOST_SIZE c_MOST_TIMES c_CUTS c_DIRECTIONS c_BARE_WORDS c_MOST_NESTED c_MOST_COMMANDS xa_InvalidProgram xa_InvalidText xa_TableError xa_FindError xa_LimitError xa_LastRecord xa_TooManyEdits xa_TooManyRecords xa_NothingToUndo xa_NoPlace xa_MissingColumn xa_InvalidCommand xa_InvalidEdit xa_InvalidValue xa_InvalidRecord xa_InvalidLimit xa_InvalidPlaces xa_InvalidNumber xa_InvalidOrder xa_InvalidColumns xa_InvalidTable xi_InvalidProgram xt_InvalidProgram xn_InvalidProgram xl_InvalidProgram xc_InvalidProgram xk_InvalidProgram x_InvalidProgram xi_InvalidText xt_InvalidText xn_InvalidText xl_InvalidText xc_InvalidText xk_InvalidText x_InvalidText xe_InvalidProgram_InvalidProgram xe_InvalidText_InvalidProgram xe_InvalidProgram_TableError xe_InvalidText_TableError xe_InvalidProgram_FindError xe_InvalidText_FindError xe_InvalidProgram_LimitError xe_InvalidText_LimitError kx_InvalidProgram kx_InvalidText kt_ArithmeticError kt_LookupError kt_ValueError kt_LimitError kt_FindError kt_TableError kt_LastRecord kt_TooManyEdits kt_TooManyRecords kt_NothingToUndo kt_NoPlace kt_MissingColumn kt_InvalidCommand kt_InvalidEdit kt_InvalidValue kt_InvalidRecord kt_InvalidLimit kt_InvalidText kt_InvalidPlaces kt_InvalidNumber kt_InvalidProgram kt_InvalidOrder kt_InvalidColumns kt_InvalidTable rfl)
end DL
end L2
open PySem PySem.W PyProof.Rows
set_option maxHeartbeats 0 in
theorem PySem.Challenge.cw_sortcuts_k20_texts_refused_holds : PySem.Challenge.rw_sortcuts_k20_texts_refused.Holds := by
  w_on; o_law; k_head; (case hw => w_witness2)
  k_fill
  refine L2.DL.walk_g (l := PySem.Challenge.rw_sortcuts_k20_texts_refused) (n := 63) (k := 23) (x := "_law_script") (m := L2.DL.m_law) rfl (by decide) rfl ⟨rfl, by decide, by decide⟩ (fun w h Y => PySem.W.kIn_of Y) ?F (fun ns _ => L2.DL.law_spec ns)
  case F =>
    intro w mg fa h Y KX G hmg
    refine' L2.DL.all_mk KX G hmg ?a0 ?l0 ?c0 ?k0 ?a1 ?l1 ?c1 ?k1 ?a2 ?l2 ?c2 ?k2 ?a3 ?l3 ?c3 ?k3 ?a4 ?l4 ?c4 ?k4 ?a5 ?l5 ?c5 ?k5 ?a6 ?l6 ?c6 ?k6 ?a7 ?l7 ?c7 ?k7 ?a8 ?l8 ?c8 ?k8 ?a9 ?l9 ?c9 ?k9 ?a10 ?l10 ?c10 ?k10 ?a11 ?l11 ?c11 ?k11 ?a12 ?l12 ?c12 ?k12 ?a13 ?l13 ?c13 ?k13 ?a14 ?l14 ?c14 ?k14 ?a15 ?l15 ?c15 ?k15 ?a16 ?l16 ?c16 ?k16 ?a17 ?l17 ?c17 ?k17 ?a18 ?l18 ?c18 ?k18 ?a19 ?l19 ?c19 ?k19 ?a20 ?l20 ?c20 ?k20 ?a21 ?l21 ?c21 ?k21 ?a22 ?l22 ?c22 ?k22 ?a23 ?l23 ?c23 ?k23 ?a24 ?l24 ?c24 ?k24 ?a25 ?l25 ?c25 ?k25 ?a26 ?l26 ?c26 ?k26 ?a27 ?l27 ?c27 ?k27 ?a28 ?l28 ?c28 ?k28 ?a29 ?l29 ?c29 ?k29 ?a30 ?l30 ?c30 ?k30 ?a31 ?l31 ?c31 ?k31 ?n_ArithmeticError ?n_LookupError ?n_ValueError ?n_abs ?n_all ?n_bool ?n_divmod ?n_enumerate ?n_int ?n_isinstance ?n_len ?n_max ?n_min ?n_range ?n_repr ?n_str ?n_sum ?n_tuple ?tdg ?c_MOST_KEYS ?c_LEAST_SIZE ?c_MOST_SIZE ?c_MOST_TIMES ?c_CUTS ?c_DIRECTIONS ?c_BARE_WORDS ?c_MOST_NESTED ?c_MOST_COMMANDS ?xa_InvalidProgram ?xa_InvalidText ?xa_TableError ?xa_FindError ?xa_LimitError ?xa_LastRecord ?xa_TooManyEdits ?xa_TooManyRecords ?xa_NothingToUndo ?xa_NoPlace ?xa_MissingColumn ?xa_InvalidCommand ?xa_InvalidEdit ?xa_InvalidValue ?xa_InvalidRecord ?xa_InvalidLimit ?xa_InvalidPlaces ?xa_InvalidNumber ?xa_InvalidOrder ?xa_InvalidColumns ?xa_InvalidTable ?xi_InvalidProgram ?xt_InvalidProgram ?xn_InvalidProgram ?xl_InvalidProgram ?xc_InvalidProgram ?xk_InvalidProgram ?x_InvalidProgram ?xi_InvalidText ?xt_InvalidText ?xn_InvalidText ?xl_InvalidText ?xc_InvalidText ?xk_InvalidText ?x_InvalidText ?xe_InvalidProgram_InvalidProgram ?xe_InvalidText_InvalidProgram ?xe_InvalidProgram_TableError ?xe_InvalidText_TableError ?xe_InvalidProgram_FindError ?xe_InvalidText_FindError ?xe_InvalidProgram_LimitError ?xe_InvalidText_LimitError ?kx_InvalidProgram ?kx_InvalidText ?kt_ArithmeticError ?kt_LookupError ?kt_ValueError ?kt_LimitError ?kt_FindError ?kt_TableError ?kt_LastRecord ?kt_TooManyEdits ?kt_TooManyRecords ?kt_NothingToUndo ?kt_NoPlace ?kt_MissingColumn ?kt_InvalidCommand ?kt_InvalidEdit ?kt_InvalidValue ?kt_InvalidRecord ?kt_InvalidLimit ?kt_InvalidText ?kt_InvalidPlaces ?kt_InvalidNumber ?kt_InvalidProgram ?kt_InvalidOrder ?kt_InvalidColumns ?kt_InvalidTable
    (case a0 => k_is)
    (case l0 => k_is)
    (case c0 => k_is)
    (case k0 => k_is)
    (case a1 => k_is)
    (case l1 => k_is)
    (case c1 => k_is)
    (case k1 => k_is)
    (case a2 => k_is)
    (case l2 => k_is)
    (case c2 => k_is)
    (case k2 => k_is)
    (case a3 => k_is)
    (case l3 => k_is)
    (case c3 => k_is)
    (case k3 => k_is)
    (case a4 => k_is)
    (case l4 => k_is)
    (case c4 => k_is)
    (case k4 => k_is)
    (case a5 => k_is)
    (case l5 => k_is)
    (case c5 => k_is)
    (case k5 => k_is)
    (case a6 => k_is)
    (case l6 => k_is)
    (case c6 => k_is)
    (case k6 => k_is)
    (case a7 => k_is)
    (case l7 => k_is)
    (case c7 => k_is)
    (case k7 => k_is)
    (case a8 => k_is)
    (case l8 => k_is)
    (case c8 => k_is)
    (case k8 => k_is)
    (case a9 => k_is)
    (case l9 => k_is)
    (case c9 => k_is)
    (case k9 => k_is)
    (case a10 => k_is)
    (case l10 => k_is)
    (case c10 => k_is)
    (case k10 => k_is)
    (case a11 => k_is)
    (case l11 => k_is)
    (case c11 => k_is)
    (case k11 => k_is)
    (case a12 => k_is)
    (case l12 => k_is)
    (case c12 => k_is)
    (case k12 => k_is)
    (case a13 => k_is)
    (case l13 => k_is)
    (case c13 => k_is)
    (case k13 => k_is)
    (case a14 => k_is)
    (case l14 => k_is)
    (case c14 => k_is)
    (case k14 => k_is)
    (case a15 => k_is)
    (case l15 => k_is)
    (case c15 => k_is)
    (case k15 => k_is)
    (case a16 => k_is)
    (case l16 => k_is)
    (case c16 => k_is)
    (case k16 => k_is)
    (case a17 => k_is)
    (case l17 => k_is)
    (case c17 => k_is)
    (case k17 => k_is)
    (case a18 => k_is)
    (case l18 => k_is)
    (case c18 => k_is)
    (case k18 => k_is)
    (case a19 => k_is)
    (case l19 => k_is)
    (case c19 => k_is)
    (case k19 => k_is)
    (case a20 => k_is)
    (case l20 => k_is)
    (case c20 => k_is)
    (case k20 => k_is)
    (case a21 => k_is)
    (case l21 => k_is)
    (case c21 => k_is)
    (case k21 => k_is)
    (case a22 => k_is)
    (case l22 => k_is)
    (case c22 => k_is)
    (case k22 => k_is)
    (case a23 => k_is)
    (case l23 => k_is)
    (case c23 => k_is)
    (case k23 => k_is)
    (case a24 => k_is)
    (case l24 => k_is)
    (case c24 => k_is)
    (case k24 => k_is)
    (case a25 => k_is)
    (case l25 => k_is)
    (case c25 => k_is)
    (case k25 => k_is)
    (case a26 => k_is)
    (case l26 => k_is)
    (case c26 => k_is)
    (case k26 => k_is)
    (case a27 => k_is)
    (case l27 => k_is)
    (case c27 => k_is)
    (case k27 => k_is)
    (case a28 => k_is)
    (case l28 => k_is)
    (case c28 => k_is)
    (case k28 => k_is)
    (case a29 => k_is)
    (case l29 => k_is)
    (case c29 => k_is)
    (case k29 => k_is)
    (case a30 => k_is)
    (case l30 => k_is)
    (case c30 => k_is)
    (case k30 => k_is)
    (case a31 => k_is)
    (case l31 => k_is)
    (case c31 => k_is)
    (case k31 => k_is)
    (case n_ArithmeticError => k_is)
    (case n_LookupError => k_is)
    (case n_ValueError => k_is)
    (case n_abs => k_is)
    (case n_all => k_is)
    (case n_bool => k_is)
    (case n_divmod => k_is)
    (case n_enumerate => k_is)
    (case n_int => k_is)
    (case n_isinstance => k_is)
    (case n_len => k_is)
    (case n_max => k_is)
    (case n_min => k_is)
    (case n_range => k_is)
    (case n_repr => k_is)
    (case n_str => k_is)
    (case n_sum => k_is)
    (case n_tuple => k_is)
    (case tdg => k_is)
    (case xa_InvalidProgram => k_is)
    (case xa_InvalidText => k_is)
    (case xa_TableError => k_is)
    (case xa_FindError => k_is)
    (case xa_LimitError => k_is)
    (case xa_LastRecord => k_is)
    (case xa_TooManyEdits => k_is)
    (case xa_TooManyRecords => k_is)
    (case xa_NothingToUndo => k_is)
    (case xa_NoPlace => k_is)
    (case xa_MissingColumn => k_is)
    (case xa_InvalidCommand => k_is)
    (case xa_InvalidEdit => k_is)
    (case xa_InvalidValue => k_is)
    (case xa_InvalidRecord => k_is)
    (case xa_InvalidLimit => k_is)
    (case xa_InvalidPlaces => k_is)
    (case xa_InvalidNumber => k_is)
    (case xa_InvalidOrder => k_is)
    (case xa_InvalidColumns => k_is)
    (case xa_InvalidTable => k_is)
    (case xi_InvalidProgram => k_is)
    (case xt_InvalidProgram => k_is)
    (case xn_InvalidProgram => k_is)
    (case xl_InvalidProgram => k_is)
    (case xc_InvalidProgram => k_is)
    (case xk_InvalidProgram => k_is)
    (case xi_InvalidText => k_is)
    (case xt_InvalidText => k_is)
    (case xn_InvalidText => k_is)
    (case xl_InvalidText => k_is)
    (case xc_InvalidText => k_is)
    (case xk_InvalidText => k_is)
    (case c_MOST_KEYS => (intro _; refine' L2.DL.cInt KX G ?q1; (case q1 => k_is)))
    (case c_LEAST_SIZE => (intro _; refine' L2.DL.cInt KX G ?q1; (case q1 => k_is)))
    (case c_MOST_SIZE => (intro _; refine' L2.DL.cInt KX G ?q1; (case q1 => k_is)))
    (case c_MOST_TIMES => (intro _; refine' L2.DL.cInt KX G ?q1; (case q1 => k_is)))
    (case c_CUTS => (intro _; refine' L2.DL.cStrs (ss := ["first", "last"]) KX G ?s1 ?s2 ?s3 ?s4 ?s5; (case s1 => k_is); (case s2 => k_is); (case s3 => rfl); (case s4 => decide); (case s5 => exact .cons ⟨_, rfl⟩ (.cons ⟨_, rfl⟩ .nil))))
    (case c_DIRECTIONS => (intro _; refine' L2.DL.cStrs (ss := ["down", "up"]) KX G ?s1 ?s2 ?s3 ?s4 ?s5; (case s1 => k_is); (case s2 => k_is); (case s3 => rfl); (case s4 => decide); (case s5 => exact .cons ⟨_, rfl⟩ (.cons ⟨_, rfl⟩ .nil))))
    (case c_BARE_WORDS => (intro _; refine' L2.DL.cStrs (ss := ["reverse", "restore"]) KX G ?s1 ?s2 ?s3 ?s4 ?s5; (case s1 => k_is); (case s2 => k_is); (case s3 => rfl); (case s4 => decide); (case s5 => exact .cons ⟨_, rfl⟩ (.cons ⟨_, rfl⟩ .nil))))
    (case c_MOST_NESTED => (intro _; refine' L2.DL.cInt KX G ?q1; (case q1 => k_is)))
    (case c_MOST_COMMANDS => (intro _; refine' L2.DL.cInt KX G ?q1; (case q1 => k_is)))
    (case kx_InvalidProgram => kernel_rfl)
    (case kx_InvalidText => kernel_rfl)
    (case kt_ArithmeticError => kernel_rfl)
    (case kt_LookupError => kernel_rfl)
    (case kt_ValueError => kernel_rfl)
    (case kt_LimitError => kernel_rfl)
    (case kt_FindError => kernel_rfl)
    (case kt_TableError => kernel_rfl)
    (case kt_LastRecord => kernel_rfl)
    (case kt_TooManyEdits => kernel_rfl)
    (case kt_TooManyRecords => kernel_rfl)
    (case kt_NothingToUndo => kernel_rfl)
    (case kt_NoPlace => kernel_rfl)
    (case kt_MissingColumn => kernel_rfl)
    (case kt_InvalidCommand => kernel_rfl)
    (case kt_InvalidEdit => kernel_rfl)
    (case kt_InvalidValue => kernel_rfl)
    (case kt_InvalidRecord => kernel_rfl)
    (case kt_InvalidLimit => kernel_rfl)
    (case kt_InvalidText => kernel_rfl)
    (case kt_InvalidPlaces => kernel_rfl)
    (case kt_InvalidNumber => kernel_rfl)
    (case kt_InvalidProgram => kernel_rfl)
    (case kt_InvalidOrder => kernel_rfl)
    (case kt_InvalidColumns => kernel_rfl)
    (case kt_InvalidTable => kernel_rfl)
    (case x_InvalidProgram => (refine' L2.DL.oex_mk ?l1 ?r1 ?s1 ?e1 ?t1 ?k1; (case l1 => k_is); (case r1 => rfl); (case s1 => k_is); (case e1 => k_is); (case t1 => k_is); (case k1 => k_is)))
    (case x_InvalidText => (refine' L2.DL.oex_mk ?l1 ?r1 ?s1 ?e1 ?t1 ?k1; (case l1 => k_is); (case r1 => rfl); (case s1 => k_is); (case e1 => k_is); (case t1 => k_is); (case k1 => k_is)))
    (case xe_InvalidProgram_InvalidProgram => kts_exm)
    (case xe_InvalidText_InvalidProgram => kts_exm)
    (case xe_InvalidProgram_TableError => kts_exm)
    (case xe_InvalidText_TableError => kts_exm)
    (case xe_InvalidProgram_FindError => kts_exm)
    (case xe_InvalidText_FindError => kts_exm)
    (case xe_InvalidProgram_LimitError => kts_exm)
    (case xe_InvalidText_LimitError => kts_exm)

