import PyProof.Rows.All
import Wide.All
import OpenK.AllK
import Wide.FinOn
import HandS.ForMost
import HandS.Walk
import HandS.IsInst
import HandS.TupAny
import HandS.Deep
import HandS.Lambda
import KE.KExcIs
import HandS.EndTab
import KE.KDictKeyed
import KE.KDictDisplayH
import HandS.Conv
import KE.GoesEnum
import HandS.RevRange
import HandS.Style
import HandS.TupMul
import HandS.Exc
import HandS.ExcOwn
import HandS.WordsExc
import HandS.TryOnly
import HandS.ExcInit
import KE.RegKTryMore
import HandS.SortKw
import KE.SortKeyHeap
import KE.KNestM
import HandS.SortInts
import HandS.TupSets
import KE.DataCmp
import HandS.SetFor
import HandS.Strs
import HandS.WideBits
import HandS.NoneIn
import HandS.SortRule
import HandS.Flt
import HandS.GenList
import HandS.GenYield
import HandS.Zip
import KE.GoesMore
import HandS.Rev
import HandS.More
import HandS.Iter
import KE.KMinBuiltin
import HandS.TupLen
import KE.KDictCopyH
import KE.KRevSl
import PyProof.AutoSeq1
import PyProof.ReprRoads
import KE.KTryMore
import HandS.Text
import HandS.ExcField
import HandS.ExcValue
import HandS.Small
import PySem.Challenge.RW_sortcuts_k05_tables_and_orders_refused
set_option linter.all false
set_option Elab.async false
set_option maxRecDepth 100000
set_option maxHeartbeats 4000000
set_option autoImplicit false
namespace L2
namespace DL
open PySem PySem.Spec PyProof.Rows

/-! ### data and heaps -/
/-- the tables of code objects, with the names of what they hold -/
class LabW where
  w : Option World
  /-- the classes of exceptions, by their names -/
  C : Str → Addr := fun _ => 0
class Lab extends LabW where
  T : List (Addr × Str)
  gd : Prop
/-- where a repr may be written, none is under way -/
abbrev GdOk [Lab] (A : Around) : Prop := Lab.gd → A.guards = some []
def TB [Lab] (H : Hp) : Prop := LamX.Tabs Lab.T H
abbrev NT (o : HO) : Prop := ∀ ps, o ≠ .tbl ps
/-- all but the tables stay -/
structure Same (H H' : Hp) : Prop where
  h : ∀ b o, H b = some o → NT o → H' b = some o
  k : ∀ b, H b ≠ none → H' b ≠ none
theorem Same.refl (H : Hp) : Same H H := ⟨fun _ _ e _ => e, fun _ h => h⟩
theorem Same.trans {H H1 H2 : Hp} (a : Same H H1) (b : Same H1 H2) : Same H H2 := ⟨fun q o e n => b.h q o (a.h q o e n) n, fun q h => b.k q (a.k q h)⟩
theorem Same.free {H H' : Hp} {q : Addr} (s : Same H H') (h : H' q = none) : H q = none := Classical.byContradiction fun z => s.k q z h
theorem Same.of {H H' : Hp} (s : L2.Same H H') : Same H H' := ⟨fun b o e _ => s b o e, fun b h z => h (s.free z)⟩
theorem nt_lst {xs : List V} : NT (.lst xs) := fun _ h => nomatch h
theorem nt_tup {xs : List V} : NT (.tup xs) := fun _ h => nomatch h
theorem nt_frz {o : Obj} {u : HO} : NT (.frz o u) := fun _ h => nomatch h
theorem nt_dK {x} : NT (.dK x) := fun _ h => nomatch h
theorem nt_xd {x} : NT (.xd x) := fun _ h => nomatch h
theorem same_new {H : Hp} {p : Addr} (h : H p = none) (o : HO) : L2.Same H (upd H p o) := fun b x e => by rw [upd_ne (ne_of_none e h)]; exact e
theorem TB.ext [Lab] {H H' : Hp} (t : TB H) (s : L2.Same H H') : TB H' := LamX.Tabs.ext t s
theorem TB.ne [Lab] {H : Hp} (t : TB H) {p : Addr} {xs : List V} (h : H p = some (.lst xs)) (o : HO) : TB (upd H p o) := fun q hq => by
  obtain ⟨ps, a, b, c⟩ := t q hq
  refine ⟨ps, ?_, b, fun pos cv e => ?_⟩
  · rw [upd_ne (fun z => by rw [z, h] at a; cases a)]; exact a
  · obtain ⟨c0, e1, e2⟩ := c pos cv e
    exact ⟨c0, e1, by rw [upd_ne (fun z => by rw [z, h] at e2; unfold LamX.CodeO at e2; cases e2)]; exact e2⟩
theorem same_sqT {K : PySem.W.Frag} {H H' : Hp} {a : Addr} {xs : List V} (e : Same H H') (h : SqT K H a xs) : SqT K H' a xs := by
  rcases h with (h | ⟨o, h⟩) | h
  · exact .inl (.inl (e.h _ _ h nt_tup))
  · exact .inl (.inr ⟨o, e.h _ _ h nt_frz⟩)
  · exact .inr h
/-- a list that is read: tracked, frozen, or a plain one of the module's -/
def LsR (K : PySem.W.Frag) (H : Hp) (a : Addr) (xs : List V) : Prop := Rd H a (.lst xs) ∨ ∃ (its : List Value) (n : Nat), K.lookup a = some { cls := .type "list", data := .seq its.toArray n } ∧ xs.length ≤ sizeLine ∧ Vals xs its
theorem LsR.sq {K : PySem.W.Frag} {H : Hp} {a : Addr} {xs : List V} (h : LsR K H a xs) : SqL K H a xs := by
  rcases h with h | ⟨its, n, h, z, r⟩
  · exact .inl h
  · exact .inr ⟨_, its.toArray, n, h, rfl, rfl, rfl, by rw [List.size_toArray, ← r.length]; exact z, by simpa using r⟩
theorem LsR.isL {X : Cx} {pins : List (Addr × Obj)} {σ : St} {H : Hp} {s : Shared} {a : Addr} {xs : List V} (h : LsR X.K H a xs) (I : Inv X pins σ H s) : xs.length ≤ sizeLine ∧ ∃ (its : List Value) (n : Nat), Vals xs its ∧ s.heap.get? a = some { cls := .type "list", data := .seq its.toArray n } := by
  rcases h with h | ⟨its, n, h, z, r⟩
  · exact h.ok I.hok
  · exact ⟨z, its, n, r, I.kIn a _ h⟩
section
variable [LabW]
/-- the dict at a is this object -/
def DnO (a : Addr) (o : Obj) : HO := .ext fun h => h.get? a = some o
/-- its entries: the keys nested tuples, each by its place -/
structure DnF (w : Option World) (a : Addr) (o : Obj) (xs : List (NestedKey × Addr × V)) : Prop where
  hd : (a == sysModules) = false
  nd : (xs.map (·.1)).Nodup
  ex : o.ExactDict
  es : ∃ (w' : World) (es : Array DictEntry) (ep : Nat), w = some w' ∧ o.data = .dict es ep ∧ Paired (fun (x : NestedKey × Addr × V) (e : DictEntry) => e.hash = x.1.hash w' ∧ e.key = .ref x.2.1 ∧ RelV x.2.2 e.val) xs es.toList
  dp : ∀ x ∈ xs, x.1.depth ≤ 8
/-- an exception's object: its class, its dict -/
def ExO (a : Addr) (cls : Value) (d : Option Addr) : HO := .ext fun h => ∃ (oe : Obj) (vs : Array Value), h.get? a = some oe ∧ oe.cls = cls ∧ oe.dict = d ∧ oe.data = .fields vs
/-- what its class must have, so that it can be looked at -/
structure KEx (K : PySem.W.Frag) (C : Addr) : Prop where
  hcl : (PySem.W.clsIn K C).isSome = true
  hga : PySem.W.findIn K (.ref C) "__getattribute__" = some (some (.builtin "BaseException.__getattribute__"))
  hgt : PySem.W.findIn K (.ref C) "__getattr__" = some none
  hsub : PySem.W.subIn K (.ref C) (.type "BaseException") = some true
  hdct : PySem.W.hasDictIn K C = true
  ha : PySem.W.findIn K (.ref C) "__class__" = some (some (.builtin "object.__class__"))
  hn : PySem.W.specialIn K (.builtin "object.__class__") "__get__" = some (some (.builtin "getset_descriptor.__get__"))
  htk : PySem.W.takesIn K (.builtin "object.__class__") = some true
  hm : PySem.W.mroIn K C (.type "object") = some true
  isT : ∀ T ∈ ["bool", "int", "str", "list", "tuple"], PySem.W.kitOne K (.ref C) (.type T) = some false
/-- an exception as data: its class, its attribute -/
abbrev excD (c an : Str) (d : PyData) : PyData := .dict [(.dict [], .tuple [.str c, .str an, d])]
/-- one without an attribute -/
abbrev exnD (c : Str) : PyData := .dict [(.dict [], .tuple [.str c])]
/-- a key of a dict, as data -/
def kyDt : Key → PyData
  | .inl i => .int i
  | .inr x => .str x
mutual
inductive DD (K : PySem.W.Frag) (H : Hp) : V → PyData → Prop
  | non : DD K H .non .none
  | bl (b : Bool) : DD K H (.bl b) (.bool b)
  | int (i : Int) : DD K H (.int i) (.int i)
  | str (x : Str) : DD K H (.str x) (.str x)
  | lst {a : Addr} {xs : List V} {ds : List PyData} : LsR K H a xs → DDs K H xs ds → DD K H (.ref a) (.list ds)
  | tup {a : Addr} {xs : List V} {ds : List PyData} : SqT K H a xs → DDs K H xs ds → DD K H (.ref a) (.tuple ds)
  | dct {a : Addr} {xs : List (Key × V)} {kvs : List (PyData × PyData)} : H a = some (.dK xs) → DDi K H xs kvs → DD K H (.ref a) (.dict kvs)
  | dcn {a : Addr} {o : Obj} {xs : List (NestedKey × Addr × V)} {kvs : List (PyData × PyData)} : H a = some (DnO a o) → DnF LabW.w a o xs → DDk K H xs kvs → DD K H (.ref a) (.dict kvs)
  | exc {a dx : Addr} {c an : Str} {v : V} {d : PyData} : H a = some (ExO a (.ref (LabW.C c)) (some dx)) → H dx = some (.xd [(an, v)]) → KEx K (LabW.C c) → PySem.W.findIn K (.ref (LabW.C c)) an = some none → DD K H v d → DD K H (.ref a) (.dict [(.dict [], .tuple [.str c, .str an, d])])
  | exn {a : Addr} {c : Str} : H a = some (ExO a (.ref (LabW.C c)) none) → KEx K (LabW.C c) → DD K H (.ref a) (.dict [(.dict [], .tuple [.str c])])
inductive DDs (K : PySem.W.Frag) (H : Hp) : List V → List PyData → Prop
  | nil : DDs K H [] []
  | cons {v : V} {vs : List V} {d : PyData} {ds : List PyData} : DD K H v d → DDs K H vs ds → DDs K H (v :: vs) (d :: ds)
inductive DDk (K : PySem.W.Frag) (H : Hp) : List (NestedKey × Addr × V) → List (PyData × PyData) → Prop
  | nil : DDk K H [] []
  | cons {k : NestedKey} {a : Addr} {v : V} {xs : List (NestedKey × Addr × V)} {kd vd : PyData} {kvs : List (PyData × PyData)} : k.data = kd → DD K H (.ref a) kd → DD K H v vd → DDk K H xs kvs → DDk K H ((k, a, v) :: xs) ((kd, vd) :: kvs)
inductive DDi (K : PySem.W.Frag) (H : Hp) : List (Key × V) → List (PyData × PyData) → Prop
  | nil : DDi K H [] []
  | cons {k : Key} {v : V} {xs : List (Key × V)} {vd : PyData} {kvs : List (PyData × PyData)} : DD K H v vd → DDi K H xs kvs → DDi K H ((k, v) :: xs) ((kyDt k, vd) :: kvs)
end
theorem nt_exo {φ : Heap → Prop} : NT (.ext φ) := fun _ h => nomatch h
theorem same_rd {H H' : Hp} {a : Addr} {u : HO} (e : Same H H') (h : Rd H a u) (n : NT u) : Rd H' a u := by
  rcases h with h | ⟨o, h⟩
  · exact .inl (e.h _ _ h n)
  · exact .inr ⟨o, e.h _ _ h nt_frz⟩
theorem same_ls {K : PySem.W.Frag} {H H' : Hp} {a : Addr} {xs : List V} (e : Same H H') (h : LsR K H a xs) : LsR K H' a xs := h.imp (fun z => same_rd e z nt_lst) id
mutual
theorem DD.dp {K : PySem.W.Frag} {Z : Hp} : ∀ (d : PyData) (v : V), d.hasDict = false → DD K Z v d → Dp K Z v d
  | .none, _, _, h => by cases h; exact .non
  | .bool b, _, _, h => by cases h; exact .bl b
  | .int i, _, _, h => by cases h; exact .int i
  | .str x, _, _, h => by cases h; exact .str x
  | .list ds, _, n, h => by
    cases h with
    | lst hs ha => exact .lst hs.sq (DDs.dp ds _ n ha)
  | .tuple ds, _, n, h => by
    cases h with
    | tup hs ha => exact .tup hs (DDs.dp ds _ n ha)
  | .dict _, _, n, h => by cases n
theorem DDs.dp {K : PySem.W.Frag} {Z : Hp} : ∀ (ds : List PyData) (vs : List V), PyData.hasDictAll ds = false → DDs K Z vs ds → DpAll K Z vs ds
  | [], _, _, h => by cases h; exact .nil
  | d :: ds, _, n, h => by
    rw [PyData.hasDictAll, Bool.or_eq_false_iff] at n
    cases h with
    | cons h1 h2 => exact .cons (DD.dp d _ n.1 h1) (DDs.dp ds _ n.2 h2)
end
mutual
theorem dd_mono {K : PySem.W.Frag} {Z Z' : Hp} (s : Same Z Z') : ∀ (d : PyData) (v : V), DD K Z v d → DD K Z' v d
  | .none, _, h => by cases h; exact .non
  | .bool b, _, h => by cases h; exact .bl b
  | .int i, _, h => by cases h; exact .int i
  | .str x, _, h => by cases h; exact .str x
  | .list ds, _, h => by
    cases h with
    | lst hs ha => exact .lst (same_ls s hs) (dds_mono s ds _ ha)
  | .tuple ds, _, h => by
    cases h with
    | tup hs ha => exact .tup (same_sqT s hs) (dds_mono s ds _ ha)
  | .dict kvs, _, h => by
    cases h with
    | dct e hi => exact .dct (s.h _ _ e nt_dK) (ddi_mono s kvs _ hi)
    | dcn e hf hk => exact .dcn (s.h _ _ e nt_exo) hf (ddk_mono s kvs _ hk)
    | @exc a dx c an v d e1 e2 hk hn hd => exact .exc (s.h _ _ e1 nt_exo) (s.h _ _ e2 nt_xd) hk hn (dd_mono s d v hd)
    | exn e1 hk => exact .exn (s.h _ _ e1 nt_exo) hk
theorem dds_mono {K : PySem.W.Frag} {Z Z' : Hp} (s : Same Z Z') : ∀ (ds : List PyData) (vs : List V), DDs K Z vs ds → DDs K Z' vs ds
  | [], _, h => by cases h; exact .nil
  | d :: ds, _, h => by
    cases h with
    | cons h1 h2 => exact .cons (dd_mono s d _ h1) (dds_mono s ds _ h2)
theorem ddk_mono {K : PySem.W.Frag} {Z Z' : Hp} (s : Same Z Z') : ∀ (kvs : List (PyData × PyData)) (xs : List (NestedKey × Addr × V)), DDk K Z xs kvs → DDk K Z' xs kvs
  | [], _, h => by cases h; exact .nil
  | (kd, vd) :: kvs, _, h => by
    cases h with
    | cons h0 h1 h2 h3 => exact .cons h0 (dd_mono s kd _ h1) (dd_mono s vd _ h2) (ddk_mono s kvs _ h3)
theorem ddi_mono {K : PySem.W.Frag} {Z Z' : Hp} (s : Same Z Z') : ∀ (kvs : List (PyData × PyData)) (xs : List (Key × V)), DDi K Z xs kvs → DDi K Z' xs kvs
  | [], _, h => by cases h; exact .nil
  | (kd, vd) :: kvs, _, h => by
    cases h with
    | cons h1 h2 => exact .cons (dd_mono s vd _ h1) (ddi_mono s kvs _ h2)
end
theorem DDm {K : PySem.W.Frag} {Z Z' : Hp} {v : V} {d : PyData} (h : DD K Z v d) (s : Same Z Z') : DD K Z' v d := dd_mono s d v h
theorem DDsm {K : PySem.W.Frag} {Z Z' : Hp} {vs : List V} {ds : List PyData} (h : DDs K Z vs ds) (s : Same Z Z') : DDs K Z' vs ds := dds_mono s ds vs h
theorem dds_len {K : PySem.W.Frag} {Z : Hp} : ∀ {vs : List V} {ds : List PyData}, DDs K Z vs ds → vs.length = ds.length
  | _, [], h => by cases h; rfl
  | _, d :: ds, h => by
    cases h with
    | cons h1 h2 => rw [List.length_cons, List.length_cons, dds_len h2]
theorem dds_get {K : PySem.W.Frag} {Z : Hp} : ∀ {vs : List V} {ds : List PyData} {i : Nat} {d : PyData}, DDs K Z vs ds → ds[i]? = some d → ∃ v, vs[i]? = some v ∧ DD K Z v d
  | _, [], _, _, h, e => by simp at e
  | _, d :: ds, 0, _, h, e => by
    cases h with
    | cons h1 h2 => simp at e; subst e; exact ⟨_, rfl, h1⟩
  | _, d :: ds, i + 1, _, h, e => by
    cases h with
    | cons h1 h2 =>
      obtain ⟨v, e1, e2⟩ := dds_get (i := i) h2 (by simpa using e)
      exact ⟨v, by simpa using e1, e2⟩
theorem dds_get' {K : PySem.W.Frag} {Z : Hp} {vs : List V} {ds : List PyData} {i : Nat} {v : V} (h : DDs K Z vs ds) (e : vs[i]? = some v) : ∃ d, ds[i]? = some d ∧ DD K Z v d := by
  have hl := dds_len h
  obtain ⟨hi, _⟩ := List.getElem?_eq_some_iff.mp e
  obtain ⟨w, e1, e2⟩ := dds_get h (List.getElem?_eq_getElem (show i < ds.length by omega))
  rw [e] at e1
  cases e1
  exact ⟨_, List.getElem?_eq_getElem (show i < ds.length by omega), e2⟩
theorem dds_app {K : PySem.W.Frag} {Z : Hp} : ∀ {vs : List V} {ds : List PyData} {ws : List V} {es : List PyData}, DDs K Z vs ds → DDs K Z ws es → DDs K Z (vs ++ ws) (ds ++ es)
  | _, [], _, _, h, g => by cases h; exact g
  | _, d :: ds, _, _, h, g => by
    cases h with
    | cons h1 h2 => exact .cons h1 (dds_app h2 g)
theorem dds_take {K : PySem.W.Frag} {Z : Hp} : ∀ (n : Nat) {vs : List V} {ds : List PyData}, DDs K Z vs ds → DDs K Z (vs.take n) (ds.take n)
  | 0, _, _, _ => .nil
  | n + 1, _, [], h => by cases h; exact .nil
  | n + 1, _, d :: ds, h => by
    cases h with
    | cons h1 h2 => exact .cons h1 (dds_take n h2)
theorem dds_drop {K : PySem.W.Frag} {Z : Hp} : ∀ (n : Nat) {vs : List V} {ds : List PyData}, DDs K Z vs ds → DDs K Z (vs.drop n) (ds.drop n)
  | 0, _, _, h => h
  | n + 1, _, [], h => by cases h; exact .nil
  | n + 1, _, d :: ds, h => by
    cases h with
    | cons h1 h2 => exact dds_drop n h2
theorem dds_erase {K : PySem.W.Frag} {Z : Hp} : ∀ (n : Nat) {vs : List V} {ds : List PyData}, DDs K Z vs ds → DDs K Z (vs.eraseIdx n) (ds.eraseIdx n)
  | _, _, [], h => by cases h; exact .nil
  | 0, _, d :: ds, h => by
    cases h with
    | cons h1 h2 => exact h2
  | n + 1, _, d :: ds, h => by
    cases h with
    | cons h1 h2 => exact .cons h1 (dds_erase n h2)
theorem dds_set {K : PySem.W.Frag} {Z : Hp} {v : V} {d : PyData} (hv : DD K Z v d) : ∀ (n : Nat) {vs : List V} {ds : List PyData}, DDs K Z vs ds → DDs K Z (vs.set n v) (ds.set n d)
  | _, _, [], h => by cases h; exact .nil
  | 0, _, _ :: ds, h => by
    cases h with
    | cons h1 h2 => exact .cons hv h2
  | n + 1, _, _ :: ds, h => by
    cases h with
    | cons h1 h2 => exact .cons h1 (dds_set hv n h2)

end
variable [Lab]
/-! ### slots as data -/
inductive DV where
  | fr (d : PyData) | ow (ds : List PyData) | rf (ds : List PyData) | dk (kvs : List (PyData × PyData)) | fn (n : Str)
abbrev DEnv := List (Option DV)
def ownish : DV → Bool
  | .fr _ => false
  | .fn _ => false
  | _ => true
structure Fm where
  Z0 : Hp
  G : Hp
  P : Addr → Prop
  W : Str → Option Addr → St → Hp → Prop
abbrev W0 : Str → Option Addr → St → Hp → Prop := fun _ _ _ _ => False
def SlotOk (K : PySem.W.Frag) (F : Fm) (Z H : Hp) (σ : St) (i : Nat) : DV → Prop
  | .fr d => ∃ v, σ[i]? = some (some v) ∧ DD K Z v d
  | .ow ds => ∃ p xs, σ[i]? = some (some (.ref p)) ∧ ¬ F.P p ∧ F.G p = none ∧ Z p = none ∧ H p = some (.lst xs) ∧ DDs K Z xs ds
  | .rf ds => ∃ p xs, σ[i]? = some (some (.ref p)) ∧ F.P p ∧ H p = some (.lst xs) ∧ DDs K Z xs ds
  | .fn n => σ[i]? = some (some (.ref (LabW.C n)))
  | .dk kvs => ∃ p o xs, σ[i]? = some (some (.ref p)) ∧ ¬ F.P p ∧ F.G p = none ∧ Z p = none ∧ H p = some (DnO p o) ∧ DnF LabW.w p o xs ∧ DDk K Z xs kvs
structure Rel (K : PySem.W.Frag) (F : Fm) (Z H : Hp) (σ : St) (env : DEnv) : Prop where
  z0 : Same F.Z0 Z
  zh : Same Z H
  gh : Same F.G H
  nw : ∀ q, Z q ≠ none → F.Z0 q ≠ none ∨ (F.G q = none ∧ ¬ F.P q)
  pp : ∀ q, F.P q → H q ≠ none ∧ Z q = none ∧ F.G q = none
  len : env.length = σ.length
  sl : ∀ (i : Nat) (dv : DV), env[i]? = some (some dv) → SlotOk K F Z H σ i dv
  inj : ∀ (i j : Nat) (di dj : DV) (p : Addr), env[i]? = some (some di) → env[j]? = some (some dj) → ownish di = true → ownish dj = true → σ[i]? = some (some (.ref p)) → σ[j]? = some (some (.ref p)) → i = j
  tb : TB H
/-- q is no owned slot's list -/
def Fre (σ : St) (env : DEnv) (q : Addr) : Prop := ∀ (i : Nat) (dv : DV), env[i]? = some (some dv) → ownish dv = true → σ[i]? ≠ some (some (V.ref q))
/-- one step of an expression: only owned slots' lists may change -/
structure Stp (σ : St) (env : DEnv) (Z H : Hp) (env' : DEnv) (Z' H' : Hp) : Prop where
  z : Same Z Z'
  h : ∀ q o, H q = some o → NT o → Fre σ env q → H' q = some o
  n : ∀ q, Z' q ≠ none → Z q = none → H q ≠ none → ¬ Fre σ env q
  o : ∀ (i : Nat) (dv : DV), env'[i]? = some (some dv) → ownish dv = true → ∃ dv0, env[i]? = some (some dv0) ∧ ownish dv0 = true
  k : ∀ q, H q ≠ none → H' q ≠ none
theorem Stp.new {σ : St} {env env' : DEnv} {Z H Z' H' : Hp} (s : Stp σ env Z H env' Z' H') {q : Addr} (h : H' q = none) : H q = none :=
  Classical.byContradiction fun z => s.k q z h
theorem Stp.refl {σ : St} {env : DEnv} {Z H : Hp} : Stp σ env Z H env Z H :=
  ⟨Same.refl Z, fun _ _ e _ _ => e, fun _ a b => absurd b a, fun _ dv e o => ⟨dv, e, o⟩, fun _ h => h⟩
theorem Stp.fre {σ : St} {env env' : DEnv} {Z H Z' H' : Hp} (s : Stp σ env Z H env' Z' H') {q : Addr} (f : Fre σ env q) : Fre σ env' q := fun i dv e o => by
  obtain ⟨dv0, e0, o0⟩ := s.o i dv e o
  exact f i dv0 e0 o0
theorem Stp.trans {σ : St} {e0 e1 e2 : DEnv} {Z0 H0 Z1 H1 Z2 H2 : Hp} (a : Stp σ e0 Z0 H0 e1 Z1 H1) (b : Stp σ e1 Z1 H1 e2 Z2 H2) : Stp σ e0 Z0 H0 e2 Z2 H2 := by
  refine ⟨a.z.trans b.z, fun q o e n f => b.h q o (a.h q o e n f) n (a.fre f), fun q h2 h0 hh f => ?_, fun i dv e o => ?_, fun q h => b.k q (a.k q h)⟩
  · by_cases hz : Z1 q = none
    · have h1 : H1 q ≠ none := a.k q hh
      exact b.n q h2 hz h1 (a.fre f)
    · exact a.n q hz h0 hh f
  · obtain ⟨d1, x, y⟩ := b.o i dv e o
    exact a.o i d1 x y
/-- what only lays new things -/
structure Grow (Z H Z' H' : Hp) : Prop where
  z : Same Z Z'
  zh : Same Z' H'
  h : Same H H'
  t : TB H → TB H'
  n : ∀ q, Z' q ≠ none → Z q ≠ none ∨ H q = none
theorem Grow.refl {Z H : Hp} (s : Same Z H) : Grow Z H Z H := ⟨Same.refl Z, s, Same.refl H, id, fun _ h => .inl h⟩
theorem Grow.trans {Z H Z1 H1 Z2 H2 : Hp} (a : Grow Z H Z1 H1) (b : Grow Z1 H1 Z2 H2) : Grow Z H Z2 H2 := by
  refine ⟨a.z.trans b.z, b.zh, a.h.trans b.h, fun t => b.t (a.t t), fun q h => ?_⟩
  rcases b.n q h with h | h
  · exact a.n q h
  · exact .inr (a.h.free h)
theorem Grow.stp {σ : St} {env : DEnv} {Z H Z' H' : Hp} (g : Grow Z H Z' H') : Stp σ env Z H env Z' H' := by
  refine ⟨g.z, fun q o e n _ => g.h.h q o e n, fun q h1 h2 h3 _ => ?_, fun _ dv e o => ⟨dv, e, o⟩, fun q hq hz => hq (g.h.free hz)⟩
  rcases g.n q h1 with h | h
  · exact h h2
  · exact h3 h
theorem Rel.grow {K : PySem.W.Frag} {F : Fm} {Z H Z' H' : Hp} {σ : St} {env : DEnv} (r : Rel K F Z H σ env) (g : Grow Z H Z' H') : Rel K F Z' H' σ env := by
  have keepn : ∀ p, Z p = none → H p ≠ none → Z' p = none := fun p hz hp => by
    cases hq : Z' p with
    | none => rfl
    | some o =>
      rcases g.n p (by rw [hq]; simp) with h | h
      · exact absurd hz h
      · exact absurd h hp
  refine ⟨r.z0.trans g.z, g.zh, r.gh.trans g.h, fun q h => ?_, fun q hq => ?_, r.len, fun i dv e => ?_, r.inj, g.t r.tb⟩
  · rcases g.n q h with h | h
    · exact r.nw q h
    · refine .inr ⟨r.gh.free h, fun hp => (r.pp q hp).1 h⟩
  · obtain ⟨a, b, c⟩ := r.pp q hq
    exact ⟨g.h.k q a, keepn q b a, c⟩
  · have s := r.sl i dv e
    cases dv with
    | fr d =>
      obtain ⟨v, e1, e2⟩ := s
      exact ⟨v, e1, DDm e2 g.z⟩
    | ow ds =>
      obtain ⟨p, xs, e1, e2, e3, e4, e5, e6⟩ := s
      exact ⟨p, xs, e1, e2, e3, keepn p e4 (by rw [e5]; simp), g.h.h _ _ e5 nt_lst, DDsm e6 g.z⟩
    | rf ds =>
      obtain ⟨p, xs, e1, e2, e5, e6⟩ := s
      exact ⟨p, xs, e1, e2, g.h.h _ _ e5 nt_lst, DDsm e6 g.z⟩
    | fn n => exact s
    | dk kvs =>
      obtain ⟨p, o, xs, e1, e2, e3, e4, e5, e6, e7⟩ := s
      exact ⟨p, o, xs, e1, e2, e3, keepn p e4 (by rw [e5]; simp), g.h.h _ _ e5 nt_exo, e6, ddk_mono g.z _ _ e7⟩
theorem same_upd2 {Z H : Hp} (s : Same Z H) (p : Addr) (o : HO) : Same (upd Z p o) (upd H p o) := by
  refine ⟨fun b x e n => ?_, fun b e => ?_⟩
  · by_cases hb : b = p
    · subst hb; rw [upd_same] at e ⊢; exact e
    · rw [upd_ne hb] at e ⊢; exact s.h b x e n
  · by_cases hb : b = p
    · subst hb; rw [upd_same]; simp
    · rw [upd_ne hb] at e ⊢; exact s.k b e
/-- a new frozen object -/
theorem grow_new {Z H : Hp} (s : Same Z H) {p : Addr} (h : H p = none) (o : HO) : Grow Z H (upd Z p o) (upd H p o) := by
  have hz : Z p = none := s.free h
  refine ⟨.of (same_new hz o), same_upd2 s p o, .of (same_new h o), fun t => t.ext (same_new h o), fun q hq => ?_⟩
  by_cases hb : q = p
  · subst hb; exact .inr h
  · rw [upd_ne hb] at hq; exact .inl hq
/-- what a callee may do to the list at p -/
structure Pok (Z H : Hp) (p : Addr) (Z' H' : Hp) : Prop where
  z : Same Z Z'
  zh : Same Z' H'
  h : ∀ q o, q ≠ p → H q = some o → NT o → H' q = some o
  k : ∀ q, q ≠ p → H q ≠ none → H' q ≠ none
  t : TB H → TB H'
  n : ∀ q, Z' q ≠ none → Z q ≠ none ∨ H q = none
theorem new_tup {K : PySem.W.Frag} {Z H : Hp} (s : Same Z H) {p : Addr} (h : H p = none) {xs : List V} {ds : List PyData} (a : DDs K Z xs ds) : DD K (upd Z p (.tup xs)) (.ref p) (.tuple ds) :=
  .tup (SqT.of upd_same) (DDsm a (grow_new s h (.tup xs)).z)
theorem new_lst {K : PySem.W.Frag} {Z H : Hp} (s : Same Z H) {p : Addr} (h : H p = none) {xs : List V} {ds : List PyData} (a : DDs K Z xs ds) : DD K (upd Z p (.lst xs)) (.ref p) (.list ds) :=
  .lst (.inl (Rd.of upd_same)) (DDsm a (grow_new s h (.lst xs)).z)

/-! ### reading a slot -/
def rdF (i : Nat) (env : DEnv) : Option (PyData × DEnv) := match env[i]? with
  | some (some (.fr d)) => some (d, env)
  | some (some (.ow ds)) => some (.list ds, env.set i (some (.fr (.list ds))))
  | some (some (.dk kvs)) => some (.dict kvs, env.set i (some (.fr (.dict kvs))))
  | _ => none
/-- the data that stands in a slot, whatever its kind -/
def rdB (i : Nat) (env : DEnv) : Option PyData := match env[i]? with
  | some (some (.fr d)) => some d
  | some (some (.ow ds)) => some (.list ds)
  | some (some (.rf ds)) => some (.list ds)
  | some (some (.dk kvs)) => some (.dict kvs)
  | _ => none
theorem get_set_some {env : DEnv} {i j : Nat} {x : Option DV} {dv : DV} (h : (env.set i x)[j]? = some (some dv)) : (j = i ∧ x = some dv) ∨ (j ≠ i ∧ env[j]? = some (some dv)) := by
  by_cases e : i = j
  · subst e
    by_cases hl : i < env.length
    · rw [List.getElem?_set_self hl] at h
      exact .inl ⟨rfl, Option.some.inj h⟩
    · rw [List.getElem?_eq_none (by rw [List.length_set]; omega)] at h
      cases h
  · rw [List.getElem?_set_ne e] at h
    exact .inr ⟨fun z => e z.symm, h⟩
theorem Rel.freezeG {K : PySem.W.Frag} {F : Fm} {Z H : Hp} {σ : St} {env : DEnv} {i : Nat} {dv0 : DV} {p : Addr} {u : HO} {d : PyData} (r : Rel K F Z H σ env) (e : env[i]? = some (some dv0)) (hown : ownish dv0 = true) (e1 : σ[i]? = some (some (.ref p))) (e2 : ¬ F.P p) (e3 : F.G p = none) (e4 : Z p = none) (e5 : H p = some u) (hd : DD K (upd Z p u) (.ref p) d) :
    ∃ Z' v, Rel K F Z' H σ (env.set i (some (.fr d))) ∧ Stp σ env Z H (env.set i (some (.fr d))) Z' H ∧ σ[i]? = some (some v) ∧ DD K Z' v d := by
  have hZ : Same Z (upd Z p u) := .of (same_new e4 _)
  refine ⟨upd Z p u, .ref p, ⟨r.z0.trans hZ, ⟨fun b x q n => ?_, fun b q => ?_⟩, r.gh, fun q hq => ?_, fun q hq => ?_, by rw [List.length_set]; exact r.len, fun j dv ej => ?_, fun j k dj dk q ej ek oj ok sj sk => ?_, r.tb⟩, ⟨hZ, fun _ _ q _ _ => q, fun q h1 h2 _ f => ?_, fun j dv ej oj => ?_, fun _ h => h⟩, e1, hd⟩
  · by_cases hb : b = p
    · subst hb; rw [upd_same] at q; cases q; exact e5
    · rw [upd_ne hb] at q; exact r.zh.h b x q n
  · by_cases hb : b = p
    · subst hb; rw [e5]; simp
    · rw [upd_ne hb] at q; exact r.zh.k b q
  · by_cases hb : q = p
    · subst hb; exact .inr ⟨e3, e2⟩
    · rw [upd_ne hb] at hq; exact r.nw q hq
  · obtain ⟨a, b, c⟩ := r.pp q hq
    refine ⟨a, ?_, c⟩
    rw [upd_ne (show q ≠ p from fun z => e2 (by rw [← z]; exact hq))]; exact b
  · rcases get_set_some ej with ⟨rfl, ex⟩ | ⟨hne, ex⟩
    · cases ex
      exact ⟨.ref p, e1, hd⟩
    · have s := r.sl j dv ex
      cases dv with
      | fr d => obtain ⟨v, a, b⟩ := s; exact ⟨v, a, DDm b hZ⟩
      | ow es =>
        obtain ⟨p', xs', a1, a2, a3, a4, a5, a6⟩ := s
        have hp : p' ≠ p := fun z => hne (r.inj j i _ _ p ex e rfl hown (z ▸ a1) e1)
        exact ⟨p', xs', a1, a2, a3, by rw [upd_ne hp]; exact a4, a5, DDsm a6 hZ⟩
      | rf es =>
        obtain ⟨p', xs', a1, a2, a5, a6⟩ := s
        exact ⟨p', xs', a1, a2, a5, DDsm a6 hZ⟩
      | fn n => exact s
      | dk es =>
        obtain ⟨p', o', xs', a1, a2, a3, a4, a5, a6, a7⟩ := s
        have hp : p' ≠ p := fun z => hne (r.inj j i _ _ p ex e rfl hown (z ▸ a1) e1)
        exact ⟨p', o', xs', a1, a2, a3, by rw [upd_ne hp]; exact a4, a5, a6, ddk_mono hZ _ _ a7⟩
  · rcases get_set_some ej with ⟨rfl, ex⟩ | ⟨_, ex⟩
    · cases ex; cases oj
    · rcases get_set_some ek with ⟨rfl, ey⟩ | ⟨_, ey⟩
      · cases ey; cases ok
      · exact r.inj j k dj dk q ex ey oj ok sj sk
  · by_cases hb : q = p
    · subst hb; exact f i _ e hown e1
    · rw [upd_ne hb] at h1; exact h1 h2
  · rcases get_set_some ej with ⟨rfl, ex⟩ | ⟨_, ex⟩
    · cases ex; cases oj
    · exact ⟨dv, ex, oj⟩
theorem Rel.freeze {K : PySem.W.Frag} {F : Fm} {Z H : Hp} {σ : St} {env : DEnv} {i : Nat} {ds : List PyData} (r : Rel K F Z H σ env) (e : env[i]? = some (some (.ow ds))) :
    ∃ Z' v, Rel K F Z' H σ (env.set i (some (.fr (.list ds)))) ∧ Stp σ env Z H (env.set i (some (.fr (.list ds)))) Z' H ∧ σ[i]? = some (some v) ∧ DD K Z' v (.list ds) := by
  obtain ⟨p, xs, e1, e2, e3, e4, e5, e6⟩ := r.sl i _ e
  exact r.freezeG e rfl e1 e2 e3 e4 e5 (.lst (.inl (Rd.of upd_same)) (DDsm e6 (.of (same_new e4 _))))
theorem Rel.freezeK {K : PySem.W.Frag} {F : Fm} {Z H : Hp} {σ : St} {env : DEnv} {i : Nat} {kvs : List (PyData × PyData)} (r : Rel K F Z H σ env) (e : env[i]? = some (some (.dk kvs))) :
    ∃ Z' v, Rel K F Z' H σ (env.set i (some (.fr (.dict kvs)))) ∧ Stp σ env Z H (env.set i (some (.fr (.dict kvs)))) Z' H ∧ σ[i]? = some (some v) ∧ DD K Z' v (.dict kvs) := by
  obtain ⟨p, o, xs, e1, e2, e3, e4, e5, e6, e7⟩ := r.sl i _ e
  exact r.freezeG e rfl e1 e2 e3 e4 e5 (.dcn upd_same e6 (ddk_mono (.of (same_new e4 _)) _ _ e7))
theorem Rel.rdF {K : PySem.W.Frag} {F : Fm} {Z H : Hp} {σ : St} {env env' : DEnv} {i : Nat} {d : PyData} (r : Rel K F Z H σ env) (h : DL.rdF i env = some (d, env')) :
    ∃ Z' v, Rel K F Z' H σ env' ∧ Stp σ env Z H env' Z' H ∧ σ[i]? = some (some v) ∧ DD K Z' v d := by
  unfold DL.rdF at h
  split at h
  · rename_i d' e
    cases h
    obtain ⟨v, e1, e2⟩ := r.sl i _ e
    exact ⟨Z, v, r, Stp.refl, e1, e2⟩
  · rename_i ds e
    cases h
    exact r.freeze e
  · rename_i kvs e
    cases h
    exact r.freezeK e
  · cases h
/-- what a slot's list is at this moment -/
theorem Rel.rdB {K : PySem.W.Frag} {F : Fm} {Z H : Hp} {σ : St} {env : DEnv} {i : Nat} {d : PyData} (r : Rel K F Z H σ env) (h : DL.rdB i env = some d) : ∃ v, σ[i]? = some (some v) ∧ DD K H v d := by
  unfold DL.rdB at h
  split at h
  · rename_i d' e
    cases h
    obtain ⟨v, e1, e2⟩ := r.sl i _ e
    exact ⟨v, e1, DDm e2 r.zh⟩
  · rename_i ds e
    cases h
    obtain ⟨p, xs, e1, e2, e3, e4, e5, e6⟩ := r.sl i _ e
    exact ⟨.ref p, e1, .lst (.inl (Rd.of e5)) (DDsm e6 r.zh)⟩
  · rename_i ds e
    cases h
    obtain ⟨p, xs, e1, e2, e5, e6⟩ := r.sl i _ e
    exact ⟨.ref p, e1, .lst (.inl (Rd.of e5)) (DDsm e6 r.zh)⟩
  · rename_i kvs e
    cases h
    obtain ⟨p, o, xs, e1, e2, e3, e4, e5, e6, e7⟩ := r.sl i _ e
    exact ⟨.ref p, e1, .dcn e5 e6 (ddk_mono r.zh _ _ e7)⟩
  · cases h
end DL
end L2


set_option Elab.async false
set_option maxRecDepth 100000
set_option maxHeartbeats 4000000
set_option autoImplicit false
namespace L2
namespace DL
open PySem PySem.Spec PyProof.Rows
variable [Lab]
abbrev lim : Nat := 100000
theorem lim_le : lim ≤ sizeLine := by decide
/-! ### readings -/
def tD (K : PySem.W.Frag) (F : Fm) (f : DEnv → Option (PyData × DEnv)) : TE := fun σ H Q => ∃ Z env d env', Rel K F Z H σ env ∧ f env = some (d, env') ∧ ∀ v Z' H', Rel K F Z' H' σ env' → Stp σ env Z H env' Z' H' → DD K Z' v d → Q v H'
def tDT (K : PySem.W.Frag) (F : Fm) (f : DEnv → Option (Bool × DEnv)) : TT := fun σ H Q => ∃ Z env d env', Rel K F Z H σ env ∧ f env = some (d, env') ∧ ∀ Z' H', Rel K F Z' H' σ env' → Stp σ env Z H env' Z' H' → Q d H'
def tDA (K : PySem.W.Frag) (F : Fm) (f : DEnv → Option (List PyData × DEnv)) : TA := fun σ H Q => ∃ Z env ds env', Rel K F Z H σ env ∧ f env = some (ds, env') ∧ ∀ vs Z' H', Rel K F Z' H' σ env' → Stp σ env Z H env' Z' H' → DDs K Z' vs ds → Q vs H'
def tDN (K : PySem.W.Frag) (F : Fm) (f : DEnv → Option (List PyData × DEnv)) : TE := fun σ H Q => ∃ Z env ds env', Rel K F Z H σ env ∧ f env = some (ds, env') ∧ ∀ p xs Z' H', Rel K F Z' H' σ env' → Stp σ env Z H env' Z' H' → H p = none → Z' p = none → H' p = some (.lst xs) → DDs K Z' xs ds → Q (.ref p) H'
def PD (X : Cx) (F : Fm) (e : Expr) (f : DEnv → Option (PyData × DEnv)) : Prop := PE X e (tD X.K F f)
def PN (X : Cx) (F : Fm) (e : Expr) (f : DEnv → Option (List PyData × DEnv)) : Prop := PE X e (tDN X.K F f)
def PDT (X : Cx) (F : Fm) (e : Expr) (f : DEnv → Option (Bool × DEnv)) : Prop := PT X e (tDT X.K F f)
def PDW (X : Cx) (F : Fm) (e : Expr) (f : DEnv → Option (Bool × DEnv)) : Prop := PW X e (tDT X.K F f)
def PDA (X : Cx) (F : Fm) (es : List Expr) (f : DEnv → Option (List PyData × DEnv)) : Prop := PA X es (tDA X.K F f)
theorem pe_imp {X : Cx} {e : Expr} {t t' : TE} (h : PE X e t) (w : ∀ σ H Q, t' σ H Q → t σ H Q) : PE X e t' := ⟨fun pins s σ H Q I q => h.run pins s σ H Q I (w σ H Q q)⟩
theorem pt_imp {X : Cx} {e : Expr} {t t' : TT} (h : PT X e t) (w : ∀ σ H Q, t' σ H Q → t σ H Q) : PT X e t' := ⟨fun pins s σ H Q I q => h.run pins s σ H Q I (w σ H Q q)⟩
theorem pw_imp {X : Cx} {e : Expr} {t t' : TT} (h : PW X e t) (w : ∀ σ H Q, t' σ H Q → t σ H Q) : PW X e t' := ⟨fun wh pins s σ H Q I q => h.run wh pins s σ H Q I (w σ H Q q)⟩
theorem pa_imp {X : Cx} {es : List Expr} {t t' : TA} (h : PA X es t) (w : ∀ σ H Q, t' σ H Q → t σ H Q) : PA X es t' := ⟨fun pos pins s σ H Q I q => h.run pos pins s σ H Q I (w σ H Q q)⟩
theorem ps_imp {X : Cx} {e : Stmt} {t t' : TS} (h : PS X e t) (w : ∀ D σ H, t' D σ H → t D σ H) : PS X e t' := ⟨fun pins s σ H D I q => h.run pins s σ H D I (w D σ H q)⟩
theorem pss_imp {X : Cx} {e : List Stmt} {t t' : TS} (h : PSs X e t) (w : ∀ D σ H, t' D σ H → t D σ H) : PSs X e t' := ⟨fun pins s σ H D I q => h.run pins s σ H D I (w D σ H q)⟩
theorem bnd {α β : Type} {o : Option α} {f : α → Option β} {b : β} (h : o.bind f = some b) : ∃ a, o = some a ∧ f a = some b := Option.bind_eq_some_iff.mp h
theorem mpd {α β : Type} {o : Option α} {f : α → β} {b : β} (h : o.map f = some b) : ∃ a, o = some a ∧ f a = b := Option.map_eq_some_iff.mp h

/-- a temporary list is frozen -/
theorem Rel.frzT {K : PySem.W.Frag} {F : Fm} {Z H H0 Z0 : Hp} {σ : St} {env env0 : DEnv} {p : Addr} {xs : List V} {ds : List PyData} (r0 : Rel K F Z0 H0 σ env0) (r : Rel K F Z H σ env) (s : Stp σ env0 Z0 H0 env Z H) (h0 : H0 p = none) (hz : Z p = none) (hp : H p = some (.lst xs)) (hd : DDs K Z xs ds) :
    Rel K F (upd Z p (.lst xs)) H σ env ∧ Stp σ env0 Z0 H0 env (upd Z p (.lst xs)) H ∧ DD K (upd Z p (.lst xs)) (.ref p) (.list ds) := by
  have hZ : Same Z (upd Z p (.lst xs)) := .of (same_new hz _)
  have fr0 : Fre σ env0 p := fun i dv e o hh => by
    have sl := r0.sl i dv e
    cases dv with
    | fr d => cases o
    | ow es => obtain ⟨p', xs', a1, _, _, _, a5, _⟩ := sl; rw [hh] at a1; cases a1; rw [h0] at a5; cases a5
    | rf es => obtain ⟨p', xs', a1, _, a5, _⟩ := sl; rw [hh] at a1; cases a1; rw [h0] at a5; cases a5
    | fn n => cases o
    | dk es => obtain ⟨p', o', xs', a1, _, _, _, a5, _⟩ := sl; rw [hh] at a1; cases a1; rw [h0] at a5; cases a5
  have fr := s.fre fr0
  have np : ¬ F.P p := fun z => (r0.pp p z).1 h0
  have ng : F.G p = none := r0.gh.free h0
  refine ⟨⟨r.z0.trans hZ, ⟨fun b x q n => ?_, fun b q => ?_⟩, r.gh, fun q hq => ?_, fun q hq => ?_, r.len, fun i dv e => ?_, r.inj, r.tb⟩, ⟨s.z.trans hZ, s.h, fun q h1 h2 h3 f => ?_, s.o, s.k⟩, .lst (.inl (Rd.of upd_same)) (DDsm hd hZ)⟩
  · by_cases hb : b = p
    · subst hb; rw [upd_same] at q; cases q; exact hp
    · rw [upd_ne hb] at q; exact r.zh.h b x q n
  · by_cases hb : b = p
    · subst hb; rw [hp]; simp
    · rw [upd_ne hb] at q; exact r.zh.k b q
  · by_cases hb : q = p
    · subst hb; exact .inr ⟨ng, np⟩
    · rw [upd_ne hb] at hq; exact r.nw q hq
  · obtain ⟨a, b, c⟩ := r.pp q hq
    refine ⟨a, ?_, c⟩
    rw [upd_ne (show q ≠ p from fun z => np (by rw [← z]; exact hq))]; exact b
  · have sl := r.sl i dv e
    cases dv with
    | fr d => obtain ⟨v, a, b⟩ := sl; exact ⟨v, a, DDm b hZ⟩
    | ow es =>
      obtain ⟨p', xs', a1, a2, a3, a4, a5, a6⟩ := sl
      have hpp : p' ≠ p := fun z => fr i _ e rfl (z ▸ a1)
      exact ⟨p', xs', a1, a2, a3, by rw [upd_ne hpp]; exact a4, a5, DDsm a6 hZ⟩
    | rf es =>
      obtain ⟨p', xs', a1, a2, a5, a6⟩ := sl
      exact ⟨p', xs', a1, a2, a5, DDsm a6 hZ⟩
    | fn n => exact sl
    | dk es =>
      obtain ⟨p', o', xs', a1, a2, a3, a4, a5, a6, a7⟩ := sl
      have hpp : p' ≠ p := fun z => fr i _ e rfl (z ▸ a1)
      exact ⟨p', o', xs', a1, a2, a3, by rw [upd_ne hpp]; exact a4, a5, a6, ddk_mono hZ _ _ a7⟩
  · by_cases hb : q = p
    · subst hb; exact h3 h0
    · rw [upd_ne hb] at h1; exact s.n q h1 h2 h3 f

section
variable {X : Cx} {F : Fm} {a b c e : Expr} {es : List Expr} {pos p : Pos} {f g k : DEnv → Option (PyData × DEnv)} {fa : DEnv → Option (List PyData × DEnv)} {ft gt : DEnv → Option (Bool × DEnv)}

/-! ### names and constants -/
theorem pd_name (i : Nat) {x : Str} (hN : X.N[i]? = some x := by rfl) (hv : Vis X.env.scope x := by first | exact Or.inl rfl | exact Or.inr (Or.inl rfl) | exact Or.inr (Or.inr rfl)) (hd : (x == ("__debug__" : Str)) = false := by decide)
    (hcd : (x == ("__classdict__" : Str)) = false := by decide) : PD X F (.Name x pos) (rdF i) :=
  pe_imp (pe_var hN hv hd hcd) fun σ H Q ⟨Z, env, d, env', r, e, q⟩ => by
    obtain ⟨Z', v, r', s', e1, e2⟩ := r.rdF e
    exact ⟨v, e1, q v Z' H r' s' e2⟩
def fC (d : PyData) (env : DEnv) : Option (PyData × DEnv) := some (d, env)
theorem pd_const {v : V} {d : PyData} (h : PE X e (tC v)) (hd : ∀ Z, DD X.K Z v d) : PD X F e (fC d) :=
  pe_imp h fun σ H Q ⟨Z, env, d', env', r, e, q⟩ => by
    cases e
    exact q v Z H r Stp.refl (hd Z)
theorem pd_int {i j} : PD X F (.Constant (.int i) j pos) (fC (.int i)) := pd_const pe_int fun _ => .int i
theorem pd_bl {i j} : PD X F (.Constant (.bool i) j pos) (fC (.bool i)) := pd_const pe_bl fun _ => .bl i
theorem pd_non {j} : PD X F (.Constant .none j pos) (fC .none) := pd_const pe_non fun _ => .non
theorem pd_str {i j} : PD X F (.Constant (.str i) j pos) (fC (.str i)) := pd_const pe_str fun _ => .str i
/-- a global constant -/
theorem pd_glob {x : Str} {v : V} {u : Value} {d : PyData} (hm : X.mg x = some u) (r : RelV v u) (hd : ∀ Z, DD X.K Z v d) (hg : Gl X x := by rfl) (hdb : (x == ("__debug__" : Str)) = false := by decide) : PD X F (.Name x pos) (fC d) :=
  pd_const (pe_glob hg hm r hdb) hd

/-! ### binary operators, comparisons -/
def r2D (K : PySem.W.Frag) (o : PyData → PyData → Option PyData) : R2 := fun x y H Q => ∃ Z a b d, Same Z H ∧ DD K Z x a ∧ DD K Z y b ∧ o a b = some d ∧ ∀ v Z' H', Grow Z H Z' H' → DD K Z' v d → Q v H'
def OpD (X : Cx) (op : Value → Value → Sem Value) (o : PyData → PyData → Option PyData) : Prop := OpR X op (r2D X.K o)
def fBin (o : PyData → PyData → Option PyData) (f g : DEnv → Option (PyData × DEnv)) (env : DEnv) : Option (PyData × DEnv) := (f env).bind fun x => (g x.2).bind fun y => (o x.1 y.1).map fun d => (d, y.2)
theorem bin_read {K : PySem.W.Frag} {o : PyData → PyData → Option PyData} {σ : St} {H : Hp} {Q : VK} (h : tD K F (fBin o f g) σ H Q) : tOp (r2D K o) (tD K F f) (tD K F g) σ H Q := by
  obtain ⟨Z, env, d, env', r, e, q⟩ := h
  obtain ⟨⟨x, e1⟩, h1, h⟩ := bnd e
  obtain ⟨⟨y, e2⟩, h2, h⟩ := bnd h
  obtain ⟨d', h3, h⟩ := mpd h
  cases h
  refine ⟨Z, env, x, e1, r, h1, fun v1 Z1 H1 r1 s1 d1 => ⟨Z1, e1, y, e2, r1, h2, fun v2 Z2 H2 r2 s2 d2 => ?_⟩⟩
  refine ⟨Z2, x, y, d, r2.zh, DDm d1 s2.z, d2, h3, fun v Z' H' gr dd => ?_⟩
  exact q v Z' H' (r2.grow gr) ((s1.trans s2).trans gr.stp) dd
theorem pd_bin {op : Operator} {o : PyData → PyData → Option PyData} (ho : OpD X (binaryOp op) o) (ha : PD X F a f) (hb : PD X F b g) : PD X F (.BinOp a op b pos) (fBin o f g) :=
  pe_imp (pe_op ho ha hb) fun _ _ _ h => bin_read h
theorem pd_cmp {op : CmpOp} {o : PyData → PyData → Option PyData} (ho : OpD X (compareOp op) o) (ha : PD X F a f) (hb : PD X F b g) (hm : behindInMarks op b = false := by first | exact nomark _ | rfl) : PD X F (.Compare a [op] [b] pos) (fBin o f g) :=
  pe_imp (pe_cmpR ho ha hb hm) fun _ _ _ h => bin_read h
/-- the right one a name: its list as it stands -/
def fCmpN (o : PyData → PyData → Option PyData) (f : DEnv → Option (PyData × DEnv)) (i : Nat) (env : DEnv) : Option (PyData × DEnv) := (f env).bind fun x => (rdB i x.2).bind fun y => (o x.1 y).map fun d => (d, x.2)
def scalD : PyData → Bool
  | .none => true
  | .bool _ => true
  | .int _ => true
  | .str _ => true
  | _ => false
theorem DD.scal {K : PySem.W.Frag} {Z Z' : Hp} {v : V} {d : PyData} (h : DD K Z v d) (s : scalD d = true) : DD K Z' v d := by
  cases h with
  | non => exact .non
  | bl b => exact .bl b
  | int i => exact .int i
  | str x => exact .str x
  | lst _ _ => cases s
  | tup _ _ => cases s
  | dct _ _ => cases s
  | dcn _ _ _ => cases s
  | exc _ _ _ _ _ => cases s
  | exn _ _ => cases s
theorem pd_cmpN {op : CmpOp} {o : PyData → PyData → Option PyData} (ho : OpD X (compareOp op) o) (hs : ∀ a b d, o a b = some d → scalD d = true) (ha : PD X F a f) (i : Nat) {x : Str} (hm : behindInMarks op (.Name x p) = false := by first | exact nomark _ | rfl)
    (hN : X.N[i]? = some x := by rfl) (hv : Vis X.env.scope x := by first | exact Or.inl rfl | exact Or.inr (Or.inl rfl) | exact Or.inr (Or.inr rfl)) (hd : (x == ("__debug__" : Str)) = false := by decide)
    (hcd : (x == ("__classdict__" : Str)) = false := by decide) : PD X F (.Compare a [op] [.Name x p] pos) (fCmpN o f i) :=
  pe_imp (pe_cmpR ho ha (pe_var hN hv hd hcd) hm) fun σ H Q h => by
    obtain ⟨Z, env, d, env', r, e, q⟩ := h
    obtain ⟨⟨x, e1⟩, h1, h⟩ := bnd e
    obtain ⟨y, h2, h⟩ := bnd h
    obtain ⟨d', h3, h⟩ := mpd h
    cases h
    refine ⟨Z, env, x, e1, r, h1, fun v1 Z1 H1 r1 s1 d1 => ?_⟩
    obtain ⟨v, ev, dv⟩ := r1.rdB h2
    refine ⟨v, ev, H1, x, y, d, Same.refl H1, DDm d1 r1.zh, dv, h3, fun v' Z' H' gr dd => ?_⟩
    have gr' : Grow Z1 H1 Z1 H' := ⟨Same.refl _, r1.zh.trans gr.h, gr.h, gr.t, fun _ z => .inl z⟩
    exact q v' Z1 H' (r1.grow gr') (s1.trans gr'.stp) (dd.scal (hs _ _ _ h3))

/-! ### tests -/
def truthD : PyData → Option Bool
  | .none => some false
  | .bool b => some b
  | .int i => some (i != 0)
  | .str x => if x.length ≤ lim then some (x.length != 0) else none
  | .list xs => some (!xs.isEmpty)
  | .tuple xs => some (!xs.isEmpty)
  | _ => none
theorem truth_ok {K : PySem.W.Frag} {H : Hp} {v : V} {d : PyData} {k : Bool} (h : DD K H v d) (e : truthD d = some k) : TruV K v H k := by
  cases h with
  | non => cases e; exact rfl
  | bl b => cases e; exact rfl
  | int i => cases e; exact rfl
  | str x =>
    change (if x.length ≤ lim then some (x.length != 0) else none) = some k at e
    by_cases hx : x.length ≤ lim
    · rw [if_pos hx] at e
      cases e
      refine ⟨Nat.le_trans hx lim_le, ?_⟩
      by_cases h0 : x.length = 0
      · rw [h0]; rfl
      · have h1 : (x.length != 0) = true := by simpa using h0
        have h2 : (((x.length : Nat) : Int) != 0) = true := by simpa using h0
        rw [h1, h2]
    · rw [if_neg hx] at e
      cases e
  | @lst a xs ds hr ha =>
    cases e
    refine .inl ⟨xs, hr.sq, ?_⟩
    have := dds_len ha
    cases xs <;> cases ds <;> simp_all
  | @tup a xs ds hr ha =>
    cases e
    refine .inr (.inl ⟨xs, hr, ?_⟩)
    have := dds_len ha
    cases xs <;> cases ds <;> simp_all
  | dct _ _ => cases e
  | dcn _ _ _ => cases e
  | exc _ _ _ _ _ => cases e
  | exn _ _ => cases e
def fTst (f : DEnv → Option (PyData × DEnv)) (env : DEnv) : Option (Bool × DEnv) := (f env).bind fun x => (truthD x.1).map fun k => (k, x.2)
theorem pdt_val (ha : PD X F a f) (he : ∀ whole, isTrue a X.env whole = (do let v ← whole; standAt a.pos; holding [v] (truthy v)) := by intro _; rfl) : PDT X F a (fTst f) :=
  pt_imp (pt_truth ha he) fun σ H Q h => by
    obtain ⟨Z, env, d, env', r, e, q⟩ := h
    obtain ⟨⟨x, e1⟩, h1, h⟩ := bnd e
    obtain ⟨k, h2, h⟩ := mpd h
    cases h
    exact ⟨Z, env, x, e1, r, h1, fun v Z1 H1 r1 s1 d1 => ⟨d, truth_ok (DDm d1 r1.zh) h2, q Z1 H1 r1 s1⟩⟩
def fAnd (f g : DEnv → Option (Bool × DEnv)) (env : DEnv) : Option (Bool × DEnv) := (f env).bind fun x => if x.1 then g x.2 else some (false, x.2)
def fOr (f g : DEnv → Option (Bool × DEnv)) (env : DEnv) : Option (Bool × DEnv) := (f env).bind fun x => if x.1 then some (true, x.2) else g x.2
def fNot (f : DEnv → Option (Bool × DEnv)) (env : DEnv) : Option (Bool × DEnv) := (f env).map fun x => (!x.1, x.2)
variable {rest : List Expr}
theorem pdw_and1 (ha : PDT X F a ft) : PDW X F (.BoolOp .And [a] pos) ft := pw_and1 ha
theorem pdw_or1 (ha : PDT X F a ft) : PDW X F (.BoolOp .Or [a] pos) ft := pw_or1 ha
theorem and_read {K : PySem.W.Frag} {σ : St} {H : Hp} {Q : Bool → Hp → Prop} (h : tDT K F (fAnd ft gt) σ H Q) : tAnd (tDT K F ft) (tDT K F gt) σ H Q := by
  obtain ⟨Z, env, d, env', r, e, q⟩ := h
  obtain ⟨⟨x, e1⟩, h1, h⟩ := bnd e
  refine ⟨Z, env, x, e1, r, h1, fun Z1 H1 r1 s1 => ?_⟩
  cases x with
  | true => exact iteT ⟨Z1, e1, d, env', r1, h, fun Z2 H2 r2 s2 => q Z2 H2 r2 (s1.trans s2)⟩
  | false =>
    cases h
    exact iteF (q Z1 H1 r1 s1)
theorem or_read {K : PySem.W.Frag} {σ : St} {H : Hp} {Q : Bool → Hp → Prop} (h : tDT K F (fOr ft gt) σ H Q) : tOr (tDT K F ft) (tDT K F gt) σ H Q := by
  obtain ⟨Z, env, d, env', r, e, q⟩ := h
  obtain ⟨⟨x, e1⟩, h1, h⟩ := bnd e
  refine ⟨Z, env, x, e1, r, h1, fun Z1 H1 r1 s1 => ?_⟩
  cases x with
  | false => exact iteF ⟨Z1, e1, d, env', r1, h, fun Z2 H2 r2 s2 => q Z2 H2 r2 (s1.trans s2)⟩
  | true =>
    cases h
    exact iteT (q Z1 H1 r1 s1)
theorem pdw_and (ha : PDT X F a ft) (hb : PDW X F (.BoolOp .And (b :: rest) pos) gt) : PDW X F (.BoolOp .And (a :: b :: rest) pos) (fAnd ft gt) := pw_imp (pw_and ha hb) fun _ _ _ h => and_read h
theorem pdw_or (ha : PDT X F a ft) (hb : PDW X F (.BoolOp .Or (b :: rest) pos) gt) : PDW X F (.BoolOp .Or (a :: b :: rest) pos) (fOr ft gt) := pw_imp (pw_or ha hb) fun _ _ _ h => or_read h
theorem pdt_w (h : PDW X F a ft) : PDT X F a ft := h.pt
theorem pdt_not (ha : PDT X F a ft) : PDT X F (.UnaryOp .Not a pos) (fNot ft) := pt_imp (pt_not ha) fun σ H Q h => by
  obtain ⟨Z, env, d, env', r, e, q⟩ := h
  obtain ⟨⟨x, e1⟩, h1, h⟩ := mpd e
  cases h
  exact ⟨Z, env, x, e1, r, h1, fun Z1 H1 r1 s1 => q Z1 H1 r1 s1⟩
/-! ### and, or, not as values of bools; conditional expressions -/
def fAndV (f g : DEnv → Option (PyData × DEnv)) (env : DEnv) : Option (PyData × DEnv) := (f env).bind fun x => match x.1 with
  | .bool true => g x.2
  | .bool false => some (.bool false, x.2)
  | _ => none
def fNotV (f : DEnv → Option (PyData × DEnv)) (env : DEnv) : Option (PyData × DEnv) := (f env).bind fun x => match x.1 with
  | .bool b => some (.bool (!b), x.2)
  | _ => none
theorem pd_one {op} (h : PD X F a f) : PD X F (.BoolOp op [a] pos) f := pe_one h
theorem DD.bool_inv {K : PySem.W.Frag} {Z : Hp} {v : V} {k : Bool} (h : DD K Z v (.bool k)) : v = .bl k := by cases h; rfl
theorem DD.int_inv {K : PySem.W.Frag} {Z : Hp} {v : V} {k : Int} (h : DD K Z v (.int k)) : v = .int k := by cases h; rfl
theorem DD.str_inv {K : PySem.W.Frag} {Z : Hp} {v : V} {k : Str} (h : DD K Z v (.str k)) : v = .str k := by cases h; rfl
theorem pd_and (ha : PD X F a f) (hb : PD X F (.BoolOp .And (b :: rest) pos) g) : PD X F (.BoolOp .And (a :: b :: rest) pos) (fAndV f g) := pe_imp (pe_and ha hb) fun σ H Q h => by
  obtain ⟨Z, env, d, env', r, e, q⟩ := h
  obtain ⟨⟨x, e1⟩, h1, h⟩ := bnd e
  refine ⟨Z, env, x, e1, r, h1, fun v Z1 H1 r1 s1 d1 => ?_⟩
  dsimp only at h
  split at h
  · cases d1.bool_inv
    exact ⟨true, rfl, iteT ⟨Z1, e1, d, env', r1, h, fun v2 Z2 H2 r2 s2 d2 => q v2 Z2 H2 r2 (s1.trans s2) d2⟩⟩
  · cases d1.bool_inv
    cases h
    exact ⟨false, rfl, iteF (q _ Z1 H1 r1 s1 (.bl false))⟩
  · cases h
theorem pd_not (ha : PD X F a f) : PD X F (.UnaryOp .Not a pos) (fNotV f) := pe_imp (pe_not ha) fun σ H Q h => by
  obtain ⟨Z, env, d, env', r, e, q⟩ := h
  obtain ⟨⟨x, e1⟩, h1, h⟩ := bnd e
  refine ⟨Z, env, x, e1, r, h1, fun v Z1 H1 r1 s1 d1 => ?_⟩
  dsimp only at h
  split at h
  · rename_i k
    cases d1.bool_inv
    cases h
    exact ⟨k, rfl, q _ Z1 H1 r1 s1 (.bl _)⟩
  · cases h
def fIf (ft : DEnv → Option (Bool × DEnv)) (f g : DEnv → Option (PyData × DEnv)) (env : DEnv) : Option (PyData × DEnv) := (ft env).bind fun x => if x.1 then f x.2 else g x.2
theorem pd_if (hc : PDT X F c ft) (ha : PD X F a f) (hb : PD X F b g) : PD X F (.IfExp c a b pos) (fIf ft f g) := pe_imp (pe_ifExp hc ha hb) fun σ H Q h => by
  obtain ⟨Z, env, d, env', r, e, q⟩ := h
  obtain ⟨⟨x, e1⟩, h1, h⟩ := bnd e
  refine ⟨Z, env, x, e1, r, h1, fun Z1 H1 r1 s1 => ?_⟩
  cases x with
  | true => exact iteT ⟨Z1, e1, d, env', r1, h, fun v Z2 H2 r2 s2 d2 => q v Z2 H2 r2 (s1.trans s2) d2⟩
  | false => exact iteF ⟨Z1, e1, d, env', r1, h, fun v Z2 H2 r2 s2 d2 => q v Z2 H2 r2 (s1.trans s2) d2⟩

/-! ### argument lists, displays -/
def fNil (env : DEnv) : Option (List PyData × DEnv) := some ([], env)
def fCons (f : DEnv → Option (PyData × DEnv)) (fa : DEnv → Option (List PyData × DEnv)) (env : DEnv) : Option (List PyData × DEnv) := (f env).bind fun x => (fa x.2).map fun y => (x.1 :: y.1, y.2)
theorem pda_nil : PDA X F [] fNil := pa_imp pa_nil fun σ H Q h => by
  obtain ⟨Z, env, d, env', r, e, q⟩ := h
  cases e
  exact q [] Z H r Stp.refl .nil
theorem pda_cons (ha : PD X F e f) (hr : PDA X F es fa) (hs : starEach (e :: es) X.env = (false, eval e X.env) :: starEach es X.env := by rfl) : PDA X F (e :: es) (fCons f fa) := pa_imp (pa_cons ha hr hs) fun σ H Q h => by
  obtain ⟨Z, env, d, env', r, e, q⟩ := h
  obtain ⟨⟨x, e1⟩, h1, h⟩ := bnd e
  obtain ⟨⟨y, e2⟩, h2, h⟩ := mpd h
  cases h
  exact ⟨Z, env, x, e1, r, h1, fun v Z1 H1 r1 s1 d1 => ⟨Z1, e1, y, e2, r1, h2, fun vs Z2 H2 r2 s2 d2 => q (v :: vs) Z2 H2 r2 (s1.trans s2) (.cons (DDm d1 s2.z) d2)⟩⟩
def fTup (fa : DEnv → Option (List PyData × DEnv)) (env : DEnv) : Option (PyData × DEnv) := (fa env).bind fun x => if x.1.length ≤ lim then some (.tuple x.1, x.2) else none
theorem pd_tup {x1} (h : PDA X F es fa) : PD X F (.Tuple es x1 pos) (fTup fa) := pe_imp (pe_tup h) fun σ H Q h => by
  obtain ⟨Z, env, d, env', r, e, q⟩ := h
  obtain ⟨⟨x, e1⟩, h1, h⟩ := bnd e
  dsimp only at h
  split at h
  · rename_i hx
    cases h
    refine ⟨Z, env, x, env', r, h1, fun vs Z1 H1 r1 s1 d1 => ⟨?_, fun p hp => ?_⟩⟩
    · rw [dds_len d1]; exact Nat.le_trans hx lim_le
    · have gr := grow_new r1.zh hp (.tup vs)
      exact q (.ref p) _ _ (r1.grow gr) (s1.trans gr.stp) (new_tup r1.zh hp d1)
  · cases h
def fLst (fa : DEnv → Option (List PyData × DEnv)) (env : DEnv) : Option (List PyData × DEnv) := (fa env).bind fun x => if x.1.length ≤ lim then some x else none
/-- a list laid anew, not frozen -/
theorem grow_own {Z H : Hp} (s : Same Z H) {p : Addr} (h : H p = none) (o : HO) : Grow Z H Z (upd H p o) :=
  ⟨Same.refl Z, s.trans (.of (same_new h o)), .of (same_new h o), fun t => t.ext (same_new h o), fun _ z => .inl z⟩
theorem pn_lst (h : PDA X F es fa) : PN X F (.List es pos) (fLst fa) := pe_imp (pe_lst h) fun σ H Q h => by
  obtain ⟨Z, env, d, env', r, e, q⟩ := h
  obtain ⟨⟨x, e1⟩, h1, h⟩ := bnd e
  dsimp only at h
  split at h
  · rename_i hx
    cases h
    refine ⟨Z, env, d, env', r, h1, fun vs Z1 H1 r1 s1 d1 => ⟨?_, fun p hp => ?_⟩⟩
    · rw [dds_len d1]; exact Nat.le_trans hx lim_le
    · have gr := grow_own r1.zh hp (.lst vs)
      exact q p vs _ _ (r1.grow gr) (s1.trans gr.stp) (s1.new hp) (r1.zh.free hp) upd_same d1
  · cases h
def fFrz (fa : DEnv → Option (List PyData × DEnv)) (env : DEnv) : Option (PyData × DEnv) := (fa env).map fun x => (.list x.1, x.2)
theorem pn_pd (h : PN X F e fa) : PD X F e (fFrz fa) := pe_imp h fun σ H Q h => by
  obtain ⟨Z, env, d, env', r, e, q⟩ := h
  obtain ⟨⟨x, e1⟩, h1, h⟩ := mpd e
  simp only [Prod.mk.injEq] at h
  obtain ⟨rfl, rfl⟩ := h
  refine ⟨Z, env, x, e1, r, h1, fun p xs Z1 H1 r1 s1 hp hz hh dd => ?_⟩
  obtain ⟨a, b, c⟩ := Rel.frzT r r1 s1 hp hz hh dd
  exact q _ _ _ a b c

/-! ### built-in functions -/
def rCD (K : PySem.W.Frag) (o : List PyData → Option PyData) : List V → Hp → VK → Prop := fun vs H Q => ∃ Z ds d, Same Z H ∧ DDs K Z vs ds ∧ o ds = some d ∧ ∀ v Z' H', Grow Z H Z' H' → DD K Z' v d → Q v H'
def CallD (X : Cx) (fn : Value) (o : List PyData → Option PyData) : Prop := CallR X fn (rCD X.K o)
def fCB (o : List PyData → Option PyData) (fa : DEnv → Option (List PyData × DEnv)) (env : DEnv) : Option (PyData × DEnv) := (fa env).bind fun x => (o x.1).map fun d => (d, x.2)
theorem cb_read {K : PySem.W.Frag} {o : List PyData → Option PyData} {σ : St} {H : Hp} {Q : VK} (h : tD K F (fCB o fa) σ H Q) : tCB (rCD K o) (tDA K F fa) σ H Q := by
  obtain ⟨Z, env, d, env', r, e, q⟩ := h
  obtain ⟨⟨x, e1⟩, h1, h⟩ := bnd e
  obtain ⟨d', h2, h⟩ := mpd h
  cases h
  exact ⟨Z, env, x, e1, r, h1, fun vs Z1 H1 r1 s1 d1 => ⟨Z1, x, d, r1.zh, d1, h2, fun v Z' H' gr dd => q v Z' H' (r1.grow gr) (s1.trans gr.stp) dd⟩⟩
variable {x : Str} {id T : String}
theorem pd_callB {o : List PyData → Option PyData} (hc : CallD X (.builtin id) o) (hm : X.mg x = none) (hv : bootBuiltins x = some (.builtin id)) (ha : PDA X F (e :: es) fa) (hg : Gl X x := by rfl) (hn : x ≠ "__name__" := by decide) (hdb : (x == ("__debug__" : Str)) = false := by decide)
    (he : starEach (e :: es) X.env = (false, eval e X.env) :: starEach es X.env := by rfl) (hpl : (backTo pos (starEach es X.env)).any (·.1) = false := by rfl) : PD X F (.Call (.Name x p) (e :: es) [] pos) (fCB o fa) :=
  pe_imp (pe_callB hc hg hm hv ha hn hdb he hpl) fun _ _ _ h => cb_read h
theorem pd_callTy {o : List PyData → Option PyData} (hc : CallD X (.type T) o) (hm : X.mg x = none) (hv : bootBuiltins x = some (.type T)) (ha : PDA X F (e :: es) fa) (hg : Gl X x := by rfl) (hn : x ≠ "__name__" := by decide) (hdb : (x == ("__debug__" : Str)) = false := by decide)
    (he : starEach (e :: es) X.env = (false, eval e X.env) :: starEach es X.env := by rfl) (hpl : (backTo pos (starEach es X.env)).any (·.1) = false := by rfl) : PD X F (.Call (.Name x p) (e :: es) [] pos) (fCB o fa) :=
  pe_imp (pe_callTy hc hg hm hv ha hn hdb he hpl) fun _ _ _ h => cb_read h
end
end DL
end L2


set_option Elab.async false
set_option maxRecDepth 100000
set_option maxHeartbeats 4000000
set_option autoImplicit false
namespace L2
namespace DL
open PySem PySem.Spec PyProof.Rows
variable [Lab]
/-! ### defs, called where no repr is under way -/
structure FnG (P : Program) (w : World) (K : PySem.W.Frag) (mg : Str → Option Value) (base : Heap) (k : Nat) (f : Addr) (fd : FuncData) (ps : List Str) (sp : Sp) : Prop where
  len : ∀ vs H Q E, sp vs H Q E → vs.length = ps.length
  run : ∀ (A : Around) (outer : List Env) (s : Shared) (H : Hp) (args : Args) (us : List Value) (vs : List V) (Q : VK) (E : XK),
    GdOk A → Room k A → Env0 P w K mg base A outer s H → BindsTo s fd args (ps.zip us) → Vals vs us → sp vs H Q E →
    codeAny (model P w) A (.call (.ref f) args) (CR CX0 outer P w H s Q E) s
theorem FnG.mono {P : Program} {w : World} {K : PySem.W.Frag} {mg : Str → Option Value} {base : Heap} {j k : Nat} {f : Addr} {fd : FuncData} {ps : List Str} {sp : Sp}
    (G : FnG P w K mg base j f fd ps sp) (h : j ≤ k) : FnG P w K mg base k f fd ps sp :=
  ⟨G.len, fun A outer s H args us vs Q E hg hr => G.run A outer s H args us vs Q E hg (hr.mono h)⟩
section
variable {P : Program} {w : World} {K : PySem.W.Frag} {mg : Str → Option Value} {base : Heap}
theorem fng_of {x qual : Str} {st : Stmt} {f : Addr} {fd : FuncData} {N ps : List Str} {k : Nat} {sp : Sp} (D : Fun K x qual st f fd) (S : FnScope N ps (defScope st)) (len : ∀ vs H Q E, sp vs H Q E → vs.length = ps.length)
    (hbody : ∀ (cdv : Value) (A : Around) (outer : List Env) (s : Shared) (H : Hp) (vs : List V) (Q : VK) (E : XK), cdv = fd.code → GdOk A →
      Room k (A.deeper (envOfC qual (defScope st) s.heap.objs.size f cdv)) → sp vs H Q E →
      ∃ t, PSs (cxOf CX0 P w K mg base N qual (defScope st) f cdv A outer s H E).nox (defBody st) t ∧ t { nx := fun _ H' => Q .non H', rt := Q } (start N vs) H) :
    FnG P w K mg base (k + 1) f fd ps sp := by
  obtain ⟨oc, od, kV, doc, pm, an, cdv, ct, osl, rfl, lk, hcd⟩ := D.ex
  refine ⟨len, fun A outer s H args us vs Q E hgd hr e0 hb rv hsp => ?_⟩
  have sl := len vs H Q E hsp
  have kin : K.In s.heap := e0.mod.kin.keeps fun b o q => (e0.bs b o q).1
  have nol : s.heap.NoLimit := e0.mod.nolimit.keeps fun b o q => (e0.bs b o q).1
  have kinds : ∀ y ∈ ps.zip us, (defScope st).names.lookup y.1 = some .local ∨
      ((defScope st).names.lookup y.1 = some .cell ∧ ((cellsFrom (s.heap.objs.size + 1) (defScope st).names []).lookup y.1).isSome = true) := by
    rintro ⟨n, z⟩ hy
    rcases S.par n (List.of_mem_zip hy).1 with e | e
    · exact .inl e
    · exact .inr ⟨e, PySem.W.cellsFrom_some _ _ _ (.inl e)⟩
  refine codeAny_call_function hr.depth (kin _ _ lk) rfl S.co S.gen rfl (PySem.W.codeRec_of kin hcd) (hb _ _ _ _ (wpAny_newFunctionEnv_cells S.kind kinds fun env he s1 x1 => ?_))
  subst he
  obtain ⟨t, ht, hq⟩ := hbody cdv A outer s H vs Q E rfl hgd (hr.deeper _) hsp
  have J0 : Inv (cxOf CX0 P w K mg base N qual (defScope st) f cdv A outer s H E) [] (start N vs) H s1 := inv_start S hr.hd e0 sl rv x1
  refine ⟨nol.keeps x1.toInCall.keep, codeAny_func (wpAny_mono (ht.nox.run [] s1 (start N vs) H _ J0 hq) (fun fl s' hs => ?_) fun e s' hs => hs)⟩
  cases fl with
  | ret u => obtain ⟨v, s2, H', J, r1, q⟩ := hs; exact ⟨v, H', J.os, J.bare, J.base, J.hok, r1, q⟩
  | next => obtain ⟨s2, H', J, q⟩ := hs; exact ⟨V.non, H', J.os, J.bare, J.base, J.hok, rfl, q⟩
  | brk => obtain ⟨_, _, _, q⟩ := hs; cases q
  | cont => obtain ⟨_, _, _, q⟩ := hs; cases q
end
section
variable {X : Cx} {F : Fm} {k : Nat} {f : Addr} {fd : FuncData} {ps ks : List Str} {sp : Sp} {x : Str} {p pos : Pos} {e : Expr} {es : List Expr} {t tk : TA} {kws : List Keyword}
theorem run_g {pins : List (Addr × Obj)} {σ : St} {H : Hp} {s : Shared} {Q : VK} {args : Args} {us : List Value} {vs : List V} (G : FnG X.prog X.w X.K X.mg X.base k f fd ps sp) (hg : GdOk X.A) (hr : Room k X.A)
    (hb : BindsTo s fd args (ps.zip us)) (I : Inv X pins σ H s) (rv : Vals vs us) (h : sp vs H Q E0) : wpAny (model X.prog X.w) X.A (call (.ref f) args.pos args.kw) (EP X pins σ Q) X.xe s := by
  refine wpAny_call (codeAny_mono (G.run X.A X.stack s H args us vs Q E0 hg hr I.env0 hb rv h) fun r s' hq => ?_)
  cases r with
  | error z => exact False.elim hq
  | ok fl =>
    cases fl with
    | ret u => exact I.after hq
    | next => cases hq
    | brk => cases hq
    | cont => cases hq
theorem pe_gcall (G : FnG X.prog X.w X.K X.mg X.base k f fd ps sp) (hgd : GdOk X.A) (hr : Room k X.A) (hm : X.mg x = some (.ref f)) (hk : PySem.W.keepIn X.K (.ref f) = true) (hb : Binds X.K fd ps [])
    (ha : PA X (e :: es) t) (hg : Gl X x := by rfl) (hdb : (x == ("__debug__" : Str)) = false := by decide)
    (he : starEach (e :: es) X.env = (false, eval e X.env) :: starEach es X.env := by rfl) (hpl : (backTo pos (starEach es X.env)).any (·.1) = false := by rfl) :
    PE X (.Call (.Name x p) (e :: es) [] pos) (fun σ H Q => t σ H fun vs H1 => sp vs H1 Q E0) := by
  refine ⟨fun pins s σ H Q I h => wpAny_Call_Name_kw (ld_glob I hg hm (PySem.W.callWith_K (h₀ := X.base) I.ok.mod.kin hk (thn (ha.run pos pins s σ H _ I h) ?_) he hpl) hdb)⟩
  rintro us s1 ⟨vs, H1, I1, rv, q⟩
  have hl : us.length = ps.length := by rw [← rv.length]; exact G.len _ _ _ _ q
  refine ⟨I1.kIn, run_g (args := ⟨us, []⟩) (us := us) G hgd hr ?_ I1 rv q⟩
  have := hb s1 us I1.kIn (by rw [List.append_nil]; exact hl)
  rw [List.append_nil] at this
  exact this
variable {g : List Value → List Value → List Value} {gV : List V → List V → List V}
variable {gU : List Value → List Value} {gW : List V → List V}
end

/-! ### the promises -/
def spF (K : PySem.W.Frag) (n : Nat) (m : List PyData → Option PyData) : Sp := fun vs H Q _ => vs.length = n ∧ ∃ Z ds r, Same Z H ∧ TB H ∧ DDs K Z vs ds ∧ m ds = some r ∧ ∀ v Z' H', Grow Z H Z' H' → DD K Z' v r → Q v H'
def spN (K : PySem.W.Frag) (n : Nat) (m : List PyData → Option (List PyData)) : Sp := fun vs H Q _ => vs.length = n ∧ ∃ Z ds r, Same Z H ∧ TB H ∧ DDs K Z vs ds ∧ m ds = some r ∧ ∀ p xs Z' H', Grow Z H Z' H' → H p = none → Z' p = none → H' p = some (.lst xs) → DDs K Z' xs r → Q (.ref p) H'
def spR (K : PySem.W.Frag) (n : Nat) (m : List PyData → List PyData → Option (PyData × List PyData)) : Sp := fun vs H Q _ => vs.length = n ∧ ∃ Z p ws xs es ds r es', vs = .ref p :: ws ∧ Same Z H ∧ TB H ∧ Z p = none ∧ H p = some (.lst xs) ∧ DDs K Z xs es ∧ DDs K Z ws ds ∧ m es ds = some (r, es') ∧
  ∀ v xs' Z' H', Pok Z H p Z' H' → H' p = some (.lst xs') → DDs K Z' xs' es' → DD K Z' v r → Q v H'
section
variable {X : Cx} {F : Fm} {k n : Nat} {f : Addr} {fd : FuncData} {ps ks : List Str} {x : Str} {p pos : Pos} {e : Expr} {es : List Expr} {kws : List Keyword} {fa fk : DEnv → Option (List PyData × DEnv)}
theorem f_read {m : List PyData → Option PyData} {K : PySem.W.Frag} {σ : St} {H : Hp} {Q : VK} (hn : ∀ ds r, m ds = some r → ds.length = n) (h : tD K F (fCB m fa) σ H Q) : tDA K F fa σ H fun vs H1 => spF K n m vs H1 Q E0 := by
  obtain ⟨Z, env, d, env', r, e, q⟩ := h
  obtain ⟨⟨x, e1⟩, h1, h⟩ := bnd e
  obtain ⟨d', h2, h⟩ := mpd h
  cases h
  exact ⟨Z, env, x, e1, r, h1, fun vs Z1 H1 r1 s1 d1 => ⟨(dds_len d1).trans (hn _ _ h2), Z1, x, d, r1.zh, r1.tb, d1, h2, fun v Z' H' gr dd => q v Z' H' (r1.grow gr) (s1.trans gr.stp) dd⟩⟩
theorem pd_call {m : List PyData → Option PyData} (G : FnG X.prog X.w X.K X.mg X.base k f fd ps (spF X.K n m)) (hn : ∀ ds r, m ds = some r → ds.length = n) (hgd : GdOk X.A) (hr : Room k X.A) (hm : X.mg x = some (.ref f)) (hk : PySem.W.keepIn X.K (.ref f) = true) (hb : Binds X.K fd ps [])
    (ha : PDA X F (e :: es) fa) (hg : Gl X x := by rfl) (hdb : (x == ("__debug__" : Str)) = false := by decide)
    (he : starEach (e :: es) X.env = (false, eval e X.env) :: starEach es X.env := by rfl) (hpl : (backTo pos (starEach es X.env)).any (·.1) = false := by rfl) :
    PD X F (.Call (.Name x p) (e :: es) [] pos) (fCB m fa) :=
  pe_imp (pe_gcall G hgd hr hm hk hb ha hg hdb he hpl) fun _ _ _ h => f_read hn h
def PDK (X : Cx) (F : Fm) (kws : List Keyword) (f : DEnv → Option (List PyData × DEnv)) : Prop := PK X kws (tDA X.K F f)
theorem pk_imp {X : Cx} {es : List Keyword} {t t' : TA} (h : PK X es t) (w : ∀ σ H Q, t' σ H Q → t σ H Q) : PK X es t' := ⟨fun pos pins s σ H Q I q => h.run pos pins s σ H Q I (w σ H Q q)⟩
theorem pdk_nil : PDK X F [] fNil := pk_imp pk_nil fun σ H Q h => by
  obtain ⟨Z, env, d, env', r, e, q⟩ := h
  cases e
  exact q [] Z H r Stp.refl .nil
theorem pdk_cons {g : DEnv → Option (PyData × DEnv)} {nm : Option Str} {kpos : Pos} (ha : PD X F e g) (hr : PDK X F kws fk) : PDK X F (⟨nm, e, kpos⟩ :: kws) (fCons g fk) := pk_imp (pk_cons ha hr) fun σ H Q h => by
  obtain ⟨Z, env, d, env', r, e, q⟩ := h
  obtain ⟨⟨x, e1⟩, h1, h⟩ := bnd e
  obtain ⟨⟨y, e2⟩, h2, h⟩ := mpd h
  cases h
  exact ⟨Z, env, x, e1, r, h1, fun v Z1 H1 r1 s1 d1 => ⟨Z1, e1, y, e2, r1, h2, fun vs Z2 H2 r2 s2 d2 => q (v :: vs) Z2 H2 r2 (s1.trans s2) (.cons (DDm d1 s2.z) d2)⟩⟩
/-- a def that hands back a new list -/
def fCN (m : List PyData → Option (List PyData)) (fa : DEnv → Option (List PyData × DEnv)) (env : DEnv) : Option (List PyData × DEnv) := (fa env).bind fun x => (m x.1).map fun d => (d, x.2)
theorem pn_call {m : List PyData → Option (List PyData)} (G : FnG X.prog X.w X.K X.mg X.base k f fd ps (spN X.K n m)) (hn : ∀ ds r, m ds = some r → ds.length = n) (hgd : GdOk X.A) (hr : Room k X.A) (hm : X.mg x = some (.ref f)) (hk : PySem.W.keepIn X.K (.ref f) = true) (hb : Binds X.K fd ps [])
    (ha : PDA X F (e :: es) fa) (hg : Gl X x := by rfl) (hdb : (x == ("__debug__" : Str)) = false := by decide)
    (he : starEach (e :: es) X.env = (false, eval e X.env) :: starEach es X.env := by rfl) (hpl : (backTo pos (starEach es X.env)).any (·.1) = false := by rfl) :
    PN X F (.Call (.Name x p) (e :: es) [] pos) (fCN m fa) := pe_imp (pe_gcall G hgd hr hm hk hb ha hg hdb he hpl) fun σ H Q h => by
  obtain ⟨Z, env, d, env', r, e, q⟩ := h
  obtain ⟨⟨x, e1⟩, h1, h⟩ := bnd e
  obtain ⟨d', h2, h⟩ := mpd h
  cases h
  refine ⟨Z, env, x, e1, r, h1, fun vs Z1 H1 r1 s1 d1 => ⟨(dds_len d1).trans (hn _ _ h2), Z1, x, d, r1.zh, r1.tb, d1, h2, fun p xs Z' H' gr hp hz hh dd => ?_⟩⟩
  exact q p xs Z' H' (r1.grow gr) (s1.trans gr.stp) (s1.new hp) hz hh dd
end
end DL
end L2


set_option Elab.async false
set_option maxRecDepth 100000
set_option maxHeartbeats 4000000
set_option autoImplicit false
namespace L2
namespace DL
open PySem PySem.Spec PyProof.Rows
variable [Lab]
/-! ### an owned list changes -/
def rdO (j : Nat) (env : DEnv) : Option (List PyData) := match env[j]? with
  | some (some (.ow ds)) => some ds
  | some (some (.rf ds)) => some ds
  | _ => none
def wrO (j : Nat) (ds : List PyData) (env : DEnv) : DEnv := match env[j]? with
  | some (some (.ow _)) => env.set j (some (.ow ds))
  | some (some (.rf _)) => env.set j (some (.rf ds))
  | _ => env
theorem Pok.keepn {Z H Z' H' : Hp} {p : Addr} (g : Pok Z H p Z' H') {q : Addr} (hz : Z q = none) (hq : H q ≠ none) : Z' q = none := by
  cases hh : Z' q with
  | none => rfl
  | some o =>
    rcases g.n q (by rw [hh]; simp) with h | h
    · exact absurd hz h
    · exact absurd h hq
theorem Pok.keep {Z H Z' H' : Hp} {p : Addr} (g : Pok Z H p Z' H') (hp : H' p ≠ none) {q : Addr} (hq : H q ≠ none) : H' q ≠ none := by
  by_cases e : q = p
  · subst e; exact hp
  · exact g.k q e hq
theorem Pok.grow {Z H Z' H' Z2 H2 : Hp} {p : Addr} (g : Pok Z H p Z' H') (hp : H' p ≠ none) (r : Grow Z' H' Z2 H2) : Pok Z H p Z2 H2 := by
  refine ⟨g.z.trans r.z, r.zh, fun q o e h n => r.h.h q o (g.h q o e h n) n, fun q e h => r.h.k q (g.k q e h), fun t => r.t (g.t t), fun q h => ?_⟩
  rcases r.n q h with h | h
  · exact g.n q h
  · exact .inr (Classical.byContradiction fun z => g.keep hp z h)
theorem Rel.poke0 {K : PySem.W.Frag} {F : Fm} {Z H Z' H' : Hp} {σ : St} {env : DEnv} {p : Addr} (r : Rel K F Z H σ env) (f : Fre σ env p) (ng : F.G p = none) (np : ¬ F.P p) (g : Pok Z H p Z' H') (hp : H' p ≠ none) : Rel K F Z' H' σ env := by
  refine ⟨r.z0.trans g.z, g.zh, ⟨fun q o e n => g.h q o (fun z => by subst z; rw [ng] at e; cases e) (r.gh.h q o e n) n, fun q e => g.keep hp (r.gh.k q e)⟩, fun q h => ?_, fun q hq => ?_, r.len, fun i dv e => ?_, r.inj, g.t r.tb⟩
  · rcases g.n q h with h | h
    · exact r.nw q h
    · exact .inr ⟨r.gh.free h, fun z => (r.pp q z).1 h⟩
  · obtain ⟨a, b, c⟩ := r.pp q hq
    exact ⟨g.keep hp a, g.keepn b a, c⟩
  · have s := r.sl i dv e
    cases dv with
    | fr d => obtain ⟨v, a, b⟩ := s; exact ⟨v, a, DDm b g.z⟩
    | ow ds =>
      obtain ⟨p', xs, e1, e2, e3, e4, e5, e6⟩ := s
      have hne : p' ≠ p := fun z => f i _ e rfl (z ▸ e1)
      exact ⟨p', xs, e1, e2, e3, g.keepn e4 (by rw [e5]; simp), g.h _ _ hne e5 nt_lst, DDsm e6 g.z⟩
    | rf ds =>
      obtain ⟨p', xs, e1, e2, e5, e6⟩ := s
      have hne : p' ≠ p := fun z => f i _ e rfl (z ▸ e1)
      exact ⟨p', xs, e1, e2, g.h _ _ hne e5 nt_lst, DDsm e6 g.z⟩
    | fn n => exact s
    | dk ds =>
      obtain ⟨p', o', xs, e1, e2, e3, e4, e5, e6, e7⟩ := s
      have hne : p' ≠ p := fun z => f i _ e rfl (z ▸ e1)
      exact ⟨p', o', xs, e1, e2, e3, g.keepn e4 (by rw [e5]; simp), g.h _ _ hne e5 nt_exo, e6, ddk_mono g.z _ _ e7⟩
theorem Rel.poke {K : PySem.W.Frag} {F : Fm} {Z H : Hp} {σ : St} {env : DEnv} {j : Nat} {es : List PyData} (r : Rel K F Z H σ env) (e : rdO j env = some es) :
    ∃ p xs, σ[j]? = some (some (V.ref p)) ∧ Z p = none ∧ H p = some (.lst xs) ∧ DDs K Z xs es ∧
      ∀ Z' H' xs' es', Pok Z H p Z' H' → H' p = some (.lst xs') → DDs K Z' xs' es' → Rel K F Z' H' σ (wrO j es' env) ∧ Stp σ env Z H (wrO j es' env) Z' H' := by
  have key : ∀ (c : List PyData → DV), (∀ ds, ownish (c ds) = true) → env[j]? = some (some (c es)) → (∀ ds, wrO j ds env = env.set j (some (c ds))) →
      ∀ p xs, σ[j]? = some (some (V.ref p)) → Z p = none → F.G p = none → H p = some (.lst xs) →
      (∀ Z' H' xs' es', Pok Z H p Z' H' → H' p = some (.lst xs') → DDs K Z' xs' es' → SlotOk K F Z' H' σ j (c es')) →
      ∀ Z' H' xs' es', Pok Z H p Z' H' → H' p = some (.lst xs') → DDs K Z' xs' es' → Rel K F Z' H' σ (wrO j es' env) ∧ Stp σ env Z H (wrO j es' env) Z' H' := by
    intro c hc ej hw p xs sj zp gp hp slot Z' H' xs' es' g hp' hd
    have hpn : H' p ≠ none := by rw [hp']; simp
    rw [hw]
    refine ⟨⟨r.z0.trans g.z, g.zh, ⟨fun q o e n => g.h q o (fun z => by subst z; rw [gp] at e; cases e) (r.gh.h q o e n) n, fun q e => g.keep hpn (r.gh.k q e)⟩, fun q h => ?_, fun q hq => ?_, by rw [List.length_set]; exact r.len, fun i dv ei => ?_, fun i k di dk q ei ek oi ok si sk => ?_, g.t r.tb⟩, ⟨g.z, fun q o hq n f => ?_, fun q h1 h2 h3 f => ?_, fun i dv ei oi => ?_, fun q hq => g.keep hpn hq⟩⟩
    · rcases g.n q h with h | h
      · exact r.nw q h
      · exact .inr ⟨r.gh.free h, fun z => (r.pp q z).1 h⟩
    · obtain ⟨a, b, d⟩ := r.pp q hq
      exact ⟨g.keep hpn a, g.keepn b a, d⟩
    · rcases get_set_some ei with ⟨rfl, ex⟩ | ⟨hne, ex⟩
      · cases ex
        exact slot Z' H' xs' es' g hp' hd
      · have s := r.sl i dv ex
        cases dv with
        | fr d => obtain ⟨v, a, b⟩ := s; exact ⟨v, a, DDm b g.z⟩
        | ow ds =>
          obtain ⟨p', ys, e1, e2, e3, e4, e5, e6⟩ := s
          have hn2 : p' ≠ p := fun z => hne (r.inj i j _ _ p ex ej rfl (hc _) (z ▸ e1) sj)
          exact ⟨p', ys, e1, e2, e3, g.keepn e4 (by rw [e5]; simp), g.h _ _ hn2 e5 nt_lst, DDsm e6 g.z⟩
        | rf ds =>
          obtain ⟨p', ys, e1, e2, e5, e6⟩ := s
          have hn2 : p' ≠ p := fun z => hne (r.inj i j _ _ p ex ej rfl (hc _) (z ▸ e1) sj)
          exact ⟨p', ys, e1, e2, g.h _ _ hn2 e5 nt_lst, DDsm e6 g.z⟩
        | fn n => exact s
        | dk ds =>
          obtain ⟨p', o', ys, e1, e2, e3, e4, e5, e6, e7⟩ := s
          have hn2 : p' ≠ p := fun z => hne (r.inj i j _ _ p ex ej rfl (hc _) (z ▸ e1) sj)
          exact ⟨p', o', ys, e1, e2, e3, g.keepn e4 (by rw [e5]; simp), g.h _ _ hn2 e5 nt_exo, e6, ddk_mono g.z _ _ e7⟩
    · have old : ∀ (i : Nat) (dv : DV), (env.set j (some (c es')))[i]? = some (some dv) → ownish dv = true → ∃ d0, env[i]? = some (some d0) ∧ ownish d0 = true := fun i dv ei oi => by
        rcases get_set_some ei with ⟨rfl, ex⟩ | ⟨hne, ex⟩
        · exact ⟨_, ej, hc _⟩
        · exact ⟨dv, ex, oi⟩
      obtain ⟨d1, a1, b1⟩ := old i di ei oi
      obtain ⟨d2, a2, b2⟩ := old k dk ek ok
      exact r.inj i k d1 d2 q a1 a2 b1 b2 si sk
    · exact g.h q o (fun z => f j _ ej (hc _) (by rw [z]; exact sj)) hq n
    · rcases g.n q h1 with h | h
      · exact h h2
      · exact h3 h
    · rcases get_set_some ei with ⟨rfl, ex⟩ | ⟨hne, ex⟩
      · exact ⟨_, ej, hc _⟩
      · exact ⟨dv, ex, oi⟩
  unfold rdO at e
  split at e
  · rename_i ds ej
    cases e
    obtain ⟨p, xs, e1, e2, e3, e4, e5, e6⟩ := r.sl j _ ej
    exact ⟨p, xs, e1, e4, e5, e6, key .ow (fun _ => rfl) ej (fun ds => by unfold wrO; rw [ej]) p xs e1 e4 e3 e5 fun Z' H' xs' es' g hp' hd => ⟨p, xs', e1, e2, e3, g.keepn e4 (by rw [e5]; simp), hp', hd⟩⟩
  · rename_i ds ej
    cases e
    obtain ⟨p, xs, e1, e2, e5, e6⟩ := r.sl j _ ej
    obtain ⟨a, b, d⟩ := r.pp p e2
    exact ⟨p, xs, e1, b, e5, e6, key .rf (fun _ => rfl) ej (fun ds => by unfold wrO; rw [ej]) p xs e1 b d e5 fun Z' H' xs' es' g hp' hd => ⟨p, xs', e1, e2, hp', hd⟩⟩
  · cases e
/-- a plain write -/
theorem pok_upd {Z H : Hp} (s : Same Z H) {p : Addr} (hz : Z p = none) {xs : List V} (hp : H p = some (.lst xs)) (o : HO) : Pok Z H p Z (upd H p o) :=
  ⟨Same.refl Z, ⟨fun b x e n => by rw [upd_ne (ne_of_none e hz)]; exact s.h b x e n, fun b e => by
    by_cases hb : b = p
    · subst hb; rw [upd_same]; simp
    · rw [upd_ne hb]; exact s.k b e⟩, fun q o' hq e _ => by rw [upd_ne hq]; exact e, fun q hq e => by rw [upd_ne hq]; exact e, fun t => t.ne hp o, fun _ h => .inl h⟩
section
variable {X : Cx} {F : Fm} {k n j : Nat} {f : Addr} {fd : FuncData} {ps ks : List Str} {x y : Str} {p pos pn : Pos} {e : Expr} {es : List Expr} {fa : DEnv → Option (List PyData × DEnv)}
def fCR (j : Nat) (m : List PyData → List PyData → Option (PyData × List PyData)) (fa : DEnv → Option (List PyData × DEnv)) (env : DEnv) : Option (PyData × DEnv) :=
  (rdO j env).bind fun _ => (fa env).bind fun x => (rdO j x.2).bind fun es => (m es x.1).map fun r => (r.1, wrO j r.2 x.2)
theorem pd_callR (j : Nat) {m : List PyData → List PyData → Option (PyData × List PyData)} (G : FnG X.prog X.w X.K X.mg X.base k f fd ps (spR X.K n m)) (hn : ∀ es ds r, m es ds = some r → ds.length + 1 = n) (hgd : GdOk X.A) (hr : Room k X.A) (hm : X.mg x = some (.ref f)) (hk : PySem.W.keepIn X.K (.ref f) = true) (hb : Binds X.K fd ps [])
    (ha : PDA X F es fa) (hN : X.N[j]? = some y := by rfl) (hv : Vis X.env.scope y := by first | exact Or.inl rfl | exact Or.inr (Or.inl rfl) | exact Or.inr (Or.inr rfl)) (hd : (y == ("__debug__" : Str)) = false := by decide)
    (hcd : (y == ("__classdict__" : Str)) = false := by decide) (hg : Gl X x := by rfl) (hdb : (x == ("__debug__" : Str)) = false := by decide)
    (he : starEach (.Name y pn :: es) X.env = (false, eval (.Name y pn) X.env) :: starEach es X.env := by rfl) (hpl : (backTo pos (starEach es X.env)).any (·.1) = false := by rfl) :
    PD X F (.Call (.Name x p) (.Name y pn :: es) [] pos) (fCR j m fa) :=
  pe_imp (pe_gcall G hgd hr hm hk hb (pa_cons (pe_var hN hv hd hcd) ha he) hg hdb he hpl) fun σ H Q h => by
    obtain ⟨Z, env, d, env', r, e, q⟩ := h
    obtain ⟨z0, h0, e⟩ := bnd e
    obtain ⟨⟨x, e1⟩, h1, h⟩ := bnd e
    obtain ⟨zs, h2, h⟩ := bnd h
    obtain ⟨⟨r0, r1⟩, h3, h⟩ := mpd h
    cases h
    obtain ⟨p, xs, sj, _, _, _, _⟩ := r.poke h0
    refine ⟨.ref p, sj, Z, env, x, e1, r, h1, fun vs Z1 H1 r1 s1 d1 => ?_⟩
    obtain ⟨p', xs', sj', zp, hp, dp, fin⟩ := r1.poke h2
    rw [sj] at sj'
    cases sj'
    refine ⟨?_, Z1, p, vs, xs', zs, x, _, _, rfl, r1.zh, r1.tb, zp, hp, dp, d1, h3, fun v ys Z' H' pk a5 a6 a7 => ?_⟩
    · rw [List.length_cons, dds_len d1]; exact hn _ _ _ h3
    · obtain ⟨b1, b2⟩ := fin Z' H' ys _ pk a5 a6
      exact q v Z' H' b1 (s1.trans b2) a7
/-- the argument a list made for the call -/
def fCRT (m : List PyData → List PyData → Option (PyData × List PyData)) (fa : DEnv → Option (List PyData × DEnv)) (env : DEnv) : Option (PyData × DEnv) :=
  (fa env).bind fun x => (m x.1 []).map fun r => (r.1, x.2)
theorem pd_callRT {m : List PyData → List PyData → Option (PyData × List PyData)} (G : FnG X.prog X.w X.K X.mg X.base k f fd ps (spR X.K n m)) (hn : ∀ es ds r, m es ds = some r → ds.length + 1 = n) (hgd : GdOk X.A) (hr : Room k X.A) (hm : X.mg x = some (.ref f)) (hk : PySem.W.keepIn X.K (.ref f) = true) (hb : Binds X.K fd ps [])
    (ha : PN X F e fa) (hg : Gl X x := by rfl) (hdb : (x == ("__debug__" : Str)) = false := by decide)
    (he : starEach [e] X.env = (false, eval e X.env) :: starEach [] X.env := by rfl) (hpl : (backTo pos (starEach [] X.env)).any (·.1) = false := by rfl) :
    PD X F (.Call (.Name x p) [e] [] pos) (fCRT m fa) :=
  pe_imp (pe_gcall G hgd hr hm hk hb (pa_cons ha pa_nil he) hg hdb he hpl) fun σ H Q h => by
    obtain ⟨Z, env, d, env', r, e, q⟩ := h
    obtain ⟨⟨x, e1⟩, h1, h⟩ := bnd e
    obtain ⟨⟨r0, r1⟩, h3, h⟩ := mpd h
    cases h
    refine ⟨Z, env, x, e1, r, h1, fun p xs Z1 H1 r1 s1 h0 hz hp dp => ⟨?_, Z1, p, [], xs, x, [], _, _, rfl, r1.zh, r1.tb, hz, hp, dp, .nil, h3, fun v ys Z' H' g a5 a6 a7 => ?_⟩⟩
    · exact hn _ _ _ h3
    · have hpn : H' p ≠ none := by rw [a5]; simp
      have fr0 : Fre σ env p := fun i dv e o hh => by
        have sl := r.sl i dv e
        cases dv with
        | fr d => cases o
        | ow es => obtain ⟨p', xs', a1, _, _, _, a5, _⟩ := sl; rw [hh] at a1; cases a1; rw [h0] at a5; cases a5
        | rf es => obtain ⟨p', xs', a1, _, a5, _⟩ := sl; rw [hh] at a1; cases a1; rw [h0] at a5; cases a5
        | fn n => cases o
        | dk es => obtain ⟨p', o', xs', a1, _, _, _, a5, _⟩ := sl; rw [hh] at a1; cases a1; rw [h0] at a5; cases a5
      have rr := r1.poke0 (s1.fre fr0) (r.gh.free h0) (fun z => (r.pp p z).1 h0) g hpn
      refine q v Z' H' rr ⟨s1.z.trans g.z, fun q o hq n f => g.h q o (fun z => by subst z; rw [h0] at hq; cases hq) (s1.h q o hq n f) n, fun q b1 b2 b3 f => ?_, s1.o, fun q hq => g.keep hpn (s1.k q hq)⟩ a7
      rcases g.n q b1 with z | z
      · exact s1.n q z b2 b3 f
      · exact s1.k q b3 z

/-! ### methods that change a list; items of a named list -/
def fPop (j : Nat) (f : DEnv → Option (PyData × DEnv)) (env : DEnv) : Option (PyData × DEnv) :=
  (rdO j env).bind fun _ => (f env).bind fun x => (rdO j x.2).bind fun es => match x.1 with
    | .int i => if es.length ≤ lim then (ixN es.length i).bind fun k => (es[k]?).map fun d => (d, wrO j (es.eraseIdx k) x.2) else none
    | _ => none
variable {g : DEnv → Option (PyData × DEnv)}
theorem own_ty {K : PySem.W.Frag} {H : Hp} {p : Addr} {xs : List V} (h : H p = some (.lst xs)) : tyV K "list" (.ref p) H := .inl ⟨rfl, _, SqL.of h⟩
theorem pd_pop (j : Nat) (ha : PD X F e g) (hN : X.N[j]? = some y := by rfl) (hv : Vis X.env.scope y := by first | exact Or.inl rfl | exact Or.inr (Or.inl rfl) | exact Or.inr (Or.inr rfl)) (hd : (y == ("__debug__" : Str)) = false := by decide)
    (hcd : (y == ("__classdict__" : Str)) = false := by decide)
    (hfew : ((backTo pos (starEach [e] X.env)).all (fun x => !x.1) && (backToKw pos (keywordEach [] X.env)).all (fun x => x.1.isSome)
      && decide ([e].length + ([] : List Keyword).length + (if ([] : List Keyword).isEmpty then 0 else 1) < 30)) = true := by rfl)
    (hline : (p.endLine == pos.line) = true := by rfl) (hs : starEach [e] X.env = (false, eval e X.env) :: starEach [] X.env := by rfl) (hplain : (backTo pos (starEach [] X.env)).any (·.1) = false := by rfl) :
    PD X F (.Call (.Attribute (.Name y pn) "pop" p) [e] [] pos) (fPop j g) :=
  pe_imp (pe_bm PySem.F.plainAttrs_list PySem.F.slot_list_pop PySem.F.type_list_pop mt_popAt (pe_var hN hv hd hcd) (pa_cons ha pa_nil hs) rfl hfew hline hs hplain) fun σ H Q h => by
  obtain ⟨Z, env, d, env', r, e, q⟩ := h
  obtain ⟨z0, h0, e⟩ := bnd e
  obtain ⟨⟨x, e1⟩, h1, h⟩ := bnd e
  obtain ⟨zs, h2, h⟩ := bnd h
  dsimp only at h
  cases x with
  | int i =>
    dsimp only at h
    split at h
    case isFalse => cases h
    rename_i hsz
    obtain ⟨k, h3, h⟩ := bnd h
    obtain ⟨d', h4, h⟩ := mpd h
    cases h
    obtain ⟨p, xs, sj, _, hp0, _, _⟩ := r.poke h0
    refine ⟨.ref p, sj, own_ty hp0, Z, env, .int i, e1, r, h1, fun v Z1 H1 r1 s1 d1 => ?_⟩
    obtain ⟨p', xs', sj', zp, hp, dp, fin⟩ := r1.poke h2
    rw [sj] at sj'
    cases sj'
    cases d1.int_inv
    have hl := dds_len dp
    obtain ⟨w, hw, dw⟩ := dds_get dp h4
    obtain ⟨i1, i2, i3, i4⟩ := ixN_seq (by rw [← hl] at h3; exact h3)
    have hlim : lim = 100000 := rfl
    refine ⟨p, xs', i, k, w, rfl, rfl, hp, by omega, by omega, i1, hw, ?_⟩
    obtain ⟨b1, b2⟩ := fin Z1 (upd H1 p (.lst (xs'.eraseIdx k))) _ (zs.eraseIdx k) (pok_upd r1.zh zp hp _) upd_same (dds_erase k dp)
    exact q w Z1 _ b1 (s1.trans b2) dw
  | _ => cases h
end
end DL
end L2


set_option Elab.async false
set_option maxRecDepth 100000
set_option maxHeartbeats 4000000
set_option autoImplicit false
namespace L2
namespace DL
open PySem PySem.Spec PyProof.Rows
variable [Lab]
/-! ### stores -/
theorem set_get_some {σ : St} {i j : Nat} {x : Option V} {v : V} (h : (σ.set i x)[j]? = some (some v)) : (j = i ∧ x = some v) ∨ (j ≠ i ∧ σ[j]? = some (some v)) := by
  by_cases e : i = j
  · subst e
    by_cases hl : i < σ.length
    · rw [List.getElem?_set_self hl] at h
      exact .inl ⟨rfl, Option.some.inj h⟩
    · rw [List.getElem?_eq_none (by rw [List.length_set]; omega)] at h
      cases h
  · rw [List.getElem?_set_ne e] at h
    exact .inr ⟨fun z => e z.symm, h⟩
/-- the slot i is told anew: x and o fit -/
theorem Rel.put {K : PySem.W.Frag} {F : Fm} {Z H : Hp} {σ : St} {env : DEnv} (r : Rel K F Z H σ env) (i : Nat) (x : Option V) (o : Option DV)
    (ok : ∀ dv, o = some dv → i < σ.length → SlotOk K F Z H (σ.set i x) i dv) (fr : ∀ dv p, o = some dv → ownish dv = true → x = some (V.ref p) → Fre σ env p) : Rel K F Z H (σ.set i x) (env.set i o) := by
  have other : ∀ (j : Nat) (dv : DV), j ≠ i → env[j]? = some (some dv) → SlotOk K F Z H (σ.set i x) j dv := fun j dv hne e => by
    have s := r.sl j dv e
    have eq : (σ.set i x)[j]? = σ[j]? := List.getElem?_set_ne (fun z => hne z.symm)
    cases dv with
    | fr d => obtain ⟨v, a, b⟩ := s; exact ⟨v, eq.trans a, b⟩
    | ow ds => obtain ⟨p, xs, a, b⟩ := s; exact ⟨p, xs, eq.trans a, b⟩
    | rf ds => obtain ⟨p, xs, a, b⟩ := s; exact ⟨p, xs, eq.trans a, b⟩
    | fn n => exact eq.trans s
    | dk ds => obtain ⟨p, o, xs, a, b⟩ := s; exact ⟨p, o, xs, eq.trans a, b⟩
  refine ⟨r.z0, r.zh, r.gh, r.nw, r.pp, by rw [List.length_set, List.length_set]; exact r.len, fun j dv e => ?_, fun j k dj dk p ej ek oj ok' sj sk => ?_, r.tb⟩
  · by_cases hl : i < σ.length
    · rcases get_set_some e with ⟨rfl, ex⟩ | ⟨hne, ex⟩
      · exact ok dv ex hl
      · exact other j dv hne ex
    · rcases get_set_some e with ⟨rfl, ex⟩ | ⟨hne, ex⟩
      · exfalso
        rw [List.getElem?_eq_none (by rw [List.length_set, r.len]; omega)] at e
        cases e
      · exact other j dv hne ex
  · rcases get_set_some ej with ⟨rfl, ex⟩ | ⟨hne, ex⟩
    · rcases get_set_some ek with ⟨rfl, ey⟩ | ⟨hne2, ey⟩
      · rfl
      · exfalso
        rcases set_get_some sj with ⟨_, sx⟩ | ⟨hh, _⟩
        · rcases set_get_some sk with ⟨hh, _⟩ | ⟨_, sy⟩
          · exact hne2 hh
          · exact fr dj p ex oj sx k dk ey ok' sy
        · exact hh rfl
    · rcases get_set_some ek with ⟨rfl, ey⟩ | ⟨hne2, ey⟩
      · exfalso
        rcases set_get_some sk with ⟨_, sx⟩ | ⟨hh, _⟩
        · rcases set_get_some sj with ⟨hh, _⟩ | ⟨_, sy⟩
          · exact hne hh
          · exact fr dk p ey ok' sx j dj ex oj sy
        · exact hh rfl
      · rw [List.getElem?_set_ne (fun z => hne z.symm)] at sj
        rw [List.getElem?_set_ne (fun z => hne2 z.symm)] at sk
        exact r.inj j k dj dk p ex ey oj ok' sj sk
theorem Rel.store {K : PySem.W.Frag} {F : Fm} {Z H : Hp} {σ : St} {env : DEnv} {v : V} {d : PyData} (r : Rel K F Z H σ env) (i : Nat) (hd : DD K Z v d) : Rel K F Z H (σ.set i (some v)) (env.set i (some (.fr d))) :=
  r.put i _ _ (fun dv e hl => by cases e; exact ⟨v, List.getElem?_set_self hl, hd⟩) (fun dv p e o _ => by cases e; cases o)
theorem Rel.drop {K : PySem.W.Frag} {F : Fm} {Z H : Hp} {σ : St} {env : DEnv} (r : Rel K F Z H σ env) (i : Nat) : Rel K F Z H (σ.set i none) (env.set i none) :=
  r.put i _ _ (fun dv e => by cases e) (fun dv p e => by cases e)
theorem Rel.storeN {K : PySem.W.Frag} {F : Fm} {Z H : Hp} {σ : St} {env : DEnv} {p : Addr} {xs : List V} {ds : List PyData} (r : Rel K F Z H σ env) (i : Nat) (f : Fre σ env p) (np : ¬ F.P p) (ng : F.G p = none) (hz : Z p = none) (hp : H p = some (.lst xs)) (hd : DDs K Z xs ds) :
    Rel K F Z H (σ.set i (some (.ref p))) (env.set i (some (.ow ds))) :=
  r.put i _ _ (fun dv e hl => by cases e; exact ⟨p, xs, List.getElem?_set_self hl, np, ng, hz, hp, hd⟩) (fun dv q e o ex => by cases ex; exact f)
/-- a list new since the start of an expression is no slot's -/
theorem fre_new {K : PySem.W.Frag} {F : Fm} {Z H : Hp} {σ : St} {env : DEnv} (r : Rel K F Z H σ env) {p : Addr} (h0 : H p = none) : Fre σ env p := fun i dv e o hh => by
  have sl := r.sl i dv e
  cases dv with
  | fr d => cases o
  | ow es => obtain ⟨p', xs', a1, _, _, _, a5, _⟩ := sl; rw [hh] at a1; cases a1; rw [h0] at a5; cases a5
  | rf es => obtain ⟨p', xs', a1, _, a5, _⟩ := sl; rw [hh] at a1; cases a1; rw [h0] at a5; cases a5
  | fn n => cases o
  | dk es => obtain ⟨p', o', xs', a1, _, _, _, a5, _⟩ := sl; rw [hh] at a1; cases a1; rw [h0] at a5; cases a5

/-! ### statements -/
inductive DFlow where
  | nx (env : DEnv) | rt (d : PyData) (env : DEnv) | rn (ds : List PyData) (env : DEnv) | bk (env : DEnv) | ct (env : DEnv) | ex (c a : Str) (d : PyData) (env : DEnv)
def Fini (K : PySem.W.Frag) (F : Fm) (Z : Hp) (D : Ends) : DFlow → Prop
  | .nx e => ∀ σ' Z' H', Rel K F Z' H' σ' e → Same Z Z' → D.nx σ' H'
  | .rt d e => ∀ v σ' Z' H', Rel K F Z' H' σ' e → Same Z Z' → DD K Z' v d → D.rt v H'
  | .rn ds e => ∀ p xs σ' Z' H', Rel K F Z' H' σ' e → Same Z Z' → Z' p = none → F.G p = none → ¬ F.P p → H' p = some (.lst xs) → DDs K Z' xs ds → D.rt (.ref p) H'
  | .bk e => ∀ σ' Z' H', Rel K F Z' H' σ' e → Same Z Z' → D.bk σ' H'
  | .ct e => ∀ σ' Z' H', Rel K F Z' H' σ' e → Same Z Z' → D.ct σ' H'
  | .ex c a d e => ∀ v p σ' Z' H', Rel K F Z' H' σ' e → Same Z Z' → Z' p = none → F.G p = none → ¬ F.P p → H' p = some (.xd [(a, v)]) → DD K Z' v d → F.W c (some p) σ' H'
theorem Fini.mono {K : PySem.W.Frag} {F : Fm} {Z Z1 : Hp} {D : Ends} {fl : DFlow} (h : Fini K F Z D fl) (s : Same Z Z1) : Fini K F Z1 D fl := by
  cases fl with
  | nx e => exact fun σ' Z' H' r z => h σ' Z' H' r (s.trans z)
  | rt d e => exact fun v σ' Z' H' r z => h v σ' Z' H' r (s.trans z)
  | rn d e => exact fun p xs σ' Z' H' r z => h p xs σ' Z' H' r (s.trans z)
  | bk e => exact fun σ' Z' H' r z => h σ' Z' H' r (s.trans z)
  | ct e => exact fun σ' Z' H' r z => h σ' Z' H' r (s.trans z)
  | ex c a d e => exact fun v p σ' Z' H' r z => h v p σ' Z' H' r (s.trans z)
def tDS (K : PySem.W.Frag) (F : Fm) (f : DEnv → Option DFlow) : TS := fun D σ H => ∃ Z env fl, Rel K F Z H σ env ∧ f env = some fl ∧ Fini K F Z D fl
def PDS (X : Cx) (F : Fm) (s : Stmt) (f : DEnv → Option DFlow) : Prop := PS X s (tDS X.K F f)
def PDSs (X : Cx) (F : Fm) (s : List Stmt) (f : DEnv → Option DFlow) : Prop := PSs X s (tDS X.K F f)
section
variable {X : Cx} {F : Fm} {a b c e tg iter : Expr} {es : List Expr} {s : Stmt} {ss s2 : List Stmt} {pos p pn : Pos} {x y : Str} {f g : DEnv → Option (PyData × DEnv)} {fa fn : DEnv → Option (List PyData × DEnv)} {ft : DEnv → Option (Bool × DEnv)} {h1 h2 : DEnv → Option DFlow}
def sNil (env : DEnv) : Option DFlow := some (.nx env)
def sSeq (f g : DEnv → Option DFlow) (env : DEnv) : Option DFlow := (f env).bind fun fl => match fl with
  | .nx e => g e
  | fl => some fl
theorem dss_nil : PDSs X F [] sNil := pss_imp pss_nil fun D σ H h => by
  obtain ⟨Z, env, fl, r, e, q⟩ := h
  cases e
  exact q σ Z H r (Same.refl Z)
theorem dss_cons (ha : PDS X F s h1) (hb : PDSs X F ss h2) : PDSs X F (s :: ss) (sSeq h1 h2) := pss_imp (pss_cons ha hb) fun D σ H h => by
  obtain ⟨Z, env, fl, r, e, q⟩ := h
  obtain ⟨f1, e1, e⟩ := bnd e
  refine ⟨Z, env, f1, r, e1, ?_⟩
  cases f1 with
  | nx e0 => exact fun σ' Z' H' r' s' => ⟨Z', e0, fl, r', e, q.mono s'⟩
  | rt d e0 => cases e; exact q
  | rn d e0 => cases e; exact q
  | bk e0 => cases e; exact q
  | ct e0 => cases e; exact q
  | ex c a d e0 => cases e; exact q
theorem dss_one (ha : PDS X F s h1) : PDSs X F [s] h1 := pss_one ha
def sRet (f : DEnv → Option (PyData × DEnv)) (env : DEnv) : Option DFlow := (f env).map fun x => .rt x.1 x.2
theorem ds_ret (ha : PD X F e f) : PDS X F (.Return (some e) pos) (sRet f) := ps_imp (ps_ret ha) fun D σ H h => by
  obtain ⟨Z, env, fl, r, e, q⟩ := h
  obtain ⟨⟨d, e1⟩, h1, h⟩ := mpd e
  subst h
  exact ⟨Z, env, d, e1, r, h1, fun v Z' H' r' s' dd => q v σ Z' H' r' s'.z dd⟩
def sRetN (f : DEnv → Option (List PyData × DEnv)) (env : DEnv) : Option DFlow := (f env).map fun x => .rn x.1 x.2
theorem ds_retN (ha : PN X F e fn) : PDS X F (.Return (some e) pos) (sRetN fn) := ps_imp (ps_ret ha) fun D σ H h => by
  obtain ⟨Z, env, fl, r, e, q⟩ := h
  obtain ⟨⟨d, e1⟩, h1, h⟩ := mpd e
  subst h
  exact ⟨Z, env, d, e1, r, h1, fun p xs Z' H' r' s' h0 hz hp dd => q p xs σ Z' H' r' s'.z hz (r.gh.free h0) (fun z => (r.pp p z).1 h0) hp dd⟩
def sIf (ft : DEnv → Option (Bool × DEnv)) (h1 h2 : DEnv → Option DFlow) (env : DEnv) : Option DFlow := (ft env).bind fun x => if x.1 then h1 x.2 else h2 x.2
theorem ds_if (hc : PDT X F c ft) (ha : PDSs X F ss h1) (hb : PDSs X F s2 h2) : PDS X F (.If c ss s2 pos) (sIf ft h1 h2) := ps_imp (ps_if hc ha hb) fun D σ H h => by
  obtain ⟨Z, env, fl, r, e, q⟩ := h
  obtain ⟨⟨k, e1⟩, h1, h⟩ := bnd e
  refine ⟨Z, env, k, e1, r, h1, fun Z1 H1 r1 s1 => ?_⟩
  cases k with
  | true => exact iteT ⟨Z1, e1, fl, r1, h, q.mono s1.z⟩
  | false => exact iteF ⟨Z1, e1, fl, r1, h, q.mono s1.z⟩
def sSet (i : Nat) (f : DEnv → Option (PyData × DEnv)) (env : DEnv) : Option DFlow := (f env).map fun x => .nx (x.2.set i (some (.fr x.1)))
theorem ds_set (i : Nat) {pos' : Pos} (ha : PD X F e f) (hN : X.N.Nodup) (hi : X.N[i]? = some x := by rfl) (hx : Loc X.env.scope x := by first | exact Or.inl rfl | exact Or.inr rfl) (hs : swapsWith e (some (.Name x pos')) pos.line X.env = pure false := by rfl)
    (hf : X.fn x = true ∨ X.env.scope.names.lookup x = some .local := by first | exact .inl rfl | exact .inr rfl | assumption) : PDS X F (.Assign [.Name x pos'] e pos) (sSet i f) := ps_imp (ps_set hN hi hx ha hs hf) fun D σ H h => by
  obtain ⟨Z, env, fl, r, e, q⟩ := h
  obtain ⟨⟨d, e1⟩, h1, h⟩ := mpd e
  subst h
  exact ⟨Z, env, d, e1, r, h1, fun v Z' H' r' s' dd => q _ Z' H' (r'.store i dd) s'.z⟩
def sSetN (i : Nat) (f : DEnv → Option (List PyData × DEnv)) (env : DEnv) : Option DFlow := (f env).map fun x => .nx (x.2.set i (some (.ow x.1)))
theorem ds_setN (i : Nat) {pos' : Pos} (ha : PN X F e fn) (hN : X.N.Nodup) (hi : X.N[i]? = some x := by rfl) (hx : Loc X.env.scope x := by first | exact Or.inl rfl | exact Or.inr rfl) (hs : swapsWith e (some (.Name x pos')) pos.line X.env = pure false := by rfl)
    (hf : X.fn x = true ∨ X.env.scope.names.lookup x = some .local := by first | exact .inl rfl | exact .inr rfl | assumption) : PDS X F (.Assign [.Name x pos'] e pos) (sSetN i fn) := ps_imp (ps_set hN hi hx ha hs hf) fun D σ H h => by
  obtain ⟨Z, env, fl, r, e, q⟩ := h
  obtain ⟨⟨d, e1⟩, h1, h⟩ := mpd e
  subst h
  exact ⟨Z, env, d, e1, r, h1, fun p xs Z' H' r' s' h0 hz hp dd => q _ Z' H' (r'.storeN i (s'.fre (fre_new r h0)) (fun z => (r.pp p z).1 h0) (r.gh.free h0) hz hp dd) s'.z⟩
/-- a, b = two new lists; a new list and data .. -/
def sPar (i j : Nat) (fa : DEnv → Option (List PyData × DEnv)) (env : DEnv) : Option DFlow := (fa env).bind fun x => match x.1 with
  | [u, v] => some (.nx ((x.2.set i (some (.fr u))).set j (some (.fr v))))
  | _ => none
theorem ds_par (i j : Nat) (ha : PS X s (tPar i j (tDA X.K F fa))) : PDS X F s (sPar i j fa) := ps_imp ha fun D σ H h => by
  obtain ⟨Z, env, fl, r, e, q⟩ := h
  obtain ⟨⟨d, e1⟩, h1, h⟩ := bnd e
  match d, h, h1 with
  | [u, v], h, h1 =>
    cases h
    refine ⟨Z, env, [u, v], e1, r, h1, fun vs Z' H' r' s' dd => ?_⟩
    cases dd with
    | cons d1 dr =>
      cases dr with
      | cons d2 dn =>
        cases dn
        exact ⟨_, _, rfl, q _ Z' H' ((r'.store i d1).store j d2) s'.z⟩
/-- both sides' lists are new and owned -/
def sParN (i j : Nat) (f g : DEnv → Option (List PyData × DEnv)) (env : DEnv) : Option DFlow := (f env).bind fun x => (g x.2).map fun y => .nx ((y.2.set i (some (.ow x.1))).set j (some (.ow y.1)))
theorem ds_parN (i j : Nat) {gn : DEnv → Option (List PyData × DEnv)} (hij : i ≠ j) (ha : PS X s (tPar i j (tCons (tDN X.K F fn) (tCons (tDN X.K F gn) tNil)))) : PDS X F s (sParN i j fn gn) := ps_imp ha fun D σ H h => by
  obtain ⟨Z, env, fl, r, e, q⟩ := h
  obtain ⟨⟨d, e1⟩, h1, h⟩ := bnd e
  obtain ⟨⟨d2, e2⟩, h2, h⟩ := mpd h
  subst h
  refine ⟨Z, env, d, e1, r, h1, fun p xs Z1 H1 r1 s1 h0 hz hp dd => ⟨Z1, e1, d2, e2, r1, h2, fun p2 xs2 Z2 H2 r2 s2 h02 hz2 hp2 dd2 => ⟨_, _, rfl, ?_⟩⟩⟩
  have fr1 : Fre σ e1 p := s1.fre (fre_new r h0)
  have hp' : H2 p = some (.lst xs) := s2.h p _ hp nt_lst fr1
  have zp' : Z2 p = none := by
    cases hh : Z2 p with
    | none => rfl
    | some o => exact absurd fr1 (s2.n p (by rw [hh]; simp) hz (by rw [hp]; simp))
  have np : ¬ F.P p := fun z => (r.pp p z).1 h0
  have ng : F.G p = none := r.gh.free h0
  have np2 : ¬ F.P p2 := fun z => (r1.pp p2 z).1 h02
  have ng2 : F.G p2 = none := r1.gh.free h02
  have hpp : p2 ≠ p := fun z => by rw [z, hp] at h02; cases h02
  have ra := r2.storeN i (s2.fre fr1) np ng zp' hp' (DDsm dd s2.z)
  have fr2 : Fre σ e2 p2 := s2.fre (fre_new r1 h02)
  refine q _ Z2 H2 (ra.storeN j ?_ np2 ng2 hz2 hp2 dd2) (s1.z.trans s2.z)
  intro k dv ek ok sk
  rcases get_set_some ek with ⟨rfl, ex⟩ | ⟨hne, ex⟩
  · rcases set_get_some sk with ⟨_, sx⟩ | ⟨hh, _⟩
    · cases sx; exact hpp rfl
    · exact hh rfl
  · rw [List.getElem?_set_ne (fun z => hne z.symm)] at sk
    exact fr2 k dv ex ok sk
/-- xs.append(e) -/
def sApp (j : Nat) (f : DEnv → Option (PyData × DEnv)) (env : DEnv) : Option DFlow :=
  (rdO j env).bind fun _ => (f env).bind fun x => (rdO j x.2).bind fun es => if es.length < lim then some (.nx (wrO j (es ++ [x.1]) x.2)) else none
theorem ds_append (j : Nat) (ha : PD X F e f) (hN : X.N[j]? = some y := by rfl) (hv : Vis X.env.scope y := by first | exact Or.inl rfl | exact Or.inr (Or.inl rfl) | exact Or.inr (Or.inr rfl)) (hd : (y == ("__debug__" : Str)) = false := by decide)
    (hcd : (y == ("__classdict__" : Str)) = false := by decide) {cpos : Pos}
    (hfew : ((backTo cpos (starEach [e] X.env)).all (fun x => !x.1) && (backToKw cpos (keywordEach [] X.env)).all (fun x => x.1.isSome)
      && decide ([e].length + ([] : List Keyword).length + (if ([] : List Keyword).isEmpty then 0 else 1) < 30)) = true := by rfl)
    (hline : (p.endLine == cpos.line) = true := by rfl) (hs : starEach [e] X.env = (false, eval e X.env) :: starEach [] X.env := by rfl) (hplain : (backTo cpos (starEach [] X.env)).any (·.1) = false := by rfl)
    (hsw : swapsWith (.Call (.Attribute (.Name y pn) "append" p) [e] [] cpos) none pos.line X.env = pure false := by rfl) :
    PDS X F (.Expr (.Call (.Attribute (.Name y pn) "append" p) [e] [] cpos) pos) (sApp j f) :=
  ps_imp (ps_expr (pe_bm PySem.F.plainAttrs_list PySem.F.slot_list_append PySem.F.type_list_append mt_append (pe_var hN hv hd hcd) (pa_cons ha pa_nil hs) rfl hfew hline hs hplain) hsw) fun D σ H h => by
  obtain ⟨Z, env, fl, r, e, q⟩ := h
  obtain ⟨z0, h0, e⟩ := bnd e
  obtain ⟨⟨d, e1⟩, h1, h⟩ := bnd e
  obtain ⟨zs, h2, h⟩ := bnd h
  dsimp only at h
  split at h
  case isFalse => cases h
  rename_i hz
  cases h
  obtain ⟨p, xs, sj, _, hp0, _, _⟩ := r.poke h0
  refine ⟨.ref p, sj, own_ty hp0, Z, env, d, e1, r, h1, fun v Z1 H1 r1 s1 d1 => ?_⟩
  obtain ⟨p', xs', sj', zp, hp, dp, fin⟩ := r1.poke h2
  rw [sj] at sj'
  cases sj'
  refine ⟨p, xs', v, rfl, rfl, hp, by rw [dds_len dp]; exact Nat.lt_of_lt_of_le hz lim_le, ?_⟩
  obtain ⟨b1, b2⟩ := fin Z1 (upd H1 p (.lst (xs' ++ [v]))) _ (zs ++ [d]) (pok_upd r1.zh zp hp _) upd_same (dds_app dp (.cons d1 .nil))
  exact q σ Z1 _ b1 (s1.trans b2).z

/-! ### targets -/
def tDG (K : PySem.W.Frag) (F : Fm) (g : PyData → DEnv → Option DEnv) : TG := fun v σ H Q => ∃ Z env d env', Rel K F Z H σ env ∧ DD K Z v d ∧ g d env = some env' ∧ ∀ σ' Z' H', Rel K F Z' H' σ' env' → Same Z Z' → Q σ' H'
def tDGs (K : PySem.W.Frag) (F : Fm) (g : List PyData → DEnv → Option DEnv) : TGs := fun vs σ H Q => ∃ Z env ds env', Rel K F Z H σ env ∧ DDs K Z vs ds ∧ g ds env = some env' ∧ ∀ σ' Z' H', Rel K F Z' H' σ' env' → Same Z Z' → Q σ' H'
def PDG (X : Cx) (F : Fm) (e : Expr) (g : PyData → DEnv → Option DEnv) : Prop := PG X e (tDG X.K F g)
def PDGs (X : Cx) (F : Fm) (es : List Expr) (g : List PyData → DEnv → Option DEnv) : Prop := PGs X es (tDGs X.K F g)
theorem pg_imp {X : Cx} {e : Expr} {t t' : TG} (h : PG X e t) (w : ∀ v σ H Q, t' v σ H Q → t v σ H Q) : PG X e t' := ⟨fun pins s σ H v u Q I r q => h.run pins s σ H v u Q I r (w v σ H Q q)⟩
theorem pgs_imp {X : Cx} {e : List Expr} {t t' : TGs} (h : PGs X e t) (w : ∀ v σ H Q, t' v σ H Q → t v σ H Q) : PGs X e t' := ⟨fun pins s σ H v u Q I r q => h.run pins s σ H v u Q I r (w v σ H Q q)⟩
def gSet (i : Nat) (d : PyData) (env : DEnv) : Option DEnv := some (env.set i (some (.fr d)))
theorem dg_name (i : Nat) (hN : X.N.Nodup) (hi : X.N[i]? = some x := by rfl) (hx : Loc X.env.scope x := by first | exact Or.inl rfl | exact Or.inr rfl) (hf : X.fn x = true ∨ X.env.scope.names.lookup x = some .local := by first | exact .inl rfl | exact .inr rfl | assumption) : PDG X F (.Name x pos) (gSet i) :=
  pg_imp (pg_name hN hi hx hf) fun v σ H Q h => by
    obtain ⟨Z, env, d, env', r, hd, e, q⟩ := h
    cases e
    exact q _ Z H (r.store i hd) (Same.refl Z)
def gSubD (j : Nat) (f : DEnv → Option (PyData × DEnv)) (d : PyData) (env : DEnv) : Option DEnv :=
  (rdO j env).bind fun _ => (f env).bind fun x => (rdO j x.2).bind fun es => match x.1 with
    | .int i => (ixN es.length i).map fun k => wrO j (es.set k d) x.2
    | _ => none
theorem dg_sub (j : Nat) {i : Expr} (ha : PD X F i f) (hN : X.N[j]? = some y := by rfl) (hv : Vis X.env.scope y := by first | exact Or.inl rfl | exact Or.inr (Or.inl rfl) | exact Or.inr (Or.inr rfl)) (hd : (y == ("__debug__" : Str)) = false := by decide)
    (hcd : (y == ("__classdict__" : Str)) = false := by decide)
    (hsub : ∀ v, assign (.Subscript (.Name y pn) i pos) X.env v = (do
      let ov ← holding [v] (eval (.Name y pn) X.env)
      let iv ← holding [v, ov] (eval i X.env)
      standAt pos
      holding [v, ov, iv] (setItem ov iv v)
      release [v, ov, iv] []) := by intro _; rfl) : PDG X F (.Subscript (.Name y pn) i pos) (gSubD j f) :=
  pg_imp (pg_sub (pe_var hN hv hd hcd) ha set_list hsub) fun v σ H Q h => by
    obtain ⟨Z, env, d, env', r, hd, e, q⟩ := h
    obtain ⟨z0, h0, e⟩ := bnd e
    obtain ⟨⟨u, e1⟩, h1, h⟩ := bnd e
    obtain ⟨zs, h2, h⟩ := bnd h
    cases u with
    | int i =>
      obtain ⟨k, h3, h⟩ := mpd h
      subst h
      obtain ⟨p, xs, sj, _, hp0, _, _⟩ := r.poke h0
      refine ⟨.ref p, sj, Z, env, .int i, e1, r, h1, fun w Z1 H1 r1 s1 d1 => ?_⟩
      obtain ⟨p', xs', sj', zp, hp, dp, fin⟩ := r1.poke h2
      rw [sj] at sj'
      cases sj'
      cases d1.int_inv
      refine ⟨p, xs', i, k, rfl, rfl, hp, by rw [dds_len dp]; exact h3, ?_⟩
      obtain ⟨b1, b2⟩ := fin Z1 (upd H1 p (.lst (xs'.set k v))) _ (zs.set k d) (pok_upd r1.zh zp hp _) upd_same (dds_set (DDm hd s1.z) k dp)
      exact q σ Z1 _ b1 (s1.trans b2).z
    | _ => cases h
def gsNil (ds : List PyData) (env : DEnv) : Option DEnv := if ds.isEmpty then some env else none
def gsCons (g : PyData → DEnv → Option DEnv) (gs : List PyData → DEnv → Option DEnv) (ds : List PyData) (env : DEnv) : Option DEnv := match ds with
  | d :: r => (g d env).bind fun e => gs r e
  | _ => none
theorem dgs_nil : PDGs X F [] gsNil := pgs_imp pgs_nil fun v σ H Q h => by
  obtain ⟨Z, env, d, env', r, hd, e, q⟩ := h
  cases hd with
  | nil => cases e; exact ⟨rfl, q σ Z H r (Same.refl Z)⟩
  | cons _ _ => cases e
theorem dgs_cons {g : PyData → DEnv → Option DEnv} {gs : List PyData → DEnv → Option DEnv} (ha : PDG X F e g) (hb : PDGs X F es gs) (hs : (assignEach (e :: es) X.env).map (·.2) = assign e X.env :: (assignEach es X.env).map (·.2) := by rfl) : PDGs X F (e :: es) (gsCons g gs) :=
  pgs_imp (pgs_cons ha hb hs) fun v σ H Q h => by
    obtain ⟨Z, env, d, env', r, hd, e, q⟩ := h
    cases hd with
    | nil => cases e
    | cons d1 dr =>
      obtain ⟨e1, h1, h⟩ := bnd e
      exact ⟨_, _, rfl, Z, env, _, e1, r, d1, h1, fun σ' Z' H' r' s' => ⟨Z', e1, _, env', r', DDsm dr s', h, fun σ2 Z2 H2 r2 s2 => q σ2 Z2 H2 r2 (s'.trans s2)⟩⟩
def gTupD (n : Nat) (gs : List PyData → DEnv → Option DEnv) (d : PyData) (env : DEnv) : Option DEnv := match d with
  | .tuple ds => if ds.length = n then gs ds env else none
  | _ => none
theorem dg_tup {n kk : Nat} {gs : List PyData → DEnv → Option DEnv} (h : PDGs X F es gs) (hc : X.calm = true := by rfl) (hn : (assignEach es X.env).length = n := by rfl) (hst : (assignEach es X.env).findIdx? (·.1) = none := by rfl) : PDG X F (.Tuple es kk pos) (gTupD n gs) :=
  pg_imp (pg_tup hc h hn hst) fun v σ H Q h => by
    obtain ⟨Z, env, d, env', r, hd, e, q⟩ := h
    cases hd with
    | @tup a xs ds hs ha =>
      change (if ds.length = n then gs ds env else none) = some env' at e
      by_cases hl : ds.length = n
      · rw [if_pos hl] at e
        exact ⟨a, xs, rfl, same_sqT r.zh hs, (dds_len ha).trans hl, Z, env, ds, env', r, ha, e, q⟩
      · rw [if_neg hl] at e; cases e
    | _ => cases e
def sAsg (f : DEnv → Option (PyData × DEnv)) (g : PyData → DEnv → Option DEnv) (env : DEnv) : Option DFlow := (f env).bind fun x => (g x.1 x.2).map .nx
theorem ds_asg {g : PyData → DEnv → Option DEnv} (ha : PD X F e f) (hg : PDG X F tg g) (hs : swapsWithSole [tg] e pos.line X.env = pure false := by rfl) (hw : swappedStores [tg] e X.env = pure none := by rfl)
    (h1 : (assignEach [tg] X.env).map (·.2) = [assign tg X.env] := by rfl) : PDS X F (.Assign [tg] e pos) (sAsg f g) := ps_imp (ps_asg ha hg hs hw h1) fun D σ H h => by
  obtain ⟨Z, env, fl, r, e, q⟩ := h
  obtain ⟨⟨d, e1⟩, h1, h⟩ := bnd e
  obtain ⟨e2, h2, h⟩ := mpd h
  subst h
  exact ⟨Z, env, d, e1, r, h1, fun v Z1 H1 r1 s1 d1 => ⟨Z1, e1, d, e2, r1, d1, h2, fun σ' Z' H' r' s' => q σ' Z' H' r' (s1.z.trans s')⟩⟩
end
end DL
end L2


set_option Elab.async false
set_option maxRecDepth 100000
set_option maxHeartbeats 4000000
set_option autoImplicit false
namespace L2
namespace DL
open PySem PySem.Spec PyProof.Rows
variable [Lab]
/-! ### what is walked, as data -/
def WalkD (K : PySem.W.Frag) (J : It) (Z : Hp) (ds : List PyData) : Prop := ∃ (G : Hp → Prop) (Y : Nat → Hp → V → Hp → Prop), Walk J ds.length G Y ∧ (∀ H, Same Z H → G H) ∧
  ∀ (i : Nat) (H : Hp) (x : V) (H' Zc : Hp), i < ds.length → Y i H x H' → Same Z Zc → Same Zc H → ∃ Zn d, Grow Zc H Zn H' ∧ ds[i]? = some d ∧ DD K Zn x d
theorem WalkD.mono {K : PySem.W.Frag} {J : It} {Z Z' : Hp} {ds : List PyData} (w : WalkD K J Z ds) (s : Same Z Z') : WalkD K J Z' ds := by
  obtain ⟨G, Y, a, b, c⟩ := w
  exact ⟨G, Y, a, fun H h => b H (s.trans h), fun i H x H' Zc hi y s1 s2 => c i H x H' Zc hi y (s.trans s1) s2⟩
theorem wd_list {K : PySem.W.Frag} {Z : Hp} {a : Addr} {xs : List V} {ds : List PyData} (h : LsR K Z a xs) (hd : DDs K Z xs ds) : WalkD K (Itl K a) Z ds := by
  refine ⟨_, _, (dds_len hd) ▸ walk_list (K := K) (a := a) (xs := xs), fun H s => (same_ls s h).sq, fun i H x H' Zc hi y s1 s2 => ?_⟩
  obtain ⟨rfl, y⟩ := y
  obtain ⟨d, e1, e2⟩ := dds_get' hd y
  exact ⟨Zc, d, Grow.refl s2, e1, DDm e2 s1⟩
theorem wd_tup {K : PySem.W.Frag} {Z : Hp} {a : Addr} {xs : List V} {ds : List PyData} (h : SqT K Z a xs) (hd : DDs K Z xs ds) : WalkD K (Itt K a) Z ds := by
  refine ⟨_, _, (dds_len hd) ▸ walk_tup (K := K) (a := a) (xs := xs), fun H s => same_sqT s h, fun i H x H' Zc hi y s1 s2 => ?_⟩
  obtain ⟨rfl, y⟩ := y
  obtain ⟨d, e1, e2⟩ := dds_get' hd y
  exact ⟨Zc, d, Grow.refl s2, e1, DDm e2 s1⟩
def rangeD (lo : Int) (n : Nat) : List PyData := (List.range n).map fun i => .int (lo + (i : Nat))
theorem rangeD_len (lo : Int) (n : Nat) : (rangeD lo n).length = n := by unfold rangeD; rw [List.length_map, List.length_range]
theorem rangeD_get (lo : Int) {n i : Nat} (h : i < n) : (rangeD lo n)[i]? = some (.int (lo + (i : Nat))) := by
  unfold rangeD
  rw [List.getElem?_map, List.getElem?_range h]
  rfl
theorem wd_range {K : PySem.W.Frag} {Z : Hp} (lo : Int) (n : Nat) : WalkD K (Itr lo n) Z (rangeD lo n) := by
  refine ⟨fun _ => True, YFn fun i => .int (lo + (i : Nat)), by rw [rangeD_len]; exact walk_range, fun _ _ => trivial, fun i H x H' Zc hi y s1 s2 => ?_⟩
  rw [rangeD_len] at hi
  obtain ⟨rfl, rfl⟩ := y
  exact ⟨Zc, _, Grow.refl s2, rangeD_get lo hi, .int _⟩
def enumD (ds : List PyData) : List PyData := (rangeD 0 ds.length).zipWith (fun a b => .tuple [a, b]) ds
theorem enumD_len (ds : List PyData) : (enumD ds).length = ds.length := by unfold enumD; rw [List.length_zipWith, rangeD_len]; omega
theorem enumD_get {ds : List PyData} {i : Nat} {d : PyData} (h : ds[i]? = some d) : (enumD ds)[i]? = some (.tuple [.int (i : Nat), d]) := by
  obtain ⟨hl, _⟩ := List.getElem?_eq_some_iff.mp h
  unfold enumD
  rw [List.getElem?_zipWith, rangeD_get 0 hl, h]
  simp
theorem wd_enum {K : PySem.W.Frag} {Z : Hp} {a : Addr} {xs : List V} {ds : List PyData} (h : LsR K Z a xs) (hd : DDs K Z xs ds) : WalkD K (Ite K a) Z (enumD ds) := by
  refine ⟨_, _, ((enumD_len ds).trans (dds_len hd).symm) ▸ walk_enum (K := K) (a := a) (xs := xs), fun H s => (same_ls s h).sq, fun i H x H' Zc hi y s1 s2 => ?_⟩
  obtain ⟨T, u, v, rfl, nT, rfl, e1, e2⟩ := y
  cases e1
  obtain ⟨d, e3, e4⟩ := dds_get' hd e2
  exact ⟨_, _, grow_new s2 nT _, enumD_get e3, new_tup s2 nT (.cons (.int _) (.cons (DDm e4 s1) .nil))⟩
def tDI (K : PySem.W.Frag) (F : Fm) (f : DEnv → Option (List PyData × DEnv)) : TI := fun σ H R => ∃ Z env ds env', Rel K F Z H σ env ∧ f env = some (ds, env') ∧ ∀ J Z' H', Rel K F Z' H' σ env' → Stp σ env Z H env' Z' H' → WalkD K J Z' ds → R J H'
def PDI (X : Cx) (F : Fm) (tg iter : Expr) (f : DEnv → Option (List PyData × DEnv)) : Prop := PI X tg iter (tDI X.K F f)
theorem pi_imp {X : Cx} {tg iter : Expr} {t t' : TI} (h : PI X tg iter t) (w : ∀ σ H Q, t' σ H Q → t σ H Q) : PI X tg iter t' := ⟨fun pins s σ H R I q => h.run pins s σ H R I (w σ H R q)⟩
theorem pi_orr {X : Cx} {tg iter : Expr} {t t' : TI} (h : PI X tg iter t) (h' : PI X tg iter t') : PI X tg iter (fun σ H R => t σ H R ∨ t' σ H R) := ⟨fun pins s σ H R I q => q.elim (h.run pins s σ H R I) (h'.run pins s σ H R I)⟩
section
variable {X : Cx} {F : Fm} {a b c e tg iter : Expr} {es : List Expr} {ss : List Stmt} {pos p pn : Pos} {x y : Str} {f : DEnv → Option (PyData × DEnv)} {fa fi : DEnv → Option (List PyData × DEnv)} {ft : DEnv → Option (Bool × DEnv)}
def seqD : PyData → Option (List PyData)
  | .list ds => some ds
  | .tuple ds => some ds
  | _ => none
def iSeq (f : DEnv → Option (PyData × DEnv)) (env : DEnv) : Option (List PyData × DEnv) := (f env).bind fun x => (seqD x.1).map fun ds => (ds, x.2)
theorem tD_choose {K : PySem.W.Frag} {σ : St} {H : Hp} {Z : Hp} {env : DEnv} {d : PyData} {env' : DEnv} {R : V → Hp → Prop} (r : Rel K F Z H σ env) (h : f env = some (d, env')) (q : ∀ v Z' H', Rel K F Z' H' σ env' → Stp σ env Z H env' Z' H' → DD K Z' v d → R v H') : tD K F f σ H R := ⟨Z, env, d, env', r, h, q⟩
theorem di_seq (ha : PD X F e f) : PDI X F tg e (iSeq f) := pi_imp (pi_orr (pi_list ha) (pi_tup ha)) fun σ H Q h => by
  obtain ⟨Z, env, ds, env', r, e, q⟩ := h
  obtain ⟨⟨d, e1⟩, h1, h⟩ := bnd e
  obtain ⟨ds', h2, h⟩ := mpd h
  cases h
  cases d with
  | list ds =>
    cases h2
    refine .inl (tD_choose r h1 fun v Z1 H1 r1 s1 d1 => ?_)
    cases d1 with
    | @lst a xs _ hr hd => exact ⟨a, rfl, ⟨xs, (same_ls r1.zh hr).sq⟩, q _ Z1 H1 r1 s1 (wd_list hr hd)⟩
  | tuple ds =>
    cases h2
    refine .inr (tD_choose r h1 fun v Z1 H1 r1 s1 d1 => ?_)
    cases d1 with
    | @tup a xs _ hr hd => exact ⟨a, rfl, ⟨xs, same_sqT r1.zh hr⟩, q _ Z1 H1 r1 s1 (wd_tup hr hd)⟩
  | _ => cases h2
def rng1 : List PyData → Option (List PyData)
  | [.int j] => if j ≤ 1000000 ∧ -1000000 ≤ j then some (rangeD 0 j.toNat) else none
  | _ => none
def iArg (o : List PyData → Option (List PyData)) (fa : DEnv → Option (List PyData × DEnv)) (env : DEnv) : Option (List PyData × DEnv) := (fa env).bind fun x => (o x.1).map fun ds => (ds, x.2)
theorem di_range1 (hm : X.mg "range" = none) (ha : PDA X F [a] fa) (hg : Gl X "range" := by rfl) (hs : starEach [a] X.env = [(false, eval a X.env)] := by rfl) : PDI X F tg (.Call (.Name "range" p) [a] [] pos) (iArg rng1 fa) := pi_imp (pi_range1 hg hm ha hs) fun σ H Q h => by
  obtain ⟨Z, env, ds, env', r, e, q⟩ := h
  obtain ⟨⟨d, e1⟩, h1, h⟩ := bnd e
  obtain ⟨ds', h2, h⟩ := mpd h
  cases h
  match d, h1, h2 with
  | [.int j], h1, h2 =>
    change (if j ≤ 1000000 ∧ -1000000 ≤ j then some (rangeD 0 j.toNat) else none) = some ds at h2
    split at h2
    case isFalse => cases h2
    rename_i hj
    cases h2
    refine ⟨Z, env, _, e1, r, h1, fun vs Z1 H1 r1 s1 d1 => ?_⟩
    cases d1 with
    | cons d1 dn =>
      cases dn
      cases d1.int_inv
      exact ⟨j, rfl, by omega, by omega, q _ Z1 H1 r1 s1 (wd_range 0 _)⟩
/-! ### for -/
def forD (g : PyData → DEnv → Option DEnv) (b : DEnv → Option DFlow) : List PyData → DEnv → Option DFlow
  | [], env => some (.nx env)
  | d :: ds, env => (g d env).bind fun e1 => (b e1).bind fun fl => match fl with
    | .nx e2 => forD g b ds e2
    | .ct e2 => forD g b ds e2
    | .bk e2 => some (.nx e2)
    | fl => some fl
def sFor (fi : DEnv → Option (List PyData × DEnv)) (g : PyData → DEnv → Option DEnv) (b : DEnv → Option DFlow) (env : DEnv) : Option DFlow := (fi env).bind fun x => forD g b x.1 x.2
theorem ds_for {g : PyData → DEnv → Option DEnv} {h1 : DEnv → Option DFlow} (hi : PDI X F tg iter fi) (hg : PDG X F tg g) (hb : PDSs X F ss h1) (hp : PassesOwn (model X.prog X.w) X.A X.env X.xe := by exact PassesOwn.never) (hc : X.calm = true := by rfl) (hs : ∀ x, foldedSetIterable iter X.env x = pure x := by intro _; rfl) :
    PDS X F (.For tg iter ss [] pos) (sFor fi g h1) := ps_imp (ps_for hp hc hi hg hb hs) fun D σ H h => by
  obtain ⟨Z, env, fl, r, e, q⟩ := h
  obtain ⟨⟨ds, e1⟩, e0, e⟩ := bnd e
  refine ⟨Z, env, ds, e1, r, e0, fun J Z1 H1 r1 s1 w => ?_⟩
  obtain ⟨G, Y, wk, hG, hY⟩ := w
  refine for_it wk (fun i σ' H' => ∃ Z' env', Same Z1 Z' ∧ Rel X.K F Z' H' σ' env' ∧ forD g h1 (ds.drop i) env' = some fl) ⟨Z1, e1, Same.refl _, r1, e⟩ ?_ ?_ ?_
  · rintro i σ' H' hi ⟨Z', env', s', r', _⟩
    exact hG H' (s'.trans r'.zh)
  · rintro i x σ' H' H2 hi ⟨Z', env', s', r', e'⟩ y
    obtain ⟨Zn, d, gr, hd, dd⟩ := hY i H' x H2 Z' hi y s' r'.zh
    have ed : ds.drop i = d :: ds.drop (i + 1) := by
      obtain ⟨hl, hx⟩ := List.getElem?_eq_some_iff.mp hd
      rw [← hx]
      exact List.drop_eq_getElem_cons hl
    rw [ed] at e'
    obtain ⟨e2, g2, e'⟩ := bnd e'
    obtain ⟨f2, b2, e'⟩ := bnd e'
    refine ⟨Zn, env', d, e2, r'.grow gr, dd, g2, fun σ2 Z2 H2 r2 s2 => ⟨Z2, e2, f2, r2, b2, ?_⟩⟩
    have sa : Same Z1 Z2 := (s'.trans gr.z).trans s2
    cases f2 with
    | nx e3 => exact fun σ3 Z3 H3 r3 s3 => ⟨Z3, e3, sa.trans s3, r3, e'⟩
    | ct e3 => exact fun σ3 Z3 H3 r3 s3 => ⟨Z3, e3, sa.trans s3, r3, e'⟩
    | bk e3 =>
      cases e'
      exact fun σ3 Z3 H3 r3 s3 => q σ3 Z3 H3 r3 ((s1.z.trans sa).trans s3)
    | rt d3 e3 =>
      cases e'
      exact fun v σ3 Z3 H3 r3 s3 => q v σ3 Z3 H3 r3 ((s1.z.trans sa).trans s3)
    | rn d3 e3 =>
      cases e'
      exact fun p xs σ3 Z3 H3 r3 s3 => q p xs σ3 Z3 H3 r3 ((s1.z.trans sa).trans s3)
    | ex c3 a3 d3 e3 =>
      cases e'
      exact fun v p σ3 Z3 H3 r3 s3 => q v p σ3 Z3 H3 r3 ((s1.z.trans sa).trans s3)
  · rintro σ' H' ⟨Z', env', s', r', e'⟩
    rw [List.drop_length] at e'
    cases e'
    exact q σ' Z' H' r' (s1.z.trans s')

/-! ### list comprehensions -/
def wipeE (env : DEnv) : List Nat → DEnv
  | [] => env
  | v :: vs => (wipeE env vs).set v none
theorem Rel.wipe {K : PySem.W.Frag} {Z H : Hp} {σ : St} {env : DEnv} (r : Rel K F Z H σ env) : ∀ vs : List Nat, Rel K F Z H (wipe σ vs) (wipeE env vs)
  | [] => r
  | v :: vs => (Rel.wipe r vs).drop v
theorem wipe_get (σ : St) : ∀ (vs : List Nat) (i : Nat), i ∉ vs → (wipe σ vs)[i]? = σ[i]?
  | [], _, _ => rfl
  | v :: vs, i, h => by
    rw [List.mem_cons, not_or] at h
    show ((L2.wipe σ vs).set v none)[i]? = σ[i]?
    rw [List.getElem?_set_ne (fun z => h.1 z.symm), wipe_get σ vs i h.2]
theorem wipe_in (σ : St) : ∀ (vs : List Nat) (i : Nat), i ∈ vs → i < σ.length → (wipe σ vs)[i]? = some none
  | v :: vs, i, h, hl => by
    show ((L2.wipe σ vs).set v none)[i]? = some none
    by_cases e : v = i
    · subst e
      exact List.getElem?_set_self (by rw [wipe_length]; exact hl)
    · rw [List.getElem?_set_ne e]
      rcases List.mem_cons.mp h with z | z
      · exact absurd z.symm e
      · exact wipe_in σ vs i z hl
theorem wipeE_in (env : DEnv) : ∀ (vs : List Nat) (i : Nat) (dv : DV), (wipeE env vs)[i]? = some (some dv) → i ∉ vs ∧ env[i]? = some (some dv)
  | [], i, dv, h => ⟨by simp, h⟩
  | v :: vs, i, dv, h => by
    rcases get_set_some h with ⟨_, z⟩ | ⟨hne, z⟩
    · cases z
    · obtain ⟨a, b⟩ := wipeE_in env vs i dv z
      exact ⟨by rw [List.mem_cons, not_or]; exact ⟨hne, a⟩, b⟩
theorem wipe_eq {σ τ : St} {vs : List Nat} (hl : τ.length = σ.length) (h : ∀ i, i ∉ vs → τ[i]? = σ[i]?) : wipe τ vs = wipe σ vs := by
  refine List.ext_getElem? fun i => ?_
  by_cases hi : i ∈ vs
  · by_cases hlt : i < σ.length
    · rw [wipe_in _ _ _ hi hlt, wipe_in _ _ _ hi (by omega)]
    · rw [List.getElem?_eq_none (by rw [wipe_length]; omega), List.getElem?_eq_none (by rw [wipe_length]; omega)]
  · rw [wipe_get _ _ _ hi, wipe_get _ _ _ hi, h i hi]
/-- back to the slots ahead of the wipe -/
theorem Rel.unwipe {K : PySem.W.Frag} {Z H : Hp} {σ : St} {env : DEnv} {vs : List Nat} (r : Rel K F Z H (L2.wipe σ vs) env) (h : ∀ (i : Nat) (dv : DV), env[i]? = some (some dv) → i ∉ vs) : Rel K F Z H σ env := by
  have eq : ∀ (i : Nat) (dv : DV), env[i]? = some (some dv) → (L2.wipe σ vs)[i]? = σ[i]? := fun i dv e => wipe_get σ vs i (h i dv e)
  refine ⟨r.z0, r.zh, r.gh, r.nw, r.pp, by rw [r.len, wipe_length], fun i dv e => ?_, fun i j di dj p ei ej oi oj si sj => r.inj i j di dj p ei ej oi oj ((eq i di ei).trans si) ((eq j dj ej).trans sj), r.tb⟩
  have s := r.sl i dv e
  have q := eq i dv e
  cases dv with
  | fr d => obtain ⟨v, a, b⟩ := s; exact ⟨v, q.symm.trans a, b⟩
  | ow ds => obtain ⟨p, xs, a, b⟩ := s; exact ⟨p, xs, q.symm.trans a, b⟩
  | rf ds => obtain ⟨p, xs, a, b⟩ := s; exact ⟨p, xs, q.symm.trans a, b⟩
  | fn n => exact q.symm.trans s
  | dk ds => obtain ⟨p, o, xs, a, b⟩ := s; exact ⟨p, o, xs, q.symm.trans a, b⟩
/-- targets that are names: the slots ts alone change -/
structure TgOk (ts : List Nat) (σ : St) (env : DEnv) (σ' : St) (env' : DEnv) : Prop where
  s : ∀ i : Nat, i ∉ ts → σ'[i]? = σ[i]?
  l : σ'.length = σ.length
  o : ∀ (i : Nat) (dv : DV), env'[i]? = some (some dv) → ownish dv = true → i ∉ ts ∧ env[i]? = some (some dv)
def tGN (K : PySem.W.Frag) (F : Fm) (ts : List Nat) (g : PyData → DEnv → Option DEnv) : TG := fun v σ H Q => ∃ Z env d env', Rel K F Z H σ env ∧ DD K Z v d ∧ g d env = some env' ∧ ∀ σ', Rel K F Z H σ' env' → TgOk ts σ env σ' env' → Q σ' H
def tGNs (K : PySem.W.Frag) (F : Fm) (ts : List Nat) (g : List PyData → DEnv → Option DEnv) : TGs := fun vs σ H Q => ∃ Z env ds env', Rel K F Z H σ env ∧ DDs K Z vs ds ∧ g ds env = some env' ∧ ∀ σ', Rel K F Z H σ' env' → TgOk ts σ env σ' env' → Q σ' H
def PGN (X : Cx) (F : Fm) (e : Expr) (ts : List Nat) (g : PyData → DEnv → Option DEnv) : Prop := PG X e (tGN X.K F ts g)
def PGNs (X : Cx) (F : Fm) (e : List Expr) (ts : List Nat) (g : List PyData → DEnv → Option DEnv) : Prop := PGs X e (tGNs X.K F ts g)
theorem gn_name (i : Nat) (hN : X.N.Nodup) (hi : X.N[i]? = some x := by rfl) (hx : Loc X.env.scope x := by first | exact Or.inl rfl | exact Or.inr rfl) (hf : X.fn x = true ∨ X.env.scope.names.lookup x = some .local := by first | exact .inl rfl | exact .inr rfl | assumption) : PGN X F (.Name x pos) [i] (gSet i) :=
  pg_imp (pg_name hN hi hx hf) fun v σ H Q h => by
    obtain ⟨Z, env, d, env', r, hd, e, q⟩ := h
    cases e
    refine q _ (r.store i hd) ⟨fun j hj => List.getElem?_set_ne (fun z => hj (by rw [z]; simp)), List.length_set .., fun j dv e o => ?_⟩
    rcases get_set_some e with ⟨_, z⟩ | ⟨hne, z⟩
    · cases z; cases o
    · exact ⟨by simpa using hne, z⟩
theorem gns_nil : PGNs X F [] [] gsNil := pgs_imp pgs_nil fun v σ H Q h => by
  obtain ⟨Z, env, d, env', r, hd, e, q⟩ := h
  cases hd with
  | nil => cases e; exact ⟨rfl, q σ r ⟨fun _ _ => rfl, rfl, fun i dv e _ => ⟨by simp, e⟩⟩⟩
  | cons _ _ => cases e
theorem gns_cons {t1 t2 : List Nat} {g : PyData → DEnv → Option DEnv} {gs : List PyData → DEnv → Option DEnv} (ha : PGN X F e t1 g) (hb : PGNs X F es t2 gs) (hs : (assignEach (e :: es) X.env).map (·.2) = assign e X.env :: (assignEach es X.env).map (·.2) := by rfl) : PGNs X F (e :: es) (t1 ++ t2) (gsCons g gs) :=
  pgs_imp (pgs_cons ha hb hs) fun v σ H Q h => by
    obtain ⟨Z, env, d, env', r, hd, e, q⟩ := h
    cases hd with
    | nil => cases e
    | cons d1 dr =>
      obtain ⟨e1, h1, h⟩ := bnd e
      refine ⟨_, _, rfl, Z, env, _, e1, r, d1, h1, fun σ' r' k1 => ⟨Z, e1, _, env', r', dr, h, fun σ2 r2 k2 => q σ2 r2 ⟨fun i hi => ?_, k2.l.trans k1.l, fun i dv e o => ?_⟩⟩⟩
      · rw [List.mem_append, not_or] at hi
        rw [k2.s i hi.2, k1.s i hi.1]
      · obtain ⟨a1, b1⟩ := k2.o i dv e o
        obtain ⟨a2, b2⟩ := k1.o i dv b1 o
        exact ⟨by rw [List.mem_append, not_or]; exact ⟨a2, a1⟩, b2⟩
theorem gn_tup {n kk : Nat} {ts : List Nat} {gs : List PyData → DEnv → Option DEnv} (h : PGNs X F es ts gs) (hc : X.calm = true := by rfl) (hn : (assignEach es X.env).length = n := by rfl) (hst : (assignEach es X.env).findIdx? (·.1) = none := by rfl) : PGN X F (.Tuple es kk pos) ts (gTupD n gs) :=
  pg_imp (pg_tup hc h hn hst) fun v σ H Q h => by
    obtain ⟨Z, env, d, env', r, hd, e, q⟩ := h
    cases hd with
    | @tup a xs ds hs ha =>
      change (if ds.length = n then gs ds env else none) = some env' at e
      by_cases hl : ds.length = n
      · rw [if_pos hl] at e
        exact ⟨a, xs, rfl, same_sqT r.zh hs, (dds_len ha).trans hl, Z, env, ds, env', r, ha, e, q⟩
      · rw [if_neg hl] at e; cases e
    | _ => cases e
def lcD (g : PyData → DEnv → Option DEnv) (ft : DEnv → Option (Bool × DEnv)) (fe : DEnv → Option (PyData × DEnv)) (vs : List Nat) : List PyData → DEnv → Option (List PyData × DEnv)
  | [], env => some ([], env)
  | d :: ds, env => (g d env).bind fun e1 => (ft e1).bind fun t => if t.1 then (fe t.2).bind fun y => (lcD g ft fe vs ds (wipeE y.2 vs)).map fun r => (y.1 :: r.1, r.2) else lcD g ft fe vs ds (wipeE t.2 vs)
def nLc (fi : DEnv → Option (List PyData × DEnv)) (g : PyData → DEnv → Option DEnv) (ft : DEnv → Option (Bool × DEnv)) (fe : DEnv → Option (PyData × DEnv)) (vs : List Nat) (env : DEnv) : Option (List PyData × DEnv) :=
  (fi env).bind fun x => if x.1.length ≤ lim then lcD g ft fe vs x.1 (wipeE x.2 vs) else none
def fYes (env : DEnv) : Option (Bool × DEnv) := some (true, env)
def PDTs (X : Cx) (F : Fm) (ifs : List Expr) (ft : DEnv → Option (Bool × DEnv)) : Prop := PTs X ifs (tDT X.K F ft)
theorem dts_nil : PDTs X F [] fYes := ⟨fun pins s σ H Q I h => pts_nil.run pins s σ H Q I (by
  obtain ⟨Z, env, d, env', r, e, q⟩ := h
  cases e
  exact q Z H r Stp.refl)⟩
theorem dts_one (h : PDT X F c ft) : PDTs X F [c] ft := pts_one h
theorem lc_read {K : PySem.W.Frag} {ts vs : List Nat} {g : PyData → DEnv → Option DEnv} {fe : DEnv → Option (PyData × DEnv)} (hts : ∀ i ∈ ts, i ∈ vs) {σ : St} {H : Hp} {Q : VK} (h : tDN K F (nLc fi g ft fe vs) σ H Q) :
    tLc (tDI K F fi) (tGN K F ts g) (tDT K F ft) (tD K F fe) vs σ H Q := by
  obtain ⟨Z, env, rs, env', r, e, q⟩ := h
  obtain ⟨⟨ds, e1⟩, e0, e⟩ := bnd e
  dsimp only at e
  split at e
  case isFalse => cases e
  rename_i hlim
  refine ⟨Z, env, ds, e1, r, e0, fun J Z1 H1 r1 s1 w D hD => ?_⟩
  obtain ⟨G, Y, wk, hG, hY⟩ := w
  have hD0 : H D = none := s1.new hD
  have zD1 : Z1 D = none := r1.zh.free hD
  have g1 : Grow Z1 H1 Z1 (upd H1 D (.lst [])) := grow_own r1.zh hD _
  have frD : Fre σ env D := fre_new r hD0
  -- the turn
  refine lc_it wk (fun i Hc => ∃ Zc ec acc ad rest, Same Z1 Zc ∧ Rel K F Zc Hc (wipe σ vs) ec ∧ (∀ (j : Nat) (dv : DV), ec[j]? = some (some dv) → j ∉ vs) ∧ Stp σ env Z H ec Zc Hc ∧ Hc D = some (.lst acc) ∧ Zc D = none ∧ acc.length ≤ i ∧ DDs K Zc acc ad ∧
      lcD g ft fe vs (ds.drop i) ec = some (rest, env') ∧ rs = ad ++ rest) ?_ ?_ ?_ ?_
  · refine ⟨Z1, wipeE e1 vs, [], [], rs, Same.refl _, (r1.grow g1).wipe vs, fun j dv e => (wipeE_in _ _ _ _ e).1, ?_, upd_same, zD1, Nat.le_refl _, .nil, e, rfl⟩
    have s2 := s1.trans g1.stp
    exact ⟨s2.z, s2.h, s2.n, fun i dv e o => s2.o i dv (wipeE_in _ _ _ _ e).2 o, s2.k⟩
  · rintro i Hc hi ⟨Zc, ec, acc, ad, rest, sz, rc, _⟩
    exact hG Hc (sz.trans rc.zh)
  · rintro i x Hc H2 hi ⟨Zc, ec, acc, ad, rest, sz, rc, nv, st, hDc, zDc, hla, dacc, el, eq⟩ y
    obtain ⟨Zn, d, gr, hd, dd⟩ := hY i Hc x H2 Zc hi y sz rc.zh
    have ed : ds.drop i = d :: ds.drop (i + 1) := by
      obtain ⟨hl, hx⟩ := List.getElem?_eq_some_iff.mp hd
      rw [← hx]
      exact List.drop_eq_getElem_cons hl
    rw [ed] at el
    obtain ⟨e2, g2, el⟩ := bnd el
    obtain ⟨⟨tb, e3⟩, t2, el⟩ := bnd el
    have stn : Stp σ env Z H ec Zn H2 := by
      have b := gr.stp (σ := σ) (env := ec)
      exact st.trans b
    have zDn : Zn D = none := by
      cases hh : Zn D with
      | none => rfl
      | some o =>
        rcases gr.n D (by rw [hh]; simp) with z | z
        · exact absurd zDc z
        · rw [hDc] at z; cases z
    have hDn : H2 D = some (.lst acc) := gr.h.h D _ hDc nt_lst
    refine ⟨Zn, ec, d, e2, rc.grow gr, dd, g2, fun σ2 r2 k2 => ⟨?_, ?_⟩⟩
    · rw [wipe_eq (σ := wipe σ vs) (τ := σ2) k2.l (fun j hj => k2.s j fun z => hj (hts j z))]
      exact wipe_eq (wipe_length σ vs) fun j hj => wipe_get σ vs j hj
    have wst : wipe σ2 vs = wipe σ vs := by
      rw [wipe_eq (σ := wipe σ vs) (τ := σ2) k2.l (fun j hj => k2.s j fun z => hj (hts j z))]
      exact wipe_eq (wipe_length σ vs) fun j hj => wipe_get σ vs j hj
    -- an address that is free of owned slots at the start is so in the turn
    have free2 : ∀ q, Fre σ env q → Fre σ2 e2 q := fun q f j dv ej oj sj => by
      obtain ⟨a1, b1⟩ := k2.o j dv ej oj
      obtain ⟨dv0, b2, o2⟩ := st.o j dv b1 oj
      refine f j dv0 b2 o2 ?_
      rw [← wipe_get σ vs j (nv j dv b1), ← k2.s j a1]
      exact sj
    have own2 : ∀ (j : Nat) (dv : DV), e2[j]? = some (some dv) → ownish dv = true → ∃ dv0, env[j]? = some (some dv0) ∧ ownish dv0 = true := fun j dv ej oj => by
      obtain ⟨a1, b1⟩ := k2.o j dv ej oj
      exact st.o j dv b1 oj
    -- a step in the turn, seen from the start
    have lift : ∀ {e4 : DEnv} {Z4 H4 : Hp}, Stp σ2 e2 Zn H2 e4 Z4 H4 → Stp σ env Z H (wipeE e4 vs) Z4 H4 := fun {e4 Z4 H4} b => by
      refine ⟨stn.z.trans b.z, fun q o hq n f => b.h q o (stn.h q o hq n f) n (free2 q f), fun q h4 h0 hh f => ?_, fun j dv ej oj => ?_, fun q hq => b.k q (stn.k q hq)⟩
      · by_cases hz : Zn q = none
        · have h1 : H2 q ≠ none := stn.k q hh
          exact b.n q h4 hz h1 (free2 q f)
        · exact stn.n q hz h0 hh f
      · obtain ⟨a1, b1⟩ := b.o j dv (wipeE_in _ _ _ _ ej).2 oj
        exact own2 j a1 b1.1 b1.2
    refine ⟨Zn, e2, tb, e3, r2, t2, fun Z3 H3 r3 s3 => ?_⟩
    have hD3 : H3 D = some (.lst acc) := s3.h D _ hDn nt_lst (free2 D frD)
    have zD3 : Z3 D = none := by
      cases hh : Z3 D with
      | none => rfl
      | some o => exact absurd (free2 D frD) (s3.n D (by rw [hh]; simp) zDn (by rw [hDn]; simp))
    cases tb with
    | false =>
      refine iteF ⟨Z3, wipeE e3 vs, acc, ad, rest, (sz.trans gr.z).trans s3.z, ?_, fun j dv e => (wipeE_in _ _ _ _ e).1, lift s3, hD3, zD3, Nat.le_succ_of_le hla, DDsm dacc (gr.z.trans s3.z), el, eq⟩
      have := r3.wipe vs
      rw [wst] at this
      exact this
    | true =>
      obtain ⟨⟨yv, e4⟩, y2, el⟩ := bnd el
      obtain ⟨⟨rr, e5⟩, l2, el⟩ := mpd el
      cases el
      refine iteT ⟨Z3, e3, yv, e4, r3, y2, fun v Z4 H4 r4 s4 d4 => ?_⟩
      have s34 := s3.trans s4
      have hD4 : H4 D = some (.lst acc) := s34.h D _ hDn nt_lst (free2 D frD)
      have zD4 : Z4 D = none := by
        cases hh : Z4 D with
        | none => rfl
        | some o => exact absurd (free2 D frD) (s34.n D (by rw [hh]; simp) zDn (by rw [hDn]; simp))
      have hlt : acc.length < sizeLine := Nat.lt_of_lt_of_le (Nat.lt_of_le_of_lt hla hi) (Nat.le_trans hlim lim_le)
      refine ⟨acc, hD4, hlt, Z4, wipeE e4 vs, acc ++ [v], ad ++ [yv], rr, (sz.trans gr.z).trans s34.z, ?_, fun j dv e => (wipeE_in _ _ _ _ e).1, ?_, upd_same, zD4, ?_, dds_app (DDsm dacc (gr.z.trans s34.z)) (.cons d4 .nil), l2, ?_⟩
      · have pk := pok_upd r4.zh zD4 hD4 (.lst (acc ++ [v]))
        have rp := r4.poke0 (s34.fre (free2 D frD)) (r.gh.free hD0) (fun z => (r.pp D z).1 hD0) pk (by rw [upd_same]; simp)
        have := rp.wipe vs
        rw [wst] at this
        exact this
      · have b := lift s34
        refine ⟨b.z, fun q o hq n f => ?_, b.n, b.o, fun q hq => ?_⟩
        · rw [upd_ne (fun z => by rw [z, hD0] at hq; cases hq)]
          exact b.h q o hq n f
        · by_cases hqD : q = D
          · subst hqD; rw [upd_same]; simp
          · rw [upd_ne hqD]; exact b.k q hq
      · rw [List.length_append]; exact Nat.succ_le_succ hla
      · rw [eq, List.append_assoc]; rfl
  · rintro Hc ⟨Zc, ec, acc, ad, rest, sz, rc, nv, st, hDc, zDc, hla, dacc, el, eq⟩
    rw [List.drop_length] at el
    cases el
    rw [List.append_nil] at eq
    subst eq
    exact q D acc Zc Hc (rc.unwipe nv) st hD0 zDc hDc dacc
end
end DL
end L2


set_option Elab.async false
set_option maxRecDepth 100000
set_option maxHeartbeats 4000000
set_option autoImplicit false
namespace L2
namespace DL
open PySem PySem.Spec PyProof.Rows
variable [Lab]
section
variable {X : Cx} {F : Fm} {a b c e tg iter elt : Expr} {es ifs : List Expr} {pos p pn : Pos} {x y : Str} {f fe : DEnv → Option (PyData × DEnv)} {fa fi : DEnv → Option (List PyData × DEnv)} {ft : DEnv → Option (Bool × DEnv)} {scope : Scope} {ts : List Nat} {g : PyData → DEnv → Option DEnv}
theorem pn_lc (own : List (Str × Nat)) (hN : X.N.Nodup) (hi : PDI X F tg iter fi) (ok : BlkOk X.N X.env.scope scope own)
    (hg : ∀ (s : Shared) (H : Hp) (C : Addr) (cl : List (Str × Addr)) (fp : List Addr), PGN (X.blk s H scope (compEnvC scope cl C X.env) fp) F tg ts g) (ht : ∀ (s : Shared) (H : Hp) (C : Addr) (cl : List (Str × Addr)) (fp : List Addr), PDTs (X.blk s H scope (compEnvC scope cl C X.env) fp) F ifs ft)
    (he : ∀ (s : Shared) (H : Hp) (C : Addr) (cl : List (Str × Addr)) (fp : List Addr), PD (X.blk s H scope (compEnvC scope cl C X.env) fp) F elt fe) (hts : ∀ i ∈ ts, i ∈ own.map (·.2) := by decide) (hc : X.calm = true := by rfl) (hs : ∀ x, foldedSetIterable iter X.env x = pure x := by intro _; rfl) :
    PN X F (.ListComp elt [⟨tg, iter, ifs, 0⟩] scope pos) (nLc fi g ft fe (own.map (·.2))) :=
  pe_imp (pe_lc (g := tGN X.K F ts g) (tt := tDT X.K F ft) (te := tD X.K F fe) hc hN hi ok hg ht he hs) fun _ _ _ h => lc_read hts h
theorem ds_setLc (i : Nat) {py spos : Pos} (own : List (Str × Nat)) (hN : X.N.Nodup) (hi : PDI X F tg iter fi) (ok : BlkOk X.N X.env.scope scope own)
    (hg : ∀ (s : Shared) (H : Hp) (C : Addr) (cl : List (Str × Addr)) (fp : List Addr), PGN (X.blk s H scope (compEnvC scope cl C X.env) fp) F tg ts g) (ht : ∀ (s : Shared) (H : Hp) (C : Addr) (cl : List (Str × Addr)) (fp : List Addr), PDTs (X.blk s H scope (compEnvC scope cl C X.env) fp) F ifs ft)
    (he : ∀ (s : Shared) (H : Hp) (C : Addr) (cl : List (Str × Addr)) (fp : List Addr), PD (X.blk s H scope (compEnvC scope cl C X.env) fp) F elt fe) (hsw : swapsWith (.ListComp elt [⟨tg, iter, ifs, 0⟩] scope pos) (some (.Name y py)) spos.line X.env = pure true)
    (hy : X.N[i]? = some y := by rfl) (hyl : X.env.scope.names.lookup y = some .local := by rfl) (hts : ∀ i ∈ ts, i ∈ own.map (·.2) := by decide) (hc : X.calm = true := by rfl) (hs : ∀ x, foldedSetIterable iter X.env x = pure x := by intro _; rfl) :
    PDS X F (.Assign [.Name y py] (.ListComp elt [⟨tg, iter, ifs, 0⟩] scope pos) spos) (sSetN i (nLc fi g ft fe (own.map (·.2)))) :=
  ps_imp (ps_setLc (g := tGN X.K F ts g) (tt := tDT X.K F ft) (te := tD X.K F fe) hc hN hy hyl hsw hi ok hg ht he hs) fun D σ H h => by
    obtain ⟨Z, env, fl, r, e, q⟩ := h
    obtain ⟨⟨d, e1⟩, h1, h⟩ := mpd e
    subst h
    exact lc_read hts ⟨Z, env, d, e1, r, h1, fun p xs Z' H' r' s' h0 hz hp dd => q _ Z' H' (r'.storeN i (s'.fre (fre_new r h0)) (fun z => (r.pp p z).1 h0) (r.gh.free h0) hz hp dd) s'.z⟩
end

/-! ### defs by their bodies -/
def startE (n : Nat) (ds : List PyData) : DEnv := ds.map (fun d => some (.fr d)) ++ List.replicate (n - ds.length) none
def runF (n N : Nat) (g : DEnv → Option DFlow) (ds : List PyData) : Option PyData := if ds.length = n then (match g (startE N ds) with
  | some (.rt d _) => some d
  | some (.nx _) => some .none
  | _ => none) else none
theorem runF_len {n N : Nat} {g : DEnv → Option DFlow} (ds : List PyData) (r : PyData) (h : runF n N g ds = some r) : ds.length = n := by
  unfold runF at h
  split at h
  · assumption
  · cases h
def runN (n N : Nat) (g : DEnv → Option DFlow) (ds : List PyData) : Option (List PyData) := if ds.length = n then (match g (startE N ds) with
  | some (.rn d _) => some d
  | _ => none) else none
theorem runN_len {n N : Nat} {g : DEnv → Option DFlow} (ds : List PyData) (r : List PyData) (h : runN n N g ds = some r) : ds.length = n := by
  unfold runN at h
  split at h
  · assumption
  · cases h
def rf0 (env : DEnv) : Option (List PyData) := match env with
  | some (.rf es) :: _ => some es
  | _ => none
def runR (n N : Nat) (g : DEnv → Option DFlow) (es ds : List PyData) : Option (PyData × List PyData) := if ds.length + 1 = n then (match g (some (.rf es) :: startE (N - 1) ds) with
  | some (.rt d env) => (rf0 env).map fun x => (d, x)
  | some (.nx env) => (rf0 env).map fun x => (.none, x)
  | _ => none) else none
theorem runR_len {n N : Nat} {g : DEnv → Option DFlow} (es ds : List PyData) (r : PyData × List PyData) (h : runR n N g es ds = some r) : ds.length + 1 = n := by
  unfold runR at h
  split at h
  · assumption
  · cases h
theorem startE_len {N : Nat} {ds : List PyData} (h : ds.length ≤ N) : (startE N ds).length = N := by
  unfold startE
  rw [List.length_append, List.length_map, List.length_replicate]
  omega
theorem start_len {N : List Str} {vs : List V} (h : vs.length ≤ N.length) : (start N vs).length = N.length := by
  unfold start
  rw [List.length_append, List.length_map, List.length_replicate]
  omega
theorem startE_get {n i : Nat} {ds : List PyData} {dv : DV} (h : (startE n ds)[i]? = some (some dv)) : ∃ d, ds[i]? = some d ∧ dv = .fr d := by
  unfold startE at h
  by_cases hi : i < ds.length
  · rw [List.getElem?_append_left (by rw [List.length_map]; exact hi), List.getElem?_map, List.getElem?_eq_getElem hi] at h
    cases h
    exact ⟨_, List.getElem?_eq_getElem hi, rfl⟩
  · rw [List.getElem?_append_right (by rw [List.length_map]; omega), List.getElem?_replicate] at h
    split at h <;> cases h
theorem start_get {N : List Str} {vs : List V} {i : Nat} {v : V} (h : vs[i]? = some v) : (start N vs)[i]? = some (some v) := by
  obtain ⟨hl, hx⟩ := List.getElem?_eq_some_iff.mp h
  unfold start
  rw [List.getElem?_append_left (by rw [List.length_map]; exact hl), List.getElem?_map, h]
  rfl
section
variable {P : Program} {w : World} {K : PySem.W.Frag} {mg : Str → Option Value} {base : Heap} {x qual : Str} {st : Stmt} {f : Addr} {fd : FuncData} {N ps : List Str} {k : Nat} {g : DEnv → Option DFlow}
/-- what a body's derivation is asked for -/
abbrev BodyOk (P : Program) (w : World) (K : PySem.W.Frag) (mg : Str → Option Value) (base : Heap) (N : List Str) (qual : Str) (st : Stmt) (f : Addr) (cv : Value) (k : Nat) (g : DEnv → Option DFlow) : Prop :=
  ∀ (cdv : Value) (A : Around) (outer : List Env) (s : Shared) (H : Hp) (E : XK) (F : Fm), cdv = cv → F.W = W0 → GdOk (A.deeper (envOfC qual (defScope st) s.heap.objs.size f cdv)) → Room k (A.deeper (envOfC qual (defScope st) s.heap.objs.size f cdv)) →
    PDSs (cxOf CX0 P w K mg base N qual (defScope st) f cdv A outer s H E).nox F (defBody st) g
theorem pure_start {Z H : Hp} {vs : List V} {ds : List PyData} (sz : Same Z H) (tb : TB H) (hd : DDs K Z vs ds) (hl : vs.length ≤ N.length) : Rel K ⟨Z, H, fun _ => False, W0⟩ Z H (start N vs) (startE N.length ds) := by
  have hvd := dds_len hd
  refine ⟨Same.refl Z, sz, Same.refl H, fun q h => .inl h, fun q h => h.elim, by rw [start_len hl, startE_len (by omega)], fun i dv e => ?_, fun i j di dj q ei ej oi => ?_, tb⟩
  · obtain ⟨d, e1, rfl⟩ := startE_get e
    obtain ⟨v, e2, e3⟩ := dds_get hd e1
    exact ⟨v, start_get e2, e3⟩
  · obtain ⟨d, e1, rfl⟩ := startE_get ei
    cases oi
theorem fn_pure (D : Fun K x qual st f fd) (S : FnScope N ps (defScope st)) (hb : BodyOk P w K mg base N qual st f fd.code k g) : FnG P w K mg base (k + 1) f fd ps (spF K ps.length (runF ps.length N.length g)) := by
  refine fng_of D S (fun vs H Q E h => h.1) fun cdv A outer s H vs Q E hcv hg hr h => ?_
  obtain ⟨hl, Z, ds, r, sz, tb, hd, e, q⟩ := h
  have hN : ps.length ≤ N.length := by
    have := congrArg List.length S.pre
    rw [List.length_take] at this
    omega
  refine ⟨_, hb cdv A outer s H E ⟨Z, H, fun _ => False, W0⟩ hcv rfl hg hr, Z, startE N.length ds, ?_⟩
  have r0 := pure_start (K := K) (N := N) sz tb hd (by omega)
  have fin : ∀ {Z' H' : Hp} {σ' : St} {e' : DEnv}, Rel K ⟨Z, H, fun _ => False, W0⟩ Z' H' σ' e' → Grow Z H Z' H' := fun {Z' H' σ' e'} r' => ⟨r'.z0, r'.zh, r'.gh, fun _ => r'.tb, fun q hq => (r'.nw q hq).imp id (·.1)⟩
  unfold runF at e
  split at e
  case isFalse => cases e
  generalize hh : g (startE N.length ds) = o at e
  match o, e with
  | some (.rt d e'), e =>
    cases e
    exact ⟨_, r0, rfl, fun v σ' Z' H' r' s' dd => q v Z' H' (fin r') dd⟩
  | some (.nx e'), e =>
    cases e
    exact ⟨_, r0, rfl, fun σ' Z' H' r' s' => q .non Z' H' (fin r') .non⟩
theorem fn_new (D : Fun K x qual st f fd) (S : FnScope N ps (defScope st)) (hb : BodyOk P w K mg base N qual st f fd.code k g) : FnG P w K mg base (k + 1) f fd ps (spN K ps.length (runN ps.length N.length g)) := by
  refine fng_of D S (fun vs H Q E h => h.1) fun cdv A outer s H vs Q E hcv hg hr h => ?_
  obtain ⟨hl, Z, ds, r, sz, tb, hd, e, q⟩ := h
  have hN : ps.length ≤ N.length := by
    have := congrArg List.length S.pre
    rw [List.length_take] at this
    omega
  refine ⟨_, hb cdv A outer s H E ⟨Z, H, fun _ => False, W0⟩ hcv rfl hg hr, Z, startE N.length ds, ?_⟩
  have r0 := pure_start (K := K) (N := N) sz tb hd (by omega)
  unfold runN at e
  split at e
  case isFalse => cases e
  generalize hh : g (startE N.length ds) = o at e
  match o, e with
  | some (.rn d e'), e =>
    cases e
    exact ⟨_, r0, rfl, fun p xs σ' Z' H' r' s' hz hg' hp hh' dd => q p xs Z' H' ⟨r'.z0, r'.zh, r'.gh, fun _ => r'.tb, fun q hq => (r'.nw q hq).imp id (·.1)⟩ hg' hz hh' dd⟩
theorem fn_ref (D : Fun K x qual st f fd) (S : FnScope N ps (defScope st)) (hb : BodyOk P w K mg base N qual st f fd.code k g) : FnG P w K mg base (k + 1) f fd ps (spR K ps.length (runR ps.length N.length g)) := by
  refine fng_of D S (fun vs H Q E h => h.1) fun cdv A outer s H vs Q E hcv hg hr h => ?_
  obtain ⟨hl, Z, p, ws, xs, es, ds, r, es', rfl, sz, tb, zp, hp, hx, hd, e, q⟩ := h
  have hN : ps.length ≤ N.length := by
    have := congrArg List.length S.pre
    rw [List.length_take] at this
    omega
  have hwd := dds_len hd
  rw [List.length_cons] at hl
  refine ⟨_, hb cdv A outer s H E ⟨Z, fun q => if q = p then none else H q, fun q => q = p, W0⟩ hcv rfl hg hr, Z, some (.rf es) :: startE (N.length - 1) ds, ?_⟩
  have r0 : Rel K ⟨Z, fun q => if q = p then none else H q, fun q => q = p, W0⟩ Z H (start N (.ref p :: ws)) (some (.rf es) :: startE (N.length - 1) ds) := by
    refine ⟨Same.refl Z, sz, ⟨fun q o h _ => ?_, fun q h => ?_⟩, fun q h => .inl h, fun q h => ?_, ?_, fun i dv e => ?_, fun i j di dj q ei ej oi oj si sj => ?_, tb⟩
    · dsimp only at h
      split at h
      · cases h
      · exact h
    · dsimp only at h
      split at h
      · exact absurd rfl h
      · exact h
    · dsimp only at h
      subst h
      exact ⟨by rw [hp]; simp, zp, if_pos rfl⟩
    · rw [List.length_cons, startE_len (by omega), start_len (by rw [List.length_cons]; omega)]
      omega
    · cases i with
      | zero =>
        cases e
        exact ⟨p, xs, start_get rfl, rfl, hp, hx⟩
      | succ i =>
        rw [List.getElem?_cons_succ] at e
        obtain ⟨d, e1, rfl⟩ := startE_get e
        obtain ⟨v, e2, e3⟩ := dds_get hd e1
        exact ⟨v, start_get (by rw [List.getElem?_cons_succ]; exact e2), e3⟩
    · have z : ∀ (i : Nat) (dv : DV), (some (.rf es) :: startE (N.length - 1) ds)[i]? = some (some dv) → ownish dv = true → i = 0 := fun i dv e o => by
        cases i with
        | zero => rfl
        | succ i =>
          rw [List.getElem?_cons_succ] at e
          obtain ⟨d, e1, rfl⟩ := startE_get e
          cases o
      rw [z i di ei oi, z j dj ej oj]
  have fin : ∀ {Z' H' : Hp} {σ' : St} {e' : DEnv} {v : V}, Rel K ⟨Z, fun q => if q = p then none else H q, fun q => q = p, W0⟩ Z' H' σ' e' → rf0 e' = some es' → DD K Z' v r → Q v H' := fun {Z' H' σ' e' v} r' h0 dd => by
    match e', h0, r' with
    | some (.rf es2) :: rest, h0, r' =>
      cases h0
      obtain ⟨p', xs', a1, a2, a3, a4⟩ := r'.sl 0 _ rfl
      have a2 : p' = p := a2
      subst a2
      refine q v xs' Z' H' ⟨r'.z0, r'.zh, fun b o hb h n => r'.gh.h b o ?_ n, fun b hb h => r'.gh.k b ?_, fun _ => r'.tb, fun b hb => ?_⟩ a3 a4 dd
      · show (if b = p' then none else H b) = some o
        rw [if_neg hb]; exact h
      · show (if b = p' then none else H b) ≠ none
        rw [if_neg hb]; exact h
      · rcases r'.nw b hb with h | ⟨h, h2⟩
        · exact .inl h
        · have h : (if b = p' then none else H b) = none := h
          rw [if_neg h2] at h
          exact .inr h
  unfold runR at e
  split at e
  case isFalse => cases e
  generalize hh : g (some (.rf es) :: startE (N.length - 1) ds) = o at e
  match o, e with
  | some (.rt d e'), e =>
    obtain ⟨x0, h0, h⟩ := mpd e
    cases h
    exact ⟨_, r0, rfl, fun v σ' Z' H' r' s' dd => fin r' h0 dd⟩
  | some (.nx e'), e =>
    obtain ⟨x0, h0, h⟩ := mpd e
    cases h
    exact ⟨_, r0, rfl, fun σ' Z' H' r' s' => fin (v := .non) r' h0 .non⟩
theorem fn_F {n n' : Nat} (D : Fun K x qual st f fd) (S : FnScope N ps (defScope st)) (h1 : ps.length = n) (h2 : N.length = n') (hb : BodyOk P w K mg base N qual st f fd.code k g) : FnG P w K mg base (k + 1) f fd ps (spF K n (runF n n' g)) := by
  subst h1 h2
  exact fn_pure D S hb
theorem fn_N {n n' : Nat} (D : Fun K x qual st f fd) (S : FnScope N ps (defScope st)) (h1 : ps.length = n) (h2 : N.length = n') (hb : BodyOk P w K mg base N qual st f fd.code k g) : FnG P w K mg base (k + 1) f fd ps (spN K n (runN n n' g)) := by
  subst h1 h2
  exact fn_new D S hb
theorem fn_R {n n' : Nat} (D : Fun K x qual st f fd) (S : FnScope N ps (defScope st)) (h1 : ps.length = n) (h2 : N.length = n') (hb : BodyOk P w K mg base N qual st f fd.code k g) : FnG P w K mg base (k + 1) f fd ps (spR K n (runR n n' g)) := by
  subst h1 h2
  exact fn_ref D S hb
end
end DL
end L2


set_option Elab.async false
set_option maxRecDepth 100000
set_option maxHeartbeats 4000000
set_option autoImplicit false
namespace L2
namespace DL
open PySem PySem.Spec PyProof.Rows
variable [Lab]
section
variable {X : Cx}
/-! ### operators on data -/
def addD : PyData → PyData → Option PyData
  | .int i, .int j => some (.int (i + j))
  | .str a, .str b => if a.length + b.length ≤ lim then some (.str (a ++ b)) else none
  | .tuple a, .tuple b => if a.length + b.length ≤ lim then some (.tuple (a ++ b)) else none
  | .list a, .list b => if a.length + b.length ≤ lim then some (.list (a ++ b)) else none
  | _, _ => none
theorem od_add : OpD X (binaryOp .Add) addD := by
  intro pins s σ H x y v u Q I rx ry h
  obtain ⟨Z, a, b, d, sz, ha, hb, e, q⟩ := h
  have hlim : lim = 100000 := rfl
  have hsl := sizeLine_eq
  match a, b, ha, hb, e with
  | .int i, .int j, ha, hb, e =>
    cases e; cases ha.int_inv; cases hb.int_inv
    exact op_add pins s σ H _ _ v u Q I rx ry ⟨i, j, rfl, rfl, q _ Z H (Grow.refl sz) (.int _)⟩
  | .str i, .str j, ha, hb, e =>
    change (if i.length + j.length ≤ lim then some (PyData.str (i ++ j)) else none) = some d at e
    split at e
    case isFalse => cases e
    cases e; cases ha.str_inv; cases hb.str_inv
    exact op_add_str pins s σ H _ _ v u Q I rx ry ⟨i, j, rfl, rfl, by omega, q _ Z H (Grow.refl sz) (.str _)⟩
  | .tuple i, .tuple j, ha, hb, e =>
    change (if i.length + j.length ≤ lim then some (PyData.tuple (i ++ j)) else none) = some d at e
    split at e
    case isFalse => cases e
    cases e
    cases ha with
    | @tup p xs _ hx dx =>
      cases hb with
      | @tup p' ys _ hy dy =>
        have l1 := dds_len dx
        have l2 := dds_len dy
        refine op_catA pins s σ H _ _ v u Q I rx ry ⟨p, p', xs, ys, rfl, rfl, same_sqT sz hx, same_sqT sz hy, by omega, fun e0 => ?_, fun n0 e0 => ?_, fun n0 n1 p hp => ?_⟩
        · have : i = [] := by cases i with | nil => rfl | cons _ _ => rw [e0] at l1; cases l1
          rw [this] at q
          exact q _ Z H (Grow.refl sz) (.tup hy dy)
        · have : j = [] := by cases j with | nil => rfl | cons _ _ => rw [e0] at l2; cases l2
          rw [this, List.append_nil] at q
          exact q _ Z H (Grow.refl sz) (.tup hx dx)
        · exact q _ _ _ (grow_new sz hp _) (new_tup sz hp (dds_app dx dy))
  | .list i, .list j, ha, hb, e =>
    change (if i.length + j.length ≤ lim then some (PyData.list (i ++ j)) else none) = some d at e
    split at e
    case isFalse => cases e
    cases e
    cases ha with
    | @lst p xs _ hx dx =>
      cases hb with
      | @lst p' ys _ hy dy =>
        have l1 := dds_len dx
        have l2 := dds_len dy
        cases rx
        cases ry
        obtain ⟨z, its, n, r, e1⟩ := (same_ls sz hx).isL I
        obtain ⟨z2, its2, n2, r2, e2⟩ := (same_ls sz hy).isL I
        have k1 := r.length
        have k2 := r2.length
        refine PySem.P.add_list e1 e2 ?_ (by rw [List.size_toArray, List.size_toArray]; omega)
        have ea : its.toArray ++ its2.toArray = (its ++ its2).toArray := by simp
        rw [ea]
        exact ⟨.ref _, _, I.lnew (t' := s.toks) (r.append r2) (by rw [List.length_append]; omega), rfl, q _ _ _ (grow_new sz I.fresh _) (new_lst sz I.fresh (dds_app dx dy))⟩
def intD (c : Int → Int → Bool) (o : Int → Int → PyData) : PyData → PyData → Option PyData
  | .int i, .int j => if c i j then some (o i j) else none
  | _, _ => none
theorem od_int {f : Value → Value → Sem Value} {C : Int → Int → Prop} {g : Int → Int → V} {c : Int → Int → Bool} {o : Int → Int → PyData} (h : OpR X f (rI C g)) (hc : ∀ i j, c i j = true → C i j) (hd : ∀ K Z i j, DD K Z (g i j) (o i j)) : OpD X f (intD c o) := by
  intro pins s σ H x y v u Q I rx ry h0
  obtain ⟨Z, a, b, d, sz, ha, hb, e, q⟩ := h0
  match a, b, ha, hb, e with
  | .int i, .int j, ha, hb, e =>
    change (if c i j then some (o i j) else none) = some d at e
    split at e
    case isFalse => cases e
    rename_i hcc
    cases e; cases ha.int_inv; cases hb.int_inv
    exact h pins s σ H _ _ v u Q I rx ry ⟨i, j, rfl, rfl, hc i j hcc, q _ Z H (Grow.refl sz) (hd _ _ _ _)⟩
theorem op_rI0 {f : Value → Value → Sem Value} {g : Int → Int → V} (h : OpR X f (rI0 g)) : OpR X f (rI (fun _ _ => True) g) := fun pins s σ H x y v u Q I rx ry ⟨i, j, a, b, _, q⟩ => h pins s σ H x y v u Q I rx ry ⟨i, j, a, b, q⟩
abbrev cTrue (_ _ : Int) : Bool := true
abbrev cMul (i j : Int) : Bool := decide (i.natAbs < 18446744073709551616) || decide (j.natAbs < 18446744073709551616)
abbrev cDiv (_ j : Int) : Bool := decide (0 < j) && decide (j < 1073741824)
abbrev cMod (_ j : Int) : Bool := decide (0 < j)
abbrev cPow (i j : Int) : Bool := decide (0 ≤ j) && decide (j ≤ 1000) && decide (i.natAbs < 1000)
abbrev subD := intD cTrue fun i j => .int (i - j)
abbrev mulD := intD cMul fun i j => .int (i * j)
abbrev fdivD := intD cDiv fun i j => .int (i / j)
abbrev modD := intD cMod fun i j => .int (i % j)
abbrev powD := intD cPow fun i j => .int (i ^ j.toNat)
abbrev ltD := intD cTrue fun i j => .bool (decide (i < j))
abbrev leD := intD cTrue fun i j => .bool (decide (i ≤ j))
abbrev gtD := intD cTrue fun i j => .bool (decide (j < i))
abbrev geD := intD cTrue fun i j => .bool (decide (j ≤ i))
theorem od_sub : OpD X (binaryOp .Sub) subD := od_int (op_rI0 op_sub) (fun _ _ _ => trivial) fun _ _ _ _ => .int _
theorem od_mul : OpD X (binaryOp .Mult) mulD := od_int op_mul (fun i j h => by
  rw [cMul, Bool.or_eq_true, decide_eq_true_eq, decide_eq_true_eq] at h
  unfold CMul
  rcases h with h | h
  · left; omega
  · right; omega) fun _ _ _ _ => .int _
theorem od_fdiv : OpD X (binaryOp .FloorDiv) fdivD := od_int op_fdiv (fun i j h => by
  rw [cDiv, Bool.and_eq_true, decide_eq_true_eq, decide_eq_true_eq] at h
  exact h) fun _ _ _ _ => .int _
theorem od_mod : OpD X (binaryOp .Mod) modD := od_int op_mod (fun i j h => of_decide_eq_true h) fun _ _ _ _ => .int _
theorem od_pow : OpD X (binaryOp .Pow) powD := od_int op_pow (fun i j h => by
  rw [cPow, Bool.and_eq_true, Bool.and_eq_true, decide_eq_true_eq, decide_eq_true_eq, decide_eq_true_eq] at h
  unfold CPow
  omega) fun _ _ _ _ => .int _
theorem od_lt : OpD X (compareOp .Lt) ltD := od_int (op_rI0 op_lt) (fun _ _ _ => trivial) fun _ _ _ _ => .bl _
theorem od_le : OpD X (compareOp .LtE) leD := od_int (op_rI0 op_le) (fun _ _ _ => trivial) fun _ _ _ _ => .bl _
theorem od_gt : OpD X (compareOp .Gt) gtD := od_int (op_rI0 op_gt) (fun _ _ _ => trivial) fun _ _ _ _ => .bl _
theorem od_ge : OpD X (compareOp .GtE) geD := od_int (op_rI0 op_ge) (fun _ _ _ => trivial) fun _ _ _ _ => .bl _
/-- what may be compared -/
def shD (d : PyData) : Bool := SeqAt.shaped d && !d.hasDict
theorem shD_sh {d : PyData} (h : shD d = true) : SeqAt.shaped d = true := (Bool.and_eq_true_iff.mp h).1
theorem shD_nd {d : PyData} (h : shD d = true) : d.hasDict = false := by
  have := (Bool.and_eq_true_iff.mp h).2
  rwa [Bool.not_eq_true'] at this
/-- are they equal? -/
def eqB : PyData → PyData → Option Bool
  | .int i, .int j => some (decide (i = j))
  | .str i, .str j => some (decide (i = j))
  | a, b => if shD a && shD b then some (PyData.eqv a b) else none
def eqD (a b : PyData) : Option PyData := (eqB a b).map .bool
def neD (a b : PyData) : Option PyData := (eqB a b).map fun k => .bool (!k)
theorem eq_run {op : CmpOp} {neg : Bool → Bool} (h1 : OpR X (compareOp op) (fun x y H Q => scal x y = true ∧ Q (.bl (neg (decide (x = y)))) H)) (h2 : OpR X (compareOp op) (fun x y H Q => ∃ d e, Dp X.K H x d ∧ Dp X.K H y e ∧ SeqAt.shaped d = true ∧ SeqAt.shaped e = true ∧ Q (.bl (neg (PyData.eqv d e))) H)) :
    OpD X (compareOp op) (fun a b => (eqB a b).map fun k => .bool (neg k)) := by
  intro pins s σ H x y v u Q I rx ry h
  obtain ⟨Z, a, b, d, sz, ha, hb, e, q⟩ := h
  obtain ⟨k, ek, rfl⟩ := mpd e
  have deep : (if shD a && shD b then some (PyData.eqv a b) else none) = some k → wpAny (model X.prog X.w) X.A (compareOp op v u) (EP X pins σ Q) X.xe s := fun e => by
    split at e
    case isFalse => cases e
    rename_i hs
    rw [Bool.and_eq_true] at hs
    cases e
    exact h2 pins s σ H x y v u Q I rx ry ⟨a, b, DD.dp _ _ (shD_nd hs.1) (DDm ha sz), DD.dp _ _ (shD_nd hs.2) (DDm hb sz), shD_sh hs.1, shD_sh hs.2, q _ Z H (Grow.refl sz) (.bl _)⟩
  unfold eqB at ek
  split at ek
  · cases ek; cases ha.int_inv; cases hb.int_inv
    refine h1 pins s σ H _ _ v u Q I rx ry ⟨rfl, ?_⟩
    rename_i i j
    have : decide (V.int i = V.int j) = decide (i = j) := by
      by_cases z : i = j
      · subst z; simp
      · rw [decide_eq_false z, decide_eq_false (fun w => z (V.int.inj w))]
    rw [this]
    exact q _ Z H (Grow.refl sz) (.bl _)
  · cases ek; cases ha.str_inv; cases hb.str_inv
    refine h1 pins s σ H _ _ v u Q I rx ry ⟨rfl, ?_⟩
    rename_i i j
    have : decide (V.str i = V.str j) = decide (i = j) := by
      by_cases z : i = j
      · subst z; simp
      · rw [decide_eq_false z, decide_eq_false (fun w => z (V.str.inj w))]
    rw [this]
    exact q _ Z H (Grow.refl sz) (.bl _)
  · exact deep ek
theorem od_eq {k : Nat} (hr : Room k X.A) : OpD X (compareOp .Eq) eqD := eq_run (neg := id) op_eq (op_eqD hr.units)
theorem od_ne {k : Nat} (hr : Room k X.A) : OpD X (compareOp .NotEq) neD := eq_run (neg := fun k => !k) op_ne (op_neD hr.units)
def inB (d c : PyData) : Option Bool := (seqD c).bind fun ds => if shD d && shD c then some (ds.any fun z => PyData.eqv z d) else none
def inD (d c : PyData) : Option PyData := (inB d c).map .bool
def notInD (d c : PyData) : Option PyData := (inB d c).map fun k => .bool (!k)
theorem room_in {k : Nat} {A : Around} (hr : Room k A) {d : PyData} {ds : List PyData} (h : SeqAt.shaped d = true) : A.units + 1 + min (PyData.depthAll ds) d.depth < cLine := by
  have h1 := SeqAt.depth_of_shaped h
  have h2 : min (PyData.depthAll ds) d.depth ≤ d.depth := Nat.min_le_right _ _
  have := hr.un
  omega
theorem od_in {k : Nat} (hr : Room k X.A) : OpD X (compareOp .In) inD := by
  intro pins s σ H x y v u Q I rx ry h
  obtain ⟨Z, a, b, d, sz, ha, hb, e, q⟩ := h
  obtain ⟨kk, ek, rfl⟩ := mpd e
  obtain ⟨ds, e1, ek⟩ := bnd ek
  split at ek
  case isFalse => cases ek
  rename_i hs
  rw [Bool.and_eq_true] at hs
  cases ek
  obtain ⟨as, r1⟩ := Dp.reads I a x v (DD.dp _ _ (shD_nd hs.1) (DDm ha sz)) rx
  obtain ⟨bs, r2⟩ := Dp.reads I b y u (DD.dp _ _ (shD_nd hs.2) (DDm hb sz)) ry
  have qq := q _ Z H (Grow.refl sz) (.bl _)
  match b, e1, r2, hs with
  | .list es, e1, r2, hs =>
    cases e1
    exact SeqAt.in_list_reads r2 r1 (SeqAt.canLay_of_shaped (shD_sh hs.2)) (SeqAt.canLay_of_shaped (shD_sh hs.1)) (room_in hr (shD_sh hs.1)) ⟨.bl _, H, I, rfl, qq⟩
  | .tuple es, e1, r2, hs =>
    cases e1
    exact SeqAt.in_tuple_reads r2 r1 (SeqAt.canLay_of_shaped (shD_sh hs.2)) (SeqAt.canLay_of_shaped (shD_sh hs.1)) (room_in hr (shD_sh hs.1)) ⟨.bl _, H, I, rfl, qq⟩
theorem od_notIn {k : Nat} (hr : Room k X.A) : OpD X (compareOp .NotIn) notInD := by
  intro pins s σ H x y v u Q I rx ry h
  obtain ⟨Z, a, b, d, sz, ha, hb, e, q⟩ := h
  obtain ⟨kk, ek, rfl⟩ := mpd e
  obtain ⟨ds, e1, ek⟩ := bnd ek
  split at ek
  case isFalse => cases ek
  rename_i hs
  rw [Bool.and_eq_true] at hs
  cases ek
  obtain ⟨as, r1⟩ := Dp.reads I a x v (DD.dp _ _ (shD_nd hs.1) (DDm ha sz)) rx
  obtain ⟨bs, r2⟩ := Dp.reads I b y u (DD.dp _ _ (shD_nd hs.2) (DDm hb sz)) ry
  have qq := q _ Z H (Grow.refl sz) (.bl _)
  match b, e1, r2, hs with
  | .list es, e1, r2, hs =>
    cases e1
    exact SeqAt.notIn_list_reads r2 r1 (SeqAt.canLay_of_shaped (shD_sh hs.2)) (SeqAt.canLay_of_shaped (shD_sh hs.1)) (room_in hr (shD_sh hs.1)) ⟨.bl _, H, I, rfl, qq⟩
  | .tuple es, e1, r2, hs =>
    cases e1
    exact SeqAt.notIn_tuple_reads r2 r1 (SeqAt.canLay_of_shaped (shD_sh hs.2)) (SeqAt.canLay_of_shaped (shD_sh hs.1)) (room_in hr (shD_sh hs.1)) ⟨.bl _, H, I, rfl, qq⟩
theorem inD_scal (a b d : PyData) (h : inD a b = some d) : scalD d = true := by obtain ⟨k, _, rfl⟩ := mpd h; rfl
theorem eqD_scal (a b d : PyData) (h : eqD a b = some d) : scalD d = true := by obtain ⟨k, _, rfl⟩ := mpd h; rfl
theorem neD_scal (a b d : PyData) (h : neD a b = some d) : scalD d = true := by obtain ⟨k, _, rfl⟩ := mpd h; rfl

/-! ### chains a < b < c -/
variable {F : Fm} {a b c e : Expr} {es : List Expr} {pos p pn p2 : Pos} {f g k : DEnv → Option (PyData × DEnv)} {fa : DEnv → Option (List PyData × DEnv)} {x y : Str}
def fChain (o o' : PyData → PyData → Option PyData) (f g k : DEnv → Option (PyData × DEnv)) (env : DEnv) : Option (PyData × DEnv) :=
  (f env).bind fun x => (g x.2).bind fun y => (o x.1 y.1).bind fun z => match z with
    | .bool true => (k y.2).bind fun w => (o' y.1 w.1).map fun d => (d, w.2)
    | .bool false => some (.bool false, y.2)
    | _ => none
theorem pd_chain {op op' : CmpOp} {o o' : PyData → PyData → Option PyData} (ho : OpD X (compareOp op) o) (ho' : OpD X (compareOp op') o') (ha : PD X F a f) (hb : PD X F b g) (hc : PD X F c k) (hm : lastMarks [op, op'] [b, c] = false := by with_unfolding_all rfl) :
    PD X F (.Compare a [op, op'] [b, c] pos) (fChain o o' f g k) := pe_imp (pe_chain ho ho' ha hb hc hm) fun σ H Q h => by
  obtain ⟨Z, env, d, env', r, e, q⟩ := h
  obtain ⟨⟨x, e1⟩, h1, h⟩ := bnd e
  obtain ⟨⟨y, e2⟩, h2, h⟩ := bnd h
  obtain ⟨z, h3, h⟩ := bnd h
  refine ⟨Z, env, x, e1, r, h1, fun v1 Z1 H1 r1 s1 d1 => ⟨Z1, e1, y, e2, r1, h2, fun v2 Z2 H2 r2 s2 d2 => ⟨Z2, x, y, z, r2.zh, DDm d1 s2.z, d2, h3, fun vz Z3 H3 gr dz => ?_⟩⟩⟩
  have s12 := s1.trans s2
  match z, h, dz with
  | .bool true, h, dz =>
    obtain ⟨⟨w, e3⟩, h4, h⟩ := bnd h
    obtain ⟨d', h5, h⟩ := mpd h
    cases h
    cases dz.bool_inv
    refine ⟨true, rfl, iteT ⟨Z3, e2, w, e3, r2.grow gr, h4, fun v3 Z4 H4 r4 s4 d4 => ⟨Z4, y, w, d, r4.zh, DDm (DDm d2 gr.z) s4.z, d4, h5, fun v5 Z5 H5 g5 d5 => ?_⟩⟩⟩
    exact q v5 Z5 H5 (r4.grow g5) (((s12.trans gr.stp).trans s4).trans g5.stp) d5
  | .bool false, h, dz =>
    cases h
    cases dz.bool_inv
    exact ⟨false, rfl, iteF (q _ Z3 H3 (r2.grow gr) (s12.trans gr.stp) (.bl false))⟩
/-! ### built-in functions on data -/
theorem dds1 {K : PySem.W.Frag} {Z : Hp} {vs : List V} {d : PyData} (h : DDs K Z vs [d]) : ∃ v, vs = [v] ∧ DD K Z v d := by
  cases h with
  | cons h1 h2 => cases h2; exact ⟨_, rfl, h1⟩
theorem dds2 {K : PySem.W.Frag} {Z : Hp} {vs : List V} {d e : PyData} (h : DDs K Z vs [d, e]) : ∃ v w, vs = [v, w] ∧ DD K Z v d ∧ DD K Z w e := by
  cases h with
  | cons h1 h2 =>
    obtain ⟨w, rfl, h3⟩ := dds1 h2
    exact ⟨_, w, rfl, h1, h3⟩
def lenD : List PyData → Option PyData
  | [.list ds] => some (.int ds.length)
  | [.tuple ds] => some (.int ds.length)
  | [.str x] => if x.length ≤ lim then some (.int x.length) else none
  | _ => none
theorem cd_len : CallD X (.builtin "len") lenD := by
  intro pins s σ H xs us Q I r h
  obtain ⟨Z, ds, d, sz, hd, e, q⟩ := h
  match ds, hd, e with
  | [.list ds], hd, e =>
    cases e
    obtain ⟨v, rfl, h1⟩ := dds1 hd
    cases h1 with
    | @lst a ys _ hr ha => exact call_len_seq pins s σ H _ us Q I r ⟨a, ys, rfl, .inl (same_ls sz hr).sq, by rw [dds_len ha]; exact q _ Z H (Grow.refl sz) (.int _)⟩
  | [.tuple ds], hd, e =>
    cases e
    obtain ⟨v, rfl, h1⟩ := dds1 hd
    cases h1 with
    | @tup a ys _ hr ha => exact call_len_seq pins s σ H _ us Q I r ⟨a, ys, rfl, .inr (same_sqT sz hr), by rw [dds_len ha]; exact q _ Z H (Grow.refl sz) (.int _)⟩
  | [.str x], hd, e =>
    change (if x.length ≤ lim then some (PyData.int x.length) else none) = some d at e
    split at e
    case isFalse => cases e
    rename_i hx
    cases e
    obtain ⟨v, rfl, h1⟩ := dds1 hd
    cases h1.str_inv
    exact call_len_str pins s σ H _ us Q I r ⟨x, rfl, Nat.le_trans hx lim_le, q _ Z H (Grow.refl sz) (.int _)⟩
/-- len(name): the list as it stands -/
def fLenN (j : Nat) (env : DEnv) : Option (PyData × DEnv) := (rdB j env).bind fun d => (lenD [d]).map fun n => (n, env)
theorem pd_lenN (j : Nat) (hm : X.mg "len" = none) (hN : X.N[j]? = some y := by rfl) (hv : Vis X.env.scope y := by first | exact Or.inl rfl | exact Or.inr (Or.inl rfl) | exact Or.inr (Or.inr rfl)) (hd : (y == ("__debug__" : Str)) = false := by decide)
    (hcd : (y == ("__classdict__" : Str)) = false := by decide) (hg : Gl X "len" := by rfl) (he : starEach [.Name y pn] X.env = (false, eval (.Name y pn) X.env) :: starEach [] X.env := by rfl) (hpl : (backTo pos (starEach [] X.env)).any (·.1) = false := by rfl) :
    PD X F (.Call (.Name "len" p) [.Name y pn] [] pos) (fLenN j) :=
  pe_imp (pe_callB cd_len hg hm PySem.boot_len (pa_cons (pe_var hN hv hd hcd) pa_nil he) (by decide) (by decide) he hpl) fun σ H Q h => by
    obtain ⟨Z, env, d, env', r, e, q⟩ := h
    obtain ⟨d0, h1, e⟩ := bnd e
    obtain ⟨n, h2, e⟩ := mpd e
    cases e
    obtain ⟨v, sv, dv⟩ := r.rdB h1
    refine ⟨v, sv, H, [d0], d, Same.refl H, .cons dv .nil, h2, fun w Z' H' gr dd => ?_⟩
    have gr' : Grow Z H Z H' := ⟨Same.refl _, r.zh.trans gr.h, gr.h, gr.t, fun _ z => .inl z⟩
    refine q w Z H' (r.grow gr') gr'.stp (dd.scal ?_)
    match d0, h2 with
    | .list _, h2 => cases h2; rfl
    | .tuple _, h2 => cases h2; rfl
    | .str x, h2 =>
      change (if x.length ≤ lim then some (PyData.int x.length) else none) = some d at h2
      split at h2 <;> cases h2
      rfl
def absD : List PyData → Option PyData
  | [.int i] => some (.int (if i < 0 then -i else i))
  | _ => none
theorem cd_abs : CallD X (.builtin "abs") absD := by
  intro pins s σ H xs us Q I r h
  obtain ⟨Z, ds, d, sz, hd, e, q⟩ := h
  match ds, hd, e with
  | [.int i], hd, e =>
    cases e
    obtain ⟨v, rfl, h1⟩ := dds1 hd
    cases h1.int_inv
    exact call_abs pins s σ H _ us Q I r ⟨i, rfl, q _ Z H (Grow.refl sz) (.int _)⟩
def maxD : List PyData → Option PyData
  | [.int i, .int j] => some (.int (if j > i then j else i))
  | _ => none
def minD : List PyData → Option PyData
  | [.int i, .int j] => some (.int (if j < i then j else i))
  | _ => none
theorem cd_max (hc : X.calm = true) : CallD X (.builtin "max") maxD := by
  intro pins s σ H xs us Q I r h
  obtain ⟨Z, ds, d, sz, hd, e, q⟩ := h
  match ds, hd, e with
  | [.int i, .int j], hd, e =>
    cases e
    obtain ⟨v, w, rfl, h1, h2⟩ := dds2 hd
    cases h1.int_inv
    cases h2.int_inv
    exact call_max2 hc pins s σ H _ us Q I r ⟨i, j, rfl, q _ Z H (Grow.refl sz) (.int _)⟩
theorem cd_min (hc : X.calm = true) : CallD X (.builtin "min") minD := by
  intro pins s σ H xs us Q I r h
  obtain ⟨Z, ds, d, sz, hd, e, q⟩ := h
  match ds, hd, e with
  | [.int i, .int j], hd, e =>
    cases e
    obtain ⟨v, w, rfl, h1, h2⟩ := dds2 hd
    cases h1.int_inv
    cases h2.int_inv
    exact call_min2 hc pins s σ H _ us Q I r ⟨i, j, rfl, q _ Z H (Grow.refl sz) (.int _)⟩
def tupleD : List PyData → Option PyData
  | [.list ds] => some (.tuple ds)
  | [.tuple ds] => some (.tuple ds)
  | _ => none
theorem cd_tuple : CallD X (.type "tuple") tupleD := by
  intro pins s σ H xs us Q I r h
  obtain ⟨Z, ds, d, sz, hd, e, q⟩ := h
  match ds, hd, e with
  | [.list ds], hd, e =>
    cases e
    obtain ⟨v, rfl, h1⟩ := dds1 hd
    cases h1 with
    | @lst a ys _ hr ha => exact call_tuple_of pins s σ H _ us Q I r ⟨a, ys, rfl, .inl ⟨(same_ls sz hr).sq, fun l hl => q _ _ _ (grow_new sz hl _) (new_tup sz hl ha)⟩⟩
  | [.tuple ds], hd, e =>
    cases e
    obtain ⟨v, rfl, h1⟩ := dds1 hd
    cases h1 with
    | @tup a ys _ hr ha => exact call_tuple_of pins s σ H _ us Q I r ⟨a, ys, rfl, .inr ⟨same_sqT sz hr, q _ Z H (Grow.refl sz) (.tup hr ha)⟩⟩
def boolsD : List PyData → Option (List Bool)
  | [] => some []
  | .bool b :: r => (boolsD r).map (b :: ·)
  | _ => none
theorem bools_of {K : PySem.W.Frag} {Z : Hp} : ∀ {vs : List V} {ds : List PyData} {bs : List Bool}, DDs K Z vs ds → boolsD ds = some bs → vs = bs.map V.bl
  | _, [], bs, h, e => by cases e; cases h; rfl
  | _, .bool b :: r, bs, h, e => by
    obtain ⟨cs, e1, rfl⟩ := mpd e
    cases h with
    | cons h1 h2 =>
      cases h1.bool_inv
      rw [bools_of h2 e1]
      rfl
  | _, .none :: _, _, _, e => by cases e
  | _, .int _ :: _, _, _, e => by cases e
  | _, .str _ :: _, _, _, e => by cases e
  | _, .list _ :: _, _, _, e => by cases e
  | _, .tuple _ :: _, _, _, e => by cases e
  | _, .dict _ :: _, _, _, e => by cases e
def allD : List PyData → Option PyData
  | [.list ds] => (boolsD ds).map fun bs => .bool (bs.all id)
  | _ => none
theorem cd_all (hc : X.calm = true) : CallD X (.builtin "all") allD := by
  intro pins s σ H xs us Q I r h
  obtain ⟨Z, ds, d, sz, hd, e, q⟩ := h
  match ds, hd, e with
  | [.list ds], hd, e =>
    obtain ⟨bs, e1, rfl⟩ := mpd e
    obtain ⟨v, rfl, h1⟩ := dds1 hd
    cases h1 with
    | @lst a ys _ hr ha =>
      have := bools_of ha e1
      subst this
      exact cr_all hc pins s σ H _ us Q I r ⟨a, bs, rfl, (same_ls sz hr).sq, q _ Z H (Grow.refl sz) (.bl _)⟩
/-! repr -/
abbrev reprOk (d : PyData) : Bool := d.showable && !d.hasDict && decide (d.shown.length ≤ sizeLine) && decide (d.depth ≤ 64)
/-! ### subscripts -/
def ixD : PyData → PyData → Option PyData
  | .list ds, .int i => atI ds i
  | .tuple ds, .int i => atI ds i
  | _, _ => none
theorem dds_at {K : PySem.W.Frag} {Z : Hp} {vs : List V} {ds : List PyData} {i : Int} {d : PyData} (h : DDs K Z vs ds) (e : atI ds i = some d) : ∃ v, atI vs i = some v ∧ DD K Z v d := by
  unfold atI at e ⊢
  rw [dds_len h]
  obtain ⟨j, e1, e2⟩ := bnd e
  obtain ⟨v, e3, e4⟩ := dds_get h e2
  exact ⟨v, by rw [e1]; exact e3, e4⟩
theorem id_ix : IxR X (r2D X.K ixD) := by
  intro value slice pins s σ H x y v u Q I rx ry h hs
  obtain ⟨Z, a, b, d, sz, ha, hb, e, q⟩ := h
  match a, b, ha, hb, e with
  | .list ds, .int i, ha, hb, e =>
    cases hb.int_inv
    cases ha with
    | @lst p xs _ hr hd =>
      obtain ⟨w, e1, e2⟩ := dds_at hd e
      exact ix_list value slice pins s σ H _ _ v u Q I rx ry ⟨p, xs, i, w, rfl, rfl, (same_ls sz hr).sq, e1, q w Z H (Grow.refl sz) e2⟩ hs
  | .tuple ds, .int i, ha, hb, e =>
    cases hb.int_inv
    cases ha with
    | @tup p xs _ hr hd =>
      obtain ⟨w, e1, e2⟩ := dds_at hd e
      exact ix_tup value slice pins s σ H _ _ v u Q I rx ry ⟨p, xs, i, w, rfl, rfl, same_sqT sz hr, e1, q w Z H (Grow.refl sz) e2⟩ hs
theorem pd_ix (ha : PD X F a f) (hb : PD X F b g) (hs : PlainIx b := by exact fun _ _ => rfl) : PD X F (.Subscript a b pos) (fBin ixD f g) := pe_imp (pe_ix id_ix ha hb hs) fun _ _ _ h => bin_read h
/-- name[i]: the list as it stands -/
def fIxN (j : Nat) (f : DEnv → Option (PyData × DEnv)) (env : DEnv) : Option (PyData × DEnv) := (rdB j env).bind fun _ => (f env).bind fun x => (rdB j x.2).bind fun d => (ixD d x.1).map fun z => (z, x.2)
theorem pd_ixN (j : Nat) (hb : PD X F b f) (hN : X.N[j]? = some y := by rfl) (hv : Vis X.env.scope y := by first | exact Or.inl rfl | exact Or.inr (Or.inl rfl) | exact Or.inr (Or.inr rfl)) (hd : (y == ("__debug__" : Str)) = false := by decide)
    (hcd : (y == ("__classdict__" : Str)) = false := by decide) (hs : PlainIx b := by exact fun _ _ => rfl) : PD X F (.Subscript (.Name y pn) b pos) (fIxN j f) :=
  pe_imp (pe_ix (ix_list.or ix_tup) (pe_var hN hv hd hcd) hb hs) fun σ H Q h => by
    obtain ⟨Z, env, d, env', r, e, q⟩ := h
    obtain ⟨d0, h0, e⟩ := bnd e
    obtain ⟨⟨i, e1⟩, h1, e⟩ := bnd e
    obtain ⟨d1, h2, e⟩ := bnd e
    obtain ⟨z, h3, e⟩ := mpd e
    cases e
    obtain ⟨v, sv, _⟩ := r.rdB h0
    refine ⟨v, sv, Z, env, i, e1, r, h1, fun w Z1 H1 r1 s1 dw => ?_⟩
    unfold rdB at h2
    split at h2
    · rename_i dd ee
      cases h2
      obtain ⟨v', sv', dv⟩ := r1.sl j _ ee
      rw [sv] at sv'
      cases sv'
      match d1, i, dv, dw, h3 with
      | .list ds, .int i, dv, dw, h3 =>
        cases dw.int_inv
        cases dv with
        | @lst p xs _ hr hd =>
          obtain ⟨w, e1, e2⟩ := dds_at hd h3
          exact .inl ⟨p, xs, i, w, rfl, rfl, (same_ls r1.zh hr).sq, e1, q w Z1 H1 r1 s1 e2⟩
      | .tuple ds, .int i, dv, dw, h3 =>
        cases dw.int_inv
        cases dv with
        | @tup p xs _ hr hd =>
          obtain ⟨w, e1, e2⟩ := dds_at hd h3
          exact .inr ⟨p, xs, i, w, rfl, rfl, same_sqT r1.zh hr, e1, q w Z1 H1 r1 s1 e2⟩
    · rename_i ds ee
      cases h2
      obtain ⟨p, xs, sv', _, _, _, hp, hd⟩ := r1.sl j _ ee
      rw [sv] at sv'
      cases sv'
      match i, dw, h3 with
      | .int i, dw, h3 =>
        cases dw.int_inv
        obtain ⟨w, e1, e2⟩ := dds_at hd h3
        exact .inl ⟨p, xs, i, w, rfl, rfl, SqL.of hp, e1, q w Z1 H1 r1 s1 e2⟩
    · rename_i ds ee
      cases h2
      obtain ⟨p, xs, sv', _, hp, hd⟩ := r1.sl j _ ee
      rw [sv] at sv'
      cases sv'
      match i, dw, h3 with
      | .int i, dw, h3 =>
        cases dw.int_inv
        obtain ⟨w, e1, e2⟩ := dds_at hd h3
        exact .inl ⟨p, xs, i, w, rfl, rfl, SqL.of hp, e1, q w Z1 H1 r1 s1 e2⟩
    · cases h2; cases h3
    · cases h2

/-! ### slices -/
def cutD (ds : List PyData) (lo hi : Option Int) : List PyData := (ds.drop (HT.sIx ds.length 0 lo)).take (HT.sIx ds.length ds.length hi - HT.sIx ds.length 0 lo)
theorem dds_cut {K : PySem.W.Frag} {Z : Hp} {vs : List V} {ds : List PyData} (h : DDs K Z vs ds) (lo hi : Option Int) : DDs K Z (cutV vs lo hi) (cutD ds lo hi) := by
  unfold cutV cutD
  rw [dds_len h]
  exact dds_take _ (dds_drop _ h)
def slD (d : PyData) (lo hi : Option Int) : Option PyData := match d with
  | .list ds => some (.list (cutD ds lo hi))
  | .tuple ds => some (.tuple (cutD ds lo hi))
  | _ => none
def rSlD (K : PySem.W.Frag) : V → Option Int → Option Int → Hp → VK → Prop := fun x lo hi H Q => ∃ Z a d, Same Z H ∧ DD K Z x a ∧ slD a lo hi = some d ∧ ∀ v Z' H', Grow Z H Z' H' → DD K Z' v d → Q v H'
theorem sl_data : SlR X (rSlD X.K) := by
  intro pins s σ H x v vl vu lo hi sl Q I rx hs pl pu h
  obtain ⟨Z, a, d, sz, ha, e, q⟩ := h
  match a, ha, e with
  | .list ds, ha, e =>
    cases e
    cases ha with
    | @lst p xs _ hr hd => exact sl_list pins s σ H _ v vl vu lo hi sl Q I rx hs pl pu ⟨p, xs, rfl, (same_ls sz hr).sq, fun p hp => q _ _ _ (grow_new sz hp _) (new_lst sz hp (dds_cut hd lo hi))⟩
  | .tuple ds, ha, e =>
    cases e
    cases ha with
    | @tup p xs _ hr hd =>
      refine sl_tupA pins s σ H _ v vl vu lo hi sl Q I rx hs pl pu ⟨p, xs, rfl, same_sqT sz hr, fun w => ?_, fun _ p hp => q _ _ _ (grow_new sz hp _) (new_tup sz hp (dds_cut hd lo hi))⟩
      have hl := dds_len hd
      have : cutD ds lo hi = ds := by
        unfold cutD
        rw [← hl, w.1, w.2, hl]
        simp
      rw [this] at q
      exact q _ Z H (Grow.refl sz) (.tup hr hd)
def tDO (K : PySem.W.Frag) (F : Fm) (f : DEnv → Option (Option Int × DEnv)) : TO := fun σ H Q => ∃ Z env d env', Rel K F Z H σ env ∧ f env = some (d, env') ∧ ∀ Z' H', Rel K F Z' H' σ env' → Stp σ env Z H env' Z' H' → Q d H'
def PDO (X : Cx) (F : Fm) (e : Option Expr) (f : DEnv → Option (Option Int × DEnv)) : Prop := PO X e (tDO X.K F f)
theorem po_imp {X : Cx} {e : Option Expr} {t t' : TO} (h : PO X e t) (w : ∀ σ H Q, t' σ H Q → t σ H Q) : PO X e t' := ⟨fun pins s σ H Q I q => h.run pins s σ H Q I (w σ H Q q)⟩
def oNone (env : DEnv) : Option (Option Int × DEnv) := some (none, env)
def oSome (f : DEnv → Option (PyData × DEnv)) (env : DEnv) : Option (Option Int × DEnv) := (f env).bind fun x => match x.1 with
  | .int i => some (some i, x.2)
  | _ => none
theorem do_none : PDO X F none oNone := po_imp po_none fun σ H Q h => by
  obtain ⟨Z, env, d, env', r, e, q⟩ := h
  cases e
  exact q Z H r Stp.refl
theorem do_some (ha : PD X F e f) : PDO X F (some e) (oSome f) := po_imp (po_some ha) fun σ H Q h => by
  obtain ⟨Z, env, d, env', r, e, q⟩ := h
  obtain ⟨⟨i, e1⟩, h1, e⟩ := bnd e
  match i, h1, e with
  | .int i, h1, e =>
    cases e
    refine ⟨Z, env, .int i, e1, r, h1, fun v Z1 H1 r1 s1 d1 => ?_⟩
    cases d1.int_inv
    exact ⟨i, rfl, q Z1 H1 r1 s1⟩
def fSl (f : DEnv → Option (PyData × DEnv)) (fl fh : DEnv → Option (Option Int × DEnv)) (env : DEnv) : Option (PyData × DEnv) := (f env).bind fun x => (fl x.2).bind fun l => (fh l.2).bind fun h => (slD x.1 l.1 h.1).map fun d => (d, h.2)
theorem pd_slice {lo hi : Option Expr} {fl fh : DEnv → Option (Option Int × DEnv)} (ha : PD X F e f) (hl : PDO X F lo fl) (hh : PDO X F hi fh) : PD X F (.Subscript e (.Slice lo hi none p2) pos) (fSl f fl fh) := pe_imp (pe_slice sl_data ha hl hh) fun σ H Q h => by
  obtain ⟨Z, env, d, env', r, e, q⟩ := h
  obtain ⟨⟨a, e1⟩, h1, e⟩ := bnd e
  obtain ⟨⟨l, e2⟩, h2, e⟩ := bnd e
  obtain ⟨⟨u, e3⟩, h3, e⟩ := bnd e
  obtain ⟨z, h4, e⟩ := mpd e
  cases e
  refine ⟨Z, env, a, e1, r, h1, fun v Z1 H1 r1 s1 d1 => ⟨Z1, e1, l, e2, r1, h2, fun Z2 H2 r2 s2 => ⟨Z2, e2, u, e3, r2, h3, fun Z3 H3 r3 s3 => ⟨Z3, a, d, r3.zh, DDm (DDm d1 s2.z) s3.z, h4, fun w Z' H' gr dd => ?_⟩⟩⟩⟩
  exact q w Z' H' (r3.grow gr) (((s1.trans s2).trans s3).trans gr.stp) dd

/-! ### list(range(..)), new -/
def nListRg (f : DEnv → Option (PyData × DEnv)) (env : DEnv) : Option (List PyData × DEnv) := (f env).bind fun x => match x.1 with
  | .int j => if j ≤ 100000 ∧ -100000 ≤ j then some (rangeD 0 j.toNat, x.2) else none
  | _ => none
theorem dds_ints {K : PySem.W.Frag} {Z : Hp} : ∀ ns : List Int, DDs K Z (ns.map V.int) (ns.map PyData.int)
  | [] => .nil
  | n :: ns => .cons (.int n) (dds_ints ns)
theorem dds_range {K : PySem.W.Frag} {Z : Hp} (n : Int) : DDs K Z (rgV 0 n) (rangeD 0 n.toNat) := by
  unfold rgV rangeD
  have := dds_ints (K := K) (Z := Z) ((List.range n.toNat).map fun i => (0 : Int) + (i : Nat))
  rw [List.map_map, List.map_map] at this
  rw [show n - 0 = n by omega]
  exact this
theorem pn_listRg (hml : X.mg "list" = none) (hmr : X.mg "range" = none) (ha : PD X F a f) (hc : X.calm = true := by rfl) (hgl : Gl X "list" := by rfl) (hgr : Gl X "range" := by rfl) {q0 q1 : Pos} (na : starEach [a] X.env = (false, eval a X.env) :: starEach [] X.env := by rfl)
    (na2 : starEach [.Call (.Name "range" q0) [a] [] q1] X.env = (false, eval (.Call (.Name "range" q0) [a] [] q1) X.env) :: starEach [] X.env := by rfl) :
    PN X F (.Call (.Name "list" p) [.Call (.Name "range" q0) [a] [] q1] [] pos) (nListRg f) := pe_imp (pe_listRg hc hgl hml (prg_1 hgr hmr ha na) na2) fun σ H Q h => by
  obtain ⟨Z, env, d, env', r, e, q⟩ := h
  obtain ⟨⟨i, e1⟩, h1, e⟩ := bnd e
  match i, h1, e with
  | .int j, h1, e =>
    change (if j ≤ 100000 ∧ -100000 ≤ j then some (rangeD 0 j.toNat, e1) else none) = some (d, env') at e
    split at e
    case isFalse => cases e
    rename_i hj
    cases e
    refine ⟨Z, env, .int j, env', r, h1, fun v Z1 H1 r1 s1 d1 => ?_⟩
    cases d1.int_inv
    refine ⟨j, rfl, ⟨by omega, by omega, by omega, by omega, by omega⟩, fun p hp => ?_⟩
    have gr := grow_own r1.zh hp (.lst (rgV 0 j))
    exact q p _ _ _ (r1.grow gr) (s1.trans gr.stp) (s1.new hp) (r1.zh.free hp) upd_same (dds_range j)

/-! ### isinstance(e, T), T a built-in type -/
def tyN : PyData → String
  | .none => "NoneType"
  | .bool _ => "bool"
  | .int _ => "int"
  | .str _ => "str"
  | .list _ => "list"
  | .tuple _ => "tuple"
  | .dict _ => "dict"
def isiT (T t : String) : Bool := t == T || (t == "bool" && T == "int")
/-- the types of values, those of my own dicts too -/
def TyY (K : PySem.W.Frag) (H : Hp) (x : V) (t : Value) : Prop := TyX K H x t ∨ (∃ (a : Addr) (o : Obj), x = .ref a ∧ t = .type "dict" ∧ H a = some (DnO a o) ∧ o.cls = .type "dict") ∨ ∃ (a C : Addr), x = .ref a ∧ t = .ref C ∧ KEx K C ∧ (H a = some (ExO a (.ref C) none) ∨ ∃ dx fs, H a = some (ExO a (.ref C) (some dx)) ∧ H dx = some (.xd fs))
theorem exo_inst {X : Cx} {pins : List (Addr × Obj)} {σ : St} {H : Hp} {s : Shared} {a C : Addr} (I : Inv X pins σ H s) (h : H a = some (ExO a (.ref C) none) ∨ ∃ dx fs, H a = some (ExO a (.ref C) (some dx)) ∧ H dx = some (.xd fs)) : ∃ (oe : Obj) (od : Option Obj), PySem.W.InstAt s.heap a oe C od := by
  rcases h with h | ⟨dx, fs, h, h2⟩
  · obtain ⟨⟨oe, vs, e1, e2, e3, e4⟩, _, _⟩ := (show ObjOk X.prog X.w H s.heap a (ExO a (.ref C) none) from I.hok a _ h)
    exact ⟨oe, none, e1, e2, by unfold PySem.W.notCls; rw [e4] <;> rfl, by rw [e3]; trivial⟩
  · obtain ⟨⟨oe, vs, e1, e2, e3, e4⟩, _, _⟩ := (show ObjOk X.prog X.w H s.heap a (ExO a (.ref C) (some dx)) from I.hok a _ h)
    obtain ⟨mA, hns, _⟩ := (show ObjOk X.prog X.w H s.heap dx (.xd fs) from I.hok dx _ h2)
    obtain ⟨od, ho, _⟩ := lookIn_ns hns
    exact ⟨oe, some od, e1, e2, by unfold PySem.W.notCls; rw [e4] <;> rfl, by rw [e3]; exact ho⟩
theorem kit_ofY {X : Cx} {pins : List (Addr × Obj)} {σ : St} {H : Hp} {s : Shared} {x : V} {u t : Value} (I : Inv X pins σ H s) (rx : RelV x u) (ty : TyY X.K H x t) : ∃ P : Heap → Prop, PySem.W.KitX X.K u t P ∧ P s.heap ∧ u ≠ .builtin "__main__.__loader__#opaque" := by
  rcases ty with ty | ⟨a, o, rfl, rfl, ea, hc⟩ | ⟨a, C, rfl, rfl, k, ea⟩
  · exact kit_of I rx ty
  · cases (show u = Value.ref a from rx)
    obtain ⟨h1, _⟩ := (show ObjOk X.prog X.w H s.heap a (DnO a o) from I.hok a _ ea)
    exact ⟨_, PySem.W.kitx_dict, ⟨o, h1, hc⟩, fun z => nomatch z⟩
  · cases (show u = Value.ref a from rx)
    obtain ⟨oe, od, J⟩ := exo_inst I ea
    exact ⟨_, PySem.W.kitx_exc (ox := oe) (od := od) k.hcl k.hga k.hgt k.hsub k.ha k.hn k.htk k.hm, J, fun z => nomatch z⟩
def rIsiY (K : PySem.W.Frag) : List V → Hp → VK → Prop := fun xs H Q => ∃ (x c : V) (t u : Value) (b : Bool), xs = [x, c] ∧ ClsV c u ∧ TyY K H x t ∧ PySem.W.kitOne K t u = some b ∧ Q (.bl b) H
theorem call_isiY {X : Cx} : CallR X (.builtin "isinstance") (rIsiY X.K) := by
  intro pins s σ H xs us Q I r h
  obtain ⟨x, c, t, u, b, rfl, k, ty, e, q⟩ := h
  obtain ⟨u1, u2, rfl, r1, r2⟩ := vals2 r
  have e2 := k.eq r2
  subst e2
  obtain ⟨P, Z, p, hx⟩ := kit_ofY I r1 ty
  exact PySem.W.kia_one Z I.kIn p e hx fun tk => ⟨.bl b, H, I.tok tk, rfl, q⟩
abbrev fiveT : List String := ["bool", "int", "str", "list", "tuple"]
abbrev KitOk (K : PySem.W.Frag) (T : String) : Prop := ∀ t ∈ ["NoneType", "bool", "int", "str", "list", "tuple", "dict"], PySem.W.kitOne K (.type t) (.type T) = some (isiT T t)
theorem dd_ty {K : PySem.W.Frag} {H : Hp} {v : V} {d : PyData} {T : String} (kit : KitOk K T) (hT : T ∈ fiveT) (h : DD K H v d) : ∃ t, TyY K H v t ∧ PySem.W.kitOne K t (.type T) = some (isiT T (tyN d)) := by
  have nod : isiT T "dict" = false := by
    simp only [fiveT, List.mem_cons, List.not_mem_nil, or_false] at hT
    rcases hT with rfl | rfl | rfl | rfl | rfl <;> rfl
  cases h with
  | non => exact ⟨_, .inl <| .base .non, kit _ (by simp [tyN])⟩
  | bl b => exact ⟨_, .inl <| .base (.bl b), kit _ (by simp [tyN])⟩
  | int i => exact ⟨_, .inl <| .base (.int i), kit _ (by simp [tyN])⟩
  | str x => exact ⟨_, .inl <| .base (.str x), kit _ (by simp [tyN])⟩
  | lst hr _ =>
    rcases hr with (h | ⟨o, h⟩) | ⟨its, n, h, _⟩
    · exact ⟨_, .inl <| .base (.lst h), kit _ (by simp [tyN])⟩
    · exact ⟨_, .inl <| .base (.frz h), kit _ (by simp [tyN])⟩
    · exact ⟨_, .inl <| .kList h rfl, kit _ (by simp [tyN])⟩
  | tup hr _ =>
    rcases hr with (h | ⟨o, h⟩) | ⟨o, its, n, h, c, _⟩
    · exact ⟨_, .inl <| .base (.tup h), kit _ (by simp [tyN])⟩
    · exact ⟨_, .inl <| .fTuple h, kit _ (by simp [tyN])⟩
    · exact ⟨_, .inl <| .kTuple h c, kit _ (by simp [tyN])⟩
  | dct e _ => exact ⟨_, .inl <| .base (.dK e), kit _ (by simp [tyN])⟩
  | dcn e hf _ => exact ⟨_, .inr <| .inl ⟨_, _, rfl, rfl, e, hf.ex.1⟩, kit _ (by simp [tyN])⟩
  | exc e1 e2 k _ _ => exact ⟨_, .inr <| .inr ⟨_, _, rfl, rfl, k, .inr ⟨_, _, e1, e2⟩⟩, (k.isT T hT).trans (congrArg some nod.symm)⟩
  | exn e1 k => exact ⟨_, .inr <| .inr ⟨_, _, rfl, rfl, k, .inl e1⟩, (k.isT T hT).trans (congrArg some nod.symm)⟩
def fIsi (T : String) (f : DEnv → Option (PyData × DEnv)) (env : DEnv) : Option (PyData × DEnv) := (f env).map fun x => (.bool (isiT T (tyN x.1)), x.2)
theorem pd_isi {T : String} {tn : Str} (kit : KitOk X.K T) (hm : X.mg "isinstance" = none) (hmT : X.mg tn = none) (hvT : bootBuiltins tn = some (.type T)) (ha : PD X F e f) (hg : Gl X "isinstance" := by rfl) (hgT : Gl X tn := by rfl) (hnT : tn ≠ "__name__" := by decide) (hdT : (tn == ("__debug__" : Str)) = false := by decide) (h5 : T ∈ fiveT := by decide)
    (he : starEach [e, .Name tn pn] X.env = (false, eval e X.env) :: starEach [.Name tn pn] X.env := by rfl) (he2 : starEach [.Name tn pn] X.env = (false, eval (.Name tn pn) X.env) :: starEach [] X.env := by rfl) (hpl : (backTo pos (starEach [.Name tn pn] X.env)).any (·.1) = false := by rfl) :
    PD X F (.Call (.Name "isinstance" p) [e, .Name tn pn] [] pos) (fIsi T f) :=
  pe_imp (pe_callB call_isiY hg hm (by decide +kernel) (pa_cons ha (pa_cons (pe_bltn (v := .ty T) hgT hmT hvT rfl hnT hdT) pa_nil he2) he) (by decide) (by decide) he hpl) fun σ H Q h => by
    obtain ⟨Z, env, d, env', r, e, q⟩ := h
    obtain ⟨⟨i, e1⟩, h1, e⟩ := mpd e
    cases e
    refine ⟨Z, env, i, e1, r, h1, fun v Z1 H1 r1 s1 d1 => ?_⟩
    obtain ⟨t, ty, kt⟩ := dd_ty kit h5 (DDm d1 r1.zh)
    exact ⟨v, .ty T, _, _, _, rfl, .ty T, ty, kt, q _ Z1 H1 r1 s1 (.bl _)⟩
end

/-! ### the end: the law's call -/
/-- tracked at the start: the script, and the tables cs.2 -/
structure St0 (K : PySem.W.Frag) (h : Heap) (cs : List (Addr × Addr)) (a : Addr) (vs : List Value) (ns : List Int) (H : Hp) : Prop where
  at_a : H a = some (.frz { cls := .type "list", data := .seq vs.toArray } (.lst (ns.map V.int))) ∧ K.lookup a = none ∨ H a = none
  at_t : ∀ q, (∃ c, (c, q) ∈ cs) → H q = some (.tbl #[])
  els : ∀ b, b ≠ a → (¬ ∃ c, (c, b) ∈ cs) → H b = none
  ls : LsR K H a (ns.map V.int)
theorem law_callG {P : Program} {w : World} {K : PySem.W.Frag} {mg mb : Str → Option Value} {k : Nat} {fa a : Addr} {fd : FuncData} {x : Str} {m : List PyData → Option PyData} {s1 : Shared} {vs : List Value} {ns : List Int} {cs : List (Addr × Addr)}
    (KX : K.In s1.heap) (hns : s1.heap.Ns mainGlobals mg) (hb : s1.heap.Ns builtinsNs mb) (hbb : ∀ y : Str, y ≠ "__name__" → mb y = bootBuiltins y) (hlim : s1.heap.NoLimit) (hg : s1.gens = #[])
    (tbs : ∀ c q, (c, q) ∈ cs → s1.heap.get? q = some { cls := .none, data := .fields #[] } ∧ K.lookup q = none ∧ PySem.W.CodeHd s1.heap c q)
    (hbm : ∃ (bm : Addr) (ob : Obj), mg "__builtins__" = some (.ref bm) ∧ bm ≠ builtinsNs ∧ s1.heap.get? bm = some ob ∧ ob.cls = .type "module" ∧ ob.dict = some builtinsNs ∧ ob.data = .plain)
    (ha : s1.heap.get? a = some { cls := .type "list", data := .seq vs.toArray }) (hi : IntsAre vs ns) (hl : ns.length ≤ sizeLine) (hr : Room k callerA) (hlab : ∀ q ∈ Lab.T, ∃ c, (c, q.1) ∈ cs)
    (G : ∀ base : Heap, K.In base → base.Ns mainGlobals mg → (∀ c q, (c, q) ∈ cs → LamX.TabB base mg c q) → FnG P w K mg base k fa fd [x] (spF K 1 m)) (hbind : ∀ (s : Shared) (u : Value), BindsTo s fd ⟨[u], []⟩ [(x, u)])
    (hm : m [.list (ns.map PyData.int)] = some (.bool true)) :
    codeAny (model P w) callerA (.call (.ref fa) ⟨[.ref a], []⟩) (fun r s' => r = .ok (.ret (.bool true)) ∧ OldK s1.heap s'.heap ∧ s'.os = s1.os ∧ AllBare s'.gens) s1 := by
  classical
  have rv := vals_ints hi
  have aT : ¬ ∃ c, (c, a) ∈ cs := fun ⟨c, hc⟩ => by
    have q := (tbs c a hc).1
    rw [ha] at q
    have z' : Data.seq vs.toArray _ = Data.fields #[] := congrArg Obj.data (Option.some.inj q)
    cases z'
  have core : ∀ H : Hp, St0 K s1.heap cs a vs ns H → HOk P w H s1.heap →
      codeAny (model P w) callerA (.call (.ref fa) ⟨[.ref a], []⟩) (fun r s' => r = .ok (.ret (.bool true)) ∧ OldK s1.heap s'.heap ∧ s'.os = s1.os ∧ AllBare s'.gens) s1 := by
   intro H S0 hok
   -- an object that is neither the script nor a table
   have und : ∀ {b : Addr} {o : Obj}, s1.heap.get? b = some o → (∀ us n, o.data ≠ .seq us n) → o.data ≠ .fields #[] → (hidT s1.heap H).get? b = some o := fun {b o} e h1 h2 => by
     refine hidT_get e (S0.els b (fun z => ?_) fun ⟨c, hc⟩ => ?_)
     · rw [z, ha] at e
       cases e
       exact h1 _ _ rfl
     · rw [(tbs c b hc).1] at e
       cases e
       exact h2 rfl
   have nsK : ∀ {b : Addr} {m' : Str → Option Value}, s1.heap.Ns b m' → (hidT s1.heap H).Ns b m' := fun {b m'} ⟨o, es, ep, e, d, r⟩ => ⟨o, es, ep, und e (fun _ _ z => by rw [d] at z; cases z) (fun z => by rw [d] at z; cases z), d, r⟩
   have hKb : K.In (hidT s1.heap H) := fun b o e => hidT_get (KX b o e) (by
      by_cases z : b = a
      · subst z
        rcases S0.at_a with ⟨_, Ha⟩ | Ha
        · rw [Ha] at e; cases e
        · exact Ha
      · exact S0.els b z fun ⟨c, hc⟩ => by rw [(tbs c b hc).2.1] at e; cases e)
   have hM : Mod K mg (hidT s1.heap H) := by
     refine ⟨hKb, nsK hns, ⟨mb, nsK hb, hbb⟩, ?_⟩
     obtain ⟨mc, h1, h2⟩ := hlim
     exact ⟨mc, nsK h1, h2⟩
   have gT : ∀ c q, (c, q) ∈ cs → LamX.TabB (hidT s1.heap H) mg c q := fun c q hc => by
     obtain ⟨t1, _, o, us, fl, x1, x2, x3, x4, x5, x6, e1, r1, r2, r3⟩ := tbs c q hc
     refine ⟨⟨o, us, fl, x1, x2, x3, x4, x5, x6, und e1 (fun _ _ z => by rw [r2] at z; cases z) (fun z => ?_), r1, r2, r3⟩, ?_, fun z => ?_⟩
     · rw [r2] at z
       cases z
       have := r3.1
       simp at this
     · obtain ⟨bm, ob, b1, b2, b3, b4, b5, b6⟩ := hbm
       refine ⟨bm, ob, b1, b2, fun z => ?_, fun z => ?_, und b3 (fun _ _ z => by rw [b6] at z; cases z) (fun z => by rw [b6] at z; cases z), b4, b5, b6⟩
       · obtain ⟨og, es, ep, e, hd, _⟩ := hns
         rw [z, e] at b3
         cases b3
         rw [hd] at b6
         cases b6
       · rw [z, t1] at b3
         cases b3
         cases b6
     · obtain ⟨og, es, ep, e, hd, _⟩ := hns
       rw [z, t1] at e
       cases e
       cases hd
   have e0 : Env0 P w K mg (hidT s1.heap H) callerA [] s1 H := by
     refine ⟨rfl, hM, fun b o e => of_hidT e, Nat.le_of_eq (hidT_size _ _), trivial, fun b hb => ?_, hok, .of_eq hg⟩
     cases (show b ∈ ([] : List Addr) from hb)
   have tb : TB H := fun q hq => LamX.TabS.nil (S0.at_t q.1 (hlab q hq))
   refine codeAny_mono ((G _ hKb (nsK hns) gT).run callerA [] s1 H ⟨[.ref a], []⟩ [.ref a] [.ref a] (fun v _ => v = .bl true) E0 (fun _ => rfl) hr e0 (hbind s1 (.ref a)) (.cons rfl .nil) ⟨rfl, H, _, _, Same.refl H, tb, .cons (.lst S0.ls (dds_ints ns)) .nil, hm, fun v Z' H' gr dd => dd.bool_inv⟩) fun r s' h => ?_
   cases r with
   | error e => cases h
   | ok fl =>
     cases fl with
     | next => cases h
     | brk => cases h
     | cont => cases h
     | ret u =>
       obtain ⟨v, H', os, bare, un, hok', r', q⟩ := h
       cases (show v = .bl true from q)
       cases (show u = Value.bool true from r')
       have kept : ∀ b o, (¬ ∃ c, (c, b) ∈ cs) → s1.heap.get? b = some o → s'.heap.get? b = some o := fun b o nb e => by
         have plain : H b = none → s'.heap.get? b = some o := fun hn => by
           refine un.keep b o e hn (fun z => ?_) (fun z => by cases z)
           cases (show b ∈ ([] : List Addr) from z)
         by_cases hba : b = a
         · subst hba
           rcases S0.at_a with ⟨Ha, _⟩ | Ha
           · obtain ⟨e1, _⟩ := hok b _ Ha
             obtain ⟨e2, _⟩ := hok' b _ (un.frzs b _ _ Ha)
             rw [e] at e1; cases e1
             exact e2
           · exact plain Ha
         · exact plain (S0.els b hba nb)
       have tabs : ∀ b, (∃ c, (c, b) ∈ cs) → ∃ more : Array Value, s'.heap.get? b = some { cls := .none, data := .fields more } := fun b hb => by
         obtain ⟨more, z⟩ := un.tbls b #[] (S0.at_t b hb)
         exact ⟨_, hok' b _ z⟩
       refine ⟨rfl, ⟨fun b o e => ?_, fun b o e => ?_⟩, os, bare⟩
       · by_cases hb : ∃ c, (c, b) ∈ cs
         · obtain ⟨more, hmore⟩ := tabs b hb
           obtain ⟨c, hc⟩ := hb
           obtain ⟨t1, _, hd⟩ := tbs c b hc
           have e' := e.symm.trans t1
           cases e'
           refine .inr (.inl ⟨(hd.tab t1).isCodeTable, rfl, #[], more, rfl, ?_⟩)
           rw [Array.empty_append]
           exact hmore
         · exact .inl (kept b o hb e)
       · by_cases hb : ∃ c, (c, b) ∈ cs
         · obtain ⟨more, hmore⟩ := tabs b hb
           exact ⟨_, hmore⟩
         · exact ⟨o, kept b o hb e⟩
  cases hk : K.lookup a with
  | some o =>
    have e := KX a o hk
    rw [ha] at e
    cases e
    refine core (fun b => if ∃ c, (c, b) ∈ cs then some (.tbl #[]) else none) ⟨.inr (if_neg aT), fun q h => if_pos h, fun b _ h => if_neg h, .inr ⟨vs, _, hk, by rw [List.length_map]; exact hl, rv⟩⟩ fun b u z => ?_
    by_cases h : ∃ c, (c, b) ∈ cs
    · have z' := (if_pos h).symm.trans z
      cases z'
      obtain ⟨c, hc⟩ := h
      exact (tbs c b hc).1
    · have z' := (if_neg h).symm.trans z
      cases z'
  | none =>
    refine core (fun b => if b = a then some (.frz { cls := .type "list", data := .seq vs.toArray } (.lst (ns.map V.int))) else if ∃ c, (c, b) ∈ cs then some (.tbl #[]) else none) ⟨.inl ⟨if_pos rfl, hk⟩, fun q h => ?_, fun b hb h => (if_neg hb).trans (if_neg h), .inl (.inr ⟨_, if_pos rfl⟩)⟩ fun b u z => ?_
    · have : q ≠ a := fun z => aT (z ▸ h)
      exact (if_neg this).trans (if_pos h)
    · by_cases e : b = a
      · subst e
        have z' := (if_pos rfl).symm.trans z
        cases z'
        exact ⟨ha, by rw [List.length_map]; exact hl, vs, _, rv, ha⟩
      · have z1 := (if_neg e).symm.trans z
        by_cases h : ∃ c, (c, b) ∈ cs
        · have z' := (if_pos h).symm.trans z1
          cases z'
          obtain ⟨c, hc⟩ := h
          exact (tbs c b hc).1
        · have z' := (if_neg h).symm.trans z1
          cases z'
end DL
end L2


set_option Elab.async false
set_option maxRecDepth 100000
set_option maxHeartbeats 4000000
set_option autoImplicit false
namespace L2
namespace DL
open PySem PySem.Spec PyProof.Rows
variable [Lab]
/-! ### enumerate over a tuple -/
theorem meets_enum1 {v : Value} {o : Obj} {B : Heap → Prop} (b : PySem.Begins v o B) :
    Meets (Builtin.«enumerate.__new__» ⟨[.type "enumerate", v], []⟩) (fun _ R s => B s.heap ∧
      R (.ok (.ret (.ref (s.heap.push o).objs.size))) { s with heap := (s.heap.push o).push { cls := .type "enumerate", data := .fields #[.none, .bool false, .ref s.heap.objs.size, rawInt 0, .none, .none] } }) :=
  .of_wp fun prog w A R s h => by
    obtain ⟨hp, g, d, tk, os⟩ := s
    obtain ⟨h1, h⟩ := h
    have hsub := sub_enumerate
    have q1 : ∀ {A' : Around} {E : Value → Shared → Prop} {Q : Value → Shared → Prop}, Q (.ref hp.objs.size) ⟨hp.push o, g, d, tk, os⟩ → wpAny (model prog w) A' (pyIter v) Q E ⟨hp, g, d, tk, os⟩ :=
      fun q => b.iter prog w _ _ ⟨hp, g, d, tk, os⟩ _ h1 q
    wp_walk using q1
    refine wpAny_stack_any fun st => wpAny_pure ?_
    split
    · rename_i c _ _ _ _ _
      cases (c == Value.type "enumerate") <;> (wp_walk using q1; exact ⟨_, rfl, h⟩)
    · wp_walk using q1
      exact ⟨_, rfl, h⟩
theorem call_enumT {prog : Program} {w : World} {A : Around} {E : Value → Shared → Prop} {s : Shared} {t : Addr} {items : Array Value} {Q : Value → Shared → Prop} (ht : s.heap.IsTuple t items)
    (h : ∀ h', IsEnum h' (s.heap.objs.size + 1) s.heap.objs.size 0 .none → h'.IsTupleIter s.heap.objs.size t 0 → (∀ b o, s.heap.get? b = some o → h'.get? b = some o) → Q (.ref (s.heap.objs.size + 1)) { s with heap := h' }) :
    wpAny (model prog w) A (call (.type "enumerate") [.ref t]) Q E s := by
  refine callType_new F.called_enumerate (by decide) (F.typeCall_enumerate_1 _) (F.newCall_enumerate_1 _) (fun obj => F.args_object_init_2 obj _) F.entry_enumerate_new (meets_enum1 (begins_tuple t items)) ⟨ht, ?_⟩
  have z : (s.heap.push { cls := .type "tuple_iterator", data := .fields #[.ref t, .int 0 0] }).objs.size = s.heap.objs.size + 1 := Heap.size_push ..
  show _ ∧ _
  rw [z]
  have e : IsEnum ((s.heap.push { cls := .type "tuple_iterator", data := .fields #[.ref t, .int 0 0] }).push { cls := .type "enumerate", data := .fields #[.none, .bool false, .ref s.heap.objs.size, rawInt 0, .none, .none] }) (s.heap.objs.size + 1) s.heap.objs.size 0 .none := by
    have q := Heap.get?_push_size (s.heap.push { cls := .type "tuple_iterator", data := .fields #[.ref t, .int 0 0] }) (o := { cls := .type "enumerate", data := .fields #[.none, .bool false, .ref s.heap.objs.size, rawInt 0, .none, .none] }) rfl
    rw [z] at q
    exact q
  exact ⟨⟨_, e, rfl⟩, h _ e ⟨_, Heap.get?_push_of_some _ (Heap.get?_push_size _ rfl), rfl, rfl⟩ fun b o x => Heap.get?_push_of_some _ (Heap.get?_push_of_some _ x)⟩
def Iet (K : PySem.W.Frag) (a : Addr) : It :=
  ⟨fun i H => ∃ (xs : List V) (x : V), SqT K H a xs ∧ xs[i]? = some x, fun i H v H' => ∃ T x, v = .ref T ∧ H T = none ∧ H' = upd H T (.tup [.int (i : Nat), x]) ∧ ∀ xs, SqT K H a xs → xs[i]? = some x, fun i H => ∃ xs : List V, SqT K H a xs ∧ xs.length = i⟩
theorem turn_enumT {P : Program} {w : World} {K : PySem.W.Frag} {elts : List Expr} {kk : Nat} {tpos : Pos} (a e it : Addr) :
    Turn P w K (.Tuple elts kk tpos) (Iet K a) [e, it] e (fun i h => (∃ old, IsEnum h e it ((i : Nat) : Int) old) ∧ h.IsTupleIter it a i ∧ e ≠ it) where
  mem := by simp
  obj := fun i h st b hb => by
    obtain ⟨⟨old, he⟩, ⟨o, ho, _, hd⟩, _⟩ := st
    rcases (show b = e ∨ b = it by simpa using hb) with z | z
    · rw [z]; exact ⟨_, he, fun v q => nomatch q⟩
    · rw [z]; exact ⟨o, ho, fun v q => by rw [hd] at q; cases q⟩
  keep := fun i h h' st k => by
    obtain ⟨⟨old, he⟩, hi, hne⟩ := st
    exact ⟨⟨old, k e (by simp) _ he⟩, hi.at fun o q => k it (by simp) o q, hne⟩
  item := by
    intro X hP hw hK hc i pins s σ H E I hf st hg
    subst hP hw hK
    obtain ⟨⟨old, he⟩, hit, hne⟩ := st
    obtain ⟨xs, x, hq, hx⟩ := hg
    obtain ⟨its, rv, p, hz⟩ := I.tuple hq
    obtain ⟨u, hu, ru⟩ := rv.get hx
    have hel : e < s.heap.objs.size := Heap.lt_size he
    have hil : it < s.heap.objs.size := by obtain ⟨_, q, _⟩ := hit; exact Heap.lt_size q
    have hae : e ≠ a := fun z => by
      obtain ⟨o, h1, h2, _⟩ := p
      rw [← z] at h1
      have he' : s.heap.get? e = some _ := he
      rw [he'] at h1
      cases h1
      exact absurd (Value.type.inj h2) (by decide)
    have hai : a ≠ it := fun z => by
      obtain ⟨o, h1, h2, _⟩ := p
      obtain ⟨o', h3, h4, _⟩ := hit
      rw [z, h3] at h1
      cases h1
      rw [h4] at h2
      exact absurd (Value.type.inj h2) (by decide)
    have hlt : i < its.toArray.size := by
      obtain ⟨hl, _⟩ := List.getElem?_eq_some_iff.mp hu
      simpa using hl
    refine wpAny_pyNext_enum_itemD (Draws.tuple (A := X.A.in1) (I.ok.hd hc) it a hai its.toArray) he ⟨hit, p⟩ hlt hne (by simp; exact ⟨hne, hae⟩) fun y h' tk hy ho hst hT hsz hk => ?_
    have ey : y = u := by
      have : its.toArray[i]? = some u := by simpa using hu
      rw [this] at hy
      exact (Option.some.inj hy).symm
    subst ey
    refine ⟨_, rfl, wpAny_letOwnedTupleGo_enum (s := { s with heap := h', toks := tk + 1 }) ho fun h'' he' sb => ?_⟩
    have hT2 : h''.get? s.heap.objs.size = some { cls := .type "tuple", data := .seq #[.int i tk, y] } := (sb.2 _ (Nat.ne_of_gt hel)).trans hT
    have new : ObjOk X.prog X.w (upd H s.heap.objs.size (.tup [.int (i : Nat), x])) h'' s.heap.objs.size (.tup [.int (i : Nat), x]) := by
      refine ⟨by show 2 ≤ sizeLine; decide, [.int i tk, y], .cons ⟨_, rfl⟩ (.cons ru .nil), ⟨_, hT2, rfl, _, rfl⟩⟩
    have I1 : Inv X pins σ (upd H s.heap.objs.size (.tup [.int (i : Nat), x])) { s with heap := h'', toks := tk + 1 } := by
      refine I.turnedNew (ch := [e, it]) (fun b ob hb q => ?_) hf (Nat.le_refl _) new
      have nbe : b ≠ e := fun z => hb (by simp [z])
      have nbi : b ≠ it := fun z => hb (by simp [z])
      exact (sb.2 b nbe).trans (hk b ob nbe nbi q)
    refine ⟨.ref s.heap.objs.size, _, I1, rfl, ⟨_, x, rfl, I.hok.fresh (Nat.le_refl _), rfl, fun ys hy => by rw [I.tuple_inj hy hq]; exact hx⟩, ⟨⟨y, ?_⟩, hst.1.at fun o q => (sb.2 it (Ne.symm hne)).trans q, hne⟩, fun b hb => ?_⟩
    · rw [show ((i + 1 : Nat) : Int) = (i : Int) + 1 by omega]
      exact he'
    · have hb' : b < s.heap.objs.size := by
        rcases (show b = e ∨ b = it by simpa using hb) with z | z
        · rw [z]; exact hel
        · rw [z]; exact hil
      rw [upd_ne (Nat.ne_of_lt hb')]
      exact (hf b hb).1
  done := by
    intro X hP hw hK hc i pins s σ H E I hf st hg
    subst hP hw hK
    obtain ⟨⟨old, he⟩, hit, hne⟩ := st
    obtain ⟨xs, hq, hx⟩ := hg
    obtain ⟨its, rv, p, hz⟩ := I.tuple hq
    obtain ⟨f0, f1, f2, f3, f4, f5⟩ := hf it (by simp)
    have hl := rv.length
    have hai : a ≠ it := fun z => by
      obtain ⟨o, h1, h2, _⟩ := p
      obtain ⟨o', h3, h4, _⟩ := hit
      rw [z, h3] at h1
      cases h1
      rw [h4] at h2
      exact absurd (Value.type.inj h2) (by decide)
    have hsz : its.toArray.size = i := by rw [List.size_toArray]; omega
    refine wpAny_pyNext_enum_endD (Draws.tuple (A := X.A.in1) (I.ok.hd hc) it a hai its.toArray) he ⟨by rw [hsz]; exact hit, p⟩ fun h' eb => ?_
    exact ⟨rfl, I.turned (t' := s.toks) (fun b o hb q => eb b o hb q) f0 f1 f3 f4 f5⟩
  self := fun A i s Q E st h => by
    obtain ⟨⟨_, he⟩, _⟩ := st
    exact wpAny_pyIter_enum he h
def iEnumT (K : PySem.W.Frag) (ta : TA) : TI := fun σ H R => ta σ H fun vs H1 => ∃ a xs, vs = [.ref a] ∧ SqT K H1 a xs ∧ R (Iet K a) H1
theorem pi_enumT {X : Cx} {e : Expr} {ta : TA} {p pos tpos : Pos} {elts : List Expr} {kk : Nat} (hg : Gl X "enumerate") (hm : X.mg "enumerate" = none) (ha : PA X [e] ta) (hs : starEach [e] X.env = [(false, eval e X.env)] := by rfl) :
    PI X (.Tuple elts kk tpos) (.Call (.Name "enumerate" p) [e] [] pos) (iEnumT X.K ta) := by
  refine ⟨fun pins s σ H R I h => Call_ (ld_blt I hg hm boot_enumerate (PyProof.Rows.callWith_type1 (thn (ha.run pos pins s σ H _ I h) ?_) hs rfl))⟩
  rintro us s1 ⟨vs, H1, I1, r1, a, xs, rfl, hq, q⟩
  cases r1 with
  | cons r rr =>
    cases rr
    cases r
    obtain ⟨its, rv, p', hz⟩ := I1.tuple hq
    refine call_enumT p' fun h' he hit hk => wpAny_pyIter_enum he ?_
    have I2 : Inv X pins σ H1 { s1 with heap := h' } := I1.kept (t' := s1.toks) hk
    refine ⟨s1.heap.objs.size + 1, [s1.heap.objs.size + 1, s1.heap.objs.size], _, _, H1, rfl, I2, turn_enumT a (s1.heap.objs.size + 1) s1.heap.objs.size, ⟨⟨.none, he⟩, hit, Nat.succ_ne_self _⟩, fun b hb => ?_, q⟩
    have hle : s1.heap.objs.size ≤ b := by
      rcases (show b = s1.heap.objs.size + 1 ∨ b = s1.heap.objs.size by simpa using hb) with z | z <;> rw [z]
      · exact Nat.le_add_right _ _
      · exact Nat.le_refl _
    exact I1.fpOk hle (I1.hok.fresh hle)
theorem walk_enumT {K : PySem.W.Frag} {a : Addr} {xs : List V} : Walk (Iet K a) xs.length (fun H => SqT K H a xs) (YPair (fun i => some (.int (i : Nat))) (fun i => xs[i]?)) := by
  refine ⟨fun i _ hi q => ⟨xs, xs[i], q, by simp [hi]⟩, fun _ q => ⟨xs, q, rfl⟩, fun i H v H' _ q y => ?_⟩
  obtain ⟨T, x, h1, h2, h3, h4⟩ := y
  exact ⟨T, .int (i : Nat), x, h1, h2, h3, rfl, h4 xs q⟩
theorem wd_enumT {K : PySem.W.Frag} {Z : Hp} {a : Addr} {xs : List V} {ds : List PyData} (h : SqT K Z a xs) (hd : DDs K Z xs ds) : WalkD K (Iet K a) Z (enumD ds) := by
  refine ⟨_, _, ((enumD_len ds).trans (dds_len hd).symm) ▸ walk_enumT (K := K) (a := a) (xs := xs), fun H s => same_sqT s h, fun i H x H' Zc hi y s1 s2 => ?_⟩
  obtain ⟨T, u, v, rfl, nT, rfl, e1, e2⟩ := y
  cases e1
  obtain ⟨d, e3, e4⟩ := dds_get' hd e2
  exact ⟨_, _, grow_new s2 nT _, enumD_get e3, new_tup s2 nT (.cons (.int _) (.cons (DDm e4 s1) .nil))⟩
def enumTA : List PyData → Option (List PyData)
  | [.list ds] => some (enumD ds)
  | [.tuple ds] => some (enumD ds)
  | _ => none
theorem di_enumA {X : Cx} {F : Fm} {e : Expr} {fa : DEnv → Option (List PyData × DEnv)} {p pos : Pos} {elts : List Expr} {kk : Nat} {tpos : Pos} (hm : X.mg "enumerate" = none) (ha : PDA X F [e] fa) (hg : Gl X "enumerate" := by rfl) (hs : starEach [e] X.env = [(false, eval e X.env)] := by rfl) :
    PDI X F (.Tuple elts kk tpos) (.Call (.Name "enumerate" p) [e] [] pos) (iArg enumTA fa) := pi_imp (pi_orr (pi_enum hg hm ha hs) (pi_enumT hg hm ha hs)) fun σ H Q h => by
  obtain ⟨Z, env, ds, env', r, e, q⟩ := h
  obtain ⟨⟨d, e1⟩, h1, h⟩ := bnd e
  obtain ⟨ds', h2, h⟩ := mpd h
  cases h
  match d, h1, h2 with
  | [.list js], h1, h2 =>
    cases h2
    refine .inl ⟨Z, env, _, e1, r, h1, fun vs Z1 H1 r1 s1 d1 => ?_⟩
    obtain ⟨v, rfl, d2⟩ := dds1 d1
    cases d2 with
    | @lst a xs _ hr hd => exact ⟨a, xs, rfl, (same_ls r1.zh hr).sq, q _ Z1 H1 r1 s1 (wd_enum hr hd)⟩
  | [.tuple js], h1, h2 =>
    cases h2
    refine .inr ⟨Z, env, _, e1, r, h1, fun vs Z1 H1 r1 s1 d1 => ?_⟩
    obtain ⟨v, rfl, d2⟩ := dds1 d1
    cases d2 with
    | @tup a xs _ hr hd => exact ⟨a, xs, rfl, same_sqT r1.zh hr, q _ Z1 H1 r1 s1 (wd_enumT hr hd)⟩
/-! ### isinstance over written types -/
theorem kit_int (K : PySem.W.Frag) : KitOk K "int" := by
  intro t ht
  simp only [List.mem_cons, List.not_mem_nil, or_false] at ht
  rcases ht with rfl | rfl | rfl | rfl | rfl | rfl | rfl <;> rfl
theorem kit_bool (K : PySem.W.Frag) : KitOk K "bool" := by
  intro t ht
  simp only [List.mem_cons, List.not_mem_nil, or_false] at ht
  rcases ht with rfl | rfl | rfl | rfl | rfl | rfl | rfl <;> rfl
theorem kit_str (K : PySem.W.Frag) : KitOk K "str" := by
  intro t ht
  simp only [List.mem_cons, List.not_mem_nil, or_false] at ht
  rcases ht with rfl | rfl | rfl | rfl | rfl | rfl | rfl <;> rfl
theorem kit_tuple (K : PySem.W.Frag) : KitOk K "tuple" := by
  intro t ht
  simp only [List.mem_cons, List.not_mem_nil, or_false] at ht
  rcases ht with rfl | rfl | rfl | rfl | rfl | rfl | rfl <;> rfl
/-! ### tests that compare -/
section
variable {X : Cx} {F : Fm} {a b c e : Expr} {pos p : Pos} {f g k : DEnv → Option (PyData × DEnv)}
def IsB (o : PyData → PyData → Option PyData) : Prop := ∀ a b d, o a b = some d → ∃ k, d = .bool k
theorem tst_read {K : PySem.W.Frag} {t : TE} {f : DEnv → Option (PyData × DEnv)} (hb : ∀ env d e, f env = some (d, e) → ∃ k, d = .bool k) (ht : ∀ σ H Q, tD K F f σ H Q → t σ H Q) {σ : St} {H : Hp} {Q : Bool → Hp → Prop} (h : tDT K F (fTst f) σ H Q) : tTest t σ H Q := by
  obtain ⟨Z, env, d, env', r, e, q⟩ := h
  obtain ⟨⟨x, e1⟩, h1, h⟩ := bnd e
  obtain ⟨k, h2, h⟩ := mpd h
  cases h
  obtain ⟨k', rfl⟩ := hb _ _ _ h1
  cases h2
  exact ht σ H _ ⟨Z, env, _, e1, r, h1, fun v Z1 H1 r1 s1 d1 => ⟨_, d1.bool_inv, q Z1 H1 r1 s1⟩⟩
theorem fBin_b {o : PyData → PyData → Option PyData} (hb : IsB o) (env : DEnv) (d : PyData) (e : DEnv) (h : fBin o f g env = some (d, e)) : ∃ k, d = .bool k := by
  obtain ⟨x, _, h⟩ := bnd h
  obtain ⟨y, _, h⟩ := bnd h
  obtain ⟨z, h1, h⟩ := mpd h
  cases h
  exact hb _ _ _ h1
theorem pdt_cmp {op : CmpOp} {o : PyData → PyData → Option PyData} (ho : OpD X (compareOp op) o) (hb : IsB o) (ha : PD X F a f) (hc : PD X F b g) (hm : behindInMarks op b = false := by first | exact nomark _ | rfl) : PDT X F (.Compare a [op] [b] pos) (fTst (fBin o f g)) :=
  pt_imp (pt_cmpR ho ha hc hm) fun _ _ _ h => tst_read (fBin_b hb) (fun _ _ _ h => bin_read h) h
theorem cmpN_read {K : PySem.W.Frag} {o : PyData → PyData → Option PyData} {i : Nat} (hs : ∀ a b d, o a b = some d → scalD d = true) {σ : St} {H : Hp} {Q : VK} (h : tD K F (fCmpN o f i) σ H Q) : tOp (r2D K o) (tD K F f) (tVar i) σ H Q := by
  obtain ⟨Z, env, d, env', r, e, q⟩ := h
  obtain ⟨⟨x, e1⟩, h1, h⟩ := bnd e
  obtain ⟨y, h2, h⟩ := bnd h
  obtain ⟨d', h3, h⟩ := mpd h
  cases h
  refine ⟨Z, env, x, e1, r, h1, fun v1 Z1 H1 r1 s1 d1 => ?_⟩
  obtain ⟨v, ev, dv⟩ := r1.rdB h2
  refine ⟨v, ev, H1, x, y, d, Same.refl H1, DDm d1 r1.zh, dv, h3, fun v' Z' H' gr dd => ?_⟩
  have gr' : Grow Z1 H1 Z1 H' := ⟨Same.refl _, r1.zh.trans gr.h, gr.h, gr.t, fun _ z => .inl z⟩
  exact q v' Z1 H' (r1.grow gr') (s1.trans gr'.stp) (dd.scal (hs _ _ _ h3))
theorem pdt_cmpN {op : CmpOp} {o : PyData → PyData → Option PyData} (ho : OpD X (compareOp op) o) (hs : ∀ a b d, o a b = some d → scalD d = true) (hb : IsB o) (ha : PD X F a f) (i : Nat) {x : Str} (hm : behindInMarks op (.Name x p) = false := by first | exact nomark _ | rfl)
    (hN : X.N[i]? = some x := by rfl) (hv : Vis X.env.scope x := by first | exact Or.inl rfl | exact Or.inr (Or.inl rfl) | exact Or.inr (Or.inr rfl)) (hd : (x == ("__debug__" : Str)) = false := by decide)
    (hcd : (x == ("__classdict__" : Str)) = false := by decide) : PDT X F (.Compare a [op] [.Name x p] pos) (fTst (fCmpN o f i)) :=
  pt_imp (pt_cmpR ho ha (pe_var hN hv hd hcd) hm) fun _ _ _ h => tst_read (fun env d e h => by
    obtain ⟨x, _, h⟩ := bnd h
    obtain ⟨y, _, h⟩ := bnd h
    obtain ⟨z, h1, h⟩ := mpd h
    cases h
    exact hb _ _ _ h1) (fun _ _ _ h => cmpN_read hs h) h
theorem chain_read {K : PySem.W.Frag} {o o' : PyData → PyData → Option PyData} {σ : St} {H : Hp} {Q : VK} (h : tD K F (fChain o o' f g k) σ H Q) : tChain (r2D K o) (r2D K o') (tD K F f) (tD K F g) (tD K F k) σ H Q := by
  obtain ⟨Z, env, d, env', r, e, q⟩ := h
  obtain ⟨⟨x, e1⟩, h1, h⟩ := bnd e
  obtain ⟨⟨y, e2⟩, h2, h⟩ := bnd h
  obtain ⟨z, h3, h⟩ := bnd h
  refine ⟨Z, env, x, e1, r, h1, fun v1 Z1 H1 r1 s1 d1 => ⟨Z1, e1, y, e2, r1, h2, fun v2 Z2 H2 r2 s2 d2 => ⟨Z2, x, y, z, r2.zh, DDm d1 s2.z, d2, h3, fun vz Z3 H3 gr dz => ?_⟩⟩⟩
  have s12 := s1.trans s2
  match z, h, dz with
  | .bool true, h, dz =>
    obtain ⟨⟨w, e3⟩, h4, h⟩ := bnd h
    obtain ⟨d', h5, h⟩ := mpd h
    cases h
    cases dz.bool_inv
    refine ⟨true, rfl, iteT ⟨Z3, e2, w, e3, r2.grow gr, h4, fun v3 Z4 H4 r4 s4 d4 => ⟨Z4, y, w, d, r4.zh, DDm (DDm d2 gr.z) s4.z, d4, h5, fun v5 Z5 H5 g5 d5 => ?_⟩⟩⟩
    exact q v5 Z5 H5 (r4.grow g5) (((s12.trans gr.stp).trans s4).trans g5.stp) d5
  | .bool false, h, dz =>
    cases h
    cases dz.bool_inv
    exact ⟨false, rfl, iteF (q _ Z3 H3 (r2.grow gr) (s12.trans gr.stp) (.bl false))⟩
theorem pdt_chain {op op' : CmpOp} {o o' : PyData → PyData → Option PyData} (ho : OpD X (compareOp op) o) (ho' : OpD X (compareOp op') o') (hb' : IsB o') (ha : PD X F a f) (hb : PD X F b g) (hc : PD X F c k) (hm : lastMarks [op, op'] [b, c] = false := by with_unfolding_all rfl) :
    PDT X F (.Compare a [op, op'] [b, c] pos) (fTst (fChain o o' f g k)) := pt_imp (pt_chain ho ho' ha hb hc hm) fun _ _ _ h => tst_read (fun env d e h => by
  obtain ⟨x, _, h⟩ := bnd h
  obtain ⟨y, _, h⟩ := bnd h
  obtain ⟨z, _, h⟩ := bnd h
  match z, h with
  | .bool true, h =>
    obtain ⟨w, _, h⟩ := bnd h
    obtain ⟨z, h1, h⟩ := mpd h
    cases h
    exact hb' _ _ _ h1
  | .bool false, h => cases h; exact ⟨_, rfl⟩) (fun _ _ _ h => chain_read h) h
theorem eqD_b : IsB eqD := fun a b d h => by obtain ⟨k, _, rfl⟩ := mpd h; exact ⟨_, rfl⟩
theorem neD_b : IsB neD := fun a b d h => by obtain ⟨k, _, rfl⟩ := mpd h; exact ⟨_, rfl⟩
theorem inD_b : IsB inD := fun a b d h => by obtain ⟨k, _, rfl⟩ := mpd h; exact ⟨_, rfl⟩
theorem notInD_b : IsB notInD := fun a b d h => by obtain ⟨k, _, rfl⟩ := mpd h; exact ⟨_, rfl⟩
theorem intD_b {c : Int → Int → Bool} {o : Int → Int → Bool} : IsB (intD c fun i j => .bool (o i j)) := fun a b d h => by
  match a, b, h with
  | .int i, .int j, h =>
    change (if c i j then some (PyData.bool (o i j)) else none) = some d at h
    split at h <;> cases h
    exact ⟨_, rfl⟩
def fNeg (f : DEnv → Option (PyData × DEnv)) (env : DEnv) : Option (PyData × DEnv) := (f env).bind fun x => match x.1 with
  | .int i => some (.int (-i), x.2)
  | _ => none
theorem pd_neg (ha : PD X F a f) : PD X F (.UnaryOp .USub a pos) (fNeg f) := pe_imp (pe_un un_neg ha) fun σ H Q h => by
  obtain ⟨Z, env, d, env', r, e, q⟩ := h
  obtain ⟨⟨x, e1⟩, h1, h⟩ := bnd e
  match x, h1, h with
  | .int i, h1, h =>
    cases h
    refine ⟨Z, env, .int i, e1, r, h1, fun v Z1 H1 r1 s1 d1 => ?_⟩
    cases d1.int_inv
    exact ⟨i, rfl, q _ Z1 H1 r1 s1 (.int _)⟩
end
end DL
end L2


set_option Elab.async false
set_option maxRecDepth 100000
set_option maxHeartbeats 4000000
set_option autoImplicit false
namespace L2
namespace DL
open PySem PySem.Spec PyProof.Rows
variable [Lab]
section
variable {X : Cx} {F : Fm} {a b c e tg iter : Expr} {es : List Expr} {s : Stmt} {ss s2 : List Stmt} {pos p pn : Pos} {x y : Str} {f g : DEnv → Option (PyData × DEnv)} {fa fn : DEnv → Option (List PyData × DEnv)} {ft : DEnv → Option (Bool × DEnv)} {h1 h2 : DEnv → Option DFlow}
/-- list(e): a new list -/
def nListOf (f : DEnv → Option (PyData × DEnv)) (env : DEnv) : Option (List PyData × DEnv) := (f env).bind fun x => (seqD x.1).map fun ds => (ds, x.2)
theorem pn_listOf (hm : X.mg "list" = none) (ha : PD X F e f) (hg : Gl X "list" := by rfl) (he : starEach [e] X.env = (false, eval e X.env) :: starEach [] X.env := by rfl) (hpl : (backTo pos (starEach [] X.env)).any (·.1) = false := by rfl) :
    PN X F (.Call (.Name "list" p) [e] [] pos) (nListOf f) := pe_imp (pe_callTy call_list_of hg hm (by decide +kernel) (pa_cons ha pa_nil he) (by decide) (by decide) he hpl) fun σ H Q h => by
  obtain ⟨Z, env, ds, env', r, e, q⟩ := h
  obtain ⟨⟨d, e1⟩, h1, e⟩ := bnd e
  obtain ⟨ds', h2, e⟩ := mpd e
  cases e
  refine ⟨Z, env, d, e1, r, h1, fun v Z1 H1 r1 s1 d1 => ?_⟩
  cases d with
  | list ds =>
    cases h2
    cases d1 with
    | @lst a xs _ hr hd =>
      refine ⟨a, xs, rfl, .inl (same_ls r1.zh hr).sq, fun p hp => ?_⟩
      have gr := grow_own r1.zh hp (.lst xs)
      exact q p _ _ _ (r1.grow gr) (s1.trans gr.stp) (s1.new hp) (r1.zh.free hp) upd_same hd
  | tuple ds =>
    cases h2
    cases d1 with
    | @tup a xs _ hr hd =>
      refine ⟨a, xs, rfl, .inr (same_sqT r1.zh hr), fun p hp => ?_⟩
      have gr := grow_own r1.zh hp (.lst xs)
      exact q p _ _ _ (r1.grow gr) (s1.trans gr.stp) (s1.new hp) (r1.zh.free hp) upd_same hd
  | _ => cases h2
end
/-! ### small data -/
structure Sm (k w : Nat) (d : PyData) : Prop where
  lay : d.canLay0 = true
  sh : d.showable = true
  nd : d.hasDict = false
  sho : d.intsShort 13 = true
  dp : d.depth ≤ k
  wt : d.weight ≤ w
theorem Sm.mono {k w k' w' : Nat} {d : PyData} (h : Sm k w d) (hk : k ≤ k') (hw : w ≤ w') : Sm k' w' d := ⟨h.lay, h.sh, h.nd, h.sho, Nat.le_trans h.dp hk, Nat.le_trans h.wt hw⟩
theorem sm_all {k w : Nat} : ∀ (ds : List PyData), (∀ d ∈ ds, Sm k w d) → PyData.canLayAll0 ds = true ∧ PyData.showableAll ds = true ∧ PyData.hasDictAll ds = false ∧ PyData.intsShortAll 13 ds = true ∧ PyData.depthAll ds ≤ k ∧ PyData.weightAll ds ≤ ds.length * (w + 1)
  | [], _ => ⟨rfl, rfl, rfl, rfl, Nat.zero_le _, by simp [PyData.weightAll]⟩
  | d :: ds, h => by
    obtain ⟨a, b, c, e, f, g⟩ := sm_all ds fun x hx => h x (List.mem_cons_of_mem _ hx)
    have hd := h d List.mem_cons_self
    refine ⟨by simp [PyData.canLayAll0, hd.lay, a], by simp [PyData.showableAll, hd.sh, b], by simp [PyData.hasDictAll, hd.nd, c], by simp [PyData.intsShortAll, hd.sho, e], ?_, ?_⟩
    · simp only [PyData.depthAll]
      exact Nat.max_le.mpr ⟨hd.dp, f⟩
    · simp only [PyData.weightAll, List.length_cons, Nat.succ_mul]
      have := hd.wt
      omega
theorem Sm.tuple {k w n : Nat} {ds : List PyData} (h : ∀ d ∈ ds, Sm k w d) (hn : ds.length ≤ n) : Sm (k + 1) (n * (w + 1)) (.tuple ds) := by
  obtain ⟨a, b, c, e, f, g⟩ := sm_all ds h
  exact ⟨a, b, c, e, Nat.succ_le_succ f, Nat.le_trans g (Nat.mul_le_mul_right _ hn)⟩
theorem Sm.list {k w n : Nat} {ds : List PyData} (h : ∀ d ∈ ds, Sm k w d) (hn : ds.length ≤ n) : Sm (k + 1) (n * (w + 1)) (.list ds) := by
  obtain ⟨a, b, c, e, f, g⟩ := sm_all ds h
  exact ⟨a, b, c, e, Nat.succ_le_succ f, Nat.le_trans g (Nat.mul_le_mul_right _ hn)⟩
theorem Sm.shaped {k w : Nat} {d : PyData} (h : Sm k w d) (hk : k ≤ 64) : SeqAt.shaped d = true := by
  unfold SeqAt.shaped
  rw [h.lay, decide_eq_true (Nat.le_trans h.dp hk)]
  rfl
theorem Sm.repr {k w : Nat} {d : PyData} (h : Sm k w d) (hk : k ≤ 64) (hw : w ≤ 1048576) : reprOk d = true := by
  have hl : PyData.layable0 d = true := by
    unfold PyData.layable0
    rw [h.lay, decide_eq_true (Nat.le_trans h.dp hk), decide_eq_true (Nat.le_trans h.wt hw)]
    rfl
  have h1 := PyProof.Rows.shown_le13 hl h.sho
  have h2 : d.shown.length ≤ sizeLine := Nat.le_trans h1 (by decide)
  rw [reprOk, h.sh, h.nd, decide_eq_true h2, decide_eq_true (Nat.le_trans h.dp hk)]
  rfl
theorem Sm.shD {k w : Nat} {d : PyData} (h : Sm k w d) (hk : k ≤ 64) : DL.shD d = true := by
  unfold DL.shD
  rw [h.shaped hk, h.nd]
  rfl
/-! ### evaluating a mirror step by step -/
theorem ev_cb {o : List PyData → Option PyData} {fa : DEnv → Option (List PyData × DEnv)} {env e1 : DEnv} {ds : List PyData} {d : PyData} (h : fa env = some (ds, e1)) (h2 : o ds = some d) : fCB o fa env = some (d, e1) := by
  unfold fCB; rw [h]; show (o ds).map _ = _; rw [h2]; rfl
theorem ev_frz {fa : DEnv → Option (List PyData × DEnv)} {env e1 : DEnv} {ds : List PyData} (h : fa env = some (ds, e1)) : fFrz fa env = some (.list ds, e1) := by
  unfold fFrz; rw [h]; rfl
theorem ev_cons {f : DEnv → Option (PyData × DEnv)} {fa : DEnv → Option (List PyData × DEnv)} {env e1 e2 : DEnv} {d : PyData} {ds : List PyData} (h : f env = some (d, e1)) (h2 : fa e1 = some (ds, e2)) : fCons f fa env = some (d :: ds, e2) := by
  unfold fCons; rw [h]; show (fa e1).map _ = _; rw [h2]; rfl
theorem ev_nil {env : DEnv} : fNil env = some ([], env) := rfl
theorem ev_seq {f g : DEnv → Option DFlow} {env e1 : DEnv} {fl : DFlow} (h : f env = some (.nx e1)) (h2 : g e1 = some fl) : sSeq f g env = some fl := by
  unfold sSeq; rw [h]; exact h2
theorem ev_for {fi : DEnv → Option (List PyData × DEnv)} {g : PyData → DEnv → Option DEnv} {b : DEnv → Option DFlow} {env e1 : DEnv} {ds : List PyData} {fl : DFlow} (h : fi env = some (ds, e1)) (h2 : forD g b ds e1 = some fl) : sFor fi g b env = some fl := by
  unfold sFor; rw [h]; exact h2
theorem ev_ret {f : DEnv → Option (PyData × DEnv)} {env e1 : DEnv} {d : PyData} (h : f env = some (d, e1)) : sRet f env = some (.rt d e1) := by
  unfold sRet; rw [h]; rfl
theorem ev_ifT {ft : DEnv → Option (Bool × DEnv)} {h1 h2 : DEnv → Option DFlow} {env e1 : DEnv} {fl : DFlow} (h : ft env = some (true, e1)) (h' : h1 e1 = some fl) : sIf ft h1 h2 env = some fl := by
  unfold sIf; rw [h]; exact h'
theorem ev_ifF {ft : DEnv → Option (Bool × DEnv)} {h1 h2 : DEnv → Option DFlow} {env e1 : DEnv} {fl : DFlow} (h : ft env = some (false, e1)) (h' : h2 e1 = some fl) : sIf ft h1 h2 env = some fl := by
  unfold sIf; rw [h]; exact h'
theorem ev_tst {f : DEnv → Option (PyData × DEnv)} {env e1 : DEnv} {d : PyData} {k : Bool} (h : f env = some (d, e1)) (h2 : truthD d = some k) : fTst f env = some (k, e1) := by
  unfold fTst; rw [h]; show (truthD d).map _ = _; rw [h2]; rfl
theorem ev_bin {o : PyData → PyData → Option PyData} {f g : DEnv → Option (PyData × DEnv)} {env e1 e2 : DEnv} {a b d : PyData} (h : f env = some (a, e1)) (h2 : g e1 = some (b, e2)) (h3 : o a b = some d) : fBin o f g env = some (d, e2) := by
  unfold fBin; rw [h]; show (g e1).bind _ = _; rw [h2]; show (o a b).map _ = _; rw [h3]; rfl
theorem ev_cmpN {o : PyData → PyData → Option PyData} {f : DEnv → Option (PyData × DEnv)} {i : Nat} {env e1 : DEnv} {a b d : PyData} (h : f env = some (a, e1)) (h2 : rdB i e1 = some b) (h3 : o a b = some d) : fCmpN o f i env = some (d, e1) := by
  unfold fCmpN; rw [h]; show (rdB i e1).bind _ = _; rw [h2]; show (o a b).map _ = _; rw [h3]; rfl
theorem ev_seqI {f : DEnv → Option (PyData × DEnv)} {env e1 : DEnv} {d : PyData} {ds : List PyData} (h : f env = some (d, e1)) (h2 : seqD d = some ds) : iSeq f env = some (ds, e1) := by
  unfold iSeq; rw [h]; show (seqD d).map _ = _; rw [h2]; rfl
theorem ev_lst {fa : DEnv → Option (List PyData × DEnv)} {env e1 : DEnv} {ds : List PyData} (h : fa env = some (ds, e1)) (h2 : ds.length ≤ lim) : fLst fa env = some (ds, e1) := by
  unfold fLst; rw [h]; exact if_pos h2
theorem ev_forN {g : PyData → DEnv → Option DEnv} {b : DEnv → Option DFlow} {d : PyData} {ds : List PyData} {env e1 e2 : DEnv} {fl : DFlow} (hg : g d env = some e1) (hb : b e1 = some (.nx e2)) (h : forD g b ds e2 = some fl) : forD g b (d :: ds) env = some fl := by
  rw [forD, hg]; show (b e1).bind _ = _; rw [hb]; exact h
/-- what is known of the law's def at the head's heap -/
def LawG (l : PySem.W.OpenLaw) (w : World) (K : PySem.W.Frag) (k : Nat) (x : Str) (m : List PyData → Option PyData) (mg : Str → Option Value) (fa : Addr) (h : Heap) : Prop :=
  ∃ (fd : FuncData) (cs : List (Addr × Addr)) (L : Lab), (∀ c q, (c, q) ∈ cs → h.get? q = some { cls := .none, data := .fields #[] } ∧ K.lookup q = none ∧ PySem.W.CodeHd h c q) ∧ (∀ q ∈ L.T, ∃ c, (c, q.1) ∈ cs) ∧
    (∀ (s : Shared) (u : Value), BindsTo s fd ⟨[u], []⟩ [(x, u)]) ∧ ∀ base : Heap, K.In base → base.Ns mainGlobals mg → (∀ c q, (c, q) ∈ cs → LamX.TabB base mg c q) → FnG l.prog w K mg base k fa fd [x] (spF K 1 m)
omit [Lab] in
theorem walk_g {l : PySem.W.OpenLaw} {n k : Nat} {q : Program} {loose : List Str} {XP : (Str → Option Value) → Heap → Prop} {YP : World → Heap → Prop} {d : DefRec} {K : Params → PySem.W.Frag} {m : List PyData → Option PyData} {x : Str}
    (hn : l.most = some n) (hn2 : n ≤ sizeLine) (hdf : d.params.defaults = []) (hr : Room k callerA) (hY : ∀ (w : World) (h : Heap), YP w h → (K w.params).In h)
    (G : ∀ (w : World) (mg : Str → Option Value) (fa : Addr) (h : Heap), YP w h → (K w.params).In h → h.Ns mainGlobals mg → mg d.name = some (.ref fa) → LawG l w (K w.params) k x m mg fa h)
    (hm : ∀ ns : List Int, ns.length ≤ n → m [.list (ns.map PyData.int)] = some (.bool true)) :
    PySem.W.WalkO q loose XP YP l.row.toRowW d [] (fun f vs => PySem.call f vs) := by
  refine Att.attach_call hn hdf fun w s0 s1 mg mb fa o pm cd doc a vs ns Gr Y ho hd hcd hmg hobj hints hlen hg => ?_
  have KX := hY w _ Y
  obtain ⟨fd, cs, L, h1, h2, hb, hF⟩ := G w mg fa _ Y KX Gr.T.g hmg
  letI := L
  exact law_callG KX Gr.T.g Gr.T.b Gr.T.builtins Gr.T.nolimit hg h1 Gr.T.bmain hobj hints (Nat.le_trans hlen hn2) hr h2 hF hb (hm ns hlen)
omit [Lab] in
theorem cInt [LabW] {K : PySem.W.Frag} {h : Heap} {mg : Str → Option Value} (X : K.In h) (G : h.Ns mainGlobals mg) {x : Str} {i : Int} {t : Tok} (a : PySem.W.nsIn K mainGlobals x = some (some (.int i t))) : ∃ uv : Value × V, mg x = some uv.1 ∧ RelV uv.2 uv.1 ∧ ∀ Z, DD K Z uv.2 (.int i) :=
  ⟨(.int i t, .int i), PySem.W.mg_of X G a, ⟨t, rfl⟩, fun _ => .int i⟩
omit [Lab] in
theorem cStrs [LabW] {K : PySem.W.Frag} {h : Heap} {mg : Str → Option Value} (X : K.In h) (G : h.Ns mainGlobals mg) {x : Str} {p : Addr} {oc : Value} {od : Option Addr} {its : Array Value} {n : Nat} {sl : Array (Option Value)} {ss : List Str} (a : PySem.W.nsIn K mainGlobals x = some (some (.ref p)))
    (l : K.lookup p = some ⟨oc, od, .seq its n, sl⟩) (hc : oc = .type "tuple") (hz : its.size ≤ sizeLine) (hv : Vals (ss.map V.str) its.toList) : ∃ uv : Value × V, mg x = some uv.1 ∧ RelV uv.2 uv.1 ∧ ∀ Z, DD K Z uv.2 (.tuple (ss.map PyData.str)) := by
  refine ⟨(.ref p, .ref p), PySem.W.mg_of X G a, rfl, fun Z => .tup (.inr ⟨_, its, n, l, hc, rfl, hz, hv⟩) ?_⟩
  clear hv
  induction ss with
  | nil => exact .nil
  | cons s ss ih => exact .cons (.str s) ih
end DL
end L2


set_option Elab.async false
set_option maxRecDepth 100000
set_option maxHeartbeats 4000000
set_option autoImplicit false
namespace L2
namespace DL
open PySem PySem.Spec PyProof.Rows
variable [Lab]
/-! ### exceptions: what a def may let out -/
inductive XR where
  | ok (d : PyData) | ex (c a : Str) (d : PyData)
inductive DX where
  | ok (d : PyData) (env : DEnv) | ex (c a : Str) (d : PyData) (env : DEnv)
/-- a wish by the classes' names, as one by their addresses -/
def wx (C : Str → Addr) (W : Str → Option Addr → St → Hp → Prop) : WX := fun cls d σ H => ∃ c, cls = .ref (C c) ∧ W c d σ H
structure FnX (P : Program) (w : World) (K : PySem.W.Frag) (mg : Str → Option Value) (base : Heap) (k : Nat) (f : Addr) (fd : FuncData) (ps : List Str) (sp : Sp) : Prop where
  len : ∀ vs H Q E, sp vs H Q E → vs.length = ps.length
  run : ∀ (A : Around) (outer : List Env) (s : Shared) (H : Hp) (args : Args) (us : List Value) (vs : List V) (Q : VK) (E : XK),
    GdOk A → Room k A → Env0 P w K mg base A outer s H → BindsTo s fd args (ps.zip us) → Vals vs us → sp vs H Q E →
    codeAny (model P w) A (.call (.ref f) args) (CR (L2.CX P w) outer P w H s Q E) s
theorem FnX.mono {P : Program} {w : World} {K : PySem.W.Frag} {mg : Str → Option Value} {base : Heap} {j k : Nat} {f : Addr} {fd : FuncData} {ps : List Str} {sp : Sp}
    (G : FnX P w K mg base j f fd ps sp) (h : j ≤ k) : FnX P w K mg base k f fd ps sp :=
  ⟨G.len, fun A outer s H args us vs Q E hg hr => G.run A outer s H args us vs Q E hg (hr.mono h)⟩
section
variable {P : Program} {w : World} {K : PySem.W.Frag} {mg : Str → Option Value} {base : Heap}
theorem fnx_of {x qual : Str} {st : Stmt} {f : Addr} {fd : FuncData} {N ps : List Str} {k : Nat} {sp : Sp} (D : Fun K x qual st f fd) (S : FnScope N ps (defScope st)) (len : ∀ vs H Q E, sp vs H Q E → vs.length = ps.length)
    (hbody : ∀ (cdv : Value) (A : Around) (outer : List Env) (s : Shared) (H : Hp) (vs : List V) (Q : VK) (E : XK), cdv = fd.code → GdOk A →
      Room k (A.deeper (envOfC qual (defScope st) s.heap.objs.size f cdv)) → sp vs H Q E →
      ∃ t, PSs (cxOf (L2.CX P w) P w K mg base N qual (defScope st) f cdv A outer s H E) (defBody st) t ∧ t { nx := fun _ H' => Q .non H', rt := Q } (start N vs) H) :
    FnX P w K mg base (k + 1) f fd ps sp := by
  obtain ⟨oc, od, kV, doc, pm, an, cdv, ct, osl, rfl, lk, hcd⟩ := D.ex
  refine ⟨len, fun A outer s H args us vs Q E hgd hr e0 hb rv hsp => ?_⟩
  have sl := len vs H Q E hsp
  have kin : K.In s.heap := e0.mod.kin.keeps fun b o q => (e0.bs b o q).1
  have nol : s.heap.NoLimit := e0.mod.nolimit.keeps fun b o q => (e0.bs b o q).1
  have kinds : ∀ y ∈ ps.zip us, (defScope st).names.lookup y.1 = some .local ∨
      ((defScope st).names.lookup y.1 = some .cell ∧ ((cellsFrom (s.heap.objs.size + 1) (defScope st).names []).lookup y.1).isSome = true) := by
    rintro ⟨n, z⟩ hy
    rcases S.par n (List.of_mem_zip hy).1 with e | e
    · exact .inl e
    · exact .inr ⟨e, PySem.W.cellsFrom_some _ _ _ (.inl e)⟩
  refine codeAny_call_function hr.depth (kin _ _ lk) rfl S.co S.gen rfl (PySem.W.codeRec_of kin hcd) (hb _ _ _ _ (wpAny_newFunctionEnv_cells S.kind kinds fun env he s1 x1 => ?_))
  subst he
  obtain ⟨t, ht, hq⟩ := hbody cdv A outer s H vs Q E rfl hgd (hr.deeper _) hsp
  have J0 : Inv (cxOf (L2.CX P w) P w K mg base N qual (defScope st) f cdv A outer s H E) [] (start N vs) H s1 := inv_start S hr.hd e0 sl rv x1
  refine ⟨nol.keeps x1.toInCall.keep, codeAny_func (wpAny_mono (ht.run [] s1 (start N vs) H _ J0 hq) (fun fl s' hs => ?_) fun e s' hs => hs)⟩
  cases fl with
  | ret u => obtain ⟨v, s2, H', J, r1, q⟩ := hs; exact ⟨v, H', J.os, J.bare, J.base, J.hok, r1, q⟩
  | next => obtain ⟨s2, H', J, q⟩ := hs; exact ⟨V.non, H', J.os, J.bare, J.base, J.hok, rfl, q⟩
  | brk => obtain ⟨_, _, _, q⟩ := hs; cases q
  | cont => obtain ⟨_, _, _, q⟩ := hs; cases q
end
section
variable {X : Cx} {F : Fm} {W : WX} {k : Nat} {f : Addr} {fd : FuncData} {ps ks : List Str} {sp : Sp} {x : Str} {p pos : Pos} {e : Expr} {es : List Expr} {t tk : TA} {kws : List Keyword}
theorem run_x {pins : List (Addr × Obj)} {σ : St} {H : Hp} {s : Shared} {Q : VK} {args : Args} {us : List Value} {vs : List V} (tk : Takes X W) (G : FnX X.prog X.w X.K X.mg X.base k f fd ps sp) (hg : GdOk X.A) (hr : Room k X.A)
    (hb : BindsTo s fd args (ps.zip us)) (I : Inv X pins σ H s) (rv : Vals vs us) (h : sp vs H Q fun cls d H' => W cls d σ H') : wpAny (model X.prog X.w) X.A (call (.ref f) args.pos args.kw) (EP X pins σ Q) X.xe s := by
  refine wpAny_call (codeAny_mono (G.run X.A X.stack s H args us vs Q _ hg hr I.env0 hb rv h) fun r s' hq => ?_)
  cases r with
  | error z => exact tk _ _ (XE.of_call I (fun _ _ _ h => h) hq)
  | ok fl =>
    cases fl with
    | ret u => exact I.after hq
    | next => cases hq
    | brk => cases hq
    | cont => cases hq
theorem pe_xcall (tk : Takes X W) (G : FnX X.prog X.w X.K X.mg X.base k f fd ps sp) (hgd : GdOk X.A) (hr : Room k X.A) (hm : X.mg x = some (.ref f)) (hk : PySem.W.keepIn X.K (.ref f) = true) (hb : Binds X.K fd ps [])
    (ha : PA X (e :: es) t) (hg : Gl X x := by rfl) (hdb : (x == ("__debug__" : Str)) = false := by decide)
    (he : starEach (e :: es) X.env = (false, eval e X.env) :: starEach es X.env := by rfl) (hpl : (backTo pos (starEach es X.env)).any (·.1) = false := by rfl) :
    PE X (.Call (.Name x p) (e :: es) [] pos) (fun σ H Q => t σ H fun vs H1 => sp vs H1 Q fun cls d H' => W cls d σ H') := by
  refine ⟨fun pins s σ H Q I h => wpAny_Call_Name_kw (ld_glob I hg hm (PySem.W.callWith_K (h₀ := X.base) I.ok.mod.kin hk (thn (ha.run pos pins s σ H _ I h) ?_) he hpl) hdb)⟩
  rintro us s1 ⟨vs, H1, I1, rv, q⟩
  have hl : us.length = ps.length := by rw [← rv.length]; exact G.len _ _ _ _ q
  refine ⟨I1.kIn, run_x (args := ⟨us, []⟩) (us := us) tk G hgd hr ?_ I1 rv q⟩
  have := hb s1 us I1.kIn (by rw [List.append_nil]; exact hl)
  rw [List.append_nil] at this
  exact this
end

/-! ### the promise -/
def FinX (K : PySem.W.Frag) (C : Str → Addr) (Z H : Hp) (Q : VK) (E : XK) : XR → Prop
  | .ok d => ∀ v Z' H', Grow Z H Z' H' → DD K Z' v d → Q v H'
  | .ex c a d => ∀ v p Z' H', Grow Z H Z' H' → H p = none → Z' p = none → H' p = some (.xd [(a, v)]) → DD K Z' v d → E (.ref (C c)) (some p) H'
def spX (K : PySem.W.Frag) (C : Str → Addr) (n : Nat) (m : List PyData → Option XR) : Sp := fun vs H Q E => vs.length = n ∧ ∃ Z ds r, Same Z H ∧ TB H ∧ DDs K Z vs ds ∧ m ds = some r ∧ FinX K C Z H Q E r
/-! ### readings that may raise -/
def FinE (K : PySem.W.Frag) (F : Fm) (Z : Hp) (env : DEnv) (σ : St) (H : Hp) (Q : VK) : DX → Prop
  | .ok d e' => ∀ v Z' H', Rel K F Z' H' σ e' → Stp σ env Z H e' Z' H' → DD K Z' v d → Q v H'
  | .ex c a d e' => ∀ v p Z' H', Rel K F Z' H' σ e' → Stp σ env Z H e' Z' H' → H p = none → Z' p = none → F.G p = none → ¬ F.P p → H' p = some (.xd [(a, v)]) → DD K Z' v d → F.W c (some p) σ H'
def tDX (K : PySem.W.Frag) (F : Fm) (f : DEnv → Option DX) : TE := fun σ H Q => ∃ Z env r, Rel K F Z H σ env ∧ f env = some r ∧ FinE K F Z env σ H Q r
def PDX (X : Cx) (F : Fm) (e : Expr) (f : DEnv → Option DX) : Prop := PE X e (tDX X.K F f)
def toX (env : DEnv) : XR → DX
  | .ok d => .ok d env
  | .ex c a d => .ex c a d env
def fCX (m : List PyData → Option XR) (fa : DEnv → Option (List PyData × DEnv)) (env : DEnv) : Option DX := (fa env).bind fun x => (m x.1).map (toX x.2)
section
variable {X : Cx} {F : Fm} {C : Str → Addr} {k n : Nat} {f : Addr} {fd : FuncData} {ps ks : List Str} {x : Str} {p pos : Pos} {e : Expr} {es : List Expr} {fa : DEnv → Option (List PyData × DEnv)} {fx : DEnv → Option DX}
theorem pdx_call {m : List PyData → Option XR} (tk : Takes X (wx C F.W)) (G : FnX X.prog X.w X.K X.mg X.base k f fd ps (spX X.K C n m)) (hn : ∀ ds r, m ds = some r → ds.length = n) (hgd : GdOk X.A) (hr : Room k X.A) (hm : X.mg x = some (.ref f)) (hk : PySem.W.keepIn X.K (.ref f) = true) (hb : Binds X.K fd ps [])
    (ha : PDA X F (e :: es) fa) (hg : Gl X x := by rfl) (hdb : (x == ("__debug__" : Str)) = false := by decide)
    (he : starEach (e :: es) X.env = (false, eval e X.env) :: starEach es X.env := by rfl) (hpl : (backTo pos (starEach es X.env)).any (·.1) = false := by rfl) :
    PDX X F (.Call (.Name x p) (e :: es) [] pos) (fCX m fa) :=
  pe_imp (pe_xcall tk G hgd hr hm hk hb ha hg hdb he hpl) fun σ H Q h => by
    obtain ⟨Z, env, r0, r, e, q⟩ := h
    obtain ⟨⟨xs, e1⟩, h1, h⟩ := bnd e
    obtain ⟨y, h2, h⟩ := mpd h
    subst h
    refine ⟨Z, env, xs, e1, r, h1, fun vs Z1 H1 r1 s1 d1 => ⟨(dds_len d1).trans (hn _ _ h2), Z1, xs, y, r1.zh, r1.tb, d1, h2, ?_⟩⟩
    cases y with
    | ok d => exact fun v Z' H' gr dd => q v Z' H' (r1.grow gr) (s1.trans gr.stp) dd
    | ex c a d => exact fun v p Z' H' gr h0 hz hp dd => ⟨c, rfl, q v p Z' H' (r1.grow gr) (s1.trans gr.stp) (s1.new h0) hz (r1.gh.free h0) (fun z => (r1.pp p z).1 h0) hp dd⟩
/-! ### statements of them -/
def sExprX (f : DEnv → Option DX) (env : DEnv) : Option DFlow := (f env).map fun r => match r with
  | .ok _ e => .nx e
  | .ex c a d e => .ex c a d e
def sSetX (i : Nat) (f : DEnv → Option DX) (env : DEnv) : Option DFlow := (f env).map fun r => match r with
  | .ok d e => .nx (e.set i (some (.fr d)))
  | .ex c a d e => .ex c a d e
def sRetX (f : DEnv → Option DX) (env : DEnv) : Option DFlow := (f env).map fun r => match r with
  | .ok d e => .rt d e
  | .ex c a d e => .ex c a d e
theorem ds_exprX (ha : PDX X F e fx) (hs : swapsWith e none pos.line X.env = pure false := by rfl) : PDS X F (.Expr e pos) (sExprX fx) := ps_imp (ps_expr ha hs) fun D σ H h => by
  obtain ⟨Z, env, fl, r, e, q⟩ := h
  obtain ⟨y, h1, h⟩ := mpd e
  subst h
  refine ⟨Z, env, y, r, h1, ?_⟩
  cases y with
  | ok d e1 => exact fun v Z' H' r' s' _ => q σ Z' H' r' s'.z
  | ex c a d e1 => exact fun v p Z' H' r' s' _ hz hg hp hx dd => q v p σ Z' H' r' s'.z hz hg hp hx dd
theorem ds_setX (i : Nat) {pos' : Pos} (ha : PDX X F e fx) (hN : X.N.Nodup) (hi : X.N[i]? = some x := by rfl) (hx : Loc X.env.scope x := by first | exact Or.inl rfl | exact Or.inr rfl) (hs : swapsWith e (some (.Name x pos')) pos.line X.env = pure false := by rfl)
    (hf : X.fn x = true ∨ X.env.scope.names.lookup x = some .local := by first | exact .inl rfl | exact .inr rfl | assumption) : PDS X F (.Assign [.Name x pos'] e pos) (sSetX i fx) := ps_imp (ps_set hN hi hx ha hs hf) fun D σ H h => by
  obtain ⟨Z, env, fl, r, e, q⟩ := h
  obtain ⟨y, h1, h⟩ := mpd e
  subst h
  refine ⟨Z, env, y, r, h1, ?_⟩
  cases y with
  | ok d e1 => exact fun v Z' H' r' s' dd => q _ Z' H' (r'.store i dd) s'.z
  | ex c a d e1 => exact fun v p Z' H' r' s' _ hz hg hp hx dd => q v p σ Z' H' r' s'.z hz hg hp hx dd
theorem ds_retX (ha : PDX X F e fx) : PDS X F (.Return (some e) pos) (sRetX fx) := ps_imp (ps_ret ha) fun D σ H h => by
  obtain ⟨Z, env, fl, r, e, q⟩ := h
  obtain ⟨y, h1, h⟩ := mpd e
  subst h
  refine ⟨Z, env, y, r, h1, ?_⟩
  cases y with
  | ok d e1 => exact fun v Z' H' r' s' dd => q v σ Z' H' r' s'.z dd
  | ex c a d e1 => exact fun v p Z' H' r' s' _ hz hg hp hx dd => q v p σ Z' H' r' s'.z hz hg hp hx dd
end

/-! ### defs that may raise -/
def runX (n N : Nat) (g : DEnv → Option DFlow) (ds : List PyData) : Option XR := if ds.length = n then (match g (startE N ds) with
  | some (.rt d _) => some (.ok d)
  | some (.nx _) => some (.ok .none)
  | some (.ex c a d _) => some (.ex c a d)
  | _ => none) else none
theorem runX_len {n N : Nat} {g : DEnv → Option DFlow} (ds : List PyData) (r : XR) (h : runX n N g ds = some r) : ds.length = n := by
  unfold runX at h
  split at h
  · assumption
  · cases h
section
variable {P : Program} {w : World} {K : PySem.W.Frag} {mg : Str → Option Value} {base : Heap} {x qual : Str} {st : Stmt} {f : Addr} {fd : FuncData} {N ps : List Str} {k : Nat} {g : DEnv → Option DFlow} {C : Str → Addr}
/-- what a body's derivation is asked for -/
abbrev BodyX (C : Str → Addr) (P : Program) (w : World) (K : PySem.W.Frag) (mg : Str → Option Value) (base : Heap) (N : List Str) (qual : Str) (st : Stmt) (f : Addr) (cv : Value) (k : Nat) (g : DEnv → Option DFlow) : Prop :=
  ∀ (cdv : Value) (A : Around) (outer : List Env) (s : Shared) (H : Hp) (E : XK) (F : Fm), cdv = cv → Takes (cxOf (L2.CX P w) P w K mg base N qual (defScope st) f cdv A outer s H E) (wx C F.W) →
    PassesOwn (model P w) (cxOf (L2.CX P w) P w K mg base N qual (defScope st) f cdv A outer s H E).A (cxOf (L2.CX P w) P w K mg base N qual (defScope st) f cdv A outer s H E).env (cxOf (L2.CX P w) P w K mg base N qual (defScope st) f cdv A outer s H E).xe →
    GdOk (A.deeper (envOfC qual (defScope st) s.heap.objs.size f cdv)) → Room k (A.deeper (envOfC qual (defScope st) s.heap.objs.size f cdv)) →
    PDSs (cxOf (L2.CX P w) P w K mg base N qual (defScope st) f cdv A outer s H E) F (defBody st) g
theorem pure_startW {Z H : Hp} {vs : List V} {ds : List PyData} {W : Str → Option Addr → St → Hp → Prop} (sz : Same Z H) (tb : TB H) (hd : DDs K Z vs ds) (hl : vs.length ≤ N.length) : Rel K ⟨Z, H, fun _ => False, W⟩ Z H (start N vs) (startE N.length ds) := by
  have r := pure_start (K := K) (N := N) sz tb hd hl
  exact ⟨r.z0, r.zh, r.gh, r.nw, r.pp, r.len, fun i dv e => by have := r.sl i dv e; cases dv <;> exact this, r.inj, r.tb⟩
theorem fn_X (D : Fun K x qual st f fd) (S : FnScope N ps (defScope st)) {n m : Nat} (hn : ps.length = n) (hN' : N.length = m) (hb : BodyX C P w K mg base N qual st f fd.code k g) : FnX P w K mg base (k + 1) f fd ps (spX K C n (runX n m g)) := by
  subst hn hN'
  refine fnx_of D S (fun vs H Q E h => h.1) fun cdv A outer s H vs Q E hcv hg hr h => ?_
  obtain ⟨hl, Z, ds, r, sz, tb, hd, e, q⟩ := h
  have hN : ps.length ≤ N.length := by
    have := congrArg List.length S.pre
    rw [List.length_take] at this
    omega
  refine ⟨_, hb cdv A outer s H E ⟨Z, H, fun _ => False, fun c d _ H' => E (.ref (C c)) d H'⟩ hcv ?_ (passes_of rfl) hg hr, Z, startE N.length ds, ?_⟩
  · refine (takes_of (E := E) rfl rfl rfl rfl).imp fun cls d σ H' h => ?_
    obtain ⟨c, rfl, h⟩ := h
    exact h
  have r0 := pure_startW (K := K) (N := N) (W := fun c d _ H' => E (.ref (C c)) d H') sz tb hd (by omega)
  have fin : ∀ {Z' H' : Hp} {σ' : St} {e' : DEnv}, Rel K ⟨Z, H, fun _ => False, fun c d _ H' => E (.ref (C c)) d H'⟩ Z' H' σ' e' → Grow Z H Z' H' := fun {Z' H' σ' e'} r' => ⟨r'.z0, r'.zh, r'.gh, fun _ => r'.tb, fun q hq => (r'.nw q hq).imp id (·.1)⟩
  unfold runX at e
  split at e
  case isFalse => cases e
  generalize hh : g (startE N.length ds) = o at e
  match o, e with
  | some (.rt d e'), e =>
    cases e
    exact ⟨_, r0, rfl, fun v σ' Z' H' r' s' dd => q v Z' H' (fin r') dd⟩
  | some (.nx e'), e =>
    cases e
    exact ⟨_, r0, rfl, fun σ' Z' H' r' s' => q .non Z' H' (fin r') .non⟩
  | some (.ex c a d e'), e =>
    cases e
    exact ⟨_, r0, rfl, fun v p σ' Z' H' r' s' hz hg' hp' hx dd => q v p Z' H' (fin r') hg' hz hx dd⟩
end

/-! ### try .. except X: .. -/
theorem Rel.wish {K : PySem.W.Frag} {F : Fm} {Z H : Hp} {σ : St} {env : DEnv} {W : Str → Option Addr → St → Hp → Prop} (r : Rel K F Z H σ env) : Rel K { F with W := W } Z H σ env :=
  ⟨r.z0, r.zh, r.gh, r.nw, r.pp, r.len, fun i dv e => by have := r.sl i dv e; cases dv <;> exact this, r.inj, r.tb⟩
theorem Rel.unwish {K : PySem.W.Frag} {F : Fm} {Z H : Hp} {σ : St} {env : DEnv} {W : Str → Option Addr → St → Hp → Prop} (r : Rel K { F with W := W } Z H σ env) : Rel K F Z H σ env :=
  ⟨r.z0, r.zh, r.gh, r.nw, r.pp, r.len, fun i dv e => by have := r.sl i dv e; cases dv <;> exact this, r.inj, r.tb⟩
/-! ### raise X(e), X an own class over ValueError that keeps its one argument -/
/-- what such an __init__ does -/
def spI (C : Addr) (an : Str) : Sp := fun vs H Q _ => ∃ a y, vs = [.ref a, y] ∧ H a = some (exo a C none) ∧ ∀ dx, H dx = none → dx ≠ a → Q .non (upd (upd H dx (exd dx [(an, y)])) a (exo a C (some dx)))
theorem init_ok {P : Program} {w : World} {K : PySem.W.Frag} {mg : Str → Option Value} {base : Heap} {qual : Str} {st : Stmt} {fI C : Addr} {fd : FuncData} {an : Str} {p1 p2 p3 p4 : Pos} (D : Fun K "__init__" qual st fI fd) (S : FnScope ["self", an] ["self", an] (defScope st)) (T : OexC K C) (hno : PySem.W.findIn K (.ref C) an = some none)
    (hbd : defBody st = [.Assign [.Attribute (.Name "self" p1) an p2] (.Name an p3) p4]) (hv1 : Vis (defScope st) "self") (hv2 : Vis (defScope st) an) (hd : (an == ("__debug__" : Str)) = false) (hcd : (an == ("__classdict__" : Str)) = false) :
    FnOk P w K mg base CX0 1 fI fd ["self", an] (spI C an) := by
  refine D.ok S (fun vs H Q E h => by obtain ⟨a, y, rfl, _⟩ := h; rfl) fun cdv A outer s H vs Q E hr h => ?_
  obtain ⟨a, y, rfl, ha, q⟩ := h
  rw [hbd]
  refine ⟨_, pss_one (ps_ost (pe_var (i := 0) rfl hv1) (pe_var (i := 1) rfl hv2 hd hcd)), ?_⟩
  exact ⟨y, rfl, .ref a, rfl, a, C, rfl, T, hno, .inl ⟨ha, fun dx h1 h2 => q dx h1 h2⟩⟩
def sRaise (c an : Str) (f : DEnv → Option (PyData × DEnv)) (env : DEnv) : Option DFlow := (f env).map fun x => .ex c an x.1 x.2
theorem upd_back {H : Hp} {a dx : Addr} {o1 o2 o3 : HO} {x : HO} (ha : H a = none) (hne : dx ≠ a) : upd (del (upd (upd (upd H a o1) dx o2) a o3) a) dx x = upd H dx x := by
  funext b
  by_cases h1 : b = dx
  · subst h1; rw [upd_same, upd_same]
  · rw [upd_ne h1, upd_ne h1]
    by_cases h2 : b = a
    · subst h2; rw [del_same, ha]
    · rw [del_ne h2, upd_ne h2, upd_ne h1, upd_ne h2]
theorem ds_raise {X : Cx} {F : Fm} {C : Str → Addr} {cn an : Str} {fI : Addr} {fd : FuncData} {p pos pos' : Pos} {e : Expr} {f : DEnv → Option (PyData × DEnv)} (hc : X.calm = true) (tk : Takes X (wx C F.W)) (T : OexC X.K (C cn)) (iC : PySem.W.findIn X.K (.ref (C cn)) "__init__" = some (some (.ref fI))) (tI : PySem.W.typeIn X.K (.ref fI) = some (.type "function"))
    (F1 : FnOk X.prog X.w X.K X.mg X.base CX0 1 fI fd ["self", an] (spI (C cn) an)) (hr : Room 2 X.A) (hb : Binds X.K fd ["self", an] []) (hm : X.mg cn = some (.ref (C cn))) (ha : PD X F e f) (hg : Gl X cn := by rfl)
    (hdb : (cn == ("__debug__" : Str)) = false := by decide) (he : starEach [e] X.env = (false, eval e X.env) :: starEach [] X.env := by rfl) (hpl : (backTo pos (starEach [] X.env)).any (·.1) = false := by rfl) :
    PDS X F (.Raise (some (.Call (.Name cn p) [e] [] pos)) none pos') (sRaise cn an f) :=
  ps_imp (ps_raise hc tk (pmk_oex T iC tI F1 hr hb .nil (fun _ _ _ _ _ _ _ z => z.elim) hg hm (pa_cons ha pa_nil he) hdb he hpl)) fun D σ H h => by
    obtain ⟨Z, env, fl, r, e, q⟩ := h
    obtain ⟨⟨d, e1⟩, h1, h⟩ := mpd e
    subst h
    refine ⟨Z, env, d, e1, r, h1, fun v Z1 H1 r1 s1 dd => ⟨by show 1 ≤ 1000; decide, fun a na => ⟨a, v, rfl, upd_same, fun dx hdx hne => ⟨rfl, dx, [(an, v)], upd_same, ?_, ?_, cn, rfl, ?_⟩⟩⟩⟩
    · rw [upd_ne hne, upd_same]
    · rw [upd_ne hne] at hdx; exact hdx
    · rw [upd_ne hne] at hdx
      rw [upd_back na hne]
      have hS : Same H1 (upd H1 dx (.xd [(an, v)])) := .of (same_new hdx _)
      have gr : Grow Z1 H1 Z1 (upd H1 dx (.xd [(an, v)])) := ⟨Same.refl _, r1.zh.trans hS, hS, fun t => t.ext (same_new hdx _), fun _ z => .inl z⟩
      exact q v dx σ Z1 _ (r1.grow gr) s1.z (r1.zh.free hdx) (r1.gh.free hdx) (fun z => (r1.pp dx z).1 hdx) upd_same dd

/-! ### {}, is, tuple * n, int(b) -/
section
variable {X : Cx} {F : Fm} {pos : Pos}
theorem pd_dict0 : PD X F (.Dict [] [] pos) (fC (.dict [])) := pe_imp pe_dnewK fun σ H Q h => by
  obtain ⟨Z, env, d, env', r, e, q⟩ := h
  cases e
  refine fun p hp => ?_
  have gr := grow_new r.zh hp (.dK [])
  exact q _ _ _ (r.grow gr) gr.stp (.dct upd_same .nil)
def repTD : PyData → PyData → Option PyData
  | .tuple xs, .int k => if xs ≠ [] ∧ 2 ≤ k ∧ k ≤ 1000 ∧ xs.length ≤ 1000 then some (.tuple (List.replicate k.toNat xs).flatten) else none
  | _, _ => none
theorem dds_app2 {K : PySem.W.Frag} {Z : Hp} : ∀ {vs ws : List V} {ds es : List PyData}, DDs K Z vs ds → DDs K Z ws es → DDs K Z (vs ++ ws) (ds ++ es)
  | _, _, [], _, h, h2 => by cases h; exact h2
  | _, _, _ :: _, _, h, h2 => by
    cases h with
    | cons a b => exact .cons a (dds_app2 b h2)
theorem dds_rep {K : PySem.W.Frag} {Z : Hp} {vs : List V} {ds : List PyData} (h : DDs K Z vs ds) : ∀ n : Nat, DDs K Z (List.replicate n vs).flatten (List.replicate n ds).flatten
  | 0 => .nil
  | n + 1 => by
    rw [List.replicate_succ, List.replicate_succ, List.flatten_cons, List.flatten_cons]
    exact dds_app2 h (dds_rep h n)
theorem od_repT : OpD X (binaryOp .Mult) repTD := by
  intro pins s σ H x y v u Q I rx ry h
  obtain ⟨Z, a, b, d, sz, ha, hb, e, q⟩ := h
  match a, b, ha, hb, e with
  | .tuple ds, .int k, ha, hb, e =>
    change (if ds ≠ [] ∧ 2 ≤ k ∧ k ≤ 1000 ∧ ds.length ≤ 1000 then some (PyData.tuple (List.replicate k.toNat ds).flatten) else none) = some d at e
    split at e
    case isFalse => cases e
    rename_i hc
    cases e
    cases hb.int_inv
    cases ha with
    | @tup l xs _ hr hd =>
      have hl := dds_len hd
      refine op_repT pins s σ H _ _ v u Q I rx ry ⟨l, k, xs, rfl, rfl, same_sqT sz hr, ?_, hc.2.1, hc.2.2.1, by omega, fun p hp => ?_⟩
      · intro z
        subst z
        cases hd
        exact hc.1 rfl
      · have gr := grow_new sz hp (.tup (List.replicate k.toNat xs).flatten)
        exact q _ _ _ gr (.tup (.inl (Rd.of upd_same)) (DDsm (dds_rep hd k.toNat) gr.z))
end
/-! ### classes by name -/
def clsOf {α : Type} (l : List (Str × α)) (d : α) (c : Str) : α := match l with
  | [] => d
  | (n, a) :: l => if c = n then a else clsOf l d c
omit [Lab] in
theorem oex_mk {K : PySem.W.Frag} {C : Addr} {nm q N bs bm sn sub ab col dd k0 k1 k2 k3 k5} (l : K.lookup C = some (excClassObj nm q C N bs bm true sn sub ab col dd k0 k1 k2 k3 k5 "ValueError.__new__")) (r : PySem.HandSPX.refsVE bm = true)
    (sa : PySem.W.findIn K (.ref C) "__setattr__" = some (some (.builtin "object.__setattr__"))) (ex : PySem.W.subIn K (.ref C) (.type "BaseException") = some true) (ty : PySem.W.typeIn K (.ref C) = some (.type "type")) (k : PySem.W.keepIn K (.ref C) = true) : OexC K C :=
  ⟨⟨nm, q, N, bs, bm, sn, sub, ab, col, dd, k0, k1, k2, k3, k5, l, r⟩, sa, ex, ty, k⟩
end DL
end L2


set_option Elab.async false
set_option maxRecDepth 100000
set_option maxHeartbeats 4000000
set_option autoImplicit false
namespace L2
namespace DL
open PySem PySem.Spec PyProof.Rows
variable [Lab]
/-! ### comparisons whose left side is a name: its list as it stands -/
section
variable {X : Cx} {F : Fm} {a b c e : Expr} {pos p : Pos} {f g k : DEnv → Option (PyData × DEnv)}
def fCmpL (o : PyData → PyData → Option PyData) (i : Nat) (g : DEnv → Option (PyData × DEnv)) (env : DEnv) : Option (PyData × DEnv) := (rdB i env).bind fun _ => (g env).bind fun y => (rdB i y.2).bind fun x => (o x y.1).map fun d => (d, y.2)
theorem cmpL_read {K : PySem.W.Frag} {o : PyData → PyData → Option PyData} {i : Nat} (hs : ∀ a b d, o a b = some d → scalD d = true) {σ : St} {H : Hp} {Q : VK} (h : tD K F (fCmpL o i g) σ H Q) : tOp (r2D K o) (tVar i) (tD K F g) σ H Q := by
  obtain ⟨Z, env, d, env', r, e, q⟩ := h
  obtain ⟨x0, h0, h⟩ := bnd e
  obtain ⟨⟨y, e1⟩, h1, h⟩ := bnd h
  obtain ⟨x, h2, h⟩ := bnd h
  obtain ⟨d', h3, h⟩ := mpd h
  cases h
  obtain ⟨v, ev, _⟩ := r.rdB h0
  refine ⟨v, ev, Z, env, y, e1, r, h1, fun v2 Z1 H1 r1 s1 d2 => ?_⟩
  obtain ⟨v', ev', dv⟩ := r1.rdB h2
  rw [ev] at ev'
  cases ev'
  refine ⟨H1, x, y, d, Same.refl H1, dv, DDm d2 r1.zh, h3, fun v' Z' H' gr dd => ?_⟩
  have gr' : Grow Z1 H1 Z1 H' := ⟨Same.refl _, r1.zh.trans gr.h, gr.h, gr.t, fun _ z => .inl z⟩
  exact q v' Z1 H' (r1.grow gr') (s1.trans gr'.stp) (dd.scal (hs _ _ _ h3))
theorem pdt_cmpL {op : CmpOp} {o : PyData → PyData → Option PyData} (ho : OpD X (compareOp op) o) (hs : ∀ a b d, o a b = some d → scalD d = true) (hb : IsB o) (i : Nat) (hc : PD X F b g) {x : Str} (hm : behindInMarks op b = false := by first | exact nomark _ | rfl)
    (hN : X.N[i]? = some x := by rfl) (hv : Vis X.env.scope x := by first | exact Or.inl rfl | exact Or.inr (Or.inl rfl) | exact Or.inr (Or.inr rfl)) (hd : (x == ("__debug__" : Str)) = false := by decide)
    (hcd : (x == ("__classdict__" : Str)) = false := by decide) : PDT X F (.Compare (.Name x p) [op] [b] pos) (fTst (fCmpL o i g)) :=
  pt_imp (pt_cmpR ho (pe_var hN hv hd hcd) hc hm) fun _ _ _ h => tst_read (fun env d e h => by
    obtain ⟨x, _, h⟩ := bnd h
    obtain ⟨y, _, h⟩ := bnd h
    obtain ⟨y, _, h⟩ := bnd h
    obtain ⟨z, h1, h⟩ := mpd h
    cases h
    exact hb _ _ _ h1) (fun _ _ _ h => cmpL_read hs h) h
/-! ### a tuple beside () -/
def eqTE : PyData → PyData → Option PyData
  | .tuple a, .tuple [] => some (.bool a.isEmpty)
  | a, b => eqD a b
theorem od_eqTE {k : Nat} (hr : Room k X.A) : OpD X (compareOp .Eq) eqTE := by
  intro pins s σ H x y v u Q I rx ry h
  obtain ⟨Z, a, b, d, sz, ha, hb, e, q⟩ := h
  unfold eqTE at e
  split at e
  · rename_i as
    cases e
    cases ha with
    | @tup p xs _ hx dx =>
      cases hb with
      | @tup p' ys _ hy dy =>
        cases dy
        obtain ⟨its, rv, t1, _⟩ := I.tuple (same_sqT sz hx)
        obtain ⟨its', rv', t2, _⟩ := I.tuple (same_sqT sz hy)
        cases rv'
        cases rx
        cases ry
        have hl := dds_len dx
        have hl2 := rv.length
        refine SeqAt.RcAt.tuples (e := fun _ => true) t1 t2 (by have := hr.units; omega) (fun j _ h2 => absurd h2 (by simp)) _ _ _ _ ?_
        refine ⟨.bl as.isEmpty, H, I, ?_, q _ Z H (Grow.refl sz) (.bl _)⟩
        show Value.bool _ = Value.bool _
        congr 1
        cases as with
        | nil =>
          have : its = [] := by
            cases its with
            | nil => rfl
            | cons _ _ => rw [hl2] at hl; exact nomatch hl
          subst this
          rfl
        | cons _ _ =>
          cases its with
          | nil => rw [hl2] at hl; exact nomatch hl
          | cons _ _ => simp
  · exact od_eq hr pins s σ H x y v u Q I rx ry ⟨Z, a, b, d, sz, ha, hb, e, q⟩
theorem eqTE_b : IsB eqTE := fun a b d h => by
  unfold eqTE at h
  split at h
  · cases h; exact ⟨_, rfl⟩
  · exact eqD_b _ _ _ h
/-! ### list + list, new -/
def nAdd (f g : DEnv → Option (PyData × DEnv)) (env : DEnv) : Option (List PyData × DEnv) := (f env).bind fun x => (g x.2).bind fun y => match x.1, y.1 with
  | .list a, .list b => if a.length + b.length ≤ lim then some (a ++ b, y.2) else none
  | _, _ => none
def rAddL (K : PySem.W.Frag) : R2 := fun x y H Q => ∃ Z a b, Same Z H ∧ DD K Z x (.list a) ∧ DD K Z y (.list b) ∧ a.length + b.length ≤ lim ∧ ∀ p xs, H p = none → DDs K Z xs (a ++ b) → Q (.ref p) (upd H p (.lst xs))
theorem op_addL : OpR X (binaryOp .Add) (rAddL X.K) := by
  intro pins s σ H x y v u Q I rx ry h
  obtain ⟨Z, i, j, sz, ha, hb, hle, q⟩ := h
  have hlim : lim = 100000 := rfl
  have hsl := sizeLine_eq
  cases ha with
  | @lst p xs _ hx dx =>
    cases hb with
    | @lst p' ys _ hy dy =>
      have l1 := dds_len dx
      have l2 := dds_len dy
      cases rx
      cases ry
      obtain ⟨z, its, n, r, e1⟩ := (same_ls sz hx).isL I
      obtain ⟨z2, its2, n2, r2, e2⟩ := (same_ls sz hy).isL I
      have k1 := r.length
      have k2 := r2.length
      refine PySem.P.add_list e1 e2 ?_ (by rw [List.size_toArray, List.size_toArray]; omega)
      have ea : its.toArray ++ its2.toArray = (its ++ its2).toArray := by simp
      rw [ea]
      exact ⟨.ref _, _, I.lnew (t' := s.toks) (r.append r2) (by rw [List.length_append]; omega), rfl, q _ _ I.fresh (dds_app dx dy)⟩
theorem pn_addL (ha : PD X F a f) (hb : PD X F b g) : PN X F (.BinOp a .Add b pos) (nAdd f g) := pe_imp (pe_op op_addL ha hb) fun σ H Q h => by
  obtain ⟨Z, env, d, env', r, e, q⟩ := h
  obtain ⟨⟨x, e1⟩, h1, h⟩ := bnd e
  obtain ⟨⟨y, e2⟩, h2, h⟩ := bnd h
  refine ⟨Z, env, x, e1, r, h1, fun v1 Z1 H1 r1 s1 d1 => ⟨Z1, e1, y, e2, r1, h2, fun v2 Z2 H2 r2 s2 d2 => ?_⟩⟩
  match x, y, d1, d2, h with
  | .list a, .list b, d1, d2, h =>
    change (if a.length + b.length ≤ lim then some (a ++ b, e2) else none) = some (d, env') at h
    split at h
    case isFalse => cases h
    rename_i hl
    cases h
    refine ⟨Z2, a, b, r2.zh, DDm d1 s2.z, d2, hl, fun p xs hp hd => ?_⟩
    have gr := grow_own r2.zh hp (.lst xs)
    exact q p xs _ _ (r2.grow gr) ((s1.trans s2).trans gr.stp) ((s1.trans s2).new hp) (r2.zh.free hp) upd_same hd
end
end DL
end L2


set_option Elab.async false
set_option maxRecDepth 100000
set_option maxHeartbeats 4000000
set_option autoImplicit false
namespace L2
namespace DL
open PySem PySem.Spec PyProof.Rows
variable [Lab]
/-! ### more of evaluation -/
theorem ev_forE {g : PyData → DEnv → Option DEnv} {b : DEnv → Option DFlow} {d : PyData} {ds : List PyData} {env e1 e2 : DEnv} {r : PyData} (hg : g d env = some e1) (hb : b e1 = some (.rt r e2)) : forD g b (d :: ds) env = some (.rt r e2) := by
  rw [forD, hg]; show (b e1).bind _ = _; rw [hb]; rfl
theorem ev_forX {g : PyData → DEnv → Option DEnv} {b : DEnv → Option DFlow} {d : PyData} {ds : List PyData} {env e1 e2 : DEnv} {c a : Str} {r : PyData} (hg : g d env = some e1) (hb : b e1 = some (.ex c a r e2)) : forD g b (d :: ds) env = some (.ex c a r e2) := by
  rw [forD, hg]; show (b e1).bind _ = _; rw [hb]; rfl
theorem ev_seqR {f g : DEnv → Option DFlow} {env e1 : DEnv} {d : PyData} (h : f env = some (.rt d e1)) : sSeq f g env = some (.rt d e1) := by
  unfold sSeq; rw [h]; rfl
theorem ev_seqX {f g : DEnv → Option DFlow} {env e1 : DEnv} {c a : Str} {d : PyData} (h : f env = some (.ex c a d e1)) : sSeq f g env = some (.ex c a d e1) := by
  unfold sSeq; rw [h]; rfl
theorem ev_and0 {f g : DEnv → Option (Bool × DEnv)} {env e1 : DEnv} (h : f env = some (false, e1)) : fAnd f g env = some (false, e1) := by
  unfold fAnd; rw [h]; rfl
theorem ev_and1 {f g : DEnv → Option (Bool × DEnv)} {env e1 e2 : DEnv} {k : Bool} (h : f env = some (true, e1)) (h2 : g e1 = some (k, e2)) : fAnd f g env = some (k, e2) := by
  unfold fAnd; rw [h]; exact h2
theorem ev_not {f : DEnv → Option (Bool × DEnv)} {env e1 : DEnv} {k : Bool} (h : f env = some (k, e1)) : fNot f env = some (!k, e1) := by
  unfold fNot; rw [h]; rfl
theorem ev_cr {j : Nat} {m : List PyData → List PyData → Option (PyData × List PyData)} {fa : DEnv → Option (List PyData × DEnv)} {env e1 : DEnv} {es0 es es' ds : List PyData} {d : PyData} (h0 : rdO j env = some es0) (h : fa env = some (ds, e1)) (h1 : rdO j e1 = some es) (h2 : m es ds = some (d, es')) : fCR j m fa env = some (d, wrO j es' e1) := by
  unfold fCR; rw [h0]; show (fa env).bind _ = _; rw [h]; show (rdO j e1).bind _ = _; rw [h1]; show (m es ds).map _ = _; rw [h2]; rfl
theorem ev_runF {n N : Nat} {g : DEnv → Option DFlow} {ds : List PyData} {d : PyData} {env : DEnv} (hl : ds.length = n) (h : g (startE N ds) = some (.rt d env)) : runF n N g ds = some d := by
  unfold runF; rw [if_pos hl, h]
theorem ev_runX {n N : Nat} {g : DEnv → Option DFlow} {ds : List PyData} {d : PyData} {env : DEnv} (hl : ds.length = n) (h : g (startE N ds) = some (.rt d env)) : runX n N g ds = some (.ok d) := by
  unfold runX; rw [if_pos hl, h]
theorem ev_runX0 {n N : Nat} {g : DEnv → Option DFlow} {ds : List PyData} {env : DEnv} (hl : ds.length = n) (h : g (startE N ds) = some (.nx env)) : runX n N g ds = some (.ok .none) := by
  unfold runX; rw [if_pos hl, h]
theorem ev_runXX {n N : Nat} {g : DEnv → Option DFlow} {ds : List PyData} {c a : Str} {d : PyData} {env : DEnv} (hl : ds.length = n) (h : g (startE N ds) = some (.ex c a d env)) : runX n N g ds = some (.ex c a d) := by
  unfold runX; rw [if_pos hl, h]
theorem ev_runR {n N : Nat} {g : DEnv → Option DFlow} {es es' ds : List PyData} {d : PyData} {env : DEnv} (hl : ds.length + 1 = n) (h : g (some (.rf es) :: startE (N - 1) ds) = some (.rt d (some (.rf es') :: env))) : runR n N g es ds = some (d, es') := by
  unfold runR; rw [if_pos hl, h]; rfl
theorem ev_setE {i : Nat} {f : DEnv → Option (PyData × DEnv)} {env e1 e2 : DEnv} {d : PyData} (h : f env = some (d, e1)) (he : e1.set i (some (.fr d)) = e2) : sSet i f env = some (.nx e2) := by
  unfold sSet; rw [h, ← he]; rfl
theorem ev_crE {j : Nat} {m : List PyData → List PyData → Option (PyData × List PyData)} {fa : DEnv → Option (List PyData × DEnv)} {env e1 e2 : DEnv} {es0 es es' ds : List PyData} {d : PyData} (h0 : rdO j env = some es0) (h : fa env = some (ds, e1)) (h1 : rdO j e1 = some es) (h2 : m es ds = some (d, es')) (he : wrO j es' e1 = e2) : fCR j m fa env = some (d, e2) := by
  rw [← he]; exact ev_cr h0 h h1 h2
/-- a comprehension whose element is a function of its item -/
theorem lc_map {i : Nat} {fe : DEnv → Option (PyData × DEnv)} {p : PyData → PyData} {env : DEnv} (hw : env.set i none = env) : ∀ ds : List PyData, (∀ d ∈ ds, fe (env.set i (some (.fr d))) = some (p d, env.set i (some (.fr d)))) → lcD (gSet i) fYes fe [i] ds env = some (ds.map p, env)
  | [], _ => rfl
  | d :: ds, h => by
    have ih := lc_map hw ds fun x hx => h x (List.mem_cons_of_mem _ hx)
    rw [lcD]
    show ((fe (env.set i (some (.fr d)))).bind fun y => (lcD (gSet i) fYes fe [i] ds (wipeE y.2 [i])).map fun r => (y.1 :: r.1, r.2)) = _
    rw [h d List.mem_cons_self]
    show (lcD (gSet i) fYes fe [i] ds ((env.set i (some (.fr d))).set i none)).map _ = _
    rw [List.set_set, hw, ih]
    rfl
theorem bools_map {α : Type} (p : α → Bool) : ∀ ds : List α, boolsD (ds.map fun d => PyData.bool (p d)) = some (ds.map p)
  | [] => rfl
  | d :: ds => by
    show (boolsD (ds.map fun d => PyData.bool (p d))).map (p d :: ·) = _
    rw [bools_map p ds]
    rfl
theorem all_map {α : Type} (p : α → Bool) (ds : List α) : allD [.list (ds.map fun d => PyData.bool (p d))] = some (.bool (ds.all p)) := by
  show (boolsD (ds.map fun d => PyData.bool (p d))).map _ = _
  rw [bools_map]
  show some (PyData.bool ((ds.map p).all id)) = _
  rw [List.all_map]
  rfl
theorem rangeD_succ (lo : Int) (n : Nat) : rangeD lo (n + 1) = .int lo :: rangeD (lo + 1) n := by
  unfold rangeD
  rw [List.range_succ_eq_map, List.map_cons, List.map_map]
  congr 1
  · simp
  · refine List.map_congr_left fun i _ => ?_
    show PyData.int (lo + ((i + 1 : Nat) : Int)) = PyData.int (lo + 1 + (i : Int))
    congr 1
    omega
theorem enum_cons (d : PyData) (ds : List PyData) : enumD (d :: ds) = .tuple [.int 0, d] :: (rangeD 1 ds.length).zipWith (fun a b => .tuple [a, b]) ds := by
  unfold enumD
  rw [List.length_cons, rangeD_succ, List.zipWith_cons_cons]
  rfl
/-! ### data that may be laid -/
structure Ly (k : Nat) (d : PyData) : Prop where
  lay : d.canLay0 = true
  nd : d.hasDict = false
  dp : d.depth ≤ k
theorem Ly.mono {k k' : Nat} {d : PyData} (h : Ly k d) (hk : k ≤ k') : Ly k' d := ⟨h.lay, h.nd, Nat.le_trans h.dp hk⟩
theorem ly_all {k : Nat} : ∀ (ds : List PyData), (∀ d ∈ ds, Ly k d) → PyData.canLayAll0 ds = true ∧ PyData.hasDictAll ds = false ∧ PyData.depthAll ds ≤ k
  | [], _ => ⟨rfl, rfl, Nat.zero_le _⟩
  | d :: ds, h => by
    obtain ⟨a, b, c⟩ := ly_all ds fun x hx => h x (List.mem_cons_of_mem _ hx)
    have hd := h d List.mem_cons_self
    refine ⟨by simp [PyData.canLayAll0, hd.lay, a], by simp [PyData.hasDictAll, hd.nd, b], ?_⟩
    simp only [PyData.depthAll]
    exact Nat.max_le.mpr ⟨hd.dp, c⟩
theorem Ly.tuple {k : Nat} {ds : List PyData} (h : ∀ d ∈ ds, Ly k d) : Ly (k + 1) (.tuple ds) := by
  obtain ⟨a, b, c⟩ := ly_all ds h
  exact ⟨a, b, Nat.succ_le_succ c⟩
theorem Ly.list {k : Nat} {ds : List PyData} (h : ∀ d ∈ ds, Ly k d) : Ly (k + 1) (.list ds) := by
  obtain ⟨a, b, c⟩ := ly_all ds h
  exact ⟨a, b, Nat.succ_le_succ c⟩
theorem ly_int (i : Int) : Ly 0 (.int i) := ⟨rfl, rfl, Nat.le_refl _⟩
theorem ly_none : Ly 0 .none := ⟨rfl, rfl, Nat.le_refl _⟩
theorem Ly.sh {k : Nat} {d : PyData} (h : Ly k d) (hk : k ≤ 64) : shD d = true := by
  unfold shD SeqAt.shaped
  rw [h.lay, h.nd, decide_eq_true (Nat.le_trans h.dp hk)]
  rfl
theorem ly_ints (is : List Int) : ∀ d ∈ is.map PyData.int, Ly 0 d := fun d hd => by
  obtain ⟨i, _, rfl⟩ := List.mem_map.mp hd
  exact ly_int i
end DL
end L2


set_option Elab.async false
set_option maxRecDepth 100000
set_option maxHeartbeats 4000000
set_option autoImplicit false
namespace L2
namespace DL
open PySem PySem.Spec PyProof.Rows
variable [Lab]
/-! ### lambdas are made -/
abbrev lamQ (X : Cx) : Str := X.env.qual ++ "<lambda>"
/-- a lambda's object -/
def LamO (f : Addr) (q : Str) (params : Arguments) (body : Expr) (scope : Scope) (cl : List (Str × Addr)) (c' : Addr) : HO :=
  .ext fun h => ∃ pm ctv, h.get? f = some (PySem.W.kla_obj "<lambda>" q params body scope cl pm c' ctv)
omit [Lab] in
theorem nt_ext {φ : Heap → Prop} : NT (.ext φ) := fun _ h => nomatch h
section
variable {X : Cx} {pins : List (Addr × Obj)} {σ : St} {H : Hp} {s : Shared}
omit [Lab] in
theorem lamO_ok {f c' : Addr} {q : Str} {params : Arguments} {body : Expr} {scope : Scope} {cl : List (Str × Addr)} {pm ctv : Value} {H' : Hp} {h : Heap} (e : h.get? f = some (PySem.W.kla_obj "<lambda>" q params body scope cl pm c' ctv)) :
    ObjOk X.prog X.w H' h f (LamO f q params body scope cl c') := ⟨⟨pm, ctv, e⟩, ⟨_, e⟩, fun _ _ ⟨a, b, z⟩ k => ⟨a, b, k _ z⟩⟩
omit [Lab] in
theorem newFr (I : Inv X pins σ H s) {f : Addr} (hf : s.heap.objs.size ≤ f) : f ∉ frs X.stack := fun z => by
  rcases List.mem_cons.mp (I.stkSub _ z) with e | e
  · have h1 : X.env.locals < s.heap.objs.size := I.lt
    exact Nat.lt_irrefl _ (Nat.lt_of_lt_of_le (by rw [e]; exact h1) hf)
  · exact I.nofs hf e
def tLam (X : Cx) (params : Arguments) (body : Expr) (scope : Scope) : TE := fun _ H Q => TB H ∧ ∀ f c' H1, Same H H1 → TB H1 → H f = none →
  H1 f = some (LamO f (lamQ X) params body scope (cloFrom X.env.cells scope.names []) c') → H1 c' = some (LamX.CodeO c' (lamQ X)) → Q (.ref f) H1
theorem pe_lam {c P : Addr} {params : Arguments} {body : Expr} {scope : Scope} {pos : Pos} (tb0 : LamX.TabB X.base X.mg c P) (hcode : X.env.code = .ref c) (hm : (P, lamQ X) ∈ Lab.T) (hu : ∀ p ∈ Lab.T, p.1 = P → p.2 = lamQ X)
    (hfree : X.Ok → ∀ y ∈ scope.names, y.2 = .free → ∃ c, X.env.cells.lookup y.1 = some c) (hdef : defaultsOf params X.env = ([], [])) : PE X (.Lambda params body scope pos) (tLam X params body scope) := by
  refine ⟨fun pins s σ H Q I h => PySem.W.kla_eval hdef ?_⟩
  obtain ⟨tb, h⟩ := h
  obtain ⟨ps, hP, tri, all⟩ := tb _ hm
  have gP : s.heap.get? P = some { cls := .none, data := .fields ps } := I.hok P _ hP
  have bP : s.heap.BuiltinsAt X.mg P := tb0.bm.keeps I.bk
  have cl := closure_ok (hfree I.ok)
  cases hit : codeAmong pos ps.toList with
  | some cv =>
    obtain ⟨c', rfl, hc⟩ := all pos cv hit
    refine PySem.W.kla_makeFunctionHit (c := c) cl I.ok.glob (I.mod.glob.keeps I.bk) hcode (tb0.code.keeps I.bk) gP tri hit bP fun ctv h' tk kp hsz => ?_
    have I0 : Inv X pins σ H { s with heap := h', toks := tk } := I.kept kp
    have hf : H h'.objs.size = none := I0.hok.fresh (Nat.le_refl _)
    have nw := same_new hf (LamO h'.objs.size (lamQ X) params body scope (cloFrom X.env.cells scope.names []) c')
    have I1 := I0.laid (a := h'.objs.size) (o := LamO h'.objs.size (lamQ X) params body scope (cloFrom X.env.cells scope.names []) c') (h' := h'.push (PySem.W.kla_obj "<lambda>" (lamQ X) params body scope (cloFrom X.env.cells scope.names []) ((X.mg "__name__").getD .none) c' ctv)) (t' := tk)
      (fun b u e => Heap.get?_push_of_some _ e) (Nat.le_refl _) (lamO_ok (X := X) (Heap.get?_push_size _ rfl))
    exact ⟨.ref h'.objs.size, _, I1, rfl, h _ c' _ (.of nw) (tb.ext nw) hf upd_same (nw _ _ hc)⟩
  | none =>
    refine PySem.W.kla_makeFunction (c := c) cl I.ok.glob (I.mod.glob.keeps I.bk) hcode (tb0.code.keeps I.bk) gP tri hit tb0.gP bP fun c' ctv h' tk kp hge hlt hrec htb => ?_
    obtain ⟨c2, oc, vs, t, e2, hoc, hd, hv⟩ := hrec
    cases e2
    have nC : H c' = none := I.hok.fresh hge
    have I0 := LamX.inv_table (t' := tk) (q := lamQ X) (more := #[rawInt pos.line, rawInt pos.col, .ref c']) (h' := h') I hP (fun b o hb e => kp b o hb e) htb hge ⟨oc, vs, t, hoc, hd, hv⟩
    have nP : P ≠ c' := ne_of_none hP nC
    have s01 : Same H (upd (upd H P (.tbl (ps ++ #[rawInt pos.line, rawInt pos.col, .ref c']))) c' (LamX.CodeO c' (lamQ X))) := by
      refine ⟨fun b o e n => ?_, fun b e => ?_⟩
      · rw [upd_ne (ne_of_none e nC), upd_ne (fun z => n ps (by rw [z, hP] at e; exact (Option.some.inj e).symm))]
        exact e
      · by_cases h1 : b = c'
        · rw [h1, upd_same]; simp
        · rw [upd_ne h1]
          by_cases h2 : b = P
          · rw [h2, upd_same]; simp
          · rw [upd_ne h2]; exact e
    have eL : (ps ++ #[rawInt pos.line, rawInt pos.col, Value.ref c']).toList = ps.toList ++ [rawInt pos.line, rawInt pos.col, .ref c'] := by simp
    have nt : NT (LamX.CodeO c' (lamQ X)) := fun ps => LamX.codeO_ne ps
    have t1 : TB (upd (upd H P (.tbl (ps ++ #[rawInt pos.line, rawInt pos.col, .ref c']))) c' (LamX.CodeO c' (lamQ X))) := fun p hp => by
      by_cases hb : p.1 = P
      · rw [hu p hp hb, hb]
        refine ⟨_, (upd_ne nP).trans upd_same, by rw [eL]; exact PySem.TriplesOk_snoc _ _ _ _ tri, fun p' cv hcv => ?_⟩
        rw [eL] at hcv
        rcases LamX.among_app _ tri hcv with z | z
        · obtain ⟨c0, e1, e2⟩ := all p' cv z
          exact ⟨c0, e1, s01.h _ _ e2 LamX.codeO_ne⟩
        · exact ⟨c', z, upd_same⟩
      · obtain ⟨ps', a1, a2, a3⟩ := tb p hp
        refine ⟨ps', ?_, a2, fun p' cv hcv => ?_⟩
        · rw [upd_ne (ne_of_none a1 nC), upd_ne hb]
          exact a1
        · obtain ⟨c0, e1, e2⟩ := a3 p' cv hcv
          exact ⟨c0, e1, s01.h _ _ e2 LamX.codeO_ne⟩
    have hsz : s.heap.objs.size ≤ h'.objs.size := Nat.le_trans hge (Nat.le_of_lt hlt)
    have hf : (upd (upd H P (.tbl (ps ++ #[rawInt pos.line, rawInt pos.col, .ref c']))) c' (LamX.CodeO c' (lamQ X))) h'.objs.size = none := I0.hok.fresh (Nat.le_refl _)
    have nw := same_new hf (LamO h'.objs.size (lamQ X) params body scope (cloFrom X.env.cells scope.names []) c')
    have I1 := I0.laid (a := h'.objs.size) (o := LamO h'.objs.size (lamQ X) params body scope (cloFrom X.env.cells scope.names []) c') (h' := h'.push (PySem.W.kla_obj "<lambda>" (lamQ X) params body scope (cloFrom X.env.cells scope.names []) ((X.mg "__name__").getD .none) c' ctv)) (t' := tk)
      (fun b u e => Heap.get?_push_of_some _ e) (Nat.le_refl _) (lamO_ok (X := X) (Heap.get?_push_size _ rfl))
    exact ⟨.ref h'.objs.size, _, I1, rfl, h _ c' _ (s01.trans (.of nw)) (t1.ext nw) (I.hok.fresh hsz) upd_same (nw _ _ upd_same)⟩
end
/-! ### a lambda of one parameter, called by a built-in -/
/-- its names: the parameter, captured ones, globals -/
structure Lam1 (sc scope : Scope) (y : Str) : Prop where
  kind : scope.kind = .function
  co : scope.isCoroutine = false
  gen : scope.isGenerator = false
  loc : ∀ z ∈ scope.names, z.2 = .local → z.1 = y
  own : ∀ z ∈ scope.names, z.2 ≠ .cell
  par : scope.names.lookup y = some .local
  free : ∀ z ∈ scope.names, z.2 = .free → sc.names.lookup z.1 = some .cell ∨ sc.names.lookup z.1 = some .free
def lam1B (sc scope : Scope) (y : Str) : Bool :=
  decide (scope.kind = .function) && (!scope.isCoroutine && (!scope.isGenerator && (decide (scope.names.lookup y = some .local) && scope.names.all fun z => !decide (z.2 = .cell) && ((!decide (z.2 = .local) || decide (z.1 = y)) && (!decide (z.2 = .free) || (decide (sc.names.lookup z.1 = some .cell) || decide (sc.names.lookup z.1 = some .free)))))))
omit [Lab] in
theorem lam1_by {sc scope : Scope} {y : Str} (h : lam1B sc scope y = true) : Lam1 sc scope y := by
  unfold lam1B at h
  simp only [Bool.and_eq_true, Bool.or_eq_true, Bool.not_eq_true', decide_eq_true_eq, decide_eq_false_iff_not, List.all_eq_true] at h
  obtain ⟨h1, h2, h3, h4, h5⟩ := h
  exact ⟨h1, h2, h3, fun z hz e => (h5 z hz).2.1.elim (fun w => absurd e w) id, fun z hz => (h5 z hz).1, h4, fun z hz e => (h5 z hz).2.2.elim (fun w => absurd e w) id⟩
omit [Lab] in
theorem Lam1.has {X : Cx} {scope : Scope} {y : Str} (L : Lam1 X.env.scope scope y) (ok : X.Ok) : ∀ z ∈ scope.names, z.2 = .free → ∃ c, X.env.cells.lookup z.1 = some c := fun z hz e => ok.has _ (L.free z hz e)
/-- the context of its body -/
abbrev lam1Cx (X : Cx) (A : Around) (outer : List Env) (s : Shared) (H : Hp) (E : XK) (scope : Scope) (f c' : Addr) (y : Str) : Cx := { LamX.lamCx X A outer s H E scope f c' with N := X.N ++ [y] }
section
variable {X : Cx} {pins : List (Addr × Obj)} {σ : St} {H : Hp} {s : Shared}
omit [Lab] in
theorem lam1_start {A : Around} {E : XK} {scope : Scope} {f c' : Addr} {h₁ : Heap} {tk : Nat} {y : Str} {v : V} {u : Value} (I : Inv X pins σ H s) (L : Lam1 X.env.scope scope y) (hA : A.frames = some X.stack) (hd : A.handled = none) (hy : y ∉ X.N) (rv : RelV v u)
    (hns : h₁.Ns s.heap.objs.size fun z => [(y, u)].reverse.lookup z) (kp : ∀ b o, s.heap.get? b = some o → h₁.get? b = some o) :
    Inv (lam1Cx X A X.stack s H E scope f c' y) [] (σ ++ [some v]) H { s with heap := h₁, toks := tk } := by
  have e0 := I.env0
  have hfree := L.has I.ok
  have cm : ∀ {z : Str} {c : Addr}, (cloFrom X.env.cells scope.names []).lookup z = some c → X.env.cells.lookup z = some c := fun {z c} e => by
    rcases cloFrom_mem (PySem.mem_of_lookup e) with hm | ⟨h1, h2⟩
    · cases hm
    · obtain ⟨c1, hc⟩ := hfree _ h1 rfl
      have hc' : X.env.cells.lookup z = some c1 := hc
      rw [hc'] at h2
      rw [hc']
      exact congrArg some h2.symm
  have look : ∀ {z : Str}, scope.names.lookup z = some .free → ∃ c, (cloFrom X.env.cells scope.names []).lookup z = some c := fun {z} hl =>
    mem_lookup (cloFrom_has (cells := X.env.cells) (acc := []) (PySem.mem_of_lookup hl))
  have cellK : ∀ {c : Addr} {w : Option Value}, s.heap.IsCell c w → h₁.IsCell c w := fun {c w} ⟨o, ho, hd⟩ => ⟨o, kp _ _ ho, hd⟩
  have noA : ∀ b : Addr, b ∉ (lam1Cx X A X.stack s H E scope f c' y).ex := fun b z => nomatch (show b ∈ ([] : List Addr) from z)
  refine ⟨⟨e0.mod, L.kind, rfl, rfl, Nat.le_refl _, fun a b c e1 e2 => I.ok.inj a b c (cm e1) (cm e2), fun z hz => ?_, fun _ _ z _ => ?_, fun _ => hd, Around.frames_deeper hA, .inr ⟨rfl, rfl⟩, fun b z => absurd z (noA b), e0.bs, e0.bsz, fun b _ _ => noA b, fun b z => absurd z (noA b), e0.funs, e0.frf⟩,
    rfl, e0.bare, Un.kept kp, ⟨_, hns, fun i z w e1 e2 e3 => ?_⟩, fun z c e => ?_, e0.hok.fresh (Nat.le_refl _), fun z c e => ?_, fun q hq => ?_, e0.hok.kept kp, ?_⟩
  · rcases (show scope.names.lookup z = some .cell ∨ scope.names.lookup z = some .free from hz) with hz | hz
    · exact absurd rfl (L.own _ (PySem.mem_of_lookup hz))
    · exact look hz
  · cases (show false = true from z)
  · have hlen : σ.length = X.N.length := I.len
    have e1 : (X.N ++ [y])[i]? = some z := e1
    by_cases hi : i < X.N.length
    · rw [List.getElem?_append_left hi] at e1
      rw [List.getElem?_append_left (by omega)] at e2
      rcases (show Vis scope z from e3) with k | k | k
      · have : z = y := L.loc _ (PySem.mem_of_lookup k) rfl
        exact absurd (this ▸ List.mem_of_getElem? e1) hy
      · exact absurd rfl (L.own _ (PySem.mem_of_lookup k))
      · obtain ⟨m, hn, hl⟩ := I.loc
        have hvis : Vis X.env.scope z := (L.free _ (PySem.mem_of_lookup k) rfl).elim (fun k => .inr (.inl k)) (fun k => .inr (.inr k))
        obtain ⟨w', r, q⟩ := hl i z w e1 e2 hvis
        obtain ⟨c2, h2⟩ := look k
        refine ⟨w', r, .inr ⟨.inr k, c2, h2, ?_⟩⟩
        rcases q with ⟨k', _⟩ | ⟨_, c3, e', z'⟩
        · have k3 : X.env.scope.names.lookup z = some .local := k'
          rcases L.free _ (PySem.mem_of_lookup k) rfl with k2 | k2 <;> rw [show X.env.scope.names.lookup z = _ from k2] at k3 <;> cases k3
        · rw [cm h2] at e'
          cases e'
          exact cellK z'
    · have hi2 : i = X.N.length := by
        have := (List.getElem?_eq_some_iff.mp e1).1
        rw [List.length_append] at this
        have h1 : [y].length = 1 := rfl
        omega
      subst hi2
      rw [List.getElem?_append_right (Nat.le_refl _), Nat.sub_self] at e1
      rw [← hlen, List.getElem?_append_right (Nat.le_refl _), Nat.sub_self] at e2
      cases e1
      cases e2
      exact ⟨u, rv, .inl ⟨L.par, by simp⟩⟩
  · obtain ⟨w', z'⟩ := I.cell z c (cm e)
    exact ⟨w', cellK z'⟩
  · exact I.freeC z c (cm e)
  · exact nomatch (show q ∈ ([] : List (Addr × Obj)) ++ [] from hq)
  · show (σ ++ [some v]).length = (X.N ++ [y]).length
    rw [List.length_append, List.length_append, I.len]
    rfl
/-- f(u), f a lambda of one parameter made in this frame -/
theorem lam1_call {A : Around} {scope : Scope} {f c' : Addr} {y : Str} {v : V} {u : Value} {k : Nat} {params : Arguments} {body : Expr} {tb : TE} {Q : VK} {E0 : Value → Shared → Prop} (I : Inv X pins σ H s) (L : Lam1 X.env.scope scope y) (hA : A.frames = some X.stack) (hr : Room (k + 1) A) (hy : y ∉ X.N) (rv : RelV v u)
    (hf : H f = some (LamO f (lamQ X) params body scope (cloFrom X.env.cells scope.names []) c')) (hc : H c' = some (LamX.CodeO c' (lamQ X)))
    (hbind : ∀ (q : Str) (cl : List (Str × Addr)) (pm cv ctv : Value), bindArgs (PySem.W.kla_fn "<lambda>" q params body scope cl pm cv ctv) ⟨[u], []⟩ = pure [(y, u)])
    (hbody : Room k (A.deeper (LamX.lamEnv X scope s.heap.objs.size f c')) → PE (lam1Cx X A X.stack s H (fun _ _ _ => False) scope f c' y) body tb) (ht : tb (σ ++ [some v]) H Q) :
    wpAny (model X.prog X.w) A (call (.ref f) [u]) (fun z s' => CE X.stack X.prog X.w H s Q z s') E0 s := by
  obtain ⟨⟨pm, ctv, of1⟩, _, _⟩ := I.hok f _ hf
  obtain ⟨⟨oc, vs, t, hoc, hdc, hvc⟩, _, _⟩ := I.hok c' _ hc
  have rc : codeAny (model X.prog X.w) A (.call (.ref f) ⟨[u], []⟩) (CR (L2.CX X.prog X.w) X.stack X.prog X.w H s Q fun _ _ _ => False) s := by
    refine PySem.W.kla_callFunE hr.depth of1 rfl L.co L.gen rfl ⟨c', oc, vs, t, rfl, hoc, hdc, hvc⟩ ?_
    rw [hbind]
    refine wpAny_pure (wpAny_newFunctionEnv (fun z hz => L.own z hz) (fun z hz => ?_) (fun h₁ hns hsb => ⟨I.nolimit.fresh _ hsb, ?_⟩) L.kind)
    · rw [List.mem_singleton] at hz
      rw [hz]
      exact L.par
    show codeAny _ _ (.expr body (LamX.lamEnv X scope s.heap.objs.size f c')) _ _
    have kp : ∀ b o, s.heap.get? b = some o → h₁.get? b = some o := fun b o e => hsb.extBut b o (Nat.ne_of_lt (Heap.lt_size e)) (Heap.get?_push_of_some _ e)
    have J := lam1_start (tk := s.toks + [(y, u)].length) (E := fun _ _ _ => False) (f := f) (c' := c') I L hA hr.hd hy rv hns kp
    refine PySem.W.kla_codeExpr (wpAny_mono ((hbody (hr.deeper _)).run [] _ _ H Q J ht) (fun z s' hq => ?_) fun e s' hq => hq)
    obtain ⟨w', H', J', rv, q⟩ := hq
    exact ⟨w', H', J'.os, J'.bare, J'.base, J'.hok, rv, q⟩
  refine wpAny_call (codeAny_mono rc fun r s' hq => ?_)
  cases r with
  | error z =>
    obtain ⟨_, _, _, _, _, _, _, _, _, _, _, _, z⟩ := hq
    exact z.elim
  | ok fl =>
    cases fl with
    | ret u => exact hq
    | next => cases hq
    | brk => cases hq
    | cont => cases hq
end
end DL
end L2


set_option Elab.async false
set_option maxRecDepth 100000
set_option maxHeartbeats 4000000
set_option autoImplicit false
namespace L2
namespace DL
open PySem PySem.Spec PyProof.Rows PySem.Calls
variable [Lab]
/-! ### what a lambda's body sees of the slots -/
def frzO : Option DV → Option DV
  | some (.fr d) => some (.fr d)
  | _ => none
def frzE (env : DEnv) : DEnv := env.map frzO
omit [Lab] in
theorem frzO_some {o : Option DV} {dv : DV} (h : frzO o = some dv) : ∃ d, dv = .fr d ∧ o = some (.fr d) := by
  match o, h with
  | some (.fr d), h => cases h; exact ⟨d, rfl, rfl⟩
theorem frzE_get {env : DEnv} {d0 : PyData} {i : Nat} {dv : DV} (h : (frzE env ++ [some (.fr d0)])[i]? = some (some dv)) : (i < env.length ∧ ∃ d, dv = .fr d ∧ env[i]? = some (some (.fr d))) ∨ (i = env.length ∧ dv = .fr d0) := by
  have hl : (frzE env).length = env.length := List.length_map ..
  by_cases hi : i < env.length
  · rw [List.getElem?_append_left (by omega)] at h
    unfold frzE at h
    rw [List.getElem?_map] at h
    obtain ⟨o, h1, h2⟩ := mpd h
    obtain ⟨d, e1, e2⟩ := frzO_some h2
    exact .inl ⟨hi, d, e1, by rw [h1, e2]⟩
  · rw [List.getElem?_append_right (by omega)] at h
    have h2 : i - (frzE env).length = 0 := by
      have := (List.getElem?_eq_some_iff.mp h).1
      simp at this
      omega
    rw [h2] at h
    cases h
    exact .inr ⟨by omega, rfl⟩
theorem Rel.lam {K : PySem.W.Frag} {F : Fm} {Z H : Hp} {σ : St} {env : DEnv} {v : V} {d : PyData} (r : Rel K F Z H σ env) (hd : DD K Z v d) : Rel K F Z H (σ ++ [some v]) (frzE env ++ [some (.fr d)]) := by
  refine ⟨r.z0, r.zh, r.gh, r.nw, r.pp, ?_, fun i dv e => ?_, fun i j di dj p ei ej oi => ?_, r.tb⟩
  · rw [List.length_append, List.length_append]
    show (env.map frzO).length + 1 = _ + 1
    rw [List.length_map, r.len]
  · rcases frzE_get e with ⟨hi, d', rfl, e2⟩ | ⟨rfl, rfl⟩
    · obtain ⟨w, a, b⟩ := r.sl i _ e2
      refine ⟨w, ?_, b⟩
      rw [List.getElem?_append_left (by rw [← r.len]; exact hi)]
      exact a
    · refine ⟨v, ?_, hd⟩
      rw [r.len, List.getElem?_append_right (Nat.le_refl _), Nat.sub_self]
      rfl
  · rcases frzE_get ei with ⟨_, d', rfl, _⟩ | ⟨_, rfl⟩ <;> cases oi
theorem stp_grow {σ : St} {env env' : DEnv} {d : PyData} {Z H Z' H' : Hp} (zh : Same Z' H') (tb : TB H') (s : Stp σ (frzE env ++ [some (.fr d)]) Z H env' Z' H') : Grow Z H Z' H' := by
  have fr : ∀ q, Fre σ (frzE env ++ [some (.fr d)]) q := fun q i dv e o => by
    rcases frzE_get e with ⟨_, d', rfl, _⟩ | ⟨_, rfl⟩ <;> cases o
  refine ⟨s.z, zh, ⟨fun b o e n => s.h b o e n (fr b), s.k⟩, fun _ => tb, fun q hq => ?_⟩
  by_cases hz : Z q = none
  · exact .inr (Classical.byContradiction fun hh => s.n q hq hz hh (fr q))
  · exact .inl hz
/-- the key of an item -/
def keyOf (fb : DEnv → Option (PyData × DEnv)) (env : DEnv) (d : PyData) : Option PyData := (fb (frzE env ++ [some (.fr d)])).map (·.1)
/-! ### objects of a built-in's own -/
structure Nu (X : Cx) (pins : List (Addr × Obj)) (a : Addr) : Prop where
  l : a ≠ X.env.locals
  s0 : X.s_0.heap.objs.size ≤ a
  c : ∀ x c, X.env.cells.lookup x = some c → c ≠ a
  p : ∀ q ∈ X.pn ++ pins, q.1 ≠ a
  f : a ∉ frs X.stack
section
variable {X : Cx} {pins : List (Addr × Obj)} {σ : St} {H : Hp} {s : Shared}
omit [Lab] in
theorem Nu.new (I : Inv X pins σ H s) {a : Addr} (h : s.heap.objs.size ≤ a) : Nu X pins a := by
  refine ⟨fun z => ?_, Nat.le_trans I.sz h, fun x c e z => ?_, fun q hq z => ?_, newFr I h⟩
  · have := I.lt
    rw [← z] at this
    exact Nat.lt_irrefl _ (Nat.lt_of_lt_of_le this h)
  · obtain ⟨w, o, ho, _⟩ := I.cell x c e
    rw [z] at ho
    exact Nat.lt_irrefl _ (Nat.lt_of_lt_of_le (Heap.lt_size ho) h)
  · have ho := (I.pin q hq).1
    rw [z] at ho
    exact Nat.lt_irrefl _ (Nat.lt_of_lt_of_le (Heap.lt_size ho) h)
omit [Lab] in
theorem Inv.at_own (I : Inv X pins σ H s) {a : Addr} (n : Nu X pins a) (hn : H a = none) {h' : Heap} {t' : Nat} (k : ∀ b o, b ≠ a → s.heap.get? b = some o → h'.get? b = some o) : Inv X pins σ H { s with heap := h', toks := t' } :=
  L2.Inv.turned I k hn n.l (.inr n.s0) n.c n.p
/-- two own objects change, the first one is known from now on -/
theorem adopt (I : Inv X pins σ H s) {a b : Addr} (na : Nu X pins a) (nb : Nu X pins b) (ha : H a = none) (hb : H b = none) {h' : Heap} {t' : Nat} {xs : List V} {its : List Value} {n : Nat} (k : ∀ q o, q ≠ a → q ≠ b → s.heap.get? q = some o → h'.get? q = some o)
    (e : h'.get? a = some (seqObj "list" its.toArray n)) (rv : Vals xs its) (hl : xs.length ≤ sizeLine) : Inv X pins σ (upd H a (.lst xs)) { s with heap := h', toks := t' } := by
  have nit : ∀ q u, H q = some u → q ≠ a ∧ q ≠ b := fun q u e => ⟨ne_of_none e ha, ne_of_none e hb⟩
  refine I.step (g' := s.gens) (d' := s.drawn) (ch := [a, b]) (fun q hq => ?_) (fun q o _ _ hc e _ => k q o (fun z => hc (by simp [z])) (fun z => hc (by simp [z])) e) (fun q o _ _ hc e _ => ⟨o.slots, k q o (fun z => hc (by simp [z])) (fun z => hc (by simp [z])) e⟩)
    (fun q o hc e z => by rw [upd_ne (fun z => hc (by simp [z]))]; exact z) (fun q o hc e => ⟨o, k q o (fun z => hc (by simp [z])) (fun z => hc (by simp [z])) e⟩) (fun q xs e => by rw [upd_ne (nit q _ e).1]; exact e) (fun q o u e => by rw [upd_ne (nit q _ e).1]; exact e)
    (fun q ps e => ⟨#[], by rw [upd_ne (nit q _ e).1, e]; simp⟩) (fun m hm => ?_) (fun q u e1 => ?_) I.bare
  · rcases (show q = a ∨ q = b by simpa using hq) with rfl | rfl
    · exact ⟨.inr na.s0, na.l, na.c, na.p⟩
    · exact ⟨.inr nb.s0, nb.l, nb.c, nb.p⟩
  · obtain ⟨o, es, ep, ho, r⟩ := hm
    exact ⟨o, es, ep, k _ o (Ne.symm na.l) (Ne.symm nb.l) ho, r⟩
  · by_cases hq : q = a
    · subst hq
      rw [upd_same] at e1
      cases e1
      exact ⟨hl, its, n, rv, e⟩
    · rw [upd_ne hq] at e1
      refine (I.hok q u e1).stay (fun c v hc z => k c v ?_ ?_ z) (fun d z => by rw [upd_ne (nit d _ z).1]; exact z) fun d xs z => by rw [upd_ne (nit d _ z).1]; exact z
      · rcases hc with z | z
        · rw [z]; exact hq
        · exact (nit c _ z).1
      · rcases hc with z | z
        · rw [z]; exact (nit q u e1).2
        · exact (nit c _ z).2
end
end DL
end L2


set_option Elab.async false
set_option maxRecDepth 100000
set_option maxHeartbeats 4000000
set_option autoImplicit false
namespace L2
namespace DL
open PySem PySem.Spec PyProof.Rows PySem.Calls
variable [Lab]
theorem vals_each {K : PySem.W.Frag} {Z : Hp} {X : Cx} {pins : List (Addr × Obj)} {σ : St} {H : Hp} {s : Shared} (I : Inv X pins σ H s) (zh : Same Z H) : ∀ {vs : List V} {us : List Value} {ds : List PyData}, Vals vs us → DDs X.K Z vs ds → (∀ d ∈ ds, d.hasDict = false) →
    PySem.W.EachIs (fun v d => ∃ as, Reads s.heap v d as) us ds
  | _, _, [], h, g, _ => by cases g; cases h; exact .nil
  | _, _, d :: ds, h, g, n => by
    cases g with
    | cons g1 g2 =>
      cases h with
      | cons h1 h2 => exact .cons (Dp.reads I d _ _ ((DDm g1 zh).dp d _ (n d List.mem_cons_self)) h1) (vals_each (K := K) I zh h2 g2 fun x hx => n x (List.mem_cons_of_mem _ hx))
section
variable {X : Cx} {pins : List (Addr × Obj)} {σ : St} {H : Hp} {s : Shared} {F : Fm}
/-- what a key function is asked for -/
structure KeyFn (X : Cx) (F : Fm) (A : Around) (k : Nat) (y : Str) (scope : Scope) (params : Arguments) (body : Expr) (fb : DEnv → Option (PyData × DEnv)) (f c' : Addr) : Prop where
  L : Lam1 X.env.scope scope y
  fr : A.frames = some X.stack
  rm : Room (k + 1) A
  ny : y ∉ X.N
  bind : ∀ (u : Value) (q : Str) (cl : List (Str × Addr)) (pm cv ctv : Value), bindArgs (PySem.W.kla_fn "<lambda>" q params body scope cl pm cv ctv) ⟨[u], []⟩ = pure [(y, u)]
  body : ∀ (s : Shared) (H : Hp), Room k (A.deeper (LamX.lamEnv X scope s.heap.objs.size f c')) → PD (lam1Cx X A X.stack s H (fun _ _ _ => False) scope f c' y) F body fb
theorem key_turn {A : Around} {k : Nat} {y : Str} {scope : Scope} {params : Arguments} {body : Expr} {fb : DEnv → Option (PyData × DEnv)} {f c' : Addr} {Z : Hp} {env : DEnv} {v : V} {u : Value} {d q : PyData} {E : Value → Shared → Prop} (kf : KeyFn X F A k y scope params body fb f c') (I : Inv X pins σ H s) (r : Rel X.K F Z H σ env)
    (hf : H f = some (LamO f (lamQ X) params body scope (cloFrom X.env.cells scope.names []) c')) (hc : H c' = some (LamX.CodeO c' (lamQ X))) (rv : RelV v u) (dd : DD X.K Z v d) (hk : keyOf fb env d = some q) :
    wpAny (model X.prog X.w) A (call (.ref f) [u]) (fun z s' => ∃ w Z' H', Inv X pins σ H' s' ∧ Grow Z H Z' H' ∧ RelV w z ∧ DD X.K Z' w q ∧ Un (frs X.stack) [] H H' s.heap s'.heap) E s := by
  obtain ⟨⟨q', e'⟩, h1, rfl⟩ := mpd hk
  refine wpAny_mono (lam1_call (k := k) (tb := tD X.K F fb) (Q := fun w H' => ∃ Z', Grow Z H Z' H' ∧ DD X.K Z' w q') (E0 := E) I kf.L kf.fr kf.rm kf.ny rv hf hc (fun _ _ _ _ _ => kf.bind u _ _ _ _ _) (kf.body s H) ?_) (fun z s' hce => ?_) fun _ _ e => e
  · exact ⟨Z, frzE env ++ [some (.fr d)], q', e', r.lam dd, h1, fun w Z' H' r' s' d' => ⟨Z', stp_grow r'.zh r'.tb s', d'⟩⟩
  · obtain ⟨w, H', os, bare, un, hok, rz, Z', gr, dz⟩ := hce
    obtain ⟨w2, H2, I2, _, rfl, rfl⟩ := I.after (Q := fun w' H'' => w' = w ∧ H'' = H') ⟨w, H', os, bare, un, hok, rz, rfl, rfl⟩
    exact ⟨w2, Z', H2, I2, gr, rz, dz, un⟩
/-- how the items come to lie -/
def sortD (ds ks : List PyData) : List PyData := ((ds.zip ks).mergeSort (PySem.W.dataLe false (·.2))).map (·.1)
structure KeysOk (A : Around) (fb : DEnv → Option (PyData × DEnv)) (env : DEnv) (ds ks : List PyData) : Prop where
  key : ∀ (i : Nat) (d q : PyData), ds[i]? = some d → ks[i]? = some q → keyOf fb env d = some q
  len : ks.length = ds.length
  alike : PySem.W.AllAlike ks
  sortable : PySem.W.Sortable ks
  nd : ∀ d ∈ ks, d.hasDict = false
  dp : ∀ d, d ∈ ks → A.units + d.depth < cLine
theorem zip3 {α β γ : Type} : ∀ (xs : List α) (ds : List β) (ks : List γ), (xs.zip (ds.zip ks)).map (·.2) = (ds.zip ks).take xs.length
  | [], _, _ => rfl
  | x :: xs, [], _ => rfl
  | x :: xs, _ :: _, [] => rfl
  | x :: xs, d :: ds, k :: ks => by
    show (d, k) :: (xs.zip (ds.zip ks)).map (·.2) = (d, k) :: (ds.zip ks).take xs.length
    rw [zip3 xs ds ks]
theorem sort_run {A : Around} {a f c' : Addr} {n0 k : Nat} {y : Str} {scope : Scope} {params : Arguments} {body : Expr} {fb : DEnv → Option (PyData × DEnv)} {vs : List Value} {xs : List V} {ds ks : List PyData} {Z : Hp} {env : DEnv} {P : PySem.Fin → Shared → Prop} {E : Value → Shared → Prop}
    (kf : KeyFn X F A k y scope params body fb f c') (I : Inv X pins σ H s) (r : Rel X.K F Z H σ env) (hf : H f = some (LamO f (lamQ X) params body scope (cloFrom X.env.cells scope.names []) c')) (hc : H c' = some (LamX.CodeO c' (lamQ X)))
    (ha : s.heap.get? a = some (seqObj "list" vs.toArray n0)) (na : Nu X pins a) (hna : H a = none) (rv : Vals xs vs) (dd : DDs X.K Z xs ds) (ko : KeysOk A fb env ds ks) (hZ : vs.length ≤ sizeLine)
    (h : ∀ Z' H' s' xs', Inv X pins σ (upd H' a (.lst xs')) s' → Grow Z H Z' H' → H' a = none → DDs X.K Z' xs' (sortD ds ks) → P (.done (.ret .none)) s') :
    wpAny (model X.prog X.w) A (PyProof.Rows.ksk_tree a (.ref f) false) P E s := by
  have hlv := rv.length
  have hld := dds_len dd
  have hlk := ko.len
  have hlt : a < s.heap.objs.size := Heap.lt_size ha
  obtain ⟨e1, ho1⟩ : ∃ e1, (s.heap.update a (Obj.mapSeq fun _ => (#[] : Array Value))).get? a = some (seqObj "list" #[] e1) := ⟨_, get?_update_seq ha fun _ => #[]⟩
  have kS1 : ((s.heap.update a (Obj.mapSeq fun _ => (#[] : Array Value))).push (seqObj "tuple" vs.toArray 0)).objs.size = s.heap.objs.size + 1 := by rw [size_push', Heap.size_update]
  unfold PyProof.Rows.ksk_tree
  refine wpAny_bind (listItems_at ha rfl (wpAny_bind (listUpdate_at ha rfl ?_ (by rw [List.size_toArray]; exact hZ) (Nat.zero_le _))))
  refine wpAny_bind (seqEpoch_at ho1 rfl (wpAny_bind (wpAny_newTuple (wpAny_bind (wpAny_newList (wpAny_holding ?_) (Nat.zero_le _))) (show vs.length ≤ _ from hZ))))
  generalize hkS : ((s.heap.update a (Obj.mapSeq fun _ => (#[] : Array Value))).push (seqObj "tuple" vs.toArray 0)).objs.size = kS at *
  have nS : Nu X pins kS := Nu.new I (by rw [kS1]; exact Nat.le_succ _)
  have hnS : H kS = none := I.hok.fresh (by rw [kS1]; exact Nat.le_succ _)
  have hSa : kS ≠ a := by
    intro z
    rw [kS1] at z
    have hlt2 : a < s.heap.objs.size := hlt
    rw [← z] at hlt2
    exact Nat.lt_irrefl _ (Nat.lt_trans hlt2 (Nat.lt_succ_self _))
  have I0 : Inv X pins σ H { s with heap := PySem.W.sortingHeap s.heap a vs } := Inv.at_own (t' := s.toks) I na hna fun b o hb e => PySem.W.sortingHeap_old hb e
  have gS : (PySem.W.sortingHeap s.heap a vs).get? kS = some (seqObj "list" #[] 0) := by
    rw [← hkS]
    exact Heap.get?_push_size _ rfl
  have ga : (PySem.W.sortingHeap s.heap a vs).get? a = some (seqObj "list" #[] e1) := Heap.get?_push_of_some _ (Heap.get?_push_of_some _ ho1)
  show wpAny _ A (PyProof.Rows.ksk_rest a (.ref f) false vs.toArray e1 (.ref kS)) _ _ { s with heap := PySem.W.sortingHeap s.heap a vs }
  unfold PyProof.Rows.ksk_rest
  refine wpAny_bind (wpAny_rule ?_)
  first
    | rw [List.forIn_toArray]
    | (rw [← Array.forIn_toList]; simp only [List.toList_toArray])
  refine wpAny_bind (PyProof.Rows.ksk_fold (fun i s' => ∃ Zc Hc kA e kv, Inv X pins σ Hc s' ∧ Rel X.K F Zc Hc σ env ∧ Grow Z H Zc Hc ∧ s'.heap.get? kS = some (seqObj "list" kA e) ∧ s'.heap.get? a = some (seqObj "list" #[] e1) ∧ Hc kS = none ∧ Hc a = none ∧ Vals kv kA.toList ∧ DDs X.K Zc kv (ks.take i)) vs 0 _
    ⟨Z, H, #[], 0, [], I0, r, Grow.refl r.zh, gS, ga, hnS, hna, .nil, by rw [List.take_zero]; exact .nil⟩ ?step ?done)
  case step =>
    rintro j u s' hx ⟨Zc, Hc, kA, e, kv, Ic, rc, gr, gS', ga', nS', na', rk, dk⟩
    simp only [Nat.zero_add] at dk ⊢
    have hj : j < vs.length := (List.getElem?_eq_some_iff.mp hx).1
    obtain ⟨v, hv, ru⟩ : ∃ v, xs[j]? = some v ∧ RelV v u := by
      obtain ⟨u', hu', ru'⟩ := rv.get (List.getElem?_eq_getElem (show j < xs.length by omega))
      rw [hx] at hu'
      cases hu'
      exact ⟨_, List.getElem?_eq_getElem (show j < xs.length by omega), ru'⟩
    obtain ⟨d, hdj, ddj⟩ := dds_get' dd hv
    obtain ⟨q, hq⟩ : ∃ q, ks[j]? = some q := ⟨_, List.getElem?_eq_getElem (by omega)⟩
    have hz : kA.size ≤ vs.length := by
      have l1 : kv.length = kA.size := rk.length.trans (Array.length_toList ..)
      have l2 := dds_len dk
      rw [List.length_take] at l2
      omega
    refine wpAny_bind (wpAny_attempt (wpAny_mono (key_turn (E := fun _ _ => False) kf Ic rc (gr.h.h _ _ hf nt_ext) (gr.h.h _ _ hc LamX.codeO_ne) ru (DDm ddj gr.z) (ko.key j d q hdj hq)) (fun z s2 hz2 => ?_) fun _ _ w => w.elim))
    obtain ⟨w, Z2, H2, I2, gr2, rw2, dw, un⟩ := hz2
    have gS2 : s2.heap.get? kS = some (seqObj "list" kA e) := un.keep kS _ gS' nS' nS.f (by simp)
    have ga2 : s2.heap.get? a = some (seqObj "list" #[] e1) := un.keep a _ ga' na' na.f (by simp)
    have nS2 : H2 kS = none := un.free kS _ gS' nS' (by simp)
    have na2 : H2 a = none := un.free a _ ga' na' (by simp)
    have sb := Heap.SameBut.update s2.heap kS (Obj.mapSeq (·.push z))
    obtain ⟨c2, hc2⟩ : ∃ c2, (s2.heap.update kS (Obj.mapSeq (·.push z))).get? kS = some (seqObj "list" (kA.push z) c2) := ⟨_, get?_update_seq gS2 (·.push z)⟩
    refine wpAny_bind (listUpdate_at gS2 rfl ?_ (Nat.le_trans hz hZ) (Nat.le_trans (Nat.le_of_eq (Array.size_push ..)) (Nat.succ_le_succ (Nat.le_trans hz hZ))))
    refine wpAny_pure ⟨rfl, Z2, H2, kA.push z, c2, kv ++ [w], Inv.at_own (t' := s2.toks) I2 nS nS2 fun b o hb eb => (sb.2 b hb).trans eb, rc.grow gr2, gr.trans gr2, hc2, (sb.2 a (Ne.symm hSa)).trans ga2, nS2, na2, ?_, ?_⟩
    · rw [Array.toList_push]
      exact rk.append (.cons rw2 .nil)
    · rw [List.take_add_one, hq]
      exact dds_app (DDsm dk gr2.z) (.cons dw .nil)
  case done =>
    rintro s' ⟨Zc, Hc, kA, e, kv, Ic, rc, gr, gS', ga', nS', na', rk, dk⟩
    rw [Nat.zero_add, List.take_of_length_le (by omega)] at dk
    have each := vals_each (K := X.K) Ic rc.zh rk dk ko.nd
    have hsz : kA.size = vs.length := by
      have l1 : kv.length = kA.size := rk.length.trans (Array.length_toList ..)
      have l2 := dds_len dk
      omega
    refine wpAny_bind (listItems_at gS' rfl ?_)
    refine PySem.W.keyH_end (κ := PySem.W.dataKind s'.heap ks) (h₁ := PySem.W.hideAll s'.heap [kS]) (fun b o _ eb => PySem.W.of_hideAll _ eb) (PySem.W.hideAll_none _ (by simp)) gS' ga' hSa (PySem.W.SortsAt.data each ko.alike ko.sortable ko.dp) hsz hZ fun h' tk c kp hD => ?_
    have bsl : (xs.zip (ds.zip ks)).map (·.2.2) = ks := by
      have e1 : (xs.zip (ds.zip ks)).map (·.2.2) = ((xs.zip (ds.zip ks)).map (·.2)).map (·.2) := by rw [List.map_map]; rfl
      rw [e1, zip3, List.take_of_length_le (by rw [List.length_zip]; omega), List.map_snd_zip (by omega)]
    have ec : PySem.W.EachIs (fun v (b : V × PyData × PyData) => RelV b.1 v ∧ DD X.K Z b.1 b.2.1) vs (xs.zip (ds.zip ks)) := by
      refine PySem.W.EachIs.of_zip (by rw [List.length_zip, List.length_zip]; omega) fun p hp => ?_
      obtain ⟨i, hi, hpe⟩ := List.getElem_of_mem hp
      have g := List.getElem?_eq_getElem hi
      rw [hpe, List.getElem?_zip_eq_some] at g
      obtain ⟨g1, g2⟩ := g
      rw [List.getElem?_zip_eq_some] at g2
      obtain ⟨g2, g3⟩ := g2
      rw [List.getElem?_zip_eq_some] at g3
      obtain ⟨u', hu', ru'⟩ := rv.get g2
      rw [g1] at hu'
      cases hu'
      obtain ⟨d, hd1, hd2⟩ := dds_get' dd g2
      rw [g3.1] at hd1
      cases hd1
      exact ⟨ru', hd2⟩
    have out := PySem.W.keyedOut_each (rev := false) (fun b : V × PyData × PyData => b.2.2) (by rw [bsl]; exact ⟨s'.heap, kA.toList, ko.alike, rfl, each⟩) ec
    have ev : ∀ {us : List Value} {bs : List (V × PyData × PyData)}, PySem.W.EachIs (fun v (b : V × PyData × PyData) => RelV b.1 v ∧ DD X.K Z b.1 b.2.1) us bs → Vals (bs.map (·.1)) us ∧ DDs X.K Z (bs.map (·.1)) (bs.map (·.2.1)) := fun {us bs} e => by
      induction e with
      | nil => exact ⟨.nil, .nil⟩
      | cons a b ih => exact ⟨.cons a.1 ih.1, .cons a.2 ih.2⟩
    obtain ⟨o1, o2⟩ := ev out
    have e3 : ((xs.zip (ds.zip ks)).mergeSort (PySem.W.dataLe false fun b : V × PyData × PyData => b.2.2)).map (·.2.1) = sortD ds ks := by
      have e4 := PySem.W.sort_maps (r := PySem.W.dataLe false fun b : V × PyData × PyData => b.2.2) (s := PySem.W.dataLe false fun b : PyData × PyData => b.2) (fun b : V × PyData × PyData => b.2) (l := xs.zip (ds.zip ks)) fun _ _ _ _ => rfl
      rw [zip3, List.take_of_length_le (by rw [List.length_zip]; omega)] at e4
      unfold sortD
      rw [← e4, List.map_map]
      rfl
    rw [e3] at o2
    have lo := o1.length
    refine h Zc Hc _ _ (adopt (t' := tk) Ic na nS na' nS' (fun q o h1 h2 eq => kp q o h1 (PySem.W.hideAll_get _ eq (by simpa using h2))) hD o1 ?_) gr na' (DDsm o2 gr.z)
    · rw [List.length_map, List.length_mergeSort, List.length_zip, List.length_zip]
      omega

end
end DL
end L2


set_option Elab.async false
set_option maxRecDepth 100000
set_option maxHeartbeats 4000000
set_option autoImplicit false
namespace L2
namespace DL
open PySem PySem.Spec PyProof.Rows PySem.Calls
variable [Lab]
/-! ### sorted(range(e), key=lambda y: body) -/
def intsT : PyData → Bool
  | .tuple (x :: xs) => (x :: xs).all fun d => match d with
    | .int _ => true
    | _ => false
  | _ => false
theorem ints_all : ∀ ds : List PyData, (ds.all fun d => match d with | .int _ => true | _ => false) = true → ∃ ns : List Int, ds = ns.map .int
  | [], _ => ⟨[], rfl⟩
  | d :: ds, h => by
    rw [List.all_cons, Bool.and_eq_true] at h
    obtain ⟨ns, rfl⟩ := ints_all ds h.2
    cases d with
    | int n => exact ⟨n :: ns, rfl⟩
    | _ => cases h.1
theorem intsT_of {d : PyData} (h : intsT d = true) : ∃ (n : Int) (ns : List Int), d = .tuple ((n :: ns).map .int) := by
  match d, h with
  | .tuple (x :: xs), h =>
    obtain ⟨ns, e⟩ := ints_all (x :: xs) h
    cases ns with
    | nil => cases e
    | cons n ns => exact ⟨n, ns, by rw [e]⟩
def keysD (fb : DEnv → Option (PyData × DEnv)) (env : DEnv) : List PyData → Option (List PyData)
  | [] => some []
  | d :: ds => (keyOf fb env d).bind fun q => (keysD fb env ds).map (q :: ·)
theorem keysD_get {fb : DEnv → Option (PyData × DEnv)} {env : DEnv} : ∀ {ds ks : List PyData}, keysD fb env ds = some ks → ks.length = ds.length ∧ ∀ (i : Nat) (d q : PyData), ds[i]? = some d → ks[i]? = some q → keyOf fb env d = some q
  | [], ks, h => by cases h; exact ⟨rfl, fun i d q e => by simp at e⟩
  | d :: ds, ks, h => by
    obtain ⟨q, h1, h⟩ := bnd h
    obtain ⟨r, h2, rfl⟩ := mpd h
    obtain ⟨l, g⟩ := keysD_get h2
    refine ⟨by rw [List.length_cons, List.length_cons, l], fun i d' q' e1 e2 => ?_⟩
    cases i with
    | zero => cases e1; cases e2; exact h1
    | succ i => exact g i d' q' (by simpa using e1) (by simpa using e2)
theorem keys_ok {A : Around} {fb : DEnv → Option (PyData × DEnv)} {env : DEnv} {ds ks : List PyData} (h : keysD fb env ds = some ks) (hb : ks.all intsT = true) (hu : A.units + 1 < cLine) : KeysOk A fb env ds ks := by
  obtain ⟨l, g⟩ := keysD_get h
  have hb' : ∀ d ∈ ks, ∃ (n : Int) (ns : List Int), d = .tuple ((n :: ns).map .int) := fun d hd => intsT_of (List.all_eq_true.mp hb d hd)
  refine ⟨g, l, fun d hd d' hd' => ?_, .inl fun d hd => ?_, fun d hd => ?_, fun d hd => ?_⟩
  · obtain ⟨n, ns, rfl⟩ := hb' d hd
    obtain ⟨n', ns', rfl⟩ := hb' d' hd'
    exact PySem.W.alike_ints _ _
  · obtain ⟨n, ns, rfl⟩ := hb' d hd
    exact ⟨_, _, rfl⟩
  · obtain ⟨n, ns, rfl⟩ := hb' d hd
    exact (Ly.tuple (ly_ints (n :: ns))).nd
  · obtain ⟨n, ns, rfl⟩ := hb' d hd
    have : (PyData.tuple ((n :: ns).map .int)).depth ≤ 1 := (Ly.tuple (ly_ints (n :: ns))).dp
    omega
section
variable {X : Cx} {pins : List (Addr × Obj)} {σ : St} {H : Hp} {s : Shared} {F : Fm}
omit [Lab] in
/-- a built-in with keywords, its reading told of the slots -/
theorem pe_callKs {x : Str} {p pos : Pos} {e : Expr} {es : List Expr} {kws : List Keyword} {t tk : TA} {id : String} {ks : List Str} {r : St → List V → List V → Hp → VK → Prop}
    (hc : ∀ (pins : List (Addr × Obj)) (s : Shared) (σ : St) (H : Hp) (xs zs : List V) (us ws : List Value) (Q : VK), Inv X pins σ H s → Vals xs us → Vals zs ws → r σ xs zs H Q → wpAny (model X.prog X.w) X.A (call (.builtin id) us (ks.zip ws)) (EP X pins σ Q) X.xe s)
    (hg : Gl X x) (hm : X.mg x = none) (hv : bootBuiltins x = some (.builtin id)) (ha : PA X (e :: es) t) (hk : PK X kws tk) (hn : x ≠ "__name__") (hdb : (x == ("__debug__" : Str)) = false)
    (he : backTo pos (starEach (e :: es) X.env) = (false, eval e X.env) :: backTo pos (starEach es X.env)) (hpl : (backTo pos (starEach (e :: es) X.env)).any (·.1) = false) (hall : (backToKw pos (keywordEach kws X.env)).all (·.1.isSome) = true)
    (hnone : (backToKw pos (keywordEach kws X.env)).any (·.1.isNone) = false) (hks : (backToKw pos (keywordEach kws X.env)).filterMap (·.1) = ks) : PE X (.Call (.Name x p) (e :: es) kws pos) (fun σ H Q => t σ H fun vs H1 => tk σ H1 fun zs H2 => r σ vs zs H2 Q) := by
  refine ⟨fun pins s σ H Q I h => wpAny_Call_Name_kw (ld_blt I hg hm hv (PyProof.Rows.callWith_kw (thn (ha.run pos pins s σ H _ I h) fun us s1 ⟨vs, H1, I1, r1, q1⟩ => thn (hk.run pos pins s1 σ H1 _ I1 q1) fun ws s2 ⟨zs, H2, I2, r2, q2⟩ => ?_) he hpl hall hnone) hn hdb)⟩
  rw [hks]
  exact hc pins s2 σ H2 vs zs us ws Q I2 r1 r2 q2
end
end DL
end L2


set_option Elab.async false
set_option maxRecDepth 100000
set_option maxHeartbeats 4000000
set_option autoImplicit false
namespace L2
namespace DL
open PySem PySem.Spec PyProof.Rows PySem.Calls
variable [Lab]
section
variable {prog : Program} {w : World} {A : Around} {E : Value → Shared → Prop} {s : Shared}
end
section
variable {X : Cx} {F : Fm} {e : Expr} {f : DEnv → Option (PyData × DEnv)}
end
end DL
end L2


set_option Elab.async false
set_option maxRecDepth 100000
set_option maxHeartbeats 4000000
set_option autoImplicit false
namespace L2
namespace DL
open PySem PySem.Spec PyProof.Rows PySem.Calls
variable [Lab]
/-! ### sorted(t), t a tuple or a list of ints -/
section
variable {X : Cx} {F : Fm} {e : Expr} {f : DEnv → Option (PyData × DEnv)}
omit [Lab] in
theorem cr_sortedTup : CallR X (.builtin "sorted") (fun vs H Q => ∃ (a : Addr) (ns : List Int), vs = [V.ref a] ∧ SqT X.K H a (ns.map V.int) ∧ ∀ (ns' : List Int) (p : Addr), ns'.Perm ns → ns'.Pairwise (· ≤ ·) → H p = none → Q (.ref p) (upd H p (.lst (ns'.map V.int)))) := by
  intro pins s σ H vs us Q I r h
  obtain ⟨a, ns, rfl, hs, q⟩ := h
  obtain ⟨its, rv, ⟨o, ho, hc, n, hd⟩, hz⟩ := I.tuple hs
  rw [Vals.ref1 r]
  have hi := rv.ints
  have hz' : its.length ≤ sizeLine := by rw [← rv.length]; exact hz
  refine call_function_entry kind_sorted plain_sorted entry_sorted (args_sorted1 _) ?_
  unfold Builtin.«sorted»
  refine wpAny_bind (m := checkCount "sorted" 1 1 _) (wpAny_pure (wpAny_bind (wpAny_collect_seq a (.inr rfl) ho hc hd (fun h' kp => ?_) (by rw [List.size_toArray]; exact hz'))))
  refine wpAny_bind (wpAny_newList ?_ (by simpa using hz'))
  rw [List.toList_toArray]
  have I1 : Inv X pins σ H { s with heap := h' } := I.kept (t' := s.toks) kp
  have ga : (h'.push (seqObj "list" its.toArray 0)).get? h'.objs.size = some (seqObj "list" its.toArray 0) := Heap.get?_push_size _ rfl
  refine wpAny_bind (wpAny_holding (wpAny_call_entry slot_list_sort ⟨_, ga, rfl⟩ entry_list_sort (SrtO.list_sort_ord SrtO.swo_int ga hz' (fun h2 => SrtO.ints_sortable hi h2) fun out h1 h2 => ⟨_, rfl, wpAny_pure ⟨_, rfl, ?_⟩⟩) (args_list_sort _)))
  obtain ⟨k1, k2, k3⟩ := SrtO.ints_out hi h1 h2
  obtain ⟨ep, he'⟩ := sortedHeap_at (out := out.toArray) ga
  refine ⟨.ref _, _, I1.laid (a := h'.objs.size) (t' := s.toks) (o := .lst ((out.map SrtO.iv).map V.int)) (fun b u hb => ?_) (Nat.le_refl _) ⟨?_, out, ep, vals_of_ints k1, he'⟩, rfl, q _ _ k2 k3 (I1.hok.fresh (Nat.le_refl _))⟩
  · have hlt : b < h'.objs.size := Heap.lt_size hb
    rw [sortedHeap_old (Nat.ne_of_lt hlt) (by rw [size_push']; exact Nat.lt_succ_of_lt hlt)]
    exact Heap.get?_push_of_some _ hb
  · rw [List.length_map, k2.length_eq]
    rw [List.length_map] at hz
    exact hz
def intsL : List PyData → Option (List Int)
  | [] => some []
  | .int i :: r => (intsL r).map (i :: ·)
  | _ => none
theorem intsL_of : ∀ {ds : List PyData} {ns : List Int}, intsL ds = some ns → ds = ns.map .int
  | [], ns, h => by cases h; rfl
  | .int i :: r, ns, h => by
    obtain ⟨ms, h1, rfl⟩ := mpd h
    rw [intsL_of h1]
    rfl
  | .none :: _, _, h => by cases h
  | .bool _ :: _, _, h => by cases h
  | .str _ :: _, _, h => by cases h
  | .list _ :: _, _, h => by cases h
  | .tuple _ :: _, _, h => by cases h
  | .dict _ :: _, _, h => by cases h
theorem intsL_map : ∀ ns : List Int, intsL (ns.map .int) = some ns
  | [] => rfl
  | n :: ns => by
    show (intsL (ns.map .int)).map (n :: ·) = _
    rw [intsL_map ns]
    rfl
theorem dds_intsV {K : PySem.W.Frag} {Z : Hp} : ∀ {ns : List Int} {vs : List V}, DDs K Z vs (ns.map .int) → vs = ns.map V.int
  | [], _, h => by cases h; rfl
  | n :: ns, _, h => by
    cases h with
    | cons a b =>
      cases a
      rw [dds_intsV b]
      rfl
def sortI (ns : List Int) : List Int := ns.mergeSort fun a b => decide (a ≤ b)
theorem perm_le_uniq : ∀ {l m : List Int}, l.Perm m → l.Pairwise (· ≤ ·) → m.Pairwise (· ≤ ·) → l = m
  | [], m, h, _, _ => by rw [List.Perm.nil_eq h]
  | a :: l, [], h, _, _ => by have := h.length_eq; simp at this
  | a :: l, b :: m, h, h1, h2 => by
    rw [List.pairwise_cons] at h1 h2
    have hab : a = b := by
      have ha : a ∈ b :: m := h.mem_iff.mp List.mem_cons_self
      have hb : b ∈ a :: l := h.mem_iff.mpr List.mem_cons_self
      have l1 : b ≤ a := by
        rcases List.mem_cons.mp ha with e | ha
        · omega
        · exact h2.1 a ha
      have l2 : a ≤ b := by
        rcases List.mem_cons.mp hb with e | hb
        · omega
        · exact h1.1 b hb
      omega
    subst hab
    rw [perm_le_uniq (List.Perm.cons_inv h) h1.2 h2.2]
theorem sortI_of {ns ns' : List Int} (h : ns'.Perm ns) (hs : ns'.Pairwise (· ≤ ·)) : ns' = sortI ns := by
  refine perm_le_uniq (h.trans (List.mergeSort_perm _ _).symm) hs ?_
  have := List.pairwise_mergeSort (le := fun a b : Int => decide (a ≤ b)) (fun a b c h1 h2 => by simp at *; omega) (fun a b => by simp; omega) ns
  exact this.imp fun h => by simpa using h
def nSorted (f : DEnv → Option (PyData × DEnv)) (env : DEnv) : Option (List PyData × DEnv) := (f env).bind fun x => (seqD x.1).bind fun ds => (intsL ds).map fun ns => ((sortI ns).map .int, x.2)
theorem dds_ints' {K : PySem.W.Frag} {Z : Hp} (ns : List Int) : DDs K Z (ns.map V.int) (ns.map PyData.int) := dds_ints ns
theorem pn_sorted {p pos : Pos} (hm : X.mg "sorted" = none) (ha : PD X F e f) (hg : Gl X "sorted" := by rfl) (he : starEach [e] X.env = (false, eval e X.env) :: starEach [] X.env := by rfl) (hpl : (backTo pos (starEach [] X.env)).any (·.1) = false := by rfl) :
    PN X F (.Call (.Name "sorted" p) [e] [] pos) (nSorted f) := by
  have h1 := pe_callB (p := p) (pos := pos) (cr_sortedI (X := X)) hg hm (by decide +kernel) (pa_cons ha pa_nil he) (by decide) (by decide) he hpl
  have h2 := pe_callB (p := p) (pos := pos) (cr_sortedTup (X := X)) hg hm (by decide +kernel) (pa_cons ha pa_nil he) (by decide) (by decide) he hpl
  refine ⟨fun pins s σ H Q I h => ?_⟩
  obtain ⟨Z, env, d, env', r, e, q⟩ := h
  obtain ⟨⟨d0, e1⟩, g1, e⟩ := bnd e
  obtain ⟨ds, g2, e⟩ := bnd e
  obtain ⟨ns, g3, e⟩ := mpd e
  cases e
  have ed := intsL_of g3
  subst ed
  have fin : ∀ {Z1 H1 : Hp} (r1 : Rel X.K F Z1 H1 σ e1) (s1 : Stp σ env Z H e1 Z1 H1) (ns' : List Int) (p : Addr), ns'.Perm ns → ns'.Pairwise (· ≤ ·) → H1 p = none → Q (.ref p) (upd H1 p (.lst (ns'.map V.int))) := fun {Z1 H1} r1 s1 ns' p hp hs hn => by
    have eo := sortI_of hp hs
    subst eo
    have gr := grow_own r1.zh hn (.lst ((sortI ns).map V.int))
    exact q p _ _ _ (r1.grow gr) (s1.trans gr.stp) (s1.new hn) (r1.zh.free hn) upd_same (dds_ints' _)
  cases d0 with
  | list ds =>
    cases g2
    refine h1.run pins s σ H Q I ⟨Z, env, _, e1, r, g1, fun v Z1 H1 r1 s1 d1 => ?_⟩
    cases d1 with
    | @lst a xs _ hx dx =>
      cases dds_intsV dx
      exact ⟨a, ns, rfl, (same_ls r1.zh hx).sq, fin r1 s1⟩
  | tuple ds =>
    cases g2
    refine h2.run pins s σ H Q I ⟨Z, env, _, e1, r, g1, fun v Z1 H1 r1 s1 d1 => ?_⟩
    cases d1 with
    | @tup a xs _ hx dx =>
      cases dds_intsV dx
      exact ⟨a, ns, rfl, same_sqT r1.zh hx, fin r1 s1⟩
  | _ => cases g2
end
end DL
end L2


set_option Elab.async false
set_option maxRecDepth 100000
set_option maxHeartbeats 4000000
set_option autoImplicit false
namespace L2
namespace DL
open PySem PySem.Spec PyProof.Rows PySem.Calls
variable [Lab]
section
variable {X : Cx} {F : Fm} {e : Expr} {f : DEnv → Option (PyData × DEnv)}
end
end DL
end L2


set_option Elab.async false
set_option maxRecDepth 100000
set_option maxHeartbeats 4000000
set_option autoImplicit false
namespace L2
namespace DL
open PySem PySem.Spec PyProof.Rows PySem.Calls
variable [Lab]
section
variable {X : Cx} {F : Fm} {e : Expr} {f g : DEnv → Option (PyData × DEnv)} {y : Str} {p pn pos : Pos}
end
end DL
end L2


set_option Elab.async false
set_option maxRecDepth 100000
set_option maxHeartbeats 4000000
set_option autoImplicit false
namespace L2
namespace DL
open PySem PySem.Spec PyProof.Rows
section
variable [Lab]
variable {X : Cx} {F : Fm}
abbrev cDivB (_ j : Int) : Bool := decide (0 < j) && decide (j < 10000000000000000000000000000000000000000)
def divmodB : List PyData → Option PyData
  | [.int i, .int j] => if cDivB i j then some (.tuple [.int (i / j), .int (i % j)]) else none
  | _ => none
theorem cd_divmodB : CallD X (.builtin "divmod") divmodB := by
  intro pins s σ H xs us Q I r h
  obtain ⟨Z, ds, d, sz, hd, e, q⟩ := h
  match ds, hd, e with
  | [.int i, .int j], hd, e =>
    change (if cDivB i j then some (PyData.tuple [.int (i / j), .int (i % j)]) else none) = some d at e
    split at e
    case isFalse => cases e
    rename_i hc
    rw [cDivB, Bool.and_eq_true, decide_eq_true_eq, decide_eq_true_eq] at hc
    cases e
    obtain ⟨v, w, rfl, h1, h2⟩ := dds2 hd
    cases h1.int_inv
    cases h2.int_inv
    have hb : CDivP i j := ⟨hc.1, PyProof.noPylong_of_log2 (by
      refine Nat.lt_of_lt_of_le (PySem.Flt.log2_lt_of (k := 200) (by decide) ?_) (by decide)
      have p : (10000000000000000000000000000000000000000 : Nat) < 2 ^ 200 := by decide +kernel
      have : j.natAbs < 10000000000000000000000000000000000000000 := by omega
      omega)⟩
    exact call_divmodW pins s σ H _ us Q I r ⟨i, j, rfl, hb, fun p hp => q _ _ _ (grow_new sz hp _) (new_tup sz hp (.cons (.int _) (.cons (.int _) .nil)))⟩
/-! ### three at once; bodies that are never reached -/
variable {s : Stmt} {ss : List Stmt} {fa : DEnv → Option (List PyData × DEnv)}
end
end DL
end L2


set_option Elab.async false
set_option maxRecDepth 100000
set_option maxHeartbeats 4000000
set_option autoImplicit false
namespace L2
namespace DL
open PySem PySem.Spec PyProof.Rows
variable [Lab]
section
variable {X : Cx} {F : Fm} {a b e : Expr} {pos p pn : Pos} {x y : Str} {f g : DEnv → Option (PyData × DEnv)}
/-! ### truth of a slot's list, as it stands -/
def fTruN (i : Nat) (env : DEnv) : Option (Bool × DEnv) := (rdB i env).bind fun d => (truthD d).map fun k => (k, env)
theorem pdt_name (i : Nat) (hN : X.N[i]? = some x := by rfl) (hv : Vis X.env.scope x := by first | exact Or.inl rfl | exact Or.inr (Or.inl rfl) | exact Or.inr (Or.inr rfl)) (hd : (x == ("__debug__" : Str)) = false := by decide)
    (hcd : (x == ("__classdict__" : Str)) = false := by decide) (he : ∀ whole, isTrue (.Name x pos) X.env whole = (do let v ← whole; standAt (Expr.Name x pos).pos; holding [v] (truthy v)) := by intro _; rfl) : PDT X F (.Name x pos) (fTruN i) :=
  pt_imp (pt_truth (pe_var hN hv hd hcd) he) fun σ H Q h => by
    obtain ⟨Z, env, d, env', r, e, q⟩ := h
    obtain ⟨w, h1, h⟩ := bnd e
    obtain ⟨k, h2, h⟩ := mpd h
    cases h
    obtain ⟨v, ev, dv⟩ := r.rdB h1
    exact ⟨v, ev, d, truth_ok dv h2, q Z H r Stp.refl⟩
/-! ### xs.index(data) -/
def idxE : List PyData → PyData → Option Nat
  | [], _ => none
  | z :: zs, d => if PyData.eqv z d then some 0 else (idxE zs d).map (· + 1)
theorem idxE_is : ∀ {zs : List PyData} {d : PyData} {j : Nat}, idxE zs d = some j → (∃ z, zs[j]? = some z ∧ PyData.eqv z d = true) ∧ ∀ (m : Nat) (z' : PyData), m < j → zs[m]? = some z' → PyData.eqv z' d = false
  | [], _, _, h => by cases h
  | z :: zs, d, j, h => by
    unfold idxE at h
    split at h
    · rename_i c; cases h; exact ⟨⟨z, rfl, c⟩, fun m _ hm => absurd hm (Nat.not_lt_zero _)⟩
    · rename_i c
      obtain ⟨i, h1, rfl⟩ := mpd h
      obtain ⟨⟨w, a1, a2⟩, b⟩ := idxE_is h1
      refine ⟨⟨w, by simpa using a1, a2⟩, fun m z' hm hz => ?_⟩
      cases m with
      | zero => simp at hz; subst hz; simpa using c
      | succ m => exact b m z' (by omega) (by simpa using hz)
def fIdxD (j : Nat) (f : DEnv → Option (PyData × DEnv)) (env : DEnv) : Option (PyData × DEnv) :=
  (rdO j env).bind fun _ => (f env).bind fun x => (rdO j x.2).bind fun es => if shD (.list es) && shD x.1 then (idxE es x.1).map fun i => (.int (i : Nat), x.2) else none
theorem pd_idxD {k : Nat} (hr : Room k X.A) (j : Nat) (ha : PD X F e f) (hN : X.N[j]? = some y := by rfl) (hv : Vis X.env.scope y := by first | exact Or.inl rfl | exact Or.inr (Or.inl rfl) | exact Or.inr (Or.inr rfl)) (hd : (y == ("__debug__" : Str)) = false := by decide)
    (hcd : (y == ("__classdict__" : Str)) = false := by decide)
    (hfew : ((backTo pos (starEach [e] X.env)).all (fun x => !x.1) && (backToKw pos (keywordEach [] X.env)).all (fun x => x.1.isSome)
      && decide ([e].length + ([] : List Keyword).length + (if ([] : List Keyword).isEmpty then 0 else 1) < 30)) = true := by rfl)
    (hline : (p.endLine == pos.line) = true := by rfl) (hs : starEach [e] X.env = (false, eval e X.env) :: starEach [] X.env := by rfl) (hplain : (backTo pos (starEach [] X.env)).any (·.1) = false := by rfl) :
    PD X F (.Call (.Attribute (.Name y pn) "index" p) [e] [] pos) (fIdxD j f) :=
  pe_imp (pe_bm PySem.F.plainAttrs_list PySem.F.slot_list_index PySem.F.type_list_index (mt_indexD (by have := hr.un; omega)) (pe_var hN hv hd hcd) (pa_cons ha pa_nil hs) rfl hfew hline hs hplain) fun σ H Q h => by
  obtain ⟨Z, env, d, env', r, e, q⟩ := h
  obtain ⟨z0, h0, e⟩ := bnd e
  obtain ⟨⟨x, e1⟩, h1, h⟩ := bnd e
  obtain ⟨zs, h2, hh⟩ := bnd h
  clear h
  dsimp only at hh
  split at hh
  case isFalse => cases hh
  rename_i hsh
  obtain ⟨i, h3, h4⟩ := mpd hh
  obtain ⟨rfl, rfl⟩ := Prod.mk.inj h4
  rw [Bool.and_eq_true] at hsh
  obtain ⟨p, xs, sj, _, hp0, _, _⟩ := r.poke h0
  refine ⟨.ref p, sj, own_ty hp0, Z, env, x, e1, r, h1, fun v Z1 H1 r1 s1 d1 => ?_⟩
  obtain ⟨p', xs', sj', zp, hp, dp, fin⟩ := r1.poke h2
  rw [sj] at sj'
  cases sj'
  obtain ⟨⟨w, k1, k2⟩, k3⟩ := idxE_is h3
  have dl : DD X.K H1 (.ref p) (.list zs) := .lst (.inl (Rd.of hp)) (DDsm dp r1.zh)
  unfold shD at hsh
  simp only [Bool.and_eq_true, Bool.not_eq_true'] at hsh
  exact ⟨p, v, x, zs, i, w, rfl, rfl, dl.dp _ _ hsh.1.2, (DDm d1 r1.zh).dp _ _ hsh.2.2, hsh.1.1, hsh.2.1, k1, k2, k3, q _ Z1 H1 r1 s1 (.int _)⟩
end
end DL
end L2


set_option Elab.async false
set_option maxRecDepth 100000
set_option maxHeartbeats 4000000
set_option autoImplicit false
namespace L2
namespace DL
open PySem PySem.Spec PyProof.Rows
variable [Lab]
/-! ### evaluating, once more -/
theorem ev_tup {fa : DEnv → Option (List PyData × DEnv)} {env e1 : DEnv} {ds : List PyData} (h : fa env = some (ds, e1)) (h2 : ds.length ≤ lim) : fTup fa env = some (.tuple ds, e1) := by
  unfold fTup; rw [h]; exact if_pos h2
theorem ev_ixN {j : Nat} {f : DEnv → Option (PyData × DEnv)} {env e1 : DEnv} {d0 d i z : PyData} (h0 : rdB j env = some d0) (h : f env = some (i, e1)) (h1 : rdB j e1 = some d) (h2 : ixD d i = some z) : fIxN j f env = some (z, e1) := by
  unfold fIxN; rw [h0]; show (f env).bind _ = _; rw [h]; show (rdB j e1).bind _ = _; rw [h1]; show (ixD d i).map _ = _; rw [h2]; rfl
theorem ev_iArg {o : List PyData → Option (List PyData)} {fa : DEnv → Option (List PyData × DEnv)} {env e1 : DEnv} {ds r : List PyData} (h : fa env = some (ds, e1)) (h2 : o ds = some r) : iArg o fa env = some (r, e1) := by
  unfold iArg; rw [h]; show (o ds).map _ = _; rw [h2]; rfl
theorem ev_oS {f : DEnv → Option (PyData × DEnv)} {env e1 : DEnv} {i : Int} (h : f env = some (.int i, e1)) : oSome f env = some (some i, e1) := by
  unfold oSome; rw [h]; rfl
theorem ev_sl {f : DEnv → Option (PyData × DEnv)} {fl fh : DEnv → Option (Option Int × DEnv)} {env e1 e2 e3 : DEnv} {a d : PyData} {l h : Option Int} (h1 : f env = some (a, e1)) (h2 : fl e1 = some (l, e2)) (h3 : fh e2 = some (h, e3)) (h4 : slD a l h = some d) : fSl f fl fh env = some (d, e3) := by
  unfold fSl; rw [h1]; show (fl e1).bind _ = _; rw [h2]; show (fh e2).bind _ = _; rw [h3]; show (slD a l h).map _ = _; rw [h4]; rfl
theorem ev_lenN {j : Nat} {env : DEnv} {d n : PyData} (h : rdB j env = some d) (h2 : lenD [d] = some n) : fLenN j env = some (n, env) := by
  unfold fLenN; rw [h]; show (lenD [d]).map _ = _; rw [h2]; rfl
theorem ev_truN {j : Nat} {env : DEnv} {d : PyData} {k : Bool} (h : rdB j env = some d) (h2 : truthD d = some k) : fTruN j env = some (k, env) := by
  unfold fTruN; rw [h]; show (truthD d).map _ = _; rw [h2]; rfl
theorem ev_iff {ft : DEnv → Option (Bool × DEnv)} {f g : DEnv → Option (PyData × DEnv)} {env e1 : DEnv} {k : Bool} {r : Option (PyData × DEnv)} (h : ft env = some (k, e1)) (h2 : (if k then f e1 else g e1) = r) : fIf ft f g env = r := by
  unfold fIf; rw [h]; exact h2
theorem ev_setN {i : Nat} {f : DEnv → Option (List PyData × DEnv)} {env e1 e2 : DEnv} {ds : List PyData} (h : f env = some (ds, e1)) (he : e1.set i (some (.ow ds)) = e2) : sSetN i f env = some (.nx e2) := by
  unfold sSetN; rw [h, ← he]; rfl
theorem ev_par {i j : Nat} {fa : DEnv → Option (List PyData × DEnv)} {env e1 e2 : DEnv} {u v : PyData} (h : fa env = some ([u, v], e1)) (he : (e1.set i (some (.fr u))).set j (some (.fr v)) = e2) : sPar i j fa env = some (.nx e2) := by
  unfold sPar; rw [h, ← he]; rfl
/-- a comprehension over images, with a test -/
theorem lc_flt {α : Type} {i : Nat} {ft : DEnv → Option (Bool × DEnv)} {fe : DEnv → Option (PyData × DEnv)} {e q : α → PyData} {p : α → Bool} {env : DEnv} (hw : env.set i none = env) : ∀ xs : List α, (∀ x ∈ xs, ft (env.set i (some (.fr (e x)))) = some (p x, env.set i (some (.fr (e x))))) →
    (∀ x ∈ xs, p x = true → fe (env.set i (some (.fr (e x)))) = some (q x, env.set i (some (.fr (e x))))) → lcD (gSet i) ft fe [i] (xs.map e) env = some ((xs.filter p).map q, env)
  | [], _, _ => rfl
  | x :: xs, h1, h2 => by
    have ih := lc_flt hw xs (fun y hy => h1 y (List.mem_cons_of_mem _ hy)) fun y hy => h2 y (List.mem_cons_of_mem _ hy)
    rw [List.map_cons, lcD]
    show (ft (env.set i (some (.fr (e x))))).bind _ = _
    rw [h1 x List.mem_cons_self]
    show (if p x = true then _ else _) = _
    cases hp : p x with
    | true =>
      rw [if_pos rfl, List.filter_cons_of_pos hp]
      show (fe (env.set i (some (.fr (e x))))).bind _ = _
      rw [h2 x List.mem_cons_self hp]
      show (lcD (gSet i) ft fe [i] (xs.map e) ((env.set i (some (.fr (e x)))).set i none)).map _ = _
      rw [List.set_set, hw, ih]
      rfl
    | false =>
      rw [if_neg (by decide), List.filter_cons_of_neg (by rw [hp]; decide)]
      show lcD (gSet i) ft fe [i] (xs.map e) ((env.set i (some (.fr (e x)))).set i none) = _
      rw [List.set_set, hw, ih]
theorem lc_img {α : Type} {i : Nat} {fe : DEnv → Option (PyData × DEnv)} {e q : α → PyData} {env : DEnv} (hw : env.set i none = env) (xs : List α) (h2 : ∀ x ∈ xs, fe (env.set i (some (.fr (e x)))) = some (q x, env.set i (some (.fr (e x))))) : lcD (gSet i) fYes fe [i] (xs.map e) env = some (xs.map q, env) := by
  have := lc_flt (ft := fYes) (p := fun _ => true) hw xs (fun _ _ => rfl) fun x hx _ => h2 x hx
  rwa [List.filter_eq_self.mpr (fun _ _ => rfl)] at this
theorem ev_lc {fi : DEnv → Option (List PyData × DEnv)} {g : PyData → DEnv → Option DEnv} {ft : DEnv → Option (Bool × DEnv)} {fe : DEnv → Option (PyData × DEnv)} {vs : List Nat} {env e1 e2 e3 : DEnv} {ds rs : List PyData} (h : fi env = some (ds, e1)) (hl : ds.length ≤ lim) (hw : wipeE e1 vs = e2) (h2 : lcD g ft fe vs ds e2 = some (rs, e3)) : nLc fi g ft fe vs env = some (rs, e3) := by
  unfold nLc; rw [h]; show (if ds.length ≤ lim then _ else _) = _; rw [if_pos hl, hw, h2]
/-! ### equal data, where there are no truths and no dicts -/
mutual
def nbD : PyData → Bool
  | .none => true
  | .int _ => true
  | .str _ => true
  | .list ds => nbDs ds
  | .tuple ds => nbDs ds
  | _ => false
def nbDs : List PyData → Bool
  | [] => true
  | d :: ds => nbD d && nbDs ds
end
mutual
theorem eqv_nb : ∀ (x y : PyData), nbD x = true → nbD y = true → PyData.eqv x y = true → x = y
  | .none, y, _, hy, h => by cases y <;> first | rfl | cases h
  | .int i, y, _, hy, h => by
    cases y with
    | int j => rw [PyData.eqv, beq_iff_eq] at h; rw [h]
    | bool _ => cases hy
    | _ => cases h
  | .str i, y, _, hy, h => by
    cases y with
    | str j => rw [PyData.eqv, beq_iff_eq] at h; rw [h]
    | _ => cases h
  | .list xs, y, hx, hy, h => by
    cases y with
    | list ys => rw [PyData.eqv] at h; rw [eqvAll_nb xs ys hx hy h]
    | _ => cases h
  | .tuple xs, y, hx, hy, h => by
    cases y with
    | tuple ys => rw [PyData.eqv] at h; rw [eqvAll_nb xs ys hx hy h]
    | _ => cases h
theorem eqvAll_nb : ∀ (xs ys : List PyData), nbDs xs = true → nbDs ys = true → PyData.eqvAll xs ys = true → xs = ys
  | [], ys, _, _, h => by
    cases ys with
    | nil => rfl
    | cons _ _ => cases h
  | x :: xs, ys, hx, hy, h => by
    cases ys with
    | nil => cases h
    | cons y ys =>
      rw [PyData.eqvAll, Bool.and_eq_true] at h
      rw [nbDs, Bool.and_eq_true] at hx hy
      rw [eqv_nb x y hx.1 hy.1 h.1, eqvAll_nb xs ys hx.2 hy.2 h.2]
end
theorem eqB_self {k : Nat} {a : PyData} (ha : Ly k a) (hk : k ≤ 64) : eqB a a = some true := by
  unfold eqB
  split
  · simp_all
  · simp_all
  · rw [ha.sh hk, SeqAt.eqv_refl _ ha.lay]; rfl
/-! ### what repr writes may be laid -/
theorem ok_app {a b : Str} (ha : PyData.strOk a = true) (hb : PyData.strOk b = true) : PyData.strOk (a ++ b) = true := by
  unfold PyData.strOk at *
  show ((a.cps ++ b.cps).all _) = true
  rw [Array.all_append, ha, hb]
  rfl
theorem ok_of (x : String) : PyData.strOk (Str.ofString x) = true := by
  rw [PyData.strOk, Str.ofString_eq_toList]
  simp only [List.all_toArray, List.all_map, List.all_eq_true]
  intro c _
  have := c.valid
  simp only [Function.comp, decide_eq_true_eq]
  show c.val.toNat < 0x110000
  rcases this with h | h
  · exact Nat.lt_trans h (by decide)
  · exact h.2
theorem ok_join {sep : Str} (hs : PyData.strOk sep = true) : ∀ ts : List Str, (∀ t ∈ ts, PyData.strOk t = true) → PyData.strOk (Str.join sep ts) = true
  | [], _ => by simp [Str.join, Str.empty, PyData.strOk]
  | [x], h => h x List.mem_cons_self
  | x :: y :: r, h => ok_app (ok_app (h x List.mem_cons_self) hs) (ok_join hs (y :: r) fun t ht => h t (List.mem_cons_of_mem _ ht))
theorem ok_from : ∀ (ts : List Str) (k : Nat) (acc : Str), PyData.strOk acc = true → (∀ t ∈ ts, PyData.strOk t = true) → PyData.strOk (textFrom k acc ts) = true
  | [], _, _, h, _ => h
  | t :: r, k, acc, h, hs => ok_from r (k + 1) _ (ok_app (ok_app h (ok_of _)) (hs t List.mem_cons_self)) fun x hx => hs x (List.mem_cons_of_mem _ hx)
/-! all its texts' shown forms may be laid -/
mutual
def wordsOk : PyData → Bool
  | .str x => PyData.strOk (reprText x)
  | .list ds => wordsOkAll ds
  | .tuple ds => wordsOkAll ds
  | .dict _ => false
  | _ => true
def wordsOkAll : List PyData → Bool
  | [] => true
  | d :: ds => wordsOk d && wordsOkAll ds
end
mutual
theorem ok_shown : ∀ d : PyData, wordsOk d = true → PyData.strOk d.shown = true
  | .none, _ => ok_of _
  | .bool b, _ => by cases b <;> exact ok_of _
  | .int i, _ => ok_of _
  | .str x, h => h
  | .list xs, h => ok_app (ok_from _ _ _ (ok_of _) (ok_shownAll xs h)) (ok_of _)
  | .tuple xs, h => ok_app (ok_app (ok_of _) (ok_join (ok_of _) _ (ok_shownAll xs h))) (ok_of _)
  | .dict _, h => nomatch h
theorem ok_shownAll : ∀ ds : List PyData, wordsOkAll ds = true → ∀ t ∈ PyData.shownAll ds, PyData.strOk t = true
  | [], _, _, h => nomatch h
  | d :: ds, h, t, ht => by
    rw [wordsOkAll, Bool.and_eq_true] at h
    rcases List.mem_cons.mp ht with rfl | ht
    · exact ok_shown d h.1
    · exact ok_shownAll ds h.2 t ht
end
theorem ly_shown {d : PyData} (h : wordsOk d = true) : Ly 0 (.str d.shown) := ⟨ok_shown d h, rfl, Nat.le_refl _⟩
end DL
end L2


set_option Elab.async false
set_option maxRecDepth 100000
set_option maxHeartbeats 4000000
set_option autoImplicit false
namespace L2
namespace DL
open PySem PySem.Spec PyProof.Rows
variable [Lab]
section
variable {X : Cx} {F : Fm} {a b c e tg iter elt : Expr} {es ifs : List Expr} {pos p pn : Pos} {x y : Str} {f fe : DEnv → Option (PyData × DEnv)} {fa fi : DEnv → Option (List PyData × DEnv)} {ft : DEnv → Option (Bool × DEnv)} {scope : Scope} {ts : List Nat} {g : PyData → DEnv → Option DEnv}
def rdW (j : Nat) (env : DEnv) : Option (List PyData) := match env[j]? with
  | some (some (.ow ds)) => some ds
  | _ => none
/-- a comprehension over an owned list that its parts don't name: the list stays owned -/
def nLcH (j : Nat) (g : PyData → DEnv → Option DEnv) (ft : DEnv → Option (Bool × DEnv)) (fe : DEnv → Option (PyData × DEnv)) (vs : List Nat) (env : DEnv) : Option (List PyData × DEnv) := match rdW j env with
  | some ds => if ds.length ≤ lim then (lcD g ft fe vs ds (wipeE (env.set j none) vs)).map fun r => (r.1, r.2.set j (some (.ow ds))) else none
  | none => nLc (iSeq (rdF j)) g ft fe vs env
theorem Rel.forget {K : PySem.W.Frag} {Z H : Hp} {σ : St} {env : DEnv} (r : Rel K F Z H σ env) (i : Nat) : Rel K F Z H σ (env.set i none) := by
  refine ⟨r.z0, r.zh, r.gh, r.nw, r.pp, by rw [List.length_set]; exact r.len, fun j dv e => ?_, fun a b da db p ea eb oa ob sa sb => ?_, r.tb⟩
  · rcases get_set_some e with ⟨_, z⟩ | ⟨_, z⟩
    · cases z
    · exact r.sl j dv z
  · rcases get_set_some ea with ⟨_, z⟩ | ⟨_, z⟩
    · cases z
    · rcases get_set_some eb with ⟨_, w⟩ | ⟨_, w⟩
      · cases w
      · exact r.inj a b da db p z w oa ob sa sb
theorem Rel.regain {K : PySem.W.Frag} {Z H : Hp} {σ : St} {env : DEnv} {p : Addr} {xs : List V} {ds : List PyData} (r : Rel K F Z H σ env) (i : Nat) (sj : σ[i]? = some (some (V.ref p))) (f : Fre σ env p) (np : ¬ F.P p) (ng : F.G p = none) (hz : Z p = none) (hp : H p = some (.lst xs)) (hd : DDs K Z xs ds) : Rel K F Z H σ (env.set i (some (.ow ds))) := by
  have := r.storeN i f np ng hz hp hd
  rwa [show σ.set i (some (V.ref p)) = σ from by
    obtain ⟨h1, h2⟩ := List.getElem?_eq_some_iff.mp sj
    rw [← h2, List.set_getElem_self]] at this
theorem lc_readH {K : PySem.W.Frag} {ts vs : List Nat} {g : PyData → DEnv → Option DEnv} {fe : DEnv → Option (PyData × DEnv)} (hts : ∀ i ∈ ts, i ∈ vs) (jj : Nat) (hjj : jj ∉ vs) {σ : St} {H : Hp} {Q : VK} {Zx : Hp} {envx : DEnv} {dsx rsx : List PyData} {envx' : DEnv} (rx : Rel K F Zx H σ envx) (ex : rdW jj envx = some dsx) (hlim : dsx.length ≤ lim) (elx : lcD g ft fe vs dsx (wipeE (envx.set jj none) vs) = some (rsx, envx'))
    (qx : ∀ p xs Z' H', Rel K F Z' H' σ (envx'.set jj (some (.ow dsx))) → Stp σ envx Zx H (envx'.set jj (some (.ow dsx))) Z' H' → H p = none → Z' p = none → H' p = some (.lst xs) → DDs K Z' xs rsx → Q (.ref p) H') :
    tLc (iList K (tVar jj)) (tGN K F ts g) (tDT K F ft) (tD K F fe) vs σ H Q := by
  have ej : envx[jj]? = some (some (.ow dsx)) := by
    unfold rdW at ex
    split at ex
    · rename_i z; cases ex; exact z
    · cases ex
  obtain ⟨pp, xs, sj, npp, ngp, zp, hp, dp⟩ := rx.sl jj _ ej
  have r : Rel K F Zx H σ (envx.set jj none) := rx.forget jj
  have frp : Fre σ (envx.set jj none) pp := fun k dv ek ok sk => by
    rcases get_set_some ek with ⟨_, z⟩ | ⟨hne, z⟩
    · cases z
    · exact hne (rx.inj k jj _ _ pp z ej ok rfl sk sj)
  have free0 : ∀ q, Fre σ envx q → Fre σ (envx.set jj none) q := fun q f k dv ek ok => by
    rcases get_set_some ek with ⟨_, z⟩ | ⟨_, z⟩
    · cases z
    · exact f k dv z ok
  have own0 : ∀ (k : Nat) (dv : DV), (envx.set jj none)[k]? = some (some dv) → ownish dv = true → ∃ d0, envx[k]? = some (some d0) ∧ ownish d0 = true := fun k dv ek ok => by
    rcases get_set_some ek with ⟨_, z⟩ | ⟨_, z⟩
    · cases z
    · exact ⟨dv, z, ok⟩
  refine ⟨.ref pp, sj, pp, rfl, ⟨xs, SqL.of hp⟩, fun D hD => ?_⟩
  have hDp : D ≠ pp := fun z => by rw [z, hp] at hD; cases hD
  have zD1 : Zx D = none := r.zh.free hD
  have g1 : Grow Zx H Zx (upd H D (.lst [])) := grow_own r.zh hD _
  have frD : Fre σ (envx.set jj none) D := fre_new r hD
  have wk : Walk (Itl K pp) dsx.length (fun H => SqL K H pp xs) (YAt xs) := (dds_len dp) ▸ walk_list
  refine lc_it wk (fun i Hc => ∃ Zc ec acc ad rest, (Hc pp = some (.lst xs) ∧ Zc pp = none) ∧ Same Zx Zc ∧ Rel K F Zc Hc (wipe σ vs) ec ∧ (∀ (j : Nat) (dv : DV), ec[j]? = some (some dv) → j ∉ vs) ∧ Stp σ (envx.set jj none) Zx H ec Zc Hc ∧ Hc D = some (.lst acc) ∧ Zc D = none ∧ acc.length ≤ i ∧ DDs K Zc acc ad ∧
      lcD g ft fe vs (dsx.drop i) ec = some (rest, envx') ∧ rsx = ad ++ rest) ?_ ?_ ?_ ?_
  · refine ⟨Zx, wipeE (envx.set jj none) vs, [], [], rsx, ⟨by rw [upd_ne (fun z => hDp z.symm)]; exact hp, zp⟩, Same.refl _, (r.grow g1).wipe vs, fun j dv e => (wipeE_in _ _ _ _ e).1, ?_, upd_same, zD1, Nat.le_refl _, .nil, elx, rfl⟩
    have s2 := g1.stp (σ := σ) (env := envx.set jj none)
    exact ⟨s2.z, s2.h, s2.n, fun i dv e o => s2.o i dv (wipeE_in _ _ _ _ e).2 o, s2.k⟩
  · rintro i Hc hi ⟨Zc, ec, acc, ad, rest, hpc, sz, rc, _⟩
    exact SqL.of hpc.1
  · rintro i x Hc H2 hi ⟨Zc, ec, acc, ad, rest, hpc, sz, rc, nv, st, hDc, zDc, hla, dacc, el, eq⟩ y
    obtain ⟨rfl, y⟩ := y
    obtain ⟨d, hd, dd0⟩ := dds_get' dp y
    have dd : DD K Zc x d := DDm dd0 sz
    have ed : dsx.drop i = d :: dsx.drop (i + 1) := by
      obtain ⟨hl, hx⟩ := List.getElem?_eq_some_iff.mp hd
      rw [← hx]
      exact List.drop_eq_getElem_cons hl
    rw [ed] at el
    obtain ⟨e2, g2, el⟩ := bnd el
    obtain ⟨⟨tb, e3⟩, t2, el⟩ := bnd el
    refine ⟨Zc, ec, d, e2, rc, dd, g2, fun σ2 r2 k2 => ⟨?_, ?_⟩⟩
    · rw [wipe_eq (σ := wipe σ vs) (τ := σ2) k2.l (fun j hj => k2.s j fun z => hj (hts j z))]
      exact wipe_eq (wipe_length σ vs) fun j hj => wipe_get σ vs j hj
    have wst : wipe σ2 vs = wipe σ vs := by
      rw [wipe_eq (σ := wipe σ vs) (τ := σ2) k2.l (fun j hj => k2.s j fun z => hj (hts j z))]
      exact wipe_eq (wipe_length σ vs) fun j hj => wipe_get σ vs j hj
    have free2 : ∀ q, Fre σ (envx.set jj none) q → Fre σ2 e2 q := fun q f j dv ej oj sj => by
      obtain ⟨a1, b1⟩ := k2.o j dv ej oj
      obtain ⟨dv0, b2, o2⟩ := st.o j dv b1 oj
      refine f j dv0 b2 o2 ?_
      rw [← wipe_get σ vs j (nv j dv b1), ← k2.s j a1]
      exact sj
    have own2 : ∀ (j : Nat) (dv : DV), e2[j]? = some (some dv) → ownish dv = true → ∃ dv0, (envx.set jj none)[j]? = some (some dv0) ∧ ownish dv0 = true := fun j dv ej oj => by
      obtain ⟨a1, b1⟩ := k2.o j dv ej oj
      exact st.o j dv b1 oj
    have lift : ∀ {e4 : DEnv} {Z4 H4 : Hp}, Stp σ2 e2 Zc H2 e4 Z4 H4 → Stp σ (envx.set jj none) Zx H (wipeE e4 vs) Z4 H4 := fun {e4 Z4 H4} b => by
      refine ⟨st.z.trans b.z, fun q o hq n f => b.h q o (st.h q o hq n f) n (free2 q f), fun q h4 h0 hh f => ?_, fun j dv ej oj => ?_, fun q hq => b.k q (st.k q hq)⟩
      · by_cases hz : Zc q = none
        · exact b.n q h4 hz (st.k q hh) (free2 q f)
        · exact st.n q hz h0 hh f
      · obtain ⟨a1, b1⟩ := b.o j dv (wipeE_in _ _ _ _ ej).2 oj
        exact own2 j a1 b1.1 b1.2
    -- what is held, and what is piled up, stay in such a step
    have stay : ∀ {e4 : DEnv} {Z4 H4 : Hp} {q : Addr} {ys : List V}, Stp σ2 e2 Zc H2 e4 Z4 H4 → Fre σ (envx.set jj none) q → H2 q = some (.lst ys) → Zc q = none → H4 q = some (.lst ys) ∧ Z4 q = none := fun {e4 Z4 H4 q ys} b f hq zq => by
      refine ⟨b.h q _ hq nt_lst (free2 q f), ?_⟩
      cases hh : Z4 q with
      | none => rfl
      | some o => exact absurd (free2 q f) (b.n q (by rw [hh]; simp) zq (by rw [hq]; simp))
    refine ⟨Zc, e2, tb, e3, r2, t2, fun Z3 H3 r3 s3 => ?_⟩
    cases tb with
    | false =>
      refine iteF ⟨Z3, wipeE e3 vs, acc, ad, rest, stay s3 frp hpc.1 hpc.2, sz.trans s3.z, ?_, fun j dv e => (wipeE_in _ _ _ _ e).1, lift s3, (stay s3 frD hDc zDc).1, (stay s3 frD hDc zDc).2, Nat.le_succ_of_le hla, DDsm dacc s3.z, el, eq⟩
      have := r3.wipe vs
      rw [wst] at this
      exact this
    | true =>
      obtain ⟨⟨yv, e4⟩, y2, el⟩ := bnd el
      obtain ⟨⟨rr, e5⟩, l2, el⟩ := mpd el
      cases el
      refine iteT ⟨Z3, e3, yv, e4, r3, y2, fun v Z4 H4 r4 s4 d4 => ?_⟩
      have s34 := s3.trans s4
      obtain ⟨hD4, zD4⟩ := stay s34 frD hDc zDc
      obtain ⟨hp4, zp4⟩ := stay s34 frp hpc.1 hpc.2
      have hlt : acc.length < sizeLine := Nat.lt_of_lt_of_le (Nat.lt_of_le_of_lt hla hi) (Nat.le_trans hlim lim_le)
      refine ⟨acc, hD4, hlt, Z4, wipeE e4 vs, acc ++ [v], ad ++ [yv], rr, ⟨by rw [upd_ne (fun z => hDp z.symm)]; exact hp4, zp4⟩, sz.trans s34.z, ?_, fun j dv e => (wipeE_in _ _ _ _ e).1, ?_, upd_same, zD4, ?_, dds_app (DDsm dacc s34.z) (.cons d4 .nil), l2, ?_⟩
      · have pk := pok_upd r4.zh zD4 hD4 (.lst (acc ++ [v]))
        have rp := r4.poke0 (s34.fre (free2 D frD)) (r.gh.free hD) (fun z => (r.pp D z).1 hD) pk (by rw [upd_same]; simp)
        have := rp.wipe vs
        rw [wst] at this
        exact this
      · have b := lift s34
        refine ⟨b.z, fun q o hq n f => ?_, b.n, b.o, fun q hq => ?_⟩
        · rw [upd_ne (fun z => by rw [z, hD] at hq; cases hq)]
          exact b.h q o hq n f
        · by_cases hqD : q = D
          · subst hqD; rw [upd_same]; simp
          · rw [upd_ne hqD]; exact b.k q hq
      · rw [List.length_append]; exact Nat.succ_le_succ hla
      · rw [eq, List.append_assoc]; rfl
  · rintro Hc ⟨Zc, ec, acc, ad, rest, hpc, sz, rc, nv, st, hDc, zDc, hla, dacc, el, eq⟩
    rw [List.drop_length] at el
    cases el
    rw [List.append_nil] at eq
    subst eq
    have rr := (rc.unwipe nv).regain jj sj (st.fre frp) npp ngp hpc.2 hpc.1 (DDsm dp sz)
    refine qx D acc Zc Hc rr ⟨st.z, fun q o hq n f => st.h q o hq n (free0 q f), fun q h1 h2 h3 f => st.n q h1 h2 h3 (free0 q f), fun k dv ek ok => ?_, st.k⟩ hD zDc hDc dacc
    rcases get_set_some ek with ⟨rfl, _⟩ | ⟨_, z⟩
    · exact ⟨_, ej, rfl⟩
    · obtain ⟨d0, a, b⟩ := st.o k dv z ok
      exact own0 k d0 a b
theorem pn_lcH (j : Nat) {y : Str} {py : Pos} (own : List (Str × Nat)) (hN : X.N.Nodup) (ok : BlkOk X.N X.env.scope scope own)
    (hg : ∀ (s : Shared) (H : Hp) (C : Addr) (cl : List (Str × Addr)) (fp : List Addr), PGN (X.blk s H scope (compEnvC scope cl C X.env) fp) F tg ts g) (ht : ∀ (s : Shared) (H : Hp) (C : Addr) (cl : List (Str × Addr)) (fp : List Addr), PDTs (X.blk s H scope (compEnvC scope cl C X.env) fp) F ifs ft)
    (he : ∀ (s : Shared) (H : Hp) (C : Addr) (cl : List (Str × Addr)) (fp : List Addr), PD (X.blk s H scope (compEnvC scope cl C X.env) fp) F elt fe) (hjv : j ∉ own.map (·.2) := by decide) (hts : ∀ i ∈ ts, i ∈ own.map (·.2) := by decide) (hy : X.N[j]? = some y := by rfl) (hv : Vis X.env.scope y := by first | exact Or.inl rfl | exact Or.inr (Or.inl rfl) | exact Or.inr (Or.inr rfl))
    (hd : (y == ("__debug__" : Str)) = false := by decide) (hcd : (y == ("__classdict__" : Str)) = false := by decide) (hc : X.calm = true := by rfl) (hs : ∀ x, foldedSetIterable (.Name y py) X.env x = pure x := by intro _; rfl) :
    PN X F (.ListComp elt [⟨tg, .Name y py, ifs, 0⟩] scope pos) (nLcH j g ft fe (own.map (·.2))) :=
  pe_imp (pe_lc (g := tGN X.K F ts g) (tt := tDT X.K F ft) (te := tD X.K F fe) hc hN (pi_orr (pi_list (pe_var hy hv hd hcd)) (di_seq (pd_name j hy hv hd hcd))) ok hg ht he hs) fun σ H Q h => by
    obtain ⟨Z, env, d, env', r, e, q⟩ := h
    unfold nLcH at e
    split at e
    · rename_i ds hw
      split at e
      case isFalse => cases e
      rename_i hl
      obtain ⟨⟨rs, e1⟩, h1, h2⟩ := mpd e
      cases h2
      exact .inl (lc_readH hts j hjv r hw hl h1 q)
    · exact .inr (lc_read hts ⟨Z, env, d, env', r, e, q⟩)
theorem ev_lcH {j : Nat} {g : PyData → DEnv → Option DEnv} {ft : DEnv → Option (Bool × DEnv)} {fe : DEnv → Option (PyData × DEnv)} {vs : List Nat} {env e2 e3 e4 : DEnv} {ds rs : List PyData} (h : rdW j env = some ds) (hl : ds.length ≤ lim) (hw : wipeE (env.set j none) vs = e2) (h2 : lcD g ft fe vs ds e2 = some (rs, e3)) (he : e3.set j (some (.ow ds)) = e4) : nLcH j g ft fe vs env = some (rs, e4) := by
  unfold nLcH; rw [h]; show (if ds.length ≤ lim then _ else _) = _; rw [if_pos hl, hw, h2, ← he]; rfl
end
end DL
end L2


set_option Elab.async false
set_option maxRecDepth 100000
set_option maxHeartbeats 4000000
set_option autoImplicit false
namespace L2
namespace DL
open PySem PySem.Spec PyProof.Rows
variable [Lab]
theorem mm_b {a : Int} (ha : 2 ≤ a) {env : DEnv} {n : Nat} (h : fLenN 0 env = some (.int n, env)) : ∃ m : Int, fCB maxD (fCons (fC (.int 2)) (fCons (fCB minD (fCons (fLenN 0) (fCons (fC (.int a)) fNil))) fNil)) env = some (.int m, env) ∧ 2 ≤ m ∧ m ≤ a := by
  have e1 : fCB minD (fCons (fLenN 0) (fCons (fC (.int a)) fNil)) env = some (.int (if a < (n : Int) then a else n), env) := ev_cb (ev_cons h (ev_cons rfl ev_nil)) rfl
  generalize hx : (if a < (n : Int) then a else (n : Int)) = x at e1
  refine ⟨if 2 < x then x else 2, ev_cb (ev_cons rfl (ev_cons e1 ev_nil)) rfl, ?_, ?_⟩
  · split <;> omega
  · split <;> (split at hx <;> omega)
theorem law_fin {mr : List PyData → List PyData → Option (PyData × List PyData)} {mp : List PyData → Option (List PyData)} {mc : List PyData → Option PyData} {PO : List PyData → Prop} {ns : List Int} (hc : ∀ k : Int, 0 ≤ k → k ≤ 1000 → ∃ c : Int, mc [.list (ns.map .int), .int k] = some (.int c)) (hp : ∀ c : Int, ∃ es, mp [.int c] = some es ∧ PO es) (hr : ∀ es, PO es → ∃ es', mr es [] = some (.bool true, es'))
    {v : Nat} {fm : DEnv → Option (PyData × DEnv)} {env : DEnv} (hm : ∃ m : Int, fm env = some (.int m, env) ∧ 2 ≤ m ∧ m ≤ 8) (hv : env.set v none = env) (h0 : ∀ d, rdF 0 (env.set v (some (.fr d))) = some (.list (ns.map .int), env.set v (some (.fr d)))) (hvv : ∀ d, rdF v (env.set v (some (.fr d))) = some (d, env.set v (some (.fr d)))) :
    sRet (fCB allD (fCons (fFrz (nLc (iArg rng1 (fCons fm fNil)) (gSet v) fYes (fCRT mr (fCN mp (fCons (fCB mc (fCons (rdF 0) (fCons (rdF v) fNil))) fNil))) [v])) fNil)) env = some (.rt (.bool true) env) := by
  obtain ⟨m, e1, m1, m2⟩ := hm
  have e2 := lc_img (i := v) (fe := fCRT mr (fCN mp (fCons (fCB mc (fCons (rdF 0) (fCons (rdF v) fNil))) fNil))) (e := fun i : Nat => .int (0 + (i : Int))) (q := fun _ => .bool true) (env := env) hv (List.range m.toNat) fun k hk => by
    have hk := List.mem_range.mp hk
    obtain ⟨c, e3⟩ := hc (0 + (k : Int)) (by omega) (by omega)
    obtain ⟨es, e4, po⟩ := hp c
    obtain ⟨es', e5⟩ := hr es po
    have e6 : fCN mp (fCons (fCB mc (fCons (rdF 0) (fCons (rdF v) fNil))) fNil) (env.set v (some (.fr (.int (0 + (k : Int)))))) = some (es, env.set v (some (.fr (.int (0 + (k : Int)))))) := by
      unfold fCN
      rw [ev_cons (ev_cb (ev_cons (h0 _) (ev_cons (hvv _) ev_nil)) e3) ev_nil]
      show (mp [.int c]).map _ = _
      rw [e4]
      rfl
    unfold fCRT
    rw [e6]
    show (mr es []).map _ = _
    rw [e5]
    rfl
  have hrng : rng1 [.int m] = some ((List.range m.toNat).map fun i : Nat => .int (0 + (i : Int))) := by
    show (if m ≤ 1000000 ∧ _ then some (rangeD 0 m.toNat) else none) = _
    rw [if_pos (by omega)]
    rfl
  refine ev_ret (ev_cb (ev_cons (ev_frz (ev_lc (ev_iArg (ev_cons e1 ev_nil) hrng) ?_ hv e2)) ev_nil) ?_)
  · rw [List.length_map, List.length_range]
    show _ ≤ 100000
    omega
  · rw [all_map (fun _ : Nat => true)]
    simp
/-! ### a new list times a number -/
section
variable {X : Cx} {F : Fm} {a b : Expr} {pos : Pos} {g : DEnv → Option (PyData × DEnv)} {fn : DEnv → Option (List PyData × DEnv)}
end
/-! ### a, b, c = two new lists and data -/
section
variable {X : Cx} {F : Fm} {s : Stmt} {fn gn : DEnv → Option (List PyData × DEnv)} {f : DEnv → Option (PyData × DEnv)}
end
/-! ### words and numbers are small -/
theorem Sm.le {k w : Nat} {d : PyData} (h : Sm k w d) {k' w' : Nat} (hk : k ≤ k' := by decide) (hw : w ≤ w' := by decide) : Sm k' w' d := h.mono hk hw
end DL
end L2


set_option Elab.async false
set_option maxRecDepth 100000
set_option maxHeartbeats 4000000
set_option autoImplicit false
namespace L2
namespace DL
open PySem PySem.Spec PyProof.Rows
/-! ### orders, commands, picks: what they are apart from data -/
def dirsD : List Str := ["up", "down"]
abbrev Ky := Int × Str
def kd (k : Ky) : PyData := .tuple [.int k.1, .str k.2]
def plD (s : Str) : PyData := .tuple [.str "place", .str s]
def ordD (ks : List Ky) (s : Str) : PyData := .tuple (ks.map kd ++ [plD s])
structure KOk (n : Int) (ks : List Ky) : Prop where
  nd : (ks.map (·.1)).Nodup
  rg : ∀ k ∈ ks, 0 ≤ k.1 ∧ k.1 < n ∧ k.2 ∈ dirsD
abbrev KB := Int × Bool
abbrev Od := List KB × Bool
def dS (b : Bool) : Str := if b then "up" else "down"
def toKy (k : KB) : Ky := (k.1, dS k.2)
structure OOk (o : Od) : Prop where
  nd : (o.1.map (·.1)).Nodup
  rg : ∀ k ∈ o.1, 0 ≤ k.1 ∧ k.1 < 4
theorem dS_in (b : Bool) : dS b ∈ dirsD := by cases b <;> simp [dS, dirsD]
theorem OOk.k {o : Od} (h : OOk o) : KOk 4 (o.1.map toKy) := by
  refine ⟨?_, fun k hk => ?_⟩
  · rw [List.map_map]; exact h.nd
  · obtain ⟨x, hx, rfl⟩ := List.mem_map.mp hk
    exact ⟨(h.rg x hx).1, (h.rg x hx).2, dS_in _⟩
theorem nodup_le {α : Type} [DecidableEq α] : ∀ (l t : List α), l.Nodup → (∀ x ∈ l, x ∈ t) → l.length ≤ t.length
  | [], _, _, _ => Nat.zero_le _
  | a :: l, t, hn, hs => by
    have ha := hs a List.mem_cons_self
    rw [List.nodup_cons] at hn
    have := nodup_le l (t.erase a) hn.2 fun x hx => by
      have hne : x ≠ a := fun z => hn.1 (by rw [← z]; exact hx)
      exact (List.mem_erase_of_ne hne).mpr (hs x (List.mem_cons_of_mem _ hx))
    rw [List.length_erase_of_mem ha] at this
    have hp : 0 < t.length := List.length_pos_of_mem ha
    rw [List.length_cons]
    omega
theorem OOk.len {o : Od} (h : OOk o) : o.1.length ≤ 4 := by
  have := nodup_le (o.1.map (·.1)) [0, 1, 2, 3] h.nd fun c hc => by
    obtain ⟨k, hk, rfl⟩ := List.mem_map.mp hc
    obtain ⟨a, b⟩ := h.rg k hk
    simp only [List.mem_cons, List.not_mem_nil, or_false]
    omega
  rwa [List.length_map] at this
def nK (k : KB) : KB := (k.1, !k.2)
def flO (o : Od) : Od := (o.1.map nK, !o.2)
def offO (c : Int) (ks : List KB) : List KB := ks.filter fun k => !decide (k.1 = c)
def putO (c : Int) (d : Bool) (o : Od) : Od := ((c, d) :: offO c o.1, o.2)
theorem OOk.fl {o : Od} (h : OOk o) : OOk (flO o) := by
  refine ⟨?_, fun k hk => ?_⟩
  · show ((o.1.map nK).map (·.1)).Nodup
    rw [List.map_map]; exact h.nd
  · obtain ⟨x, hx, rfl⟩ := List.mem_map.mp hk
    exact h.rg x hx
theorem OOk.put {o : Od} (h : OOk o) {c : Int} (h0 : 0 ≤ c) (h1 : c < 4) (d : Bool) : OOk (putO c d o) := by
  refine ⟨?_, fun k hk => ?_⟩
  · show (c :: (offO c o.1).map (·.1)).Nodup
    rw [List.nodup_cons]
    refine ⟨fun z => ?_, ?_⟩
    · obtain ⟨k, hk, e⟩ := List.mem_map.mp z
      have := (List.mem_filter.mp hk).2
      simp [e] at this
    · exact List.Sublist.nodup (List.Sublist.map _ List.filter_sublist) h.nd
  · rcases List.mem_cons.mp hk with rfl | hk
    · exact ⟨h0, h1⟩
    · exact h.rg k (List.mem_filter.mp hk).1
inductive Pl where
  | sort (d : Bool) (c : Int) | rev | res | cut (f : Bool) (k : Int)
abbrev Pk := Od × Int
/-! ### what turns do to an order -/
def offs (P ks : List KB) : List KB := ks.filter fun k => !decide (k.1 ∈ P.map (·.1))
def phi (b : Bool) (ks : List KB) : List KB := if b then ks.map nK else ks
structure ShF (f : Od → Od) (P : List KB) (b : Bool) : Prop where
  eq : ∀ o, f o = (P ++ phi b (offs P o.1), o.2.xor b)
end DL
end L2


set_option Elab.async false
set_option maxRecDepth 100000
set_option maxHeartbeats 4000000
set_option autoImplicit false
namespace L2
namespace DL
open PySem PySem.Spec PyProof.Rows
/-! ### picks, shortened -/
def keep : Int → List Pk → List Pk
  | _, [] => []
  | m, p :: ps => if p.2 < m then p :: keep p.2 ps else keep m ps
def minS : Int → List Pk → Int
  | m, [] => m
  | m, p :: ps => if p.2 < m then minS p.2 ps else minS m ps
structure SameS (a b : List Pk × Od) : Prop where
  o : a.2 = b.2
  k : ∀ m, keep m a.1 = keep m b.1 ∧ minS m a.1 = minS m b.1
end DL
end L2


set_option Elab.async false
set_option maxRecDepth 100000
set_option maxHeartbeats 4000000
set_option autoImplicit false
namespace L2
namespace DL
open PySem PySem.Spec PyProof.Rows PySem.Calls
variable [Lab]
section
variable {X : Cx} {F : Fm} {e a b : Expr} {f : DEnv → Option (PyData × DEnv)} {pos p : Pos}
end
end DL
end L2


set_option Elab.async false
set_option maxRecDepth 100000
set_option maxHeartbeats 4000000
set_option autoImplicit false
namespace L2
namespace DL
open PySem PySem.Spec PyProof.Rows PySem.Calls
variable [Lab]
section
variable {X : Cx} {F : Fm} {a e : Expr} {f : DEnv → Option (PyData × DEnv)} {pos p : Pos} {pins : List (Addr × Obj)} {σ : St} {H : Hp} {s : Shared}
/-! ### tuple(range(e)) -/
def fTupRg (f : DEnv → Option (PyData × DEnv)) (env : DEnv) : Option (PyData × DEnv) := (f env).bind fun x => match x.1 with
  | .int j => if j ≤ 100000 ∧ -100000 ≤ j then some (.tuple (rangeD 0 j.toNat), x.2) else none
  | _ => none
theorem pd_tupRg (hml : X.mg "tuple" = none) (hmr : X.mg "range" = none) (ha : PD X F a f) (hc : X.calm = true := by rfl) (hgl : Gl X "tuple" := by rfl) (hgr : Gl X "range" := by rfl) {q0 q1 : Pos} (na : starEach [a] X.env = (false, eval a X.env) :: starEach [] X.env := by rfl)
    (na2 : starEach [.Call (.Name "range" q0) [a] [] q1] X.env = (false, eval (.Call (.Name "range" q0) [a] [] q1) X.env) :: starEach [] X.env := by rfl) :
    PD X F (.Call (.Name "tuple" p) [.Call (.Name "range" q0) [a] [] q1] [] pos) (fTupRg f) := pe_imp (pe_tupRg hc hgl hml (prg_1 hgr hmr ha na) na2) fun σ H Q h => by
  obtain ⟨Z, env, d, env', r, e, q⟩ := h
  obtain ⟨⟨i, e1⟩, h1, e⟩ := bnd e
  match i, h1, e with
  | .int j, h1, e =>
    change (if j ≤ 100000 ∧ -100000 ≤ j then some (PyData.tuple (rangeD 0 j.toNat), e1) else none) = some (d, env') at e
    split at e
    case isFalse => cases e
    rename_i hj
    cases e
    refine ⟨Z, env, .int j, env', r, h1, fun v Z1 H1 r1 s1 d1 => ?_⟩
    cases d1.int_inv
    refine ⟨j, rfl, ⟨by omega, by omega, by omega, by omega, by omega⟩, fun p hp => ?_⟩
    have gr := grow_new r1.zh hp (.tup (rgV 0 j))
    exact q _ _ _ (r1.grow gr) (s1.trans gr.stp) (new_tup r1.zh hp (dds_range j))
theorem ev_tupRg {env e1 : DEnv} {j : Nat} (h : f env = some (.int j, e1)) (hj : j ≤ 100000) : fTupRg f env = some (.tuple (rangeD 0 j), e1) := by
  unfold fTupRg; rw [h]
  show (if (j : Int) ≤ 100000 ∧ -100000 ≤ (j : Int) then some (PyData.tuple (rangeD 0 ((j : Nat) : Int).toNat), e1) else none) = _
  rw [if_pos (by omega), Int.toNat_natCast]
/-! ### sorted(t, key=lambda y: body), t a tuple -/
def nSortT (fi fb : DEnv → Option (PyData × DEnv)) (env : DEnv) : Option (List PyData × DEnv) := (fi env).bind fun x => match x.1 with
  | .tuple ds => (keysD fb x.2 ds).bind fun ks => if ks.all intsT then some (sortD ds ks, x.2) else none
  | _ => none
theorem sorted_tupK {tt f c' : Addr} {k : Nat} {y : Str} {scope : Scope} {params : Arguments} {body : Expr} {fb : DEnv → Option (PyData × DEnv)} {ts : List V} {ds ks : List PyData} {Z : Hp} {env : DEnv} {Q : VK} {E : Value → Shared → Prop}
    (kf : KeyFn X F X.A.in1.in1 k y scope params body fb f c') (I : Inv X pins σ H s) (r : Rel X.K F Z H σ env) (ht : SqT X.K H tt ts) (dt : DDs X.K Z ts ds) (hf : H f = some (LamO f (lamQ X) params body scope (cloFrom X.env.cells scope.names []) c')) (hc : H c' = some (LamX.CodeO c' (lamQ X)))
    (ko : KeysOk X.A.in1.in1 fb env ds ks)
    (h : ∀ p xs Z' H', Grow Z H Z' H' → H p = none → H' p = none → DDs X.K Z' xs (sortD ds ks) → Q (.ref p) (upd H' p (.lst xs))) :
    wpAny (model X.prog X.w) X.A (call (.builtin "sorted") [.ref tt] [(Str.ofString "key", .ref f)]) (EP X pins σ Q) E s := by
  obtain ⟨its, rv, ⟨o, ho, hoc, n, hod⟩, hz⟩ := I.tuple ht
  have hZ : its.length ≤ sizeLine := by rw [← rv.length]; exact hz
  refine call_function_entry_kw kind_sorted plain_sorted entry_sorted (ksk_s1 _ _) ?_
  unfold Builtin.«sorted»
  refine wpAny_bind (m := checkCount "sorted" 1 1 _) (wpAny_pure ?_)
  refine wpAny_bind (wpAny_collect_seq tt (.inr rfl) ho hoc hod (fun h1 kp => ?_) (by rw [List.size_toArray]; exact hZ))
  refine wpAny_bind (wpAny_newList ?_ (by simpa using hZ))
  rw [List.toList_toArray]
  have I1 : Inv X pins σ H { s with heap := h1 } := I.kept (t' := s.toks) kp
  have na : Nu X pins h1.objs.size := Nu.new I1 (Nat.le_refl _)
  have hna : H h1.objs.size = none := I1.hok.fresh (Nat.le_refl _)
  have I2 : Inv X pins σ H { s with heap := h1.push (seqObj "list" its.toArray 0) } := I1.kept (t' := s.toks) fun b o e => Heap.get?_push_of_some _ e
  have ga : (h1.push (seqObj "list" its.toArray 0)).get? h1.objs.size = some (seqObj "list" its.toArray 0) := Heap.get?_push_size _ rfl
  refine wpAny_bind (wpAny_holding (wpAny_call_entry_kw slot_list_sort ⟨_, ga, rfl⟩ entry_list_sort ?_ (ksk_l1 _ _)))
  show wpAny (model X.prog X.w) X.A.in1.in1 (Builtin.«list.sort» ⟨[.ref h1.objs.size], [(Str.ofString "key", .ref f)]⟩) _ _ _
  rw [ksk_t1]
  refine sort_run kf I2 r hf hc ga na hna rv dt ko hZ fun Z' H' s' xs' I' g' n' d' => ⟨_, rfl, wpAny_pure ⟨_, rfl, ?_⟩⟩
  exact ⟨.ref h1.objs.size, _, I', rfl, h _ _ _ _ g' hna n' d'⟩
theorem pn_sortT {c P : Addr} {k : Nat} {y : Str} {params : Arguments} {body : Expr} {scope : Scope} {lpos kpos : Pos} {fi fb : DEnv → Option (PyData × DEnv)} (hms : X.mg "sorted" = none)
    (tb0 : LamX.TabB X.base X.mg c P) (hcode : X.env.code = .ref c) (hm : (P, lamQ X) ∈ Lab.T) (hu : ∀ p ∈ Lab.T, p.1 = P → p.2 = lamQ X) (L : Lam1 X.env.scope scope y) (hr : Room (k + 3) X.A) (nyB : (X.N.all fun z => !(z == y)) = true)
    (bind : ∀ (u : Value) (q : Str) (cl : List (Str × Addr)) (pm cv ctv : Value), bindArgs (PySem.W.kla_fn "<lambda>" q params body scope cl pm cv ctv) ⟨[u], []⟩ = pure [(y, u)]) (ha : PD X F a fi)
    (hbody : ∀ (s : Shared) (H : Hp) (f c' : Addr), Room k (X.A.in1.in1.deeper (LamX.lamEnv X scope s.heap.objs.size f c')) → PD (lam1Cx X X.A.in1.in1 X.stack s H (fun _ _ _ => False) scope f c' y) F body fb)
    (hdef : defaultsOf params X.env = ([], []) := by rfl) (hgs : Gl X "sorted" := by rfl)
    (na2 : starEach [a] X.env = (false, eval a X.env) :: starEach [] X.env := by rfl)
    (he : backTo pos (starEach [a] X.env) = (false, eval a X.env) :: backTo pos (starEach [] X.env) := by rfl) (hpl : (backTo pos (starEach [a] X.env)).any (·.1) = false := by rfl) :
    PN X F (.Call (.Name "sorted" p) [a] [⟨some "key", .Lambda params body scope lpos, kpos⟩] pos) (nSortT fi fb) := by
  have ny : y ∉ X.N := fun z => by
    have := List.all_eq_true.mp nyB y z
    simp at this
  have h0 := pe_callKs (X := X) (x := "sorted") (id := "sorted") (p := p) (pos := pos) (ks := [Str.ofString "key"]) (kws := [⟨some "key", .Lambda params body scope lpos, kpos⟩])
    (r := fun σ xs zs H Q => ∃ tt ts ds f c' Z env ks, xs = [V.ref tt] ∧ zs = [V.ref f] ∧ Rel X.K F Z H σ env ∧ SqT X.K H tt ts ∧ DDs X.K Z ts ds ∧ H f = some (LamO f (lamQ X) params body scope (cloFrom X.env.cells scope.names []) c') ∧ H c' = some (LamX.CodeO c' (lamQ X)) ∧
      keysD fb env ds = some ks ∧ ks.all intsT = true ∧ ∀ p xs Z' H', Grow Z H Z' H' → H p = none → H' p = none → DDs X.K Z' xs (sortD ds ks) → Q (.ref p) (upd H' p (.lst xs)))
    (fun pins s σ H xs zs us ws Q I rx rz ⟨tt, ts, ds, f, c', Z, env, ks, e1, e2, r, h1, h1', h2, h3, h5, h6, q⟩ => by
      subst e1 e2
      cases rx with
      | cons a1 a2 =>
        cases a2
        cases rz with
        | cons b1 b2 =>
          cases b2
          cases a1
          cases b1
          have kf : KeyFn X F X.A.in1.in1 k y scope params body fb f c' := ⟨L, I.env0.frames, hr.in1.in1, ny, bind, fun s H hr' => hbody s H f c' hr'⟩
          exact sorted_tupK kf I r h1 h1' h2 h3 (keys_ok h5 h6 (by have := hr.in1.in1.un; omega)) q)
    hgs hms (by decide +kernel) (pa_cons ha pa_nil na2) (pk_cons (pe_lam tb0 hcode hm hu (fun ok => L.has ok) hdef) pk_nil) (by decide) (by decide) he hpl rfl rfl rfl
  refine pe_imp h0 fun σ H Q h => ?_
  obtain ⟨Z, env, ds0, env', r, e, q⟩ := h
  obtain ⟨⟨d, e1⟩, h1, e⟩ := bnd e
  match d, h1, e with
  | .tuple ds, h1, e =>
    obtain ⟨ks, h2, e⟩ := bnd e
    change (if ks.all intsT = true then some (sortD ds ks, e1) else none) = some (ds0, env') at e
    split at e
    case isFalse => cases e
    rename_i hk
    obtain ⟨rfl, rfl⟩ := Prod.mk.inj (Option.some.inj e)
    refine ⟨Z, env, .tuple ds, e1, r, h1, fun v Z1 H1 r1 s1 d1 => ?_⟩
    cases d1 with
    | @tup tt ts _ ht dt =>
      refine ⟨r1.tb, fun f c' H2 sm tb2 hf0 hf hc => ?_⟩
      have g2 : Grow Z1 H1 Z1 H2 := ⟨Same.refl _, r1.zh.trans sm, sm, fun _ => tb2, fun _ z => .inl z⟩
      have r3 := r1.grow g2
      refine ⟨tt, ts, ds, f, c', Z1, e1, ks, rfl, rfl, r3, same_sqT r3.zh ht, dt, hf, hc, h2, hk, fun p xs Z' H' g3 hp hp' dd => ?_⟩
      have g4 := grow_own (r3.grow g3).zh hp' (.lst xs)
      have st := (s1.trans g2.stp).trans (g3.trans g4).stp
      exact q p xs Z' _ (r3.grow (g3.trans g4)) st ((s1.trans g2.stp).new hp) ((r3.grow g3).zh.free hp') upd_same dd
end
end DL
end L2


set_option Elab.async false
set_option maxRecDepth 100000
set_option maxHeartbeats 4000000
set_option autoImplicit false
namespace L2
namespace DL
open PySem PySem.Spec PyProof.Rows
/-- the places by their keys -/
def plc (n : Nat) (kv : Nat → List Int) : List Nat := (List.range n).mergeSort (PySem.W.dataLe false fun i : Nat => PyData.tuple ((kv i).map .int))
theorem plc_perm (n : Nat) (kv : Nat → List Int) : (plc n kv).Perm (List.range n) := List.mergeSort_perm _ _
structure KvOk (n : Nat) (kv : Nat → List Int) : Prop where
  len : ∀ i j, i < n → j < n → (kv i).length = (kv j).length
  inj : ∀ i j, i < n → j < n → kv i = kv j → i = j
theorem plc_len (n : Nat) (kv : Nat → List Int) : (plc n kv).length = n := by rw [(plc_perm n kv).length_eq, List.length_range]
theorem plc_lt {n : Nat} {kv : Nat → List Int} {i : Nat} (h : i ∈ plc n kv) : i < n := List.mem_range.mp ((plc_perm n kv).mem_iff.mp h)
abbrev Tab := List (List Int)
def rowD (r : List Int) : PyData := .tuple (r.map .int)
def tabD (t : Tab) : PyData := .tuple (t.map rowD)
def sg (d : Str) (x : Int) : Int := if d = "up" then x else -x
def cellT (t : Tab) (i : Nat) (c : Int) : Int := (t.getD i []).getD c.toNat 0
def kvs (t : Tab) (ks : List Ky) (i : Nat) : List Int := ks.map fun k => sg k.2 (cellT t i k.1)
def kv (t : Tab) (ks : List Ky) (s : Str) (i : Nat) : List Int := kvs t ks i ++ [sg s i]
structure TabW (w : Nat) (t : Tab) : Prop where
  l1 : 1 ≤ t.length
  l2 : t.length ≤ 30
  w1 : 1 ≤ w
  w5 : w ≤ 5
  row : ∀ r ∈ t, r.length = w
/-! ### places by an order -/
def kvO (t : Tab) (o : Od) (i : Nat) : List Int := kv t (o.1.map toKy) (dS o.2) i
structure KvA (key : Nat → List Int) : Prop where
  len : ∀ i j, (key i).length = (key j).length
  inj : ∀ i j, key i = key j → i = j
structure StandL (t : Tab) (x : List Nat × Od) (l : List Nat) : Prop where
  nd : x.1.Nodup
  so : x.1.Pairwise fun i j => kvO t x.2 i < kvO t x.2 j
  pm : x.1.Perm l
end DL
end L2


set_option Elab.async false
set_option maxRecDepth 100000
set_option maxHeartbeats 4000000
set_option autoImplicit false
namespace L2
namespace DL
open PySem PySem.Spec PyProof.Rows
local instance labNone_RnD : Lab := { w := none, T := [], gd := True }
end DL
end L2


set_option Elab.async false
set_option maxRecDepth 100000
set_option maxHeartbeats 4000000
set_option autoImplicit false
namespace L2
namespace DL
open PySem PySem.Spec PyProof.Rows PySem.Calls
variable [Lab]
section
variable {X : Cx} {F : Fm} {k n j : Nat} {f : Addr} {fd : FuncData} {ps ks : List Str} {x y : Str} {p pos pn : Pos} {e : Expr} {es : List Expr} {fa fb : DEnv → Option (List PyData × DEnv)}
end
end DL
end L2


set_option Elab.async false
set_option maxRecDepth 100000
set_option maxHeartbeats 4000000
set_option autoImplicit false
/-! ### a for loop in a generator -/
namespace L2
open PySem PySem.Spec PyProof.Rows GenW
section
variable {prog : Program} {w : World} {A : Around} {R : GenEnd} {Y : Protocol} {n : Nat} {s₀ : Shared} {c : Code} {fs : List Frame} {s : Shared} {env : Env} {K : Flow → Sem PySem.Fin} {J : Value → Sem PySem.Fin} {gd : Bool → Bool} {lv : List Value → List Value} {tg iter : Expr} {it : Value} {body : List Stmt} {pos : Pos}
end
section
variable {X : Cx} {tg iter : Expr} {body : List Stmt} {pos : Pos} {wi : TI} {g : TG} {tb : TGn}
end
end L2


set_option Elab.async false
set_option maxRecDepth 100000
set_option maxHeartbeats 4000000
set_option autoImplicit false
/-! ### generators' bodies over data -/
namespace L2
namespace DL
open PySem PySem.Spec PyProof.Rows GenW
variable [Lab]
section
variable {X : Cx} {F : Fm} {tg iter e : Expr} {s : Stmt} {ss : List Stmt} {pos yp : Pos} {f : DEnv → Option (PyData × DEnv)} {fi b fy fz : DEnv → Option (List PyData × DEnv)} {fs : DEnv → Option DFlow} {g : PyData → DEnv → Option DEnv}
end
section
variable {P : Program} {w : World} {K : PySem.W.Frag} {mg : Str → Option Value} {base : Heap} {x qual : Str} {st : Stmt} {f : Addr} {fd : FuncData} {N ps : List Str} {k : Nat} {g : DEnv → Option (List PyData × DEnv)}
end
section
variable {X : Cx} {F : Fm} {k n : Nat} {f : Addr} {fd : FuncData} {ps : List Str} {x nm : Str} {p p2 pos pos2 : Pos} {e : Expr} {es : List Expr} {fa : DEnv → Option (List PyData × DEnv)}
end
/-- repr may be written -/
class LabR [Lab] : Prop where
  on : Lab.gd
end DL
end L2


set_option Elab.async false
set_option maxRecDepth 100000
set_option maxHeartbeats 4000000
set_option autoImplicit false
namespace L2
namespace DL
open PySem PySem.Spec PyProof.Rows
section
variable [Lab]
variable {X : Cx} {F : Fm}
/-! ### is None, is not None -/
def nonB : PyData → Bool
  | .none => true
  | _ => false
def isND (a b : PyData) : Option PyData := match b with
  | .none => some (.bool (nonB a))
  | _ => none
theorem non_dd {K : PySem.W.Frag} {Z : Hp} {x : V} {a : PyData} (h : DD K Z x a) : decide (x = .non) = nonB a := by
  cases h <;> first | rfl | exact decide_eq_false (fun z => V.noConfusion z)
theorem od_isN : OpD X (compareOp .Is) isND := by
  intro pins s σ H x y v u Q I rx ry h
  obtain ⟨Z, a, b, d, sz, ha, hb, e, q⟩ := h
  match b, hb, e with
  | .none, hb, e =>
    cases e
    cases hb
    refine op_isN pins s σ H _ _ v u Q I rx ry ⟨rfl, ?_⟩
    rw [non_dd ha]
    exact q _ Z H (Grow.refl sz) (.bl _)
theorem isND_b : IsB isND := fun a b d h => by
  match b, h with
  | .none, h => cases h; exact ⟨_, rfl⟩
end
end DL
end L2


set_option Elab.async false
set_option maxRecDepth 100000
set_option maxHeartbeats 4000000
set_option autoImplicit false
namespace L2
namespace DL
open PySem PySem.Spec PyProof.Rows
section
variable [Lab]
variable {X : Cx} {F : Fm} {pos : Pos}
end
end DL
end L2


set_option Elab.async false
set_option maxRecDepth 100000
set_option maxHeartbeats 4000000
set_option autoImplicit false
namespace L2
namespace DL
open PySem PySem.Spec PyProof.Rows
section
variable [Lab]
end
end DL
end L2


set_option Elab.async false
set_option maxRecDepth 100000
set_option maxHeartbeats 4000000
set_option autoImplicit false
namespace L2
namespace DL
open PySem PySem.Spec PyProof.Rows
section
variable [Lab]
variable {X : Cx} {F : Fm} {e : Expr} {f : DEnv → Option (PyData × DEnv)}
end
end DL
end L2


set_option Elab.async false
set_option maxRecDepth 100000
set_option maxHeartbeats 4000000
set_option autoImplicit false
namespace L2
namespace DL
open PySem PySem.Spec PyProof.Rows
variable [Lab]
/-- reached from a start by steps, stores into the block's names and wipes -/
structure Frm (σ0 : St) (e0 : DEnv) (Z0 H0 : Hp) (σ : St) (e : DEnv) (Z H : Hp) : Prop where
  st : Stp σ0 e0 Z0 H0 e Z H
  ss : ∀ (j : Nat) (dv : DV), e[j]? = some (some dv) → ownish dv = true → σ[j]? = σ0[j]?
section
variable {F : Fm} {σ0 σ σ' : St} {e0 e e' : DEnv} {Z0 H0 Z H Z' H' : Hp} {D : Addr}
theorem Frm.free (f : Frm σ0 e0 Z0 H0 σ e Z H) {q : Addr} (h : Fre σ0 e0 q) : Fre σ e q := fun j dv ej oj sj => by
  obtain ⟨dv0, b, o⟩ := f.st.o j dv ej oj
  exact h j dv0 b o ((f.ss j dv ej oj).symm.trans sj)
theorem Frm.step (f : Frm σ0 e0 Z0 H0 σ e Z H) (b : Stp σ e Z H e' Z' H') : Frm σ0 e0 Z0 H0 σ e' Z' H' := by
  refine ⟨⟨f.st.z.trans b.z, fun q o hq n fr => b.h q o (f.st.h q o hq n fr) n (f.free fr), fun q h4 h0 hh fr => ?_, fun j dv ej oj => ?_, fun q hq => b.k q (f.st.k q hq)⟩, fun j dv ej oj => ?_⟩
  · by_cases hz : Z q = none
    · exact b.n q h4 hz (f.st.k q hh) (f.free fr)
    · exact f.st.n q hz h0 hh fr
  · obtain ⟨dv1, a, o⟩ := b.o j dv ej oj
    exact f.st.o j dv1 a o
  · obtain ⟨dv1, a, o⟩ := b.o j dv ej oj
    exact f.ss j dv1 a o
theorem Frm.wipe (f : Frm σ0 e0 Z0 H0 σ e Z H) (vs : List Nat) : Frm σ0 e0 Z0 H0 (L2.wipe σ vs) (wipeE e vs) Z H :=
  ⟨⟨f.st.z, f.st.h, f.st.n, fun j dv ej oj => f.st.o j dv (wipeE_in _ _ _ _ ej).2 oj, f.st.k⟩, fun j dv ej oj => by
    obtain ⟨a, b⟩ := wipeE_in _ _ _ _ ej
    rw [wipe_get _ _ _ a]; exact f.ss j dv b oj⟩
theorem Frm.tg {ts : List Nat} (f : Frm σ0 e0 Z0 H0 σ e Z H) (k : TgOk ts σ e σ' e') : Frm σ0 e0 Z0 H0 σ' e' Z H :=
  ⟨⟨f.st.z, f.st.h, f.st.n, fun j dv ej oj => f.st.o j dv (k.o j dv ej oj).2 oj, f.st.k⟩, fun j dv ej oj => by
    obtain ⟨a, b⟩ := k.o j dv ej oj
    rw [k.s j a]; exact f.ss j dv b oj⟩
theorem Frm.poke (f : Frm σ0 e0 Z0 H0 σ e Z H) (h0 : H0 D = none) (x : HO) : Frm σ0 e0 Z0 H0 σ e Z (upd H D x) :=
  ⟨⟨f.st.z, fun q o hq n fr => by rw [upd_ne (fun z => by rw [z, h0] at hq; cases hq)]; exact f.st.h q o hq n fr, f.st.n, f.st.o, fun q hq => by
    by_cases hqD : q = D
    · subst hqD; rw [upd_same]; simp
    · rw [upd_ne hqD]; exact f.st.k q hq⟩, f.ss⟩
end
section
variable {X : Cx} {F : Fm} {tg iter tg1 iter1 elt : Expr} {ifs ifs1 : List Expr} {pos : Pos} {y : Str} {fe : DEnv → Option (PyData × DEnv)} {fi fi1 : DEnv → Option (List PyData × DEnv)} {ft ft1 : DEnv → Option (Bool × DEnv)} {scope : Scope} {ts ts1 : List Nat} {g g1 : PyData → DEnv → Option DEnv}
end
end DL
end L2


set_option Elab.async false
set_option maxRecDepth 100000
set_option maxHeartbeats 4000000
set_option autoImplicit false
namespace L2
namespace DL
open PySem PySem.Spec PyProof.Rows
variable [Lab]
end DL
end L2


set_option Elab.async false
set_option maxRecDepth 100000
set_option maxHeartbeats 4000000
set_option autoImplicit false
namespace L2
namespace DL
open PySem PySem.Spec PyProof.Rows
variable [Lab]
section
variable {X : Cx} {F : Fm} {e : Expr} {y : Str} {pos pn tpos : Pos} {f fe : DEnv → Option (PyData × DEnv)}
end
end DL
end L2


set_option Elab.async false
set_option maxRecDepth 100000
set_option maxHeartbeats 4000000
set_option autoImplicit false
namespace L2
namespace DL
open PySem PySem.Spec PyProof.Rows
variable [Lab]
end DL
end L2


set_option Elab.async false
set_option maxRecDepth 100000
set_option maxHeartbeats 4000000
set_option autoImplicit false
namespace L2
namespace DL
open PySem PySem.Spec PyProof.Rows PySem.Calls
variable [Lab]
/-! ### any(l), l a list of ints -/
section
variable {X : Cx}
end
end DL
end L2


set_option Elab.async false
set_option maxRecDepth 100000
set_option maxHeartbeats 4000000
set_option autoImplicit false
namespace L2
namespace DL
open PySem PySem.Spec PyProof.Rows PySem.Calls
/-! ### nested keys -/
mutual
def nkOf : PyData → Option NestedKey
  | .none => some .none
  | .int i => some (.num i)
  | .str s => some (.text s)
  | .tuple ds => (nksOf ds).map .tup
  | .bool _ => none
  | .list _ => none
  | .dict _ => none
def nksOf : List PyData → Option (List NestedKey)
  | [] => some []
  | d :: ds => (nkOf d).bind fun k => (nksOf ds).map (k :: ·)
end
variable [Lab]
mutual
theorem nk_data : ∀ (d : PyData) (k : NestedKey), nkOf d = some k → k.data = d
  | .none, _, h => by cases h; rfl
  | .int _, _, h => by cases h; rfl
  | .str _, _, h => by cases h; rfl
  | .bool _, _, h => by cases h
  | .list _, _, h => by cases h
  | .dict _, _, h => by cases h
  | .tuple ds, k, h => by
    rw [nkOf] at h
    obtain ⟨ks, e, rfl⟩ := mpd h
    rw [NestedKey.data, nks_data ds ks e]
theorem nks_data : ∀ (ds : List PyData) (ks : List NestedKey), nksOf ds = some ks → NestedKey.datas ks = ds
  | [], _, h => by cases h; rfl
  | d :: ds, _, h => by
    rw [nksOf] at h
    obtain ⟨k, e1, h⟩ := bnd h
    obtain ⟨ks, e2, rfl⟩ := mpd h
    rw [NestedKey.datas, nk_data d k e1, nks_data ds ks e2]
end
mutual
theorem nk_of : ∀ k : NestedKey, nkOf k.data = some k
  | .none => rfl
  | .num _ => rfl
  | .text _ => rfl
  | .tup ks => by rw [NestedKey.data, nkOf, nks_of ks]; rfl
theorem nks_of : ∀ ks : List NestedKey, nksOf (NestedKey.datas ks) = some ks
  | [] => rfl
  | k :: ks => by rw [NestedKey.datas, nksOf, nk_of k, nks_of ks]; rfl
end
mutual
theorem dd_nk {X : Cx} {pins : List (Addr × Obj)} {σ : St} {H : Hp} {s : Shared} (I : Inv X pins σ H s) {Z : Hp} (sz : Same Z H) : ∀ (k : NestedKey) (v : V) (u : Value), DD X.K Z v k.data → RelV v u → NestedIs s.heap k u
  | .none, v, u, h, r => by cases h; cases (show u = Value.none from r); exact .none
  | .num i, v, u, h, r => by cases h; obtain ⟨t, rfl⟩ := (show ∃ t, u = Value.int i t from r); exact .int i t
  | .text x, v, u, h, r => by cases h; obtain ⟨t, rfl⟩ := (show ∃ t, u = Value.str x t from r); exact .text x t
  | .tup ks, v, u, h, r => by
    rw [NestedKey.data] at h
    cases h with
    | @tup a xs _ hs hd =>
      cases (show u = Value.ref a from r)
      obtain ⟨its, rv, ⟨o, h1, h2, n, h3⟩, _⟩ := I.tuple (same_sqT sz hs)
      exact .tup h1 h2 h3 (by simpa using dds_nk I sz ks xs its hd rv)
theorem dds_nk {X : Cx} {pins : List (Addr × Obj)} {σ : St} {H : Hp} {s : Shared} (I : Inv X pins σ H s) {Z : Hp} (sz : Same Z H) : ∀ (ks : List NestedKey) (vs : List V) (us : List Value), DDs X.K Z vs (NestedKey.datas ks) → Vals vs us → NestedAll s.heap ks us
  | [], _, _, h, r => by
    rw [NestedKey.datas] at h
    cases h; cases r; exact .nil
  | k :: ks, _, _, h, r => by
    rw [NestedKey.datas] at h
    cases h with
    | cons h1 h2 =>
      cases r with
      | cons r1 r2 => exact .cons (dd_nk I sz k _ _ h1 r1) (dds_nk I sz ks _ _ h2 r2)
end
/-! ### the dict as the library tells it -/
abbrev NEnt := NestedKey × Addr × V
end DL
end L2


set_option Elab.async false
set_option maxRecDepth 100000
set_option maxHeartbeats 4000000
set_option autoImplicit false
namespace L2
namespace DL
open PySem PySem.Spec PyProof.Rows PySem.Calls
variable [Lab]
/-! ### a display, its keys nested tuples -/
abbrev FD := DEnv → Option (PyData × DEnv)
end DL
end L2


set_option Elab.async false
set_option maxRecDepth 100000
set_option maxHeartbeats 4000000
set_option autoImplicit false
namespace L2
namespace DL
open PySem PySem.Spec PyProof.Rows PySem.Calls
variable [Lab]
/-! ### min(l, key=len) -/
section
variable {X : Cx} {pins : List (Addr × Obj)} {σ : St} {H : Hp}
/-- the least so far -/
structure Least (kf : Nat → Int) (i j : Nat) : Prop where
  lt : i < j
  le : ∀ k, k < j → kf i ≤ kf k ∧ (k < i → kf i < kf k)
omit [Lab] in
theorem Least.no {kf : Nat → Int} {i j : Nat} (h : Least kf i j) (n : ¬ kf j < kf i) : Least kf i (j + 1) := by
  refine ⟨by have := h.lt; omega, fun k hk => ?_⟩
  by_cases e : k = j
  · subst e
    exact ⟨by omega, fun z => by have := h.lt; omega⟩
  · exact h.le k (by omega)
omit [Lab] in
theorem Least.yes {kf : Nat → Int} {i j : Nat} (h : Least kf i j) (n : kf j < kf i) : Least kf j (j + 1) := by
  refine ⟨by omega, fun k hk => ?_⟩
  by_cases e : k = j
  · subst e
    exact ⟨Int.le_refl _, fun z => by omega⟩
  · have := (h.le k (by omega)).1
    exact ⟨by omega, fun z => by omega⟩
end
/-- the world that the dicts' hashes are of -/
class LabV (w : World) : Prop where
  eq : LabW.w = some w
end DL
end L2


set_option Elab.async false
set_option maxRecDepth 100000
set_option maxHeartbeats 4000000
set_option autoImplicit false
namespace L2
namespace DL
open PySem PySem.Spec PyProof.Rows
variable [Lab]
section
variable {X : Cx}
/-! ### min of a list of ints -/
def minI : List Int → Option Int
  | [] => none
  | [x] => some x
  | x :: xs => (minI xs).map fun m => if x < m then x else m
theorem minI_is : ∀ {xs : List Int} {m : Int}, minI xs = some m → m ∈ xs ∧ ∀ y ∈ xs, m ≤ y
  | [], _, h => by cases h
  | [x], m, h => by
    cases h
    exact ⟨List.mem_cons_self, fun y hy => by cases List.mem_singleton.mp hy; exact Int.le_refl _⟩
  | x :: z :: xs, m, h => by
    obtain ⟨k, h1, h2⟩ := mpd h
    obtain ⟨a, b⟩ := minI_is h1
    subst h2
    by_cases c : x < k
    · rw [if_pos c]
      refine ⟨List.mem_cons_self, fun y hy => ?_⟩
      rcases List.mem_cons.mp hy with rfl | hy
      · exact Int.le_refl _
      · have := b y hy; omega
    · rw [if_neg c]
      refine ⟨List.mem_cons_of_mem _ a, fun y hy => ?_⟩
      rcases List.mem_cons.mp hy with rfl | hy
      · omega
      · exact b y hy
def minLD : List PyData → Option PyData
  | [.list ds] => (intsL ds).bind fun ns => (minI ns).map .int
  | _ => none
theorem cd_minL (hc : X.calm = true) : CallD X (.builtin "min") minLD := by
  intro pins s σ H xs us Q I r h
  obtain ⟨Z, ds, d, sz, hd, e, q⟩ := h
  match ds, hd, e with
  | [.list ds], hd, e =>
    obtain ⟨ns, e1, e⟩ := bnd e
    obtain ⟨m, e2, rfl⟩ := mpd e
    obtain ⟨v, rfl, h1⟩ := dds1 hd
    cases intsL_of e1
    cases h1 with
    | @lst a ys _ hr ha =>
      cases dds_intsV ha
      obtain ⟨hm1, hm2⟩ := minI_is e2
      refine cr_min hc pins s σ H _ us Q I r ⟨a, ns, rfl, (same_ls sz hr).sq, List.length_pos_of_mem hm1, fun m' k1 k2 => ?_⟩
      have : m' = m := Int.le_antisymm (k2 m hm1) (hm2 m' k1)
      subst this
      exact q _ Z H (Grow.refl sz) (.int _)
end
/-! ### a, b = a new list and data -/
section
variable {X : Cx} {F : Fm} {s : Stmt} {fn : DEnv → Option (List PyData × DEnv)} {f : DEnv → Option (PyData × DEnv)}
end
end DL
end L2


set_option Elab.async false
set_option maxRecDepth 100000
set_option maxHeartbeats 4000000
set_option autoImplicit false
namespace L2
namespace DL
open PySem PySem.Spec PyProof.Rows
variable [Lab]
/-! ### a call that reads an owned list and hands back data without lists: the list stays owned -/
mutual
def noL : PyData → Bool
  | .list _ => false
  | .dict _ => false
  | .tuple ds => noLs ds
  | _ => true
def noLs : List PyData → Bool
  | [] => true
  | d :: ds => noL d && noLs ds
end
/-- Z without the list at p -/
def offZ (Z : Hp) (p : Addr) : Hp := fun q => if q = p then none else Z q
theorem offZ_ne {Z : Hp} {p q : Addr} (h : q ≠ p) : offZ Z p q = Z q := if_neg h
mutual
theorem dd_off {K : PySem.W.Frag} {Z : Hp} {p : Addr} {xs : List V} (hp : Z p = some (.lst xs)) : ∀ (d : PyData) (v : V), noL d = true → DD K Z v d → DD K (offZ Z p) v d
  | .none, _, _, h => by cases h; exact .non
  | .bool _, _, _, h => by cases h; exact .bl _
  | .int _, _, _, h => by cases h; exact .int _
  | .str _, _, _, h => by cases h; exact .str _
  | .list _, _, n, _ => by cases n
  | .dict _, _, n, _ => by cases n
  | .tuple ds, _, n, h => by
    cases h with
    | tup hs hd =>
      refine .tup ?_ (dds_off hp ds _ n hd)
      rcases hs with h | h
      · refine .inl ?_
        rcases h with h | ⟨o, h⟩
        · exact .inl (by rw [offZ_ne (fun z => by rw [z, hp] at h; cases h)]; exact h)
        · exact .inr ⟨o, by rw [offZ_ne (fun z => by rw [z, hp] at h; cases h)]; exact h⟩
      · exact .inr h
theorem dds_off {K : PySem.W.Frag} {Z : Hp} {p : Addr} {xs : List V} (hp : Z p = some (.lst xs)) : ∀ (ds : List PyData) (vs : List V), noLs ds = true → DDs K Z vs ds → DDs K (offZ Z p) vs ds
  | [], _, _, h => by cases h; exact .nil
  | d :: ds, _, n, h => by
    obtain ⟨n1, n2⟩ := Bool.and_eq_true_iff.mp n
    cases h with
    | cons h1 h2 => exact .cons (dd_off hp d _ n1 h1) (dds_off hp ds _ n2 h2)
end
section
variable {X : Cx} {F : Fm} {k n : Nat} {f : Addr} {fd : FuncData} {ps : List Str} {x a y b : Str} {p pa py pb pos : Pos}
end
end DL
end L2


set_option Elab.async false
set_option maxRecDepth 100000
set_option maxHeartbeats 4000000
set_option autoImplicit false
namespace L2
namespace DL
open PySem PySem.Spec PyProof.Rows PySem.Calls
variable [Lab]
/-! ### a, b, c = a new dict, a new list, data -/
section
variable {X : Cx} {F : Fm} {s : Stmt} {fk : DEnv → Option (List (PyData × PyData) × DEnv)} {gn : DEnv → Option (List PyData × DEnv)} {f : DEnv → Option (PyData × DEnv)}
end
end DL
end L2


set_option Elab.async false
set_option maxRecDepth 100000
set_option maxHeartbeats 4000000
set_option autoImplicit false
namespace L2
namespace DL
open PySem PySem.Spec PyProof.Rows PySem.Calls
variable [Lab]
end DL
end L2


set_option Elab.async false
set_option maxRecDepth 100000
set_option maxHeartbeats 4000000
set_option autoImplicit false
namespace L2
namespace DL
open PySem PySem.Spec PyProof.Rows PySem.Calls
variable [Lab]
/-! ### xs[::-1], xs a list -/
section
variable {X : Cx} {F : Fm} {e : Expr} {f : DEnv → Option (PyData × DEnv)}
end
end DL
end L2


set_option Elab.async false
set_option maxRecDepth 100000
set_option maxHeartbeats 4000000
set_option autoImplicit false
namespace L2
open PySem PySem.Spec PyProof.Rows PySem.Calls
/-! ### set(t), t a tuple of ints -/
section
variable {X : Cx}
end
namespace DL
variable [Lab]
section
variable {X : Cx} {F : Fm} {e : Expr} {f : DEnv → Option (PyData × DEnv)}
end
end DL
end L2


set_option Elab.async false
set_option maxRecDepth 100000
set_option maxHeartbeats 4000000
set_option autoImplicit false
namespace L2
open PySem PySem.Spec PyProof.Rows PySem.Calls
section
variable {P : Program} {w : World} {A : Around} {E : Value → Shared → Prop} {s : Shared}
end
end L2


set_option Elab.async false
set_option maxRecDepth 100000
set_option maxHeartbeats 4000000
set_option autoImplicit false
namespace L2
open PySem PySem.Spec PyProof.Rows PySem.Calls
namespace DL
variable [DL.Lab]
end DL
section
variable [DL.Lab]
variable {X : Cx}
end
namespace DL
variable [DL.Lab]
section
variable {X : Cx} {F : Fm} {e : Expr} {f : DEnv → Option (PyData × DEnv)}
end
end DL
end L2


set_option Elab.async false
set_option maxRecDepth 100000
set_option maxHeartbeats 4000000
set_option autoImplicit false
namespace L2
namespace DL
open PySem PySem.Spec PyProof.Rows PySem.Calls
variable [Lab]
/-! ### list(range(i, j)), new -/
section
variable {X : Cx} {F : Fm} {a b : Expr} {f g : DEnv → Option (PyData × DEnv)}
end
end DL
end L2


set_option Elab.async false
set_option maxRecDepth 100000
set_option maxHeartbeats 4000000
set_option autoImplicit false
namespace L2
open PySem PySem.Spec PyProof.Rows PySem.Calls
section
variable {P : Program} {w : World} {A : Around} {E : Value → Shared → Prop} {s : Shared}
end
section
variable [DL.Lab]
variable {X : Cx}
end
end L2


set_option Elab.async false
set_option maxRecDepth 100000
set_option maxHeartbeats 4000000
set_option autoImplicit false
namespace L2
open PySem PySem.Spec PyProof.Rows PySem.Calls
namespace DL
variable [DL.Lab]
section
variable {X : Cx} {F : Fm} {e : Expr} {f : DEnv → Option (PyData × DEnv)}
end
end DL
end L2


set_option Elab.async false
set_option maxRecDepth 100000
set_option maxHeartbeats 4000000
set_option autoImplicit false
namespace L2
namespace DL
open PySem PySem.Spec PyProof.Rows PySem.Calls
variable [Lab]
section
variable {X : Cx} {F : Fm} {y : Str} {pn p cpos : Pos}
end
abbrev PK (K : PySem.W.Frag) (Z : Hp) : List (Key × V) → List (Key × PyData) → Prop := Paired fun a b => a.1 = b.1 ∧ DD K Z a.2 b.2
section
variable {X : Cx} {F : Fm} {o e1 e2 : Expr} {apos cpos : Pos} {f g h : FD}
end
section
variable {X : Cx} {F : Fm} {b : Expr} {nm : Str} {pos pn : Pos} {f : FD} {kvs : List (Str × PyData)}
end
end DL
end L2


set_option Elab.async false
set_option maxRecDepth 100000
set_option maxHeartbeats 4000000
set_option autoImplicit false
namespace L2
namespace DL
open PySem PySem.Spec PyProof.Rows PySem.Calls
variable [Lab]
section
variable {X : Cx} {pins : List (Addr × Obj)} {σ : St} {Fv : Fm}
/-- the state of the loop between two turns -/
structure MinS (X : Cx) (Fv : Fm) (pins : List (Addr × Obj)) (σ : St) (env : DEnv) (f c' I S l : Addr) (lo co : HO) (xs : List V) (ds : List PyData) (Z H : Hp) (s : Shared) : Prop where
  iv : Inv X pins σ H s
  rl : Rel X.K Fv Z H σ env
  hf : H f = some lo
  hc : H c' = some co
  hl : LsR X.K H l xs
  hd : DDs X.K Z xs ds
  fi : FpOk X pins H I
  fs : FpOk X pins H S
theorem MinS.at {env : DEnv} {f c' I S l : Addr} {lo co : HO} {xs : List V} {ds : List PyData} {Z H : Hp} {s s' : Shared} (m : MinS X Fv pins σ env f c' I S l lo co xs ds Z H s) (iv : Inv X pins σ H s') : MinS X Fv pins σ env f c' I S l lo co xs ds Z H s' :=
  ⟨iv, m.rl, m.hf, m.hc, m.hl, m.hd, m.fi, m.fs⟩
end
end DL
end L2


set_option Elab.async false
set_option maxRecDepth 100000
set_option maxHeartbeats 4000000
set_option autoImplicit false
namespace L2
namespace DL
open PySem PySem.Spec PyProof.Rows PySem.AutoSeq1
variable [Lab]
/-! ### xs.extend(tuple) -/
section
set_option maxRecDepth 8000
end
section
variable {X : Cx} {F : Fm} {a b e : Expr} {pos p pn : Pos} {x y : Str} {f g : DEnv → Option (PyData × DEnv)}
end
end DL
end L2


set_option Elab.async false
set_option maxRecDepth 100000
set_option maxHeartbeats 4000000
set_option autoImplicit false
namespace L2
namespace DL
open PySem PySem.Spec PyProof.Rows PySem.Calls
variable [Lab]
section
variable {X : Cx} {F : Fm} {e : Expr} {f : DEnv → Option (PyData × DEnv)}
end
end DL
end L2


set_option Elab.async false
set_option maxRecDepth 100000
set_option maxHeartbeats 4000000
set_option autoImplicit false
namespace L2
namespace DL
open PySem PySem.Spec PyProof.Rows PySem.Calls
variable [Lab]
/-! ### repr of data that may hold empty dicts -/
mutual
def emD : PyData → Bool
  | .list ds => emDs ds
  | .tuple ds => emDs ds
  | .dict kvs => kvs.isEmpty
  | _ => true
def emDs : List PyData → Bool
  | [] => true
  | d :: ds => emD d && emDs ds
end
abbrev reprOkE (d : PyData) : Bool := d.showable && emD d && decide (d.shown.length ≤ sizeLine) && decide (d.depth ≤ 64)
def reprE : List PyData → Option PyData
  | [d] => if reprOkE d then some (.str d.shown) else none
  | _ => none
section
variable {X : Cx} {pins : List (Addr × Obj)} {σ : St} {H : Hp} {s : Shared}
theorem dd_emp (I : Inv X pins σ H s) {v : V} (h : DD X.K H v (.dict [])) : ∃ a o es ep, v = .ref a ∧ (a == sysModules) = false ∧ s.heap.get? a = some o ∧ o.cls = .type "dict" ∧ o.data = .dict es ep ∧ es.toList = [] := by
  cases h with
  | @dct a xs _ e hi =>
    cases hi
    obtain ⟨_, hs, vs, rel, o, es, ep, ho, hx, hd, _, hp, _⟩ := dk_of I.hok e
    cases rel
    refine ⟨a, o, es, ep, rfl, hs, ho, hx.1, hd, ?_⟩
    generalize es.toList = l at hp
    cases hp
    rfl
  | @dcn a o xs _ e hf hk =>
    cases hk
    obtain ⟨w', es, ep, _, hd, hp⟩ := hf.es
    obtain ⟨hh, _, _⟩ := I.hok a _ e
    refine ⟨a, o, es, ep, rfl, hf.hd, hh, hf.ex.1, hd, ?_⟩
    generalize es.toList = l at hp
    cases hp
    rfl
/-- what is read is shown so -/
abbrev RkD (X : Cx) (s : Shared) (u : Value) (d : PyData) : Prop := (∃ as, Reads s.heap u d as) ∧ ∃ bs, ReadAtMost s.heap d.depth bs ∧ ReprK X.prog X.w bs s.heap d.depth u d.shown
abbrev RkDs (X : Cx) (s : Shared) (us : List Value) (ds : List PyData) : Prop := (∃ as, ReadsAll s.heap us ds as) ∧ ∃ bs, ReadAtMost s.heap (PyData.depthAll ds) bs ∧ ReprAllK X.prog X.w bs s.heap (PyData.depthAll ds) us (PyData.shownAll ds)
theorem rk_atom {u : Value} {d : PyData} (hr : Reads s.heap u d []) (hk : ∀ n, ReprK X.prog X.w [] s.heap n u d.shown) : RkD X s u d := ⟨⟨_, hr⟩, [], (fun _ h => nomatch h), hk _⟩
mutual
theorem dd_rk (I : Inv X pins σ H s) : ∀ (d : PyData) (v : V) (u : Value), DD X.K H v d → RelV v u → emD d = true → d.showable = true → d.shown.length ≤ sizeLine → RkD X s u d
  | .none, _, _, h, r, _, _, _ => by
    cases h
    cases r
    exact rk_atom .none fun n => ReprK.of_is ReprIs.none _ _ _
  | .bool b, _, _, h, r, _, _, _ => by
    cases h
    cases r
    exact rk_atom (.bool b) fun n => ReprK.of_is (ReprIs.bool b) _ _ _
  | .int i, _, _, h, r, _, c, _ => by
    cases h.int_inv
    obtain ⟨t, rfl⟩ := r
    exact rk_atom (.int i t) fun n => ReprK.of_is (ReprIs.int t (of_decide_eq_true c)) _ _ _
  | .str x, _, _, h, r, _, _, z => by
    cases h
    obtain ⟨t, rfl⟩ := r
    exact rk_atom (.str x t) fun n => ReprK.of_is (ReprIs.str x t z) _ _ _
  | .list ds, _, _, h, r, em, c, z => by
    cases h with
    | @lst a xs _ hs ha =>
      cases r
      obtain ⟨its, rv, ⟨o, n, ho, hc, _, hd⟩, _⟩ := I.list hs.sq
      have z1 : (listText (PyData.shownAll ds)).length ≤ sizeLine := z
      obtain ⟨⟨as, hr⟩, bs, hb, hk⟩ := dds_rk I ds xs its ha rv em c fun t ht => Nat.le_trans (listText_mem_le ht) z1
      have rd : Reads s.heap (.ref a) (.list ds) (a :: as) := .list ho hc hd hr
      have hna : a ∉ bs := not_mem_of_deeper rd (Nat.lt_succ_self _) hb
      refine ⟨⟨_, rd⟩, a :: bs, ReadAtMost.cons rd (Nat.le_succ _) hb, ?_⟩
      cases its with
      | nil =>
        cases hr
        exact ReprK.listEmpty ho hc hd
      | cons y l => exact ReprK.list ho hc hd hna (by simpa using hk.length_eq) fun i y e => hk.item i y (by simpa using e)
  | .tuple ds, _, _, h, r, em, c, z => by
    cases h with
    | @tup a xs _ hs ha =>
      cases r
      obtain ⟨its, rv, ⟨o, ho, hc, n, hd⟩, _⟩ := I.tuple hs
      have z1 : (tupleText (PyData.shownAll ds)).length ≤ sizeLine := z
      obtain ⟨⟨as, hr⟩, bs, hb, hk⟩ := dds_rk I ds xs its ha rv em c fun t ht => Nat.le_trans (tupleText_mem_le ht) z1
      have rd : Reads s.heap (.ref a) (.tuple ds) as := .tuple ho hc hd hr
      have hna : a ∉ bs := not_mem_of_deeper rd (Nat.lt_succ_self _) hb
      exact ⟨⟨_, rd⟩, a :: bs, ReadAtMost.cons rd (Nat.le_succ _) hb, ReprK.tuple ho hc hd hna hk⟩
  | .dict kvs, _, _, h, r, em, c, z => by
    have hk : kvs = [] := List.isEmpty_iff.mp em
    subst hk
    obtain ⟨a, o, es, ep, rfl, hsy, ho, hc, hd, he⟩ := dd_emp I h
    cases r
    have rd : Reads s.heap (.ref a) (.dict []) (a :: [] ++ []) := .dict ho hc hd (by rw [he]; exact .nil) (by rw [he]; exact .nil)
    refine ⟨⟨_, rd⟩, a :: [], ReadAtMost.cons (n := 0) (bs := []) rd (Nat.zero_le _) (fun _ h => nomatch h), ?_⟩
    exact ReprK.dict (d := 0) (ps := []) ho hc hd hsy (fun h => nomatch h) (by rw [he]; exact .nil)
theorem dds_rk (I : Inv X pins σ H s) : ∀ (ds : List PyData) (vs : List V) (us : List Value), DDs X.K H vs ds → Vals vs us → emDs ds = true → PyData.showableAll ds = true → (∀ t ∈ PyData.shownAll ds, t.length ≤ sizeLine) → RkDs X s us ds
  | [], _, _, h, r, _, _, _ => by
    cases h
    cases r
    exact ⟨⟨_, .nil⟩, [], (fun _ h => nomatch h), .nil⟩
  | d :: ds, _, _, h, r, em, c, z => by
    cases h with
    | cons h1 h2 =>
      cases r with
      | cons r1 r2 =>
        have em' : (emD d && emDs ds) = true := em
        have c' : (d.showable && PyData.showableAll ds) = true := c
        rw [Bool.and_eq_true] at em' c'
        obtain ⟨⟨as, q1⟩, b1, hb1, k1⟩ := dd_rk I d _ _ h1 r1 em'.1 c'.1 (z _ List.mem_cons_self)
        obtain ⟨⟨cs, q2⟩, b2, hb2, k2⟩ := dds_rk I ds _ _ h2 r2 em'.2 c'.2 fun t ht => z t (List.mem_cons_of_mem _ ht)
        refine ⟨⟨_, .cons q1 q2⟩, b1 ++ b2, ReadAtMost.append (hb1.mono (Nat.le_max_left _ _)) (hb2.mono (Nat.le_max_right _ _)), ?_⟩
        exact .cons ((k1.more fun b hb => List.mem_append_left _ hb).level_le (Nat.le_max_left _ _)) (k2.more_le (fun b hb => List.mem_append_right _ hb) (Nat.le_max_right _ _))
end
/-- the object at a, shown by its type's own -/
theorem dd_shows (I : Inv X pins σ H s) {d : PyData} {v : V} {a : Addr} (h : DD X.K H v d) (rv : RelV v (.ref a)) (em : emD d = true) (c : d.showable = true) (z : d.shown.length ≤ sizeLine) : ∃ T idr, ShowsBy X.prog X.w s.heap a d T idr := by
  cases h with
  | non => cases rv
  | bl b => cases rv
  | int i => obtain ⟨t, e⟩ := rv; cases e
  | str x => obtain ⟨t, e⟩ := rv; cases e
  | @lst a' xs ds hs ha =>
    cases rv
    obtain ⟨its, rv, ⟨o, n, ho, hc, _, hd⟩, _⟩ := I.list hs.sq
    have z1 : (listText (PyData.shownAll ds)).length ≤ sizeLine := z
    obtain ⟨⟨as, hr⟩, bs, hb, hk⟩ := dds_rk I ds xs its ha rv em c fun t ht => Nat.le_trans (listText_mem_le ht) z1
    have rd : Reads s.heap (.ref a) (.list ds) (a :: as) := .list ho hc hd hr
    have hna : a ∉ bs := not_mem_of_deeper rd (Nat.lt_succ_self _) hb
    refine ⟨"list", "list.__repr__", F.slot_list_repr.toG, F.slot_list_str, F.slot_list_format, fun s2 k => ⟨o, k _ _ ho, hc⟩, fun A2 E2 s2 Q2 hg hu k hQ => ?_⟩
    cases its with
    | nil =>
      cases hr
      exact call_list_repr_empty ⟨o, k _ _ ho, hc⟩ (k _ _ ho) hd (hQ s2.heap _ _ fun _ _ e => e)
    | cons y l => exact call_list_reprK ho hc hd hna (by simpa using hk.length_eq) (fun i y e => hk.item i y (by simpa using e)) hg (fun b _ => Clear.nil b) hu k hQ z1
  | @tup a' xs ds hs ha =>
    cases rv
    obtain ⟨its, rv, ⟨o, ho, hc, n, hd⟩, _⟩ := I.tuple hs
    have z1 : (tupleText (PyData.shownAll ds)).length ≤ sizeLine := z
    obtain ⟨⟨as, hr⟩, bs, hb, hk⟩ := dds_rk I ds xs its ha rv em c fun t ht => Nat.le_trans (tupleText_mem_le ht) z1
    have rd : Reads s.heap (.ref a) (.tuple ds) as := .tuple ho hc hd hr
    have hna : a ∉ bs := not_mem_of_deeper rd (Nat.lt_succ_self _) hb
    exact ⟨"tuple", "tuple.__repr__", F.slot_tuple_repr, F.slot_tuple_str, F.slot_tuple_format, fun s2 k => ⟨o, k _ _ ho, hc⟩, fun A2 E2 s2 Q2 hg hu k hQ => call_tuple_reprK ho hc hd hna hk hg (fun b _ => Clear.nil b) hu k hQ z1⟩
  | exc _ _ _ _ _ => cases em
  | exn _ _ => cases em
  | @dct a' xs kvs e hi =>
    have hk : kvs = [] := List.isEmpty_iff.mp em
    subst hk
    obtain ⟨a2, o, es, ep, e2, hsy, ho, hc, hd, he⟩ := dd_emp I (.dct e hi)
    cases e2
    cases rv
    exact ⟨"dict", "dict.__repr__", F.slot_dict_repr, F.slot_dict_str, F.slot_dict_format, fun s2 k => ⟨o, k _ _ ho, hc⟩, fun A2 E2 s2 Q2 hg hu k hQ => call_dict_reprK (as := []) (d := 0) (ps := []) ho hc hd hsy (fun h => nomatch h) (by rw [he]; exact .nil) hg (fun b _ => Clear.nil b) hu k hQ z⟩
  | @dcn a' o' xs kvs e hf hi =>
    have hk : kvs = [] := List.isEmpty_iff.mp em
    subst hk
    obtain ⟨a2, o, es, ep, e2, hsy, ho, hc, hd, he⟩ := dd_emp I (.dcn e hf hi)
    cases e2
    cases rv
    exact ⟨"dict", "dict.__repr__", F.slot_dict_repr, F.slot_dict_str, F.slot_dict_format, fun s2 k => ⟨o, k _ _ ho, hc⟩, fun A2 E2 s2 Q2 hg hu k hQ => call_dict_reprK (as := []) (d := 0) (ps := []) ho hc hd hsy (fun h => nomatch h) (by rw [he]; exact .nil) hg (fun b _ => Clear.nil b) hu k hQ z⟩
end
section
variable {X : Cx} {F : Fm}
theorem cd_reprE {k : Nat} (hr : Room k X.A) (hgd : GdOk X.A) (hl : Lab.gd) : CallD X (.builtin "repr") reprE := by
  have hg := hgd hl
  intro pins s σ H xs us Q I r h
  obtain ⟨Z, ds, d, sz, hd, e, q⟩ := h
  match ds, hd, e with
  | [a], hd, e =>
    change (if reprOkE a then some (PyData.str a.shown) else none) = some d at e
    split at e
    case isFalse => cases e
    rename_i hc
    simp only [reprOkE, Bool.and_eq_true, decide_eq_true_eq] at hc
    obtain ⟨⟨⟨c1, c2⟩, c3⟩, c4⟩ := hc
    cases e
    obtain ⟨v, rfl, h1⟩ := dds1 hd
    obtain ⟨u, rfl, rv⟩ := vals1 r
    have hun := hr.un
    have h2 := DDm h1 sz
    have fin : ∀ l, u = .ref l → wpAny (model X.prog X.w) X.A (call (.builtin "repr") [u]) (EP X pins σ Q) X.xe s := fun l hl => by
      subst hl
      obtain ⟨T, idr, S⟩ := dd_shows I h2 rv c2 c1 c3
      refine call_repr_slot (by omega) (S.typeIs s fun _ _ e => e) S.slotRepr (S.call X.A.in1 _ s _ hg (by show X.A.units + 1 + a.depth < cLine; omega) (fun _ _ e => e) fun h' u tk hk => ⟨_, _, rfl, ?_⟩)
      exact ⟨.str _, H, I.kept hk, ⟨_, rfl⟩, q _ Z H (Grow.refl sz) (.str _)⟩
    cases h1 with
    | non => cases rv; exact PySem.P.repr_of_none ⟨.str _, H, I.tok _, ⟨_, rfl⟩, q _ Z H (Grow.refl sz) (.str _)⟩
    | bl b => cases rv; exact PySem.P.repr_of_bool ⟨.str _, H, I.tok _, ⟨_, rfl⟩, q _ Z H (Grow.refl sz) (.str _)⟩
    | int i =>
      obtain ⟨t, rfl⟩ := rv
      exact PySem.P.repr_of_int (of_decide_eq_true c1) ⟨.str _, H, I.tok _, ⟨_, rfl⟩, q _ Z H (Grow.refl sz) (.str _)⟩
    | str z =>
      obtain ⟨t, rfl⟩ := rv
      exact PySem.P.repr_of_str ⟨.str _, H, I.tok _, ⟨_, rfl⟩, q _ Z H (Grow.refl sz) (.str _)⟩ c3
    | lst _ _ => exact fin _ rv
    | tup _ _ => exact fin _ rv
    | dct _ _ => exact fin _ rv
    | dcn _ _ _ => exact fin _ rv
    | exc _ _ _ _ _ => exact fin _ rv
    | exn _ _ => exact fin _ rv
end
end DL
end L2


set_option Elab.async false
set_option maxRecDepth 100000
set_option maxHeartbeats 4000000
set_option autoImplicit false
namespace L2
namespace DL
open PySem PySem.Spec PyProof.Rows
variable [Lab]
/-! ### a, b = data and a new list -/
section
variable {X : Cx} {F : Fm} {s : Stmt} {f : DEnv → Option (PyData × DEnv)} {gn : DEnv → Option (List PyData × DEnv)}
end
end DL
end L2


set_option Elab.async false
set_option maxRecDepth 100000
set_option maxHeartbeats 4000000
set_option autoImplicit false
namespace L2
namespace DL
open PySem PySem.Spec PyProof.Rows
/-! ### except (A, B): the clause's type is a tuple of names -/
theorem flyZ_keeps {B h h' : Heap} {l : List Env} {a : Addr} {Z : Obj → Prop} (x : HandSPX.FlyingZ B l a Z h) (k : ∀ b o, h.get? b = some o → h'.get? b = some o) : HandSPX.FlyingZ B l a Z h' := by
  obtain ⟨x1, x2, x3, oe, vs, T, oT, ts, e1, e2, e3, e4, e5, e6, e7, e8, e9⟩ := x
  exact ⟨fun b o q => k b o (x1 b o q), x2, x3.of_keeps fun b o q _ => ⟨o, k b o q, rfl⟩, oe, vs, T, oT, ts, k _ _ e1, e2, e3, e4, e5, e6, k _ _ e7, e8, e9⟩
def TupT (X : Cx) (t : Expr) (cl : List Value) : Prop :=
  ∀ (a : Addr) (oe : Obj) (pn : List (Addr × Obj)) (σ : St) (H : Hp) (s : Shared) (cls : Value) (b : Bool) (Q : Bool → Shared → Prop) (E : Value → Shared → Prop), Inv (X.suite a ((a, oe) :: pn)) [] σ H s → PySem.W.Looks (model X.prog X.w) s.heap (typeOf (.ref a)) cls → PySem.W.exmAny X.K cls cl = some b →
    (∀ h', (∀ q o, s.heap.get? q = some o → h'.get? q = some o) → Q b { s with heap := h' }) → wpAny (model X.prog X.w) (X.A.mark (some (.ref a))) (eval t X.env) (fun c s₁ => wpAny (model X.prog X.w) (X.A.mark (some (.ref a))) (excMatches (.ref a) c) Q E s₁) E s
section
variable {X : Cx}
theorem name_ld {x : Str} {c : Value} {np : Pos} (hc : Names X x c) {a : Addr} {pn : List (Addr × Obj)} {σ : St} {H : Hp} {s : Shared} (I : Inv (X.suite a pn) [] σ H s) {Q : Value → Shared → Prop} {E : Value → Shared → Prop} (q : Q c s) :
    wpAny (model X.prog X.w) (X.A.mark (some (.ref a))) (eval (.Name x np) X.env) Q E s := by
  obtain ⟨hg, hdbg, hm | ⟨hm, hv, hnn⟩⟩ := hc
  · exact ld_glob (X := X.suite a pn) I hg hm q hdbg
  · exact ld_blt (X := X.suite a pn) I hg hm hv q hnn hdbg
theorem tupT3 {x1 x2 x3 : Str} {c1 c2 c3 : Value} {p1 p2 p3 tp : Pos} {kk : Nat} (h1 : Names X x1 c1) (h2 : Names X x2 c2) (h3 : Names X x3 c3) : TupT X (.Tuple [.Name x1 p1, .Name x2 p2, .Name x3 p3] kk tp) [c1, c2, c3] := by
  intro a oe pn σ H s cls b Q E I LT he q
  refine wpAny_Tuple (wpAny_items_cons (name_ld h1 I (wpAny_items_cons (name_ld h2 I (wpAny_items_cons (name_ld h3 I (wpAny_items_nil ⟨by size_fits, ?_⟩)))))))
  have kp : ∀ q o, s.heap.get? q = some o → (s.heap.push { cls := .type "tuple", data := .seq [c1, c2, c3].toArray }).get? q = some o := fun _ _ z => Heap.get?_push_of_some _ z
  exact (PySem.W.exm_tup3 (I.kIn.keeps kp) (LT.keeps kp) (Heap.get?_push_size s.heap rfl) he).here (q _ kp)
end
/-- no clause is left: the frame holds the exception -/
theorem none_left {prog : Program} {w : World} {A : Around} {E : Value → Shared → Prop} {s : Shared} {Q : Flow → Shared → Prop} {B : Heap} {env : Env} {l : List Env} {a L : Addr} {Z : Obj → Prop} (hf : env.frame = some L) (fl : HandSPX.FlyingZ B l a Z s.heap)
    (k : ∀ h', HandSPX.HeldZ B l a Z L h' → s.heap.UpToSlots h' → E (.ref a) { s with heap := h' }) : wpAny (model prog w) A (handleBy (.ref a) env []) Q E s := by
  obtain ⟨_, _, _, oe, vs, T, oT, ts, ae, az, ad, a1, _⟩ := id fl
  apply wpAny_handleBy_nil
  unfold PySem.passOn
  refine wpAny_bind (wpAny_field ae ad a1 ?_)
  have nn : ¬ ((Value.ref T == Value.none) = true) := by simp
  have up : wpAny (model prog w) A (setFlight (.ref a) env.frame) (fun _ s1 => wpAny (model prog w) A (throw (.ref a) : Sem Flow) Q E s1) E s := hf ▸ HandSPX.setFlight_upZ fl fun h1 hh u1 => wpAny_throw (k h1 hh u1)
  rw [if_neg nn]
  first
    | exact wpAny_bind (wpAny_pure (wpAny_bind up))
    | exact wpAny_bind up
section
variable {X : Cx} {t : Expr} {cl : List Value} {body suite : List Stmt} {b₀ : Stmt} {pos pos' : Pos} {tb : WX → TS} {ts : Addr → Value → Option Addr → TS} {Wout : WX}
end
theorem exm3 {K : PySem.W.Frag} {cls c1 c2 c3 : Value} {a b c : Bool} (h1 : PySem.W.exmOne K cls c1 = some a) (h2 : PySem.W.exmOne K cls c2 = some b) (h3 : PySem.W.exmOne K cls c3 = some c) : PySem.W.exmAny K cls [c1, c2, c3] = some (a || (b || c)) := by
  simp only [PySem.W.exmAny, h1, h2, h3, Bool.or_false]
def mt2 (m1 m2 : Str → Option Bool) (c : Str) : Option Bool := (m1 c).bind fun a => (m2 c).map fun b => a || b
def mt3 (m1 m2 m3 : Str → Option Bool) (c : Str) : Option Bool := (m1 c).bind fun a => (mt2 m2 m3 c).map fun b => a || b
theorem mtk3 {K : PySem.W.Frag} {C : Str → Addr} {m1 m2 m3 : Str → Option Bool} {v1 v2 v3 : Value} (h1 : ∀ c b, m1 c = some b → PySem.W.exmOne K (.ref (C c)) v1 = some b) (h2 : ∀ c b, m2 c = some b → PySem.W.exmOne K (.ref (C c)) v2 = some b) (h3 : ∀ c b, m3 c = some b → PySem.W.exmOne K (.ref (C c)) v3 = some b) : ∀ c b, mt3 m1 m2 m3 c = some b → PySem.W.exmAny K (.ref (C c)) [v1, v2, v3] = some b := fun c b h => by
  obtain ⟨a, e1, h⟩ := Option.bind_eq_some_iff.mp h
  obtain ⟨y, e4, h⟩ := Option.map_eq_some_iff.mp h
  obtain ⟨a2, e2, h'⟩ := Option.bind_eq_some_iff.mp e4
  obtain ⟨a3, e3, h'⟩ := Option.map_eq_some_iff.mp h'
  subst h' h
  exact exm3 (h1 c a e1) (h2 c a2 e2) (h3 c a3 e3)
section
variable [Lab]
end
end DL
end L2


set_option Elab.async false
set_option maxRecDepth 100000
set_option maxHeartbeats 4000000
set_option autoImplicit false
namespace L2
namespace DL
open PySem PySem.Spec PyProof.Rows
variable [Lab]
/-! ### calls that may raise within an expression -/
section
variable {X : Cx} {F : Fm} {a b c e : Expr} {rest : List Expr} {pos : Pos} {f g : DEnv → Option DX} {fd : DEnv → Option (PyData × DEnv)} {ft : DEnv → Option (Bool × DEnv)}
def thX (f : DEnv → Option DX) (k : PyData → DEnv → Option DX) (env : DEnv) : Option DX := (f env).bind fun r => match r with
  | .ok d e1 => k d e1
  | .ex c a d e1 => some (.ex c a d e1)
theorem thX_at {K : PySem.W.Frag} {k : PyData → DEnv → Option DX} {σ : St} {Z H : Hp} {env : DEnv} {r : DX} {Q R : VK} (rl : Rel K F Z H σ env) (e : thX f k env = some r) (q : FinE K F Z env σ H Q r)
    (hq : ∀ {e1 d}, k d e1 = some r → ∀ v Z' H', Rel K F Z' H' σ e1 → Stp σ env Z H e1 Z' H' → DD K Z' v d → R v H') : tDX K F f σ H R := by
  obtain ⟨r1, h1, h⟩ := bnd e
  refine ⟨Z, env, r1, rl, h1, ?_⟩
  cases r1 with
  | ok d e1 => exact hq h
  | ex c a d e1 => cases h; exact q
theorem FinE.mono {K : PySem.W.Frag} {Z Z1 : Hp} {env e1 : DEnv} {σ : St} {H H1 : Hp} {Q : VK} {r : DX} (q : FinE K F Z env σ H Q r) (s : Stp σ env Z H e1 Z1 H1) : FinE K F Z1 e1 σ H1 Q r := by
  cases r with
  | ok d e' => exact fun v Z' H' r' s' dd => q v Z' H' r' (s.trans s') dd
  | ex c a d e' => exact fun v p Z' H' r' s' x0 x1 x2 x3 x4 dd => q v p Z' H' r' (s.trans s') (s.new x0) x1 x2 x3 x4 dd
/-- m(a, b), b may raise -/
def fCB2X (m : List PyData → Option PyData) (fd : DEnv → Option (PyData × DEnv)) (g : DEnv → Option DX) (env : DEnv) : Option DX := (fd env).bind fun x => thX g (fun d2 e2 => (m [x.1, d2]).map fun y => .ok y e2) x.2
theorem pdx_call2 {k n : Nat} {fn : Addr} {fdt : FuncData} {ps : List Str} {x : Str} {p : Pos} {m : List PyData → Option PyData} (G : FnG X.prog X.w X.K X.mg X.base k fn fdt ps (spF X.K n m)) (hn : ∀ ds r, m ds = some r → ds.length = n) (hgd : GdOk X.A) (hr : Room k X.A) (hm : X.mg x = some (.ref fn)) (hk : PySem.W.keepIn X.K (.ref fn) = true) (hbn : Binds X.K fdt ps [])
    (ha : PD X F a fd) (hb : PDX X F b g) (hg : Gl X x := by rfl) (hdb : (x == ("__debug__" : Str)) = false := by decide) (he : starEach [a, b] X.env = (false, eval a X.env) :: starEach [b] X.env := by rfl) (he2 : starEach [b] X.env = (false, eval b X.env) :: starEach [] X.env := by rfl)
    (hpl : (backTo pos (starEach [b] X.env)).any (·.1) = false := by rfl) : PDX X F (.Call (.Name x p) [a, b] [] pos) (fCB2X m fd g) :=
  pe_imp (pe_gcall G hgd hr hm hk hbn (pa_cons ha (pa_cons hb pa_nil he2) he) hg hdb he hpl) fun σ H Q h => by
    obtain ⟨Z, env, r, rl, e, q⟩ := h
    obtain ⟨⟨y, e1⟩, h1, h⟩ := bnd e
    refine ⟨Z, env, y, e1, rl, h1, fun v1 Z1 H1 r1 s1 d1 => thX_at r1 h (q.mono s1) fun {e2 d2} h2 v2 Z2 H2 r2 s2 dd2 => ?_⟩
    obtain ⟨z, h3, h2⟩ := mpd h2
    subst h2
    exact ⟨hn _ _ h3, Z2, [y, d2], z, r2.zh, r2.tb, .cons (DDm d1 s2.z) (.cons dd2 .nil), h3, fun v Z' H' gr dd => q v Z' H' (r2.grow gr) ((s1.trans s2).trans gr.stp) dd⟩
end
/-! ### their evaluation -/
section
variable {f g : DEnv → Option DX} {fd : DEnv → Option (PyData × DEnv)} {ft : DEnv → Option (Bool × DEnv)} {env e1 e2 : DEnv}
theorem ev_cX {m : List PyData → Option XR} {fa : DEnv → Option (List PyData × DEnv)} {ds : List PyData} {r : XR} (h : fa env = some (ds, e1)) (h2 : m ds = some r) : fCX m fa env = some (toX e1 r) := by
  unfold fCX; rw [h]; show (m ds).map _ = _; rw [h2]; rfl
theorem ev_thO {k : PyData → DEnv → Option DX} {d : PyData} {r : DX} (h : f env = some (.ok d e1)) (h2 : k d e1 = some r) : thX f k env = some r := by unfold thX; rw [h]; exact h2
theorem ev_thE {k : PyData → DEnv → Option DX} {c a : Str} {d : PyData} (h : f env = some (.ex c a d e1)) : thX f k env = some (.ex c a d e1) := by unfold thX; rw [h]; rfl
theorem ev_cb2X {m : List PyData → Option PyData} {x d2 y : PyData} (h : fd env = some (x, e1)) (h2 : g e1 = some (.ok d2 e2)) (h3 : m [x, d2] = some y) : fCB2X m fd g env = some (.ok y e2) := by unfold fCB2X; rw [h]; exact ev_thO h2 (by show (m [x, d2]).map _ = _; rw [h3]; rfl)
theorem ev_cb2E {m : List PyData → Option PyData} {x : PyData} {c a : Str} {d : PyData} (h : fd env = some (x, e1)) (h2 : g e1 = some (.ex c a d e2)) : fCB2X m fd g env = some (.ex c a d e2) := by unfold fCB2X; rw [h]; exact ev_thE h2
end
end DL
end L2


set_option Elab.async false
set_option maxRecDepth 100000
set_option maxHeartbeats 4000000
set_option autoImplicit false
namespace L2
namespace DL
open PySem PySem.Spec PyProof.Rows
section
variable [Lab]
end
end DL
end L2


set_option Elab.async false
set_option maxRecDepth 100000
set_option maxHeartbeats 4000000
set_option autoImplicit false
namespace L2
namespace DL
open PySem PySem.Spec PyProof.Rows
variable [Lab]
end DL
end L2


set_option Elab.async false
set_option maxRecDepth 100000
set_option maxHeartbeats 4000000
set_option autoImplicit false
namespace L2
namespace DL
open PySem PySem.Spec PyProof.Rows
variable [Lab]
end DL
end L2


set_option Elab.async false
set_option maxRecDepth 100000
set_option maxHeartbeats 4000000
set_option autoImplicit false
namespace L2
namespace DL
open PySem PySem.Spec PyProof.Rows
variable [Lab]
/-! ### a, b, c = data, a new list, data -/
section
variable {X : Cx} {F : Fm} {s : Stmt} {gn : DEnv → Option (List PyData × DEnv)} {fd f : DEnv → Option (PyData × DEnv)}
end
end DL
end L2


/-! own exceptions over LookupError, each with its one attribute -/
set_option maxRecDepth 4000
namespace PySem
namespace OEL
open PySem.W PySem.Calls PyProof.Rows PySem.HandSPX
abbrev leTail : List Value := [.type "LookupError", .type "Exception", .type "BaseException", .type "object"]
def isRf : Value → Bool
  | .ref _ => true
  | _ => false
theorem isRf_ref {v : Value} (h : isRf v = true) : ∃ c, v = .ref c := by
  cases v <;> first | exact ⟨_, rfl⟩ | cases h
/-- own classes, then the mro of LookupError -/
def leB : List Value → Bool
  | [] => false
  | a :: r => (isRf a && leB r) || (a :: r == leTail)
inductive LeM : List Value → Prop where
  | tail : LeM leTail
  | ref (c : Addr) {l : List Value} (h : LeM l) : LeM (.ref c :: l)
theorem leB_M : ∀ {l : List Value}, leB l = true → LeM l
  | [], h => by cases h
  | a :: r, h => by
    unfold leB at h
    rcases (Bool.or_eq_true _ _).mp h with z | z
    · obtain ⟨z1, z2⟩ := (Bool.and_eq_true _ _).mp z
      obtain ⟨c, rfl⟩ := isRf_ref z1
      exact .ref c (leB_M z2)
    · rw [beq_iff_eq.mp z]
      exact .tail
theorem LeM.contains (X : String) {l : List Value} (h : LeM l) : l.contains (.type X) = leTail.contains (.type X) := by
  induction h with
  | tail => rfl
  | ref c h ih => rw [List.contains_cons, ih]; rfl
theorem LeM.passes (self : Value) {l : List Value} (h : LeM l) : refuseLoop self "__setattr__" l = pure () := by
  induction h with
  | tail => kernel_rfl
  | ref c h ih => rw [refuseLoop_ref]; exact ih
theorem LeM.some {l : List Value} (h : LeM l) : l.isEmpty = false := by
  cases h <;> rfl
section
open Builtin Builtin.ObjectAttr
variable {prog : Program} {w : World} {A : Around} {E : Value → Shared → Prop} {R : Result → Shared → Prop} {hp : Heap} {g : Array GenState} {d : Drawn} {t : Nat} {os : OsState}
/-- the first attribute of such an exception -/
theorem first_attr {K : W.Frag} {name : Str} {tk : Tok} {v : Value} {x C : Addr} {fv : Array Value} {cd : ClassData}
    (X : K.In hp) (hx : hp.get? x = Option.some { cls := .ref C, data := .fields fv }) (hcd : W.clsIn K C = Option.some cd) (hm : LeM cd.mro) (hh : cd.hasDict = true) (ha : W.findIn K (.ref C) name = Option.some none)
    (hq : ∀ h' tk' dx, (∀ b o, b ≠ x → hp.get? b = Option.some o → h'.get? b = Option.some o) → hp.objs.size ≤ dx → dx ≠ x → h'.get? x = Option.some { cls := .ref C, dict := Option.some dx, data := .fields fv } →
      h'.Ns1 dx (fun y => if y = name then Option.some v else none) → R (.ok (.ret .none)) ⟨h', g, d, tk', os⟩) :
    codeAny (model prog w) A (.call (.builtin "object.__setattr__") ⟨[.ref x, .str name tk, v], []⟩) R ⟨hp, g, d, t, os⟩ := by
  have I : W.InstAt hp x { cls := .ref C, data := .fields fv } C none := ⟨hx, rfl, rfl, trivial⟩
  have S := F.store_object
  have xs : x ≠ hp.objs.size := Nat.ne_of_lt (Heap.lt_size hx)
  have isO : W.mroIn K C (.type "object") = Option.some true := by
    unfold W.mroIn
    rw [hcd, Option.bind_some, if_neg (by rw [hm.some]; decide), hm.contains]
    decide +kernel
  refine codeAny_call_builtin S.slot.plain S.entry (@W.check_slot (model prog w) _ _ ⟨hp, g, d, t, os⟩ "object.__setattr__" "object" "__setattr__" (.ref x) [.str name tk, v] [] _ S.kind S.split (I.type.andThen (W.looks_mroIn X isO)) (S.args (.ref x) (.str name tk) v) ?_)
  have l1 : W.Looks (model prog w) hp (mroOf (.ref C)) cd.mro := (W.looks_clsIn X hcd).andThen .now
  have l2 : W.Looks (model prog w) hp (storeTaker? none) none := .now
  have l3 : W.Looks (model prog w) hp (classData C) cd := W.looks_clsIn X hcd
  rw [W.osa_eq, refuse_eq]
  refine wpAny_bind (wpAny_bind (I.type.at (wpAny_bind (l1.at ?_))))
  rw [hm.passes]
  refine wpAny_pure (wpAny_bind (I.type.at (wpAny_bind ((W.looks_findIn X ha).at (wpAny_bind (l2.at ?_))))))
  show wpAny _ _ (storeInOwnDict (.ref x) (.ref C) (.str name tk) name v false) _ _ _
  obtain ⟨nm, bs, mro, ns, qn, hd, sn, sb, ab, col, del⟩ := cd
  dsimp only at hh
  subst hh
  unfold storeInOwnDict ownDictForStores
  repeat (first | with_reducible refine store_in_new ?_ ?_ | with_reducible refine wpAny_loadPart_at hx ?_ | with_reducible refine l3.at ?_ | wp_step)
  · exact ⟨_, #[], _, (Heap.get?_update_ne _ _ _ _ xs.symm).trans (Heap.get?_push_at rfl rfl), rfl, fun e he => absurd he (by simp), fun _ => rfl⟩
  · intro h' tk' hn' hs
    refine hq h' tk' hp.objs.size (fun b o hb ho => (hs.2 b (Nat.ne_of_lt (Heap.lt_size ho))).trans ((Heap.get?_update_ne _ _ _ _ hb).trans (Heap.get?_push_of_some _ ho))) (Nat.le_refl _) xs.symm ((hs.2 x xs).trans (Heap.get?_update_self _ (Heap.get?_push_of_some _ hx) rfl)) hn'
end
end OEL
end PySem
namespace L2
open PySem PySem.Spec PyProof.Rows PySem.OEL
/-- what is known of an own class over LookupError -/
structure OexL (K : PySem.W.Frag) (C : Addr) : Prop where
  cls : ∃ nm q N bs bm sn sub ab col dd k0 k1 k2 k3 k5, K.lookup C = some (excClassObj nm q C N bs bm true sn sub ab col dd k0 k1 k2 k3 k5 "LookupError.__new__") ∧ leB bm = true
  sa : PySem.W.findIn K (.ref C) "__setattr__" = some (some (.builtin "object.__setattr__"))
  exC : PySem.W.subIn K (.ref C) (.type "BaseException") = some true
  tyC : PySem.W.typeIn K (.ref C) = some (.type "type")
  kC : PySem.W.keepIn K (.ref C) = true
section
variable {X : Cx} {pins : List (Addr × Obj)} {σ : St} {H : Hp} {s : Shared} {a C dx : Addr} {f : Str} {y : V} {u : Value} {Q : Unit → Shared → Prop} {E : Value → Shared → Prop} {A : Around}
theorem ost_le (T : OexL X.K C) (I : Inv X pins σ H s) (e : H a = some (exo a C none)) (hno : PySem.W.findIn X.K (.ref C) f = some none) (ry : RelV y u)
    (h : ∀ dx s', H dx = none → dx ≠ a → Inv X pins σ (upd (upd H dx (exd dx [(f, y)])) a (exo a C (some dx))) s' → Q () s') : wpAny (model X.prog X.w) A (setAttr (.ref a) f u) Q E s := by
  obtain ⟨nm, q, N, bs, bm, sn, sub, ab, col, dd, k0, k1, k2, k3, k5, hC, hbm⟩ := T.cls
  have hcl : PySem.W.clsIn X.K C = some { name := nm, bases := bs, mro := .ref C :: bm, ns := N, qualname := q, hasDict := true, slotNames := sn, subclasses := sub, abstract := ab, collection := col, hasDel := false } := by unfold PySem.W.clsIn; rw [hC] <;> rfl
  obtain ⟨t1, ho⟩ := exo_at I.hok e
  obtain ⟨hp, g, d, t, os⟩ := s
  refine PySem.W.set_plain I.kIn (ox := { cls := .ref C, dict := none, data := .fields #[.ref t1, .none, .none, .none, .bool false, .none] }) (od := none) ⟨ho, rfl, rfl, trivial⟩ T.sa ?_
  refine first_attr I.kIn ho hcl (show LeM (.ref C :: bm) from .ref C (leB_M hbm)) rfl hno (fun h' tk' dx k dn dne hx hn => ?_)
  have n0 : H dx = none := I.hok.fresh dn
  have da : ∀ {b : Addr}, H b = none → b ≠ a := fun {b} n z => by
    rw [z, e] at n
    cases n
  have dd' : ∀ {b : Addr} {o : Obj}, hp.get? b = some o → b ≠ dx := fun {b o} q => Nat.ne_of_lt (Nat.lt_of_lt_of_le (Heap.lt_size q) dn)
  have U : Un X.fs [] H (upd (upd H dx (exd dx [(f, y)])) a (exo a C (some dx))) hp h' := {
    keep := fun b o q n _ _ => k b o (da n) q
    slot := fun b o q n _ _ => ⟨o.slots, k b o (da n) q⟩
    free := fun b o q n _ => by rw [upd_ne (da n), upd_ne (dd' q)]; exact n
    there := fun b o q _ => by
      by_cases z : b = a
      · rw [z]; exact ⟨_, hx⟩
      · exact ⟨o, k b o z q⟩
    tups := fun b xs q => by rw [upd_ne (at_ne e q exo_tup), upd_ne (ne_of_none q n0)]; exact q
    frzs := fun b o v q => by rw [upd_ne (at_ne e q exo_frz), upd_ne (ne_of_none q n0)]; exact q
    tbls := fun b ps q => ⟨#[], by rw [upd_ne (at_ne e q exo_tbl), upd_ne (ne_of_none q n0), q]; simp⟩ }
  refine h dx _ n0 dne (I.un (t' := tk') U fun b o q => ?_)
  by_cases z : b = a
  · subst z
    rw [upd_same] at q
    cases q
    exact exo_ok hx
  · rw [upd_ne z] at q
    by_cases z2 : b = dx
    · subst z2
      rw [upd_same] at q
      cases q
      exact exd_ok hn (relO_put (fs := []) ry fun g => True.intro)
    · rw [upd_ne z2] at q
      refine (I.hok b o q).stay (fun c v hc w => k c v (hc.elim (fun hc => hc ▸ z) fun hc => at_ne e hc exo_own) w) (fun c hc => ?_) fun c xs hc => ?_
      · rw [upd_ne (at_ne e hc exo_own), upd_ne (ne_of_none hc n0)]; exact hc
      · rw [upd_ne (at_ne e hc exo_tup), upd_ne (ne_of_none hc n0)]; exact hc
end
/-- self.f = e, the first one -/
def tLe1 (K : PySem.W.Frag) (f : Str) (to te : TE) : TS := fun D σ H => te σ H fun y H1 => to σ H1 fun x H2 => ∃ a C : Addr, x = .ref a ∧ OexL K C ∧ PySem.W.findIn K (.ref C) f = some none ∧ H2 a = some (exo a C none) ∧ ∀ dx, H2 dx = none → dx ≠ a → D.nx σ (upd (upd H2 dx (exd dx [(f, y)])) a (exo a C (some dx)))
theorem ps_lst {X : Cx} {o e : Expr} {to te : TE} {f : Str} {p' pos : Pos} (ho : PE X o to) (he : PE X e te) (hs : swapsWith e (some (.Attribute o f p')) pos.line X.env = pure false := by rfl) : PS X (.Assign [.Attribute o f p'] e pos) (tLe1 X.K f to te) := by
  refine ⟨fun pins s σ H D I h => ?_⟩
  refine plainObj_wpAny_Assign_Attribute (thn (he.run pins s σ H _ I h) fun v s1 ⟨y, H1, I1, r1, q1⟩ => thn (ho.run pins s1 σ H1 _ I1 q1) fun u s2 ⟨x, H2, I2, r2, a, C, ex, T, hno, ea, q⟩ => ?_) hs
  subst ex
  obtain rfl : u = Value.ref a := r2
  exact ost_le T I2 ea hno r1 fun dx s' n ne J => ⟨σ, _, J, q dx n ne⟩
theorem pmk_oel {X : Cx} {e : Expr} {es : List Expr} {ta : TA} {p pos : Pos} {CX : CXT} {x : Str} {C fI : Addr} {k : Nat} {fd : FuncData} {ps : List Str} {sp : Sp} {ds : List Value} {dvs : List V} (T : OexL X.K C) (iC : PySem.W.findIn X.K (.ref C) "__init__" = some (some (.ref fI))) (tI : PySem.W.typeIn X.K (.ref fI) = some (.type "function"))
    (F1 : FnOk X.prog X.w X.K X.mg X.base CX k fI fd ps sp) (hr : Room (k + 1) X.A) (hb : Binds X.K fd ps ds) (hd : Vals dvs ds) (hx : Passes CX X (fun _ _ _ => False)) (hg : Gl X x) (hm : X.mg x = some (.ref C)) (ha : PA X (e :: es) ta)
    (hdb : (x == ("__debug__" : Str)) = false := by decide) (he : starEach (e :: es) X.env = (false, eval e X.env) :: starEach es X.env := by rfl) (hpl : (backTo pos (starEach es X.env)).any (·.1) = false := by rfl) :
    PMk X (.Call (.Name x p) (e :: es) [] pos) (tMkO C sp dvs ta) := by
  intro pins s σ H Q I h
  obtain ⟨nm, q, N, bs, bm, sn, sub, ab, col, dd, k0, k1, k2, k3, k5, hC, hbm⟩ := T.cls
  refine wpAny_Call_Name_kw (ld_glob I hg hm ?_ hdb)
  refine PySem.W.callWith_K (h₀ := X.base) I.ok.mod.kin T.kC (thn (ha.run pos pins s σ H _ I h) fun us s1 ⟨vs, H1, I1, r1, hz, q1⟩ => ⟨I1.kIn, ?_⟩) he hpl
  show wpAny _ _ (call (.ref C) us) _ _ _
  obtain ⟨hp, g, dr, tk, os⟩ := s1
  let b1 : Addr := hp.objs.size + 1
  have hsz : hp.objs.size ≤ b1 := Nat.le_succ _
  let G : Heap := (hp.push (PySem.W.kdv_tup us)).push (PySem.HandSPX.excO C hp.objs.size)
  have hq := q1 b1 (I1.hok.fresh hsz)
  have kk : ∀ b o, hp.get? b = some o → G.get? b = some o := fun b o e => Heap.get?_push_of_some _ (Heap.get?_push_of_some _ e)
  have hget : G.get? b1 = some (PySem.HandSPX.excO C hp.objs.size) := by
    show ((hp.push (PySem.W.kdv_tup us)).push (PySem.HandSPX.excO C hp.objs.size)).get? (hp.objs.size + 1) = _
    heap_get
  have I2 : Inv X pins σ (upd H1 b1 (exo b1 C none)) ⟨G, g, dr, tk, os⟩ := I1.laid (t' := tk) (a := b1) (o := exo b1 C none) (h' := G) kk hsz (exo_ok hget)
  have r2 : Vals (V.ref b1 :: (vs ++ dvs)) (Value.ref b1 :: (us ++ ds)) := .cons rfl (r1.append hd)
  have hl : (Value.ref b1 :: us ++ ds).length = ps.length := by
    have e := r2.length
    rw [F1.len _ _ _ _ hq] at e
    exact e.symm
  have hus : us.length ≤ sizeLine := by
    rw [← Paired.length r1, sizeLine_eq]
    omega
  refine wpAny_call (PySem.HandSPX.call_own F.excBase_LookupError (fun Y => (leB_M hbm).contains Y) (I1.kIn _ _ hC) (PySem.W.looks_findIn I1.kIn iC) (fun self => PySem.W.bind_fn I1.kIn self tI) hus
    (codeAny_mono (F1.run _ X.stack _ _ ⟨Value.ref b1 :: us, []⟩ (Value.ref b1 :: (us ++ ds)) _ _ (fun _ _ _ => False) (hr.make C us []) (I2.env0.make C us []) (hb _ (Value.ref b1 :: us) I2.kIn hl) r2 hq) fun r s' z => ?_))
  cases r with
  | error er => exact hx pins σ _ _ er s' I2 z
  | ok fl =>
    cases fl with
    | ret u =>
      obtain ⟨v, H2, os2, bare2, un2, hok2, rv, ev, d, fs, ea, ed, hd1, q2⟩ := z
      subst ev
      obtain ⟨h2, g2, d2, t2, os'⟩ := s'
      exact ⟨rv, mk_end (raises_own T.exC T.tyC) I1 hsz kk un2 hok2 os2 bare2 ea ed hd1 q2⟩
    | next => exact False.elim z
    | brk => exact False.elim z
    | cont => exact False.elim z
namespace DL
theorem init_okL {P : Program} {w : World} {K : PySem.W.Frag} {mg : Str → Option Value} {base : Heap} {qual : Str} {st : Stmt} {fI C : Addr} {fd : FuncData} {an : Str} {p1 p2 p3 p4 : Pos} (D : Fun K "__init__" qual st fI fd) (S : FnScope ["self", an] ["self", an] (defScope st)) (T : OexL K C) (hno : PySem.W.findIn K (.ref C) an = some none)
    (hbd : defBody st = [.Assign [.Attribute (.Name "self" p1) an p2] (.Name an p3) p4]) (hv1 : Vis (defScope st) "self") (hv2 : Vis (defScope st) an) (hd : (an == ("__debug__" : Str)) = false) (hcd : (an == ("__classdict__" : Str)) = false) :
    FnOk P w K mg base CX0 1 fI fd ["self", an] (spI C an) := by
  refine D.ok S (fun vs H Q E h => by obtain ⟨a, y, rfl, _⟩ := h; rfl) fun cdv A outer s H vs Q E hr h => ?_
  obtain ⟨a, y, rfl, ha, q⟩ := h
  rw [hbd]
  refine ⟨_, pss_one (ps_lst (pe_var (i := 0) rfl hv1) (pe_var (i := 1) rfl hv2 hd hcd)), ?_⟩
  exact ⟨y, rfl, .ref a, rfl, a, C, rfl, T, hno, ha, fun dx h1 h2 => q dx h1 h2⟩
variable [Lab]
theorem ds_raiseL {X : Cx} {F : Fm} {C : Str → Addr} {cn an : Str} {fI : Addr} {fd : FuncData} {p pos pos' : Pos} {e : Expr} {f : DEnv → Option (PyData × DEnv)} (hc : X.calm = true) (tk : Takes X (wx C F.W)) (T : OexL X.K (C cn)) (iC : PySem.W.findIn X.K (.ref (C cn)) "__init__" = some (some (.ref fI))) (tI : PySem.W.typeIn X.K (.ref fI) = some (.type "function"))
    (F1 : FnOk X.prog X.w X.K X.mg X.base CX0 1 fI fd ["self", an] (spI (C cn) an)) (hr : Room 2 X.A) (hb : Binds X.K fd ["self", an] []) (hm : X.mg cn = some (.ref (C cn))) (ha : PD X F e f) (hg : Gl X cn := by rfl)
    (hdb : (cn == ("__debug__" : Str)) = false := by decide) (he : starEach [e] X.env = (false, eval e X.env) :: starEach [] X.env := by rfl) (hpl : (backTo pos (starEach [] X.env)).any (·.1) = false := by rfl) :
    PDS X F (.Raise (some (.Call (.Name cn p) [e] [] pos)) none pos') (sRaise cn an f) :=
  ps_imp (ps_raise hc tk (pmk_oel T iC tI F1 hr hb .nil (fun _ _ _ _ _ _ _ z => z.elim) hg hm (pa_cons ha pa_nil he) hdb he hpl)) fun D σ H h => by
    obtain ⟨Z, env, fl, r, e, q⟩ := h
    obtain ⟨⟨d, e1⟩, h1, h⟩ := mpd e
    subst h
    refine ⟨Z, env, d, e1, r, h1, fun v Z1 H1 r1 s1 dd => ⟨by show 1 ≤ 1000; decide, fun a na => ⟨a, v, rfl, upd_same, fun dx hdx hne => ⟨rfl, dx, [(an, v)], upd_same, ?_, ?_, cn, rfl, ?_⟩⟩⟩⟩
    · rw [upd_ne hne, upd_same]
    · rw [upd_ne hne] at hdx; exact hdx
    · rw [upd_ne hne] at hdx
      rw [upd_back na hne]
      have hS : Same H1 (upd H1 dx (.xd [(an, v)])) := .of (same_new hdx _)
      have gr : Grow Z1 H1 Z1 (upd H1 dx (.xd [(an, v)])) := ⟨Same.refl _, r1.zh.trans hS, hS, fun t => t.ext (same_new hdx _), fun _ z => .inl z⟩
      exact q v dx σ Z1 _ (r1.grow gr) s1.z (r1.zh.free hdx) (r1.gh.free hdx) (fun z => (r1.pp dx z).1 hdx) upd_same dd
omit [Lab] in
theorem oel_mk {K : PySem.W.Frag} {C : Addr} {nm q N bs bm sn sub ab col dd k0 k1 k2 k3 k5} (l : K.lookup C = some (excClassObj nm q C N bs bm true sn sub ab col dd k0 k1 k2 k3 k5 "LookupError.__new__")) (r : leB bm = true)
    (sa : PySem.W.findIn K (.ref C) "__setattr__" = some (some (.builtin "object.__setattr__"))) (ex : PySem.W.subIn K (.ref C) (.type "BaseException") = some true) (ty : PySem.W.typeIn K (.ref C) = some (.type "type")) (k : PySem.W.keepIn K (.ref C) = true) : OexL K C :=
  ⟨⟨nm, q, N, bs, bm, sn, sub, ab, col, dd, k0, k1, k2, k3, k5, l, r⟩, sa, ex, ty, k⟩
end DL
end L2


set_option Elab.async false
set_option maxRecDepth 100000
set_option maxHeartbeats 4000000
set_option autoImplicit false
namespace L2
namespace DL
open PySem PySem.Spec PyProof.Rows PySem.Calls
variable [Lab]
/-! ### len(set(t)), t a tuple of ints -/
section
variable {X : Cx} {F : Fm} {e : Expr} {f : DEnv → Option (PyData × DEnv)}
end
end DL
end L2


set_option Elab.async false
set_option maxRecDepth 100000
set_option maxHeartbeats 4000000
set_option autoImplicit false
namespace L2
namespace DL
open PySem PySem.Spec PyProof.Rows
/-! ### exceptions are kept -/
theorem exo_okD {P : Program} {w : World} {H : Hp} {h : Heap} {a : Addr} {cls : Value} {d : Option Addr} {oe : Obj} {vs : Array Value} (e : h.get? a = some oe) (z : Zc cls d oe) (hd : oe.data = .fields vs) : ObjOk P w H h a (ExO a cls d) :=
  ⟨⟨oe, vs, e, z.1, z.2, hd⟩, ⟨oe, e⟩, fun _ _ ⟨o, v, q, r⟩ k => ⟨o, v, k o q, r⟩⟩
section
variable {X : Cx} {pins : List (Addr × Obj)} {σ : St} {H : Hp} {s : Shared}
/-- an object that is there, but was not at the entry, is known from now on -/
theorem inv_hold (I : Inv X pins σ H s) {a : Addr} {o : HO} (na : H a = none) (ok : ObjOk X.prog X.w (upd H a o) s.heap a o) (n0 : X.s_0.heap.get? a = none) (nL : a ≠ X.env.locals) (nc : ∀ x c, X.env.cells.lookup x = some c → c ≠ a) (np : ∀ p ∈ X.pn ++ pins, p.1 ≠ a) : Inv X pins σ (upd H a o) s := by
  have ne0 : ∀ b ob, X.s_0.heap.get? b = some ob → b ≠ a := fun b ob e z => by
    rw [z, n0] at e
    cases e
  have neN : ∀ b u, H b = some u → b ≠ a := fun b u e => ne_of_none e na
  refine ⟨I.ok, I.os, I.bare, ⟨I.base.keep, I.base.slot, fun b ob e n hx => ?_, I.base.there, fun b xs e => ?_, fun b ob u e => ?_, fun b ps e => ?_⟩, I.loc, I.cell, ?_, fun x c e => ?_, fun p hp => ?_, fun b u e => ?_, I.len⟩
  · rw [upd_ne (ne0 b ob e)]; exact I.base.free b ob e n hx
  · have q := I.base.tups b xs e
    rw [upd_ne (neN b _ q)]; exact q
  · have q := I.base.frzs b ob u e
    rw [upd_ne (neN b _ q)]; exact q
  · obtain ⟨m, q⟩ := I.base.tbls b ps e
    exact ⟨m, by rw [upd_ne (neN b _ q)]; exact q⟩
  · rw [upd_ne nL.symm]; exact I.free
  · rw [upd_ne (nc x c e)]; exact I.freeC x c e
  · obtain ⟨e, n, ne, nf, d⟩ := I.pin p hp
    exact ⟨e, by rw [upd_ne (np p hp)]; exact n, ne, nf, d⟩
  · by_cases hb : b = a
    · subst hb
      rw [upd_same] at e
      cases e
      exact ok
    · rw [upd_ne hb] at e
      exact (I.hok b u e).stay (fun _ _ _ q => q) (fun c q => by rw [upd_ne (neN c _ q)]; exact q) fun c xs q => by rw [upd_ne (neN c _ q)]; exact q
theorem inv_suite0 (I : Inv X pins σ H s) (a : Addr) : Inv (X.suite a (X.pn ++ pins)) [] σ H s :=
  ⟨I.ok.suite _ _, I.os, I.bare, I.base, I.loc, I.cell, I.free, I.freeC, fun p hp => I.pin p (by rw [List.append_nil] at hp; exact hp), I.hok, I.len⟩
theorem inv_unsuite0 {a : Addr} {pn' : List (Addr × Obj)} (I : Inv (X.suite a (X.pn ++ pins)) pn' σ H s) (ok : X.Ok) : Inv X pins σ H s :=
  ⟨ok, I.os, I.bare, I.base, I.loc, I.cell, I.free, I.freeC, fun p hp => I.pin p (List.mem_append_left _ hp), I.hok, I.len⟩
end
/-- what such a clause wishes of an exception of the body: slot i is the name's, the exception is known from then on -/
def wHold (K : PySem.W.Frag) (cl : List Value) (i : Nat) (ts : Addr → Value → Option Addr → TS) (Wout : WX) (D : Ends) : WX := fun cls d σ H =>
  ∃ b, PySem.W.exmAny K cls cl = some b ∧ (b = true → ∀ a, H a = none → ts a cls d { nx := fun σ' H' => D.nx (σ'.set i none) H', rt := D.rt, bk := fun σ' H' => D.bk (σ'.set i none) H', ct := fun σ' H' => D.ct (σ'.set i none) H' } (σ.set i (some (.ref a))) (upd H a (ExO a cls d))) ∧ (b = false → Wout cls d σ H)
section
variable {X : Cx} {t : Expr} {n : Str} {cl : List Value} {i : Nat} {body suite : List Stmt} {b₀ : Stmt} {pos pos' : Pos} {tb : WX → TS} {ts : Addr → Value → Option Addr → TS} {Wout : WX}
theorem ps_try_hold (hs : X.stack = X.env :: X.outer) (hf : X.env.frame = some X.env.locals) (hex : X.ex = []) (hN : X.N.Nodup) (hi : X.N[i]? = some n) (hln : X.env.kindOf n = some .local) (hc : TupT X t cl) (tk : Takes X Wout)
    (hb : ∀ (W : WX) (pn : List (Addr × Obj)) (xe : Value → Shared → Prop), Takes (X.tr pn xe) W → PassesOwn (model X.prog X.w) X.A X.env xe → PSs (X.tr pn xe) body (tb W))
    (hsu : ∀ (a : Addr) (cls : Value) (d : Option Addr) (pn : List (Addr × Obj)), PSs (X.suite a pn) (b₀ :: suite) (ts a cls d)) :
    PS X (.Try body [.ExceptHandler (some t) (some n) (b₀ :: suite) pos'] [] [] pos) (fun D σ H => tb (wHold X.K cl i ts Wout D) D σ H) := by
  constructor
  intro pins s σ H D I h
  have ok := I.ok
  have hloc : Loc X.env.scope n := .inl hln
  have fr : X.A.frames = some (X.env :: X.outer) := ok.frames.trans (congrArg some hs)
  refine wpAny_Try_except (wpAny_mono ((hb (wHold X.K cl i ts Wout D) (X.pn ++ pins) (fun e s₁ => wpAny (model X.prog X.w) X.A (noteFrame e X.env) (fun _ s₂ => wpAny (model X.prog X.w) X.A (setFlight e none) (fun _ s₃ =>
    wpAny (model X.prog X.w) X.A (handleBy e X.env [.ExceptHandler (some t) (some n) (b₀ :: suite) pos']) (SP X pins D) X.xe s₃) X.xe s₂) X.xe s₁) (fun u s' xx => ?_) PassesOwn.looking).run [] s σ H D (I.toTry _) h) (fun f s1 hsp => ?_) fun e s1 he => he)
  · obtain ⟨a, B, sI, pins', σ', H', cls, d, rfl, J0, nb, up, sky, na, os, ag, b, hb1, yes, no⟩ := xx
    have J := J0.ofTry ok
    rw [hs] at sky
    have aB : B.get? a = none := by
      rcases sky with ⟨_, z, _⟩ | z | z
      · exact z
      · exact z.2.1
      · exact z.2.1
    show wpAny (model X.prog X.w) X.A (noteFrame (.ref a) X.env) _ _ _
    refine Sky.land Zc.steady fr hf sky fun h3 fl up3 => ?_
    obtain ⟨oe, vs, ae, az, ad⟩ := fl.there
    have J3 : Inv X pins σ' H' { s' with heap := h3 } := J.landed nb fl.1 (up.trans up3) os ag
    have away : a ∉ frs (X.env :: X.outer) := fun hm => by
      obtain ⟨_, o', e', nf⟩ := fl.2.2.1.mem hm
      rw [ae] at e'
      cases e'
      exact nf _ ad
    have aI : sI.heap.get? a = none := by
      cases q : sI.heap.get? a with
      | none => rfl
      | some o =>
        have := nb a o q (by rw [hs]; exact away)
        rw [aB] at this
        cases this
    have a0 : X.s_0.heap.get? a = none := by
      cases q : X.s_0.heap.get? a with
      | none => rfl
      | some o =>
        obtain ⟨o', z⟩ := J.base.there a o q (by rw [hex]; exact fun z => nomatch z)
        rw [aI] at z
        cases z
    have aC : ∀ x c, X.env.cells.lookup x = some c → c ≠ a := fun x c e z => by
      obtain ⟨v, o, ho, _⟩ := J.cell x c e
      rw [z, aI] at ho
      cases ho
    have aP : ∀ p ∈ X.pn ++ pins, p.1 ≠ a := fun p hp z => by
      have := (J.pin p hp).1
      rw [z, aI] at this
      cases this
    have aL : a ≠ X.env.locals := fun z => away (List.mem_filterMap.mpr ⟨X.env, List.mem_cons_self, by rw [hf, z]⟩)
    have aF : a ∉ X.fs := fun hm => by
      obtain ⟨e, he, q⟩ := List.mem_filterMap.mp hm
      exact away (List.mem_filterMap.mpr ⟨e, List.mem_cons_of_mem _ he, q⟩)
    refine wpAny_handleBy_cons (codeAny_handlers_test (hc a oe _ σ' H' _ cls b _ _ (J3.suite ae ad na aL aF) (fun A Q E s k q => wpAny_typeOf_ref (k _ _ ae) (by rw [az.1]; exact q)) hb1 fun h4 kp => ?_)) (by intro q; cases q)
    have fl4 := flyZ_keeps fl kp
    cases b with
    | true =>
      refine codeAny_handlers_suite_as (HandSPX.lands_againZ fl4 fun h5 fl5 up5 => ?_)
      obtain ⟨oe5, vs5, ae5, az5, ad5⟩ := fl5.there
      have J5 : Inv X pins σ' H' { s' with heap := h5 } := J.landed nb fl5.1 (((up.trans up3).trans (Heap.UpToSlots.of_keeps kp)).trans up5) os ag
      have J6 : Inv X pins σ' (upd H' a (ExO a cls d)) { s' with heap := h5 } := inv_hold J5 na (exo_okD ae5 az5 ad5) a0 aL aC aP
      refine store_ok (X := X.suite a (X.pn ++ pins)) (v := .ref a) (inv_suite0 J6 a) hN hi hloc rfl (fun s5 S5 => ?_) (.inr hln)
      have end_ : ∀ {s6 : Shared} {σ6 : St} {H6 : Hp} {Q : Shared → Prop}, Inv (X.suite a (X.pn ++ pins)) [] σ6 H6 s6 → (∀ s7, Inv X pins (σ6.set i none) H6 s7 → Q s7) →
          wpAny (model X.prog X.w) X.A (do bindName X.env n .none; unbindBehindTheSuite X.env n pos') (fun _ s7 => Q s7) X.xe s6 := fun {s6 σ6 H6 Q} S6 hq => gone_ok (inv_unsuite0 S6 ok) hN hi hln hq
      refine wpAny_mono ((hsu a cls d (X.pn ++ pins)).run [] _ _ _ _ S5 (yes rfl a na)) (fun f s6 hsp => ?_) fun _ _ z => False.elim z
      cases f with
      | ret u => obtain ⟨v, σ6, H6, S, r, q⟩ := hsp; exact end_ S fun s7 J7 => ⟨_, _, _, J7, r, q⟩
      | next => obtain ⟨σ6, H6, S, q⟩ := hsp; exact end_ S fun s7 J7 => ⟨_, _, J7, q⟩
      | brk => obtain ⟨σ6, H6, S, q⟩ := hsp; exact end_ S fun s7 J7 => ⟨_, _, J7, q⟩
      | cont => obtain ⟨σ6, H6, S, q⟩ := hsp; exact end_ S fun s7 J7 => ⟨_, _, J7, q⟩
    | false =>
      show wpAny _ X.A (handleBy (.ref a) X.env []) _ _ _
      refine none_left hf fl4 fun h5 hh5 up5 => tk _ _ ?_
      exact ⟨a, B, sI, pins, σ', H', cls, d, rfl, J, nb, ((up.trans up3).trans (Heap.UpToSlots.of_keeps kp)).trans up5, .inr (.inr (by rw [hs]; exact hh5)), na, os, ag, no rfl⟩
  · cases f with
    | ret u => obtain ⟨v, σ', H', J, r, q⟩ := hsp; exact ⟨v, σ', H', J.ofTry ok, r, q⟩
    | next => obtain ⟨σ', H', J, q⟩ := hsp; exact wpAny_execs_nil ⟨σ', H', J.ofTry ok, q⟩
    | brk => obtain ⟨σ', H', J, q⟩ := hsp; exact ⟨σ', H', J.ofTry ok, q⟩
    | cont => obtain ⟨σ', H', J, q⟩ := hsp; exact ⟨σ', H', J.ofTry ok, q⟩
end
end DL
end L2


set_option Elab.async false
set_option maxRecDepth 100000
set_option maxHeartbeats 4000000
set_option autoImplicit false
namespace L2
namespace DL
open PySem PySem.Spec PyProof.Rows
variable [Lab]
/-! ### an exception in a slot -/
/-- an exception's dict is known from now on -/
theorem rel_adopt {K : PySem.W.Frag} {F : Fm} {Z H : Hp} {σ : St} {env : DEnv} {p : Addr} {fs : List (Str × V)} (r : Rel K F Z H σ env) (hz : Z p = none) (hg : F.G p = none) (hp : ¬ F.P p) (hh : H p = some (.xd fs)) : Rel K F (upd Z p (.xd fs)) H σ env := by
  have hZ : Same Z (upd Z p (.xd fs)) := .of (same_new hz _)
  refine ⟨r.z0.trans hZ, ⟨fun b x q n => ?_, fun b q => ?_⟩, r.gh, fun q hq => ?_, fun q hq => ?_, r.len, fun j dv ej => ?_, r.inj, r.tb⟩
  · by_cases hb : b = p
    · subst hb; rw [upd_same] at q; cases q; exact hh
    · rw [upd_ne hb] at q; exact r.zh.h b x q n
  · by_cases hb : b = p
    · subst hb; rw [hh]; simp
    · rw [upd_ne hb] at q; exact r.zh.k b q
  · by_cases hb : q = p
    · subst hb; exact .inr ⟨hg, hp⟩
    · rw [upd_ne hb] at hq; exact r.nw q hq
  · obtain ⟨a, b, c⟩ := r.pp q hq
    refine ⟨a, ?_, c⟩
    rw [upd_ne (show q ≠ p from fun z => hp (by rw [← z]; exact hq))]; exact b
  · have s := r.sl j dv ej
    cases dv with
    | fr d => obtain ⟨v, a, b⟩ := s; exact ⟨v, a, DDm b hZ⟩
    | ow es =>
      obtain ⟨p', xs', a1, a2, a3, a4, a5, a6⟩ := s
      have hne : p' ≠ p := fun z => by rw [z, hh] at a5; cases a5
      exact ⟨p', xs', a1, a2, a3, by rw [upd_ne hne]; exact a4, a5, DDsm a6 hZ⟩
    | rf es =>
      obtain ⟨p', xs', a1, a2, a5, a6⟩ := s
      exact ⟨p', xs', a1, a2, a5, DDsm a6 hZ⟩
    | fn n => exact s
    | dk es =>
      obtain ⟨p', o', xs', a1, a2, a3, a4, a5, a6, a7⟩ := s
      have hne : p' ≠ p := fun z => by rw [z, hh] at a5; cases a5
      exact ⟨p', o', xs', a1, a2, a3, by rw [upd_ne hne]; exact a4, a5, a6, ddk_mono hZ _ _ a7⟩
/-- the classes whose exceptions a clause may keep, each with its attribute -/
structure ExKp (K : PySem.W.Frag) (mt : Str → Option Bool) (at' : Str → Str) : Prop where
  k : ∀ c, mt c = some true → KEx K (LabW.C c)
  n : ∀ c, mt c = some true → PySem.W.findIn K (.ref (LabW.C c)) (at' c) = some none
theorem dd_exc {K : PySem.W.Frag} {Z H : Hp} {a p : Addr} {c an : Str} {v : V} {d : PyData} (s : Same Z H) (k : KEx K (LabW.C c)) (hn : PySem.W.findIn K (.ref (LabW.C c)) an = some none) (h0 : H a = none) (hp : Z p = some (.xd [(an, v)])) (hd : DD K Z v d) :
    DD K (upd Z a (ExO a (.ref (LabW.C c)) (some p))) (.ref a) (excD c an d) :=
  .exc upd_same (by rw [upd_ne (ne_of_none hp (s.free h0))]; exact hp) k hn (DDm hd (.of (same_new (s.free h0) _)))
/-! ### isinstance(e, C), C a class of exceptions -/
def fIsC (m : Str → Option Bool) (f : DEnv → Option (PyData × DEnv)) (env : DEnv) : Option (PyData × DEnv) := (f env).bind fun x => match x.1 with
  | .dict [(.dict [], .tuple [.str c, .str _, _])] => (m c).map fun b => (.bool b, x.2)
  | .dict [(.dict [], .tuple [.str c])] => (m c).map fun b => (.bool b, x.2)
  | _ => none
section
variable {X : Cx} {F : Fm} {e : Expr} {f : DEnv → Option (PyData × DEnv)} {p pn pos : Pos}
theorem ddi_dict {K : PySem.W.Frag} {H : Hp} {xs : List (Key × V)} {kvs : List (PyData × PyData)} {x y : PyData} {r : List (PyData × PyData)} (h : DDi K H xs kvs) (e : kvs = (.dict [], y) :: r) : False := by
  cases h with
  | nil => cases e
  | @cons k v xs vd kvs h1 h2 => cases k <;> cases e
theorem ddk_dict {K : PySem.W.Frag} {H : Hp} {xs : List NEnt} {kvs : List (PyData × PyData)} {y : PyData} {r : List (PyData × PyData)} (h : DDk K H xs kvs) (e : kvs = (.dict [], y) :: r) : False := by
  cases h with
  | nil => cases e
  | @cons k a v xs kd vd kvs h0 h1 h2 h3 =>
    cases e
    cases k <;> cases h0
theorem dd_ex1 {K : PySem.W.Frag} {H : Hp} {x : V} {c an : Str} {d : PyData} (h : DD K H x (excD c an d)) : ∃ a dx v, x = .ref a ∧ H a = some (ExO a (.ref (LabW.C c)) (some dx)) ∧ H dx = some (.xd [(an, v)]) ∧ KEx K (LabW.C c) ∧ PySem.W.findIn K (.ref (LabW.C c)) an = some none ∧ DD K H v d := by
  cases h with
  | dct _ hi => exact (ddi_dict (x := .none) hi rfl).elim
  | dcn _ _ hi => exact (ddk_dict hi rfl).elim
  | exc e1 e2 k n hd => exact ⟨_, _, _, rfl, e1, e2, k, n, hd⟩
theorem dd_ex0 {K : PySem.W.Frag} {H : Hp} {x : V} {c : Str} (h : DD K H x (exnD c)) : ∃ a, x = .ref a ∧ H a = some (ExO a (.ref (LabW.C c)) none) ∧ KEx K (LabW.C c) := by
  cases h with
  | dct _ hi => exact (ddi_dict (x := .none) hi rfl).elim
  | dcn _ _ hi => exact (ddk_dict hi rfl).elim
  | exn e1 k => exact ⟨_, rfl, e1, k⟩
theorem pd_isC {tn : Str} {m : Str → Option Bool} {cx : V} {cv : Value} (hcl : ClsV cx cv) (hm' : ∀ c b, m c = some b → PySem.W.kitOne X.K (.ref (LabW.C c)) cv = some b) (hn : PE X (.Name tn pn) (tC cx)) (hm : X.mg "isinstance" = none) (ha : PD X F e f) (hg : Gl X "isinstance" := by rfl)
    (he : starEach [e, .Name tn pn] X.env = (false, eval e X.env) :: starEach [.Name tn pn] X.env := by rfl) (he2 : starEach [.Name tn pn] X.env = (false, eval (.Name tn pn) X.env) :: starEach [] X.env := by rfl) (hpl : (backTo pos (starEach [.Name tn pn] X.env)).any (·.1) = false := by rfl) :
    PD X F (.Call (.Name "isinstance" p) [e, .Name tn pn] [] pos) (fIsC m f) :=
  pe_imp (pe_callB call_isiY hg hm (by decide +kernel) (pa_cons ha (pa_cons hn pa_nil he2) he) (by decide) (by decide) he hpl) fun σ H Q h => by
    obtain ⟨Z, env, d, env', r, e, q⟩ := h
    obtain ⟨⟨i, e1⟩, h1, e⟩ := bnd e
    refine ⟨Z, env, i, e1, r, h1, fun v Z1 H1 r1 s1 d1 => ?_⟩
    dsimp only at e
    split at e
    · rename_i c an d0
      obtain ⟨b, h2, e⟩ := mpd e
      cases e
      obtain ⟨a, dx, w, rfl, e1, e2, k, _, _⟩ := dd_ex1 (DDm d1 r1.zh)
      exact ⟨_, cx, _, cv, b, rfl, hcl, .inr (.inr ⟨a, _, rfl, rfl, k, .inr ⟨dx, _, e1, e2⟩⟩), hm' c b h2, q _ Z1 H1 r1 s1 (.bl _)⟩
    · rename_i c
      obtain ⟨b, h2, e⟩ := mpd e
      cases e
      obtain ⟨a, rfl, e1, k⟩ := dd_ex0 (DDm d1 r1.zh)
      exact ⟨_, cx, _, cv, b, rfl, hcl, .inr (.inr ⟨a, _, rfl, rfl, k, .inl e1⟩), hm' c b h2, q _ Z1 H1 r1 s1 (.bl _)⟩
    · cases e
/-! ### e.f -/
def fExA (n : Str) (f : DEnv → Option (PyData × DEnv)) (env : DEnv) : Option (PyData × DEnv) := (f env).bind fun x => match x.1 with
  | .dict [(.dict [], .tuple [.str _, .str an, d])] => if an = n then some (d, x.2) else none
  | _ => none
theorem pd_exA {n : Str} (ha : PD X F e f) (hb : attributeBase e n X.env (eval e X.env) = eval e X.env := by rfl) : PD X F (.Attribute e n pos) (fExA n f) := by
  refine ⟨fun pins s σ H Q I h => ?_⟩
  obtain ⟨Z, env, d, env', r, e, q⟩ := h
  obtain ⟨⟨i, e1⟩, h1, e⟩ := bnd e
  dsimp only at e
  split at e
  case h_2 => cases e
  rename_i c an d0
  split at e
  case isFalse => cases e
  rename_i han
  cases e
  subst han
  refine attr_of hb (thn (ha.run pins s σ H (fun v H1 => ∃ Z1, Rel X.K F Z1 H1 σ env' ∧ Stp σ env Z H env' Z1 H1 ∧ DD X.K Z1 v (excD c an d)) I ⟨Z, env, _, env', r, h1, fun v Z1 H1 r1 s1 d1 => ⟨Z1, r1, s1, d1⟩⟩) fun u s1 hh => ?_)
  obtain ⟨x, H1, I1, rx, Z1, r1, st, d1⟩ := hh
  obtain ⟨a, dx, w, rfl, e1', e2, k, hn, dw⟩ := dd_ex1 d1
  obtain rfl : u = Value.ref a := rx
  have f1 := r1.zh.h _ _ e1' nt_exo
  have f2 := r1.zh.h _ _ e2 nt_xd
  obtain ⟨⟨oe, vs, g1, g2, g3, g4⟩, _, _⟩ := (show ObjOk X.prog X.w H1 s1.heap a (ExO a (.ref (LabW.C c)) (some dx)) from I1.hok a _ f1)
  obtain ⟨mA, hns, hr⟩ := (show ObjOk X.prog X.w H1 s1.heap dx (.xd [(an, w)]) from I1.hok dx _ f2)
  obtain ⟨od, ho, hl⟩ := lookIn_ns hns
  obtain ⟨u, hu, ru⟩ := RelO.some_of (v := w) (o := mA an) (by
    have := hr an
    rw [show ([(an, w)] : List (Str × V)).lookup an = some w by simp [List.lookup]] at this
    exact this)
  have J : PySem.W.InstAt s1.heap a oe (LabW.C c) (some od) := ⟨g1, g2, by unfold PySem.W.notCls; rw [g4] <;> rfl, by rw [g3]; exact ho⟩
  exact HandSPX.exc_get I1.kIn J k.hga k.hgt k.hsub (PySem.W.findObj_own k.hdct hn rfl (by rw [hl, hu])) (handed_of ru) ⟨w, H1, I1.tok _, ru, q w Z1 H1 r1 st dw⟩
end
/-! ### xs.count(e) -/
def rCountD (K : PySem.W.Frag) : V → List V → Hp → VK → Prop := fun x xs H Q => ∃ (a : Addr) (y : V) (d : PyData) (ds : List PyData), x = V.ref a ∧ xs = [y] ∧ Dp K H (V.ref a) (.list ds) ∧ Dp K H y d ∧
  SeqAt.shaped (.list ds) = true ∧ SeqAt.shaped d = true ∧ Q (.int (ds.countP fun z => PyData.eqv z d : Nat)) H
omit [Lab] in
theorem mt_countD {X : Cx} (hu : X.A.units + 65 < cLine) : MtR X "list.count" (rCountD X.K) := by
  intro pins s σ H x xs v us Q I rx rxs h
  obtain ⟨a, y, d, ds, rfl, rfl, hl, hy, sl, sd, q⟩ := h
  cases rx
  cases rxs with
  | cons ry rt =>
    rename_i uy ut
    cases rt
    obtain ⟨bs, r1⟩ := Dp.reads I d y uy hy ry
    have hxs : PyData.canLayAll0 ds = true := SeqAt.canLay_of_shaped sl
    have hroom : X.A.units + 1 + min (PyData.depthAll ds) d.depth < cLine := room_in_shaped sd hu
    cases hl with
    | lst hs ha =>
      obtain ⟨its, rv, ⟨⟨cls, dd, data, sls⟩, n, ho, hc, hdn, hdt⟩, hlen⟩ := I.list hs
      simp only at hc hdt
      subst hc hdt
      obtain ⟨as, h4⟩ := Dp.readsAll I ds _ its ha rv
      have hmap : its.map (SeqAt.readOf s.heap) = ds := SeqAt.readsAll_map ds its as hxs h4
      refine call_meets PySem.F.slot_list_count ⟨_, ho, rfl⟩ PySem.F.entry_list_count (PySem.F.args_list_count_2 _ _)
        (SeqAt.list_countAt a its.toArray n dd sls uy (fun u => PyData.eqv (SeqAt.readOf s.heap u) d)) ⟨ho, SeqAt.items_eqAt (vs := its.toArray) (show ReadsAll s.heap its.toArray.toList ds as from h4) r1 hxs (SeqAt.canLay_of_shaped sd) hroom, ?_⟩
      have e : (its.toArray.toList.countP fun u => PyData.eqv (SeqAt.readOf s.heap u) d) = ds.countP fun z => PyData.eqv z d := by
        rw [← hmap, List.countP_map]
        rfl
      rw [e]
      exact ⟨.int _, H, I.tok _, ⟨_, rfl⟩, q⟩
def fCntD (j : Nat) (f : DEnv → Option (PyData × DEnv)) (env : DEnv) : Option (PyData × DEnv) :=
  (rdO j env).bind fun _ => (f env).bind fun x => (rdO j x.2).bind fun es => if shD (.list es) && shD x.1 then some (.int (es.countP fun z => PyData.eqv z x.1 : Nat), x.2) else none
section
variable {X : Cx} {F : Fm} {e : Expr} {f : DEnv → Option (PyData × DEnv)} {p pn pos : Pos} {y : Str}
theorem pd_cntD {k : Nat} (hr : Room k X.A) (j : Nat) (ha : PD X F e f) (hN : X.N[j]? = some y := by rfl) (hv : Vis X.env.scope y := by first | exact Or.inl rfl | exact Or.inr (Or.inl rfl) | exact Or.inr (Or.inr rfl)) (hd : (y == ("__debug__" : Str)) = false := by decide)
    (hcd : (y == ("__classdict__" : Str)) = false := by decide)
    (hfew : ((backTo pos (starEach [e] X.env)).all (fun x => !x.1) && (backToKw pos (keywordEach [] X.env)).all (fun x => x.1.isSome)
      && decide ([e].length + ([] : List Keyword).length + (if ([] : List Keyword).isEmpty then 0 else 1) < 30)) = true := by rfl)
    (hline : (p.endLine == pos.line) = true := by rfl) (hs : starEach [e] X.env = (false, eval e X.env) :: starEach [] X.env := by rfl) (hplain : (backTo pos (starEach [] X.env)).any (·.1) = false := by rfl) :
    PD X F (.Call (.Attribute (.Name y pn) "count" p) [e] [] pos) (fCntD j f) :=
  pe_imp (pe_bm PySem.F.plainAttrs_list PySem.F.slot_list_count PySem.F.type_list_count (mt_countD (by have := hr.un; omega)) (pe_var hN hv hd hcd) (pa_cons ha pa_nil hs) rfl hfew hline hs hplain) fun σ H Q h => by
  obtain ⟨Z, env, d, env', r, e, q⟩ := h
  obtain ⟨z0, h0, e⟩ := bnd e
  obtain ⟨⟨x, e1⟩, h1, h⟩ := bnd e
  obtain ⟨zs, h2, hh⟩ := bnd h
  clear h
  dsimp only at hh
  split at hh
  case isFalse => cases hh
  rename_i hsh
  obtain ⟨rfl, rfl⟩ := Prod.mk.inj (Option.some.inj hh)
  rw [Bool.and_eq_true] at hsh
  obtain ⟨p, xs, sj, _, hp0, _, _⟩ := r.poke h0
  refine ⟨.ref p, sj, own_ty hp0, Z, env, x, e1, r, h1, fun v Z1 H1 r1 s1 d1 => ?_⟩
  obtain ⟨p', xs', sj', zp, hp, dp, fin⟩ := r1.poke h2
  rw [sj] at sj'
  cases sj'
  have dl : DD X.K H1 (.ref p) (.list zs) := .lst (.inl (Rd.of hp)) (DDsm dp r1.zh)
  unfold shD at hsh
  simp only [Bool.and_eq_true, Bool.not_eq_true'] at hsh
  exact ⟨p, v, x, zs, rfl, rfl, dl.dp _ _ hsh.1.2, (DDm d1 r1.zh).dp _ _ hsh.2.2, hsh.1.1, hsh.2.1, q _ Z1 H1 r1 s1 (.int _)⟩
end
end DL
end L2


set_option Elab.async false
set_option maxRecDepth 100000
set_option maxHeartbeats 4000000
set_option autoImplicit false
namespace L2
namespace DL
open PySem PySem.Spec PyProof.Rows PySem.Calls
variable [Lab]
/-! ### a lambda handed to a def that catches what it raises -/
section
variable {X : Cx} {pins : List (Addr × Obj)} {σ : St} {H : Hp} {s : Shared}
omit [Lab] in
/-- x(), in the def that got the lambda -/
theorem pe_actL {CXg : CXT} {Eg : XK} {Ng : List Str} {qg : Str} {sg : Scope} {g f c' : Addr} {cdg : Value} {params : Arguments} {body : Expr} {scope : Scope} {k i : Nat} {a : Str} {pn : List (Addr × Obj)} {xe : Value → Shared → Prop} {W : WX} {tb : XK → TE} {p1 p2 : Pos}
    (I : Inv X pins σ H s) (L : LamX.LamS X.env.scope scope)
    (hbind : ∀ (q : Str) (cl : List (Str × Addr)) (pm cv ctv : Value), bindArgs (PySem.W.kla_fn "<lambda>" q params body scope cl pm cv ctv) ⟨[], []⟩ = pure [])
    (tk : Takes ((cxOf CXg X.prog X.w X.K X.mg X.base Ng qg sg g cdg X.A X.stack s H Eg).tr pn xe) W) (hr : Room (k + 1) (X.A.deeper (envOfC qg sg s.heap.objs.size g cdg)))
    (hbody : ∀ (A : Around) (outer : List Env) (sq : Shared) (H : Hp) (E : XK), A.guards = (X.A.deeper (envOfC qg sg s.heap.objs.size g cdg)).guards → Room k (A.deeper (LamX.lamEnv X scope sq.heap.objs.size f c')) → PE (LamX.lamCx X A outer sq H E scope f c') body (tb E))
    (hN : Ng[i]? = some a) (hv : Vis sg a) (hd : (a == ("__debug__" : Str)) = false := by decide) (hcd : (a == ("__classdict__" : Str)) = false := by decide) :
    PE ((cxOf CXg X.prog X.w X.K X.mg X.base Ng qg sg g cdg X.A X.stack s H Eg).tr pn xe) (.Call (.Name a p1) [] [] p2)
      (fun σZ HZ Q => ∃ E : XK, (∀ cls d H', E cls d H' → W cls d σZ H') ∧ σZ[i]? = some (some (.ref f)) ∧ HZ f = some (LamO f (lamQ X) params body scope (cloFrom X.env.cells scope.names []) c') ∧ HZ c' = some (LamX.CodeO c' (lamQ X)) ∧ tb E σ HZ Q) := by
  refine ⟨fun pinsZ sZ σZ HZ Q IZ h => ?_⟩
  obtain ⟨E, hW, hs, hf, hc, ht⟩ := h
  refine wpAny_Call_Name_kw (thn ((pe_var (pos := p1) (i := i) hN hv hd hcd).run pinsZ sZ σZ HZ (fun v H1 => v = .ref f ∧ H1 = HZ) IZ ⟨.ref f, hs, rfl, rfl⟩) fun u s1 ⟨v, H1, I1, r1, q1⟩ => ?_)
  obtain ⟨ev, eH⟩ := q1
  subst ev
  rw [eH] at I1
  obtain rfl : u = Value.ref f := r1
  obtain ⟨⟨pm, ctv, of1⟩, _, _⟩ := I1.hok f _ hf
  refine PySem.W.callWith_F0 ⟨_, _, _, _, of1⟩ ?_
  have un : Un (frs X.stack) [] H HZ s.heap s1.heap := I1.base
  obtain ⟨⟨oc, vs, t, hoc, hdc, hvc⟩, _, _⟩ := I1.hok c' _ hc
  have rc : codeAny (model X.prog X.w) (X.A.deeper (envOfC qg sg s.heap.objs.size g cdg)) (.call (.ref f) ⟨[], []⟩) (CR (L2.CX X.prog X.w) (envOfC qg sg s.heap.objs.size g cdg :: X.stack) X.prog X.w HZ s1 Q E) s1 := by
    refine PySem.W.kla_callFunE hr.depth of1 rfl L.co L.gen rfl ⟨c', oc, vs, t, rfl, hoc, hdc, hvc⟩ ?_
    rw [hbind]
    refine wpAny_pure (wpAny_newFunctionEnv (fun y hy => (L.own y hy).2) (fun y hy => absurd hy (by simp)) (fun h₁ hns hsb => ⟨I1.nolimit.fresh _ hsb, ?_⟩) L.kind)
    show codeAny _ _ (.expr body (LamX.lamEnv X scope s1.heap.objs.size f c')) _ _
    have kp : ∀ b o, s1.heap.get? b = some o → h₁.get? b = some o := fun b o e => hsb.extBut b o (Nat.ne_of_lt (Heap.lt_size e)) (Heap.get?_push_of_some _ e)
    have J : Inv (LamX.lamCx X (X.A.deeper (envOfC qg sg s.heap.objs.size g cdg)) (envOfC qg sg s.heap.objs.size g cdg :: X.stack) s1 HZ E scope f c') [] σ HZ { s1 with heap := h₁, toks := s1.toks + ([] : List (Str × Value)).length } :=
      LamX.lam_start2 I L I1.env0 hr.hd un hns kp
    refine PySem.W.kla_codeExpr (wpAny_mono ((hbody _ _ s1 HZ E rfl (hr.deeper _)).run [] _ _ HZ Q J ht) (fun v s' hq => ?_) fun e s' hq => hq)
    obtain ⟨w', H', J', rv, q⟩ := hq
    exact ⟨w', H', J'.os, J'.bare, J'.base, J'.hok, rv, q⟩
  refine wpAny_call (codeAny_mono rc fun r s' hq => ?_)
  cases r with
  | error e => exact tk _ _ (XE.of_call I1 hW hq)
  | ok fl =>
    cases fl with
    | ret u => exact I1.after hq
    | next => exact False.elim hq
    | brk => exact False.elim hq
    | cont => exact False.elim hq
end
/-- the mirror: what a() gives, or the exception that it raises, is what the rest of the def begins with -/
def retD : Option DFlow → Option PyData
  | some (.rt d _) => some d
  | some (.nx _) => some .none
  | _ => none
def fCaught (mt : Str → Option Bool) (at' : Str → Str) (j n : Nat) (gr : DEnv → Option DFlow) (fX : DEnv → Option DX) (env : DEnv) : Option (PyData × DEnv) := (fX env).bind fun r => match r with
  | .ok _ e1 => (retD (gr ((List.replicate n none).set j (some (.fr .none))))).map fun d => (d, e1)
  | .ex c a d e1 => if mt c = some true ∧ a = at' c then (retD (gr ((List.replicate n none).set j (some (.fr (excD c a d)))))).map fun d' => (d', e1) else none
abbrev RestOk (P : Program) (w : World) (K : PySem.W.Frag) (mg : Str → Option Value) (base : Heap) (N : List Str) (qual : Str) (st : Stmt) (f : Addr) (cv : Value) (k : Nat) (rest : List Stmt) (g : DEnv → Option DFlow) : Prop :=
  ∀ (cdv : Value) (A : Around) (outer : List Env) (s : Shared) (H : Hp) (E : XK) (F : Fm), cdv = cv → F.W = W0 → GdOk (A.deeper (envOfC qual (defScope st) s.heap.objs.size f cdv)) → Room k (A.deeper (envOfC qual (defScope st) s.heap.objs.size f cdv)) →
    PDSs (cxOf CX0 P w K mg base N qual (defScope st) f cdv A outer s H E).nox F rest g
theorem rel_fresh {K : PySem.W.Frag} {Z H : Hp} {σ : St} {n j : Nat} {v : V} {d : PyData} (sz : Same Z H) (tb : TB H) (hl : σ.length = n) (hj : σ[j]? = some (some v)) (hd : DD K Z v d) : Rel K ⟨Z, H, fun _ => False, W0⟩ Z H σ ((List.replicate n none).set j (some (.fr d))) := by
  refine ⟨Same.refl Z, sz, Same.refl H, fun q h => .inl h, fun q h => h.elim, by rw [List.length_set, List.length_replicate, hl], fun i dv e => ?_, fun i i' di dj q ei ej oi => ?_, tb⟩
  · rcases get_set_some e with ⟨rfl, ex⟩ | ⟨_, ex⟩
    · cases ex; exact ⟨v, hj, hd⟩
    · rw [List.getElem?_replicate] at ex
      split at ex <;> cases ex
  · rcases get_set_some ei with ⟨rfl, ex⟩ | ⟨_, ex⟩
    · cases ex; cases oi
    · rw [List.getElem?_replicate] at ex
      split at ex <;> cases ex
section
variable {X : Cx} {F : Fm} {mt : Str → Option Bool} {at' : Str → Str} {cl : List Value} {x a y n : Str} {g c P : Addr} {k i j nS : Nat} {stg : Stmt} {fdg : FuncData} {Ng : List Str} {t : Expr} {rest : List Stmt} {gr : DEnv → Option DFlow} {fX : DEnv → Option DX}
  {params : Arguments} {body : Expr} {scope : Scope} {p lpos pos p1 p2 p3 p4 p5 p6 p7 p8 p9 p10 p11 : Pos} {j0 : Nat}
theorem pd_caught (hD : Fun X.K x x stg g fdg) (Sg : FnScope Ng [a] (defScope stg))
    (hbd : defBody stg = .Assign [.Name y p1] (.Constant .none j0 p2) p3 :: .Try [.Expr (.Call (.Name a p4) [] [] p5) p6] [.ExceptHandler (some t) (some n) [.Assign [.Name y p7] (.Name n p8) p9] p10] [] [] p11 :: rest)
    (hlen : Ng.length = nS) (hNa : Ng[0]? = some a) (hNy : Ng[j]? = some y) (hNn : Ng[i]? = some n) (hij : i ≠ j) (hj0 : 0 ≠ j) (h0 : ∀ f : Addr, (L2.start Ng [V.ref f])[0]? = some (some (V.ref f))) (hls : ∀ f : Addr, (L2.start Ng [V.ref f]).length = nS) (hva : Vis (defScope stg) a) (hly : (defScope stg).names.lookup y = some .local) (hln : (defScope stg).names.lookup n = some .local)
    (da : (a == ("__debug__" : Str)) = false) (ca : (a == ("__classdict__" : Str)) = false) (dn : (n == ("__debug__" : Str)) = false) (cn : (n == ("__classdict__" : Str)) = false)
    (hrest : RestOk X.prog X.w X.K X.mg X.base Ng x stg g fdg.code (k + 1) rest gr)
    (hmt : ∀ c b, mt c = some b → PySem.W.exmAny X.K (.ref (LabW.C c)) cl = some b) (hk : ExKp X.K mt at')
    (hc : ∀ X' : Cx, X'.mg = X.mg → X'.env.scope = defScope stg → X'.K = X.K → TupT X' t cl)
    (tb0 : LamX.TabB X.base X.mg c P) (hcode : X.env.code = .ref c) (hm : (P, lamQ X) ∈ Lab.T) (hu : ∀ p ∈ Lab.T, p.1 = P → p.2 = lamQ X) (L : LamX.LamS X.env.scope scope) (hdef : defaultsOf params X.env = ([], []))
    (hbind : ∀ (q : Str) (cl : List (Str × Addr)) (pm cv ctv : Value), bindArgs (PySem.W.kla_fn "<lambda>" q params body scope cl pm cv ctv) ⟨[], []⟩ = pure [])
    (hr : Room (k + 2) X.A) (hgd : GdOk X.A) (hg : Gl X x) (hmx : X.mg x = some (.ref g)) (hkx : PySem.W.keepIn X.K (.ref g) = true) (hb : L2.Binds X.K fdg [a] [])
    (hbX : ∀ (A : Around) (outer : List Env) (s : Shared) (H : Hp) (E : XK) (f c' : Addr) (F' : Fm), Takes (LamX.lamCx X A outer s H E scope f c') (wx LabW.C F'.W) → GdOk A → Room k (A.deeper (LamX.lamEnv X scope s.heap.objs.size f c')) → PDX (LamX.lamCx X A outer s H E scope f c') F' body fX)
    (hdb : (x == ("__debug__" : Str)) = false := by decide) :
    PD X F (.Call (.Name x p) [.Lambda params body scope lpos] [] pos) (fCaught mt at' j nS gr fX) := by
  refine ⟨fun pins s σ H Q I h => ?_⟩
  obtain ⟨Z, env, d, env', r, e, q⟩ := h
  obtain ⟨rX, hfX, e⟩ := bnd e
  refine wpAny_Call_Name_kw (ld_glob I hg hmx ?_ hdb)
  refine PySem.W.callWith_K (h₀ := X.base) I.ok.mod.kin hkx ?_ (by rfl) (by rfl)
  show wpAny _ _ (spliced ((false, eval (.Lambda params body scope lpos) X.env) :: backTo pos (starEach [] X.env))) _ _ s
  refine Calls.spliced_cons (thn ((pe_lam tb0 hcode hm hu (fun ok => L.has ok) hdef).run pins s σ H (fun v H1 => ∃ f c', v = .ref f ∧ Same H H1 ∧ TB H1 ∧ H1 f = some (LamO f (lamQ X) params body scope (cloFrom X.env.cells scope.names []) c') ∧ H1 c' = some (LamX.CodeO c' (lamQ X))) I ⟨r.tb, fun f c' H1 sm tb _ h1 h2 => ⟨f, c', rfl, sm, tb, h1, h2⟩⟩) fun u s' ⟨v, H1, I1, r1, f, c', ev, sm, tb1, hf1, hc1⟩ => ?_)
  subst ev
  obtain rfl : u = Value.ref f := r1
  refine Calls.spliced_nil ⟨I1.kIn, ?_⟩
  have gr1 : Grow Z H Z H1 := ⟨Same.refl Z, r.zh.trans sm, sm, fun _ => tb1, fun _ h => .inl h⟩
  have rl := r.grow gr1
  obtain ⟨oc, od, kV, doc, pm, an, cdv, ct, osl, rfl, lk, hcd⟩ := hD.ex
  have rc : codeAny (model X.prog X.w) X.A (.call (.ref g) ⟨[.ref f], []⟩) (CR CX0 X.stack X.prog X.w H1 s' Q fun _ _ _ => False) s' := by
    refine LamX.run_ofS (N := Ng) (ps := [a]) (us := [.ref f]) (vs := [.ref f]) lk hcd Sg hr I1.env0 (hb s' [.ref f] I1.kIn rfl) (.cons rfl .nil) rfl fun hr' => ?_
    let XN : Cx := (cxOf CX0 X.prog X.w X.K X.mg X.base Ng x (defScope stg) g cdv X.A X.stack s' H1 fun _ _ _ => False).nox
    let ts : Addr → Value → Option Addr → TS := fun _ _ _ D σ H => ∃ v, σ[i]? = some (some v) ∧ D.nx (σ.set j (some v)) H
    let FE : XK → Fm := fun E => { F with W := fun c d _ H => E (.ref (LabW.C c)) d H }
    let tb : WX → TS := fun W D σZ HZ => ∃ E : XK, (∀ cls d H', E cls d H' → W cls d σZ H') ∧ σZ[0]? = some (some (.ref f)) ∧ HZ f = some (LamO f (lamQ X) params body scope (cloFrom X.env.cells scope.names []) c') ∧ HZ c' = some (LamX.CodeO c' (lamQ X)) ∧ tDX X.K (FE E) fX σ HZ fun _ H' => D.nx σZ H'
    have S1 : PS XN (.Assign [.Name y p1] (.Constant .none j0 p2) p3) _ := ps_set (X := XN) (i := j) Sg.nd hNy (.inl hly) pe_non
    have S3 : PSs XN rest (fun D σ H => ∃ Fg : Fm, Fg.W = W0 ∧ tDS X.K Fg gr D σ H) := ⟨fun pins s σ H D I ⟨Fg, hw, h⟩ => (hrest cdv X.A X.stack s' H1 (fun _ _ _ => False) Fg rfl hw hgd hr').run pins s σ H D I h⟩
    have S2 : PS XN (.Try [.Expr (.Call (.Name a p4) [] [] p5) p6] [.ExceptHandler (some t) (some n) [.Assign [.Name y p7] (.Name n p8) p9] p10] [] [] p11) (fun D σ H => tb (wHold X.K cl i ts (fun _ _ _ _ => False) D) D σ H) := by
      refine ps_try_hold (X := XN) (tb := tb) (ts := ts) rfl rfl rfl Sg.nd hNn hln (hc XN rfl rfl rfl) LamX.takes0 (fun W pn xe tk _ => ?_) (fun a0 cls d pn => ?_)
      · refine pss_imp (pss_one (ps_expr (pe_actL (CXg := CX0) (Eg := fun _ _ _ => False) (tb := fun E => tDX X.K (FE E) fX) (k := k) (i := 0) (a := a) I1 L hbind tk hr' (fun A outer sq H E hA hr2 => hbX A outer sq H E f c' (FE E) ?_ (fun z => hA.trans (hgd z)) hr2) hNa hva da ca))) fun D σ H h => h
        exact (takes_of (E := E) rfl rfl rfl rfl).imp fun cls d σ' H' h => by
          obtain ⟨c, rfl, h⟩ := h
          exact h
      · exact pss_imp (pss_one (ps_set (X := XN.suite a0 pn) (i := j) Sg.nd hNy (.inl hly) (pe_var (i := i) hNn (.inl hln) dn cn))) fun D σ H ⟨v, h1, h2⟩ => ⟨v, h1, h2⟩
    rw [hbd]
    refine ⟨_, (pss_cons S1 (pss_cons S2 S3)).nox, ?_⟩
    let D0 : Ends := { nx := fun _ H' => Q .non H', rt := Q }
    let D1 : Ends := { D0 with nx := fun σ' H' => ∃ Fg : Fm, Fg.W = W0 ∧ tDS X.K Fg gr D0 σ' H' }
    have fin : ∀ {Z' H' : Hp} {e1 : DEnv} {dv : PyData} {v0 : V} {σ' : St}, Rel X.K F Z' H' σ e1 → Stp σ env Z H e1 Z' H' → σ'.length = nS → σ'[j]? = some (some v0) → DD X.K Z' v0 dv →
        (retD (gr ((List.replicate nS none).set j (some (.fr dv))))).map (fun d => (d, e1)) = some (d, env') → D1.nx σ' H' := fun {Z' H' e1 dv v0 σ'} r' s1 hl hj hd he => by
      obtain ⟨d2, h2, e3⟩ := mpd he
      obtain ⟨rfl, rfl⟩ := Prod.mk.inj e3
      refine ⟨⟨Z', H', fun _ => False, W0⟩, rfl, Z', (List.replicate nS none).set j (some (.fr dv)), ?_⟩
      generalize hgr : gr ((List.replicate nS none).set j (some (.fr dv))) = o at h2
      have back : ∀ {σ2 : St} {Z2 H2 : Hp} {ee : DEnv}, Rel X.K ⟨Z', H', fun _ => False, W0⟩ Z2 H2 σ2 ee → Grow Z' H' Z2 H2 := fun {σ2 Z2 H2 ee} r2 => ⟨r2.z0, r2.zh, r2.gh, fun _ => r2.tb, fun q hq => (r2.nw q hq).imp id (·.1)⟩
      match o, h2 with
      | some (.rt d0 e0), h2 =>
        cases h2
        exact ⟨_, rel_fresh r'.zh r'.tb hl hj hd, rfl, fun v2 σ2 Z2 H2 r2 s2 dd2 => q v2 Z2 H2 (r'.grow (back r2)) (s1.trans (back r2).stp) dd2⟩
      | some (.nx e0), h2 =>
        cases h2
        exact ⟨_, rel_fresh r'.zh r'.tb hl hj hd, rfl, fun σ2 Z2 H2 r2 s2 => q .non Z2 H2 (r'.grow (back r2)) (s1.trans (back r2).stp) .non⟩
    let σ1 : St := (L2.start Ng [V.ref f]).set j (some .non)
    have l1 : σ1.length = nS := by show ((L2.start Ng [V.ref f]).set j (some .non)).length = nS; rw [List.length_set, hls]
    have hjn : j < nS := by rw [← hlen]; exact (List.getElem?_eq_some_iff.mp hNy).1
    have hin : i < nS := by rw [← hlen]; exact (List.getElem?_eq_some_iff.mp hNn).1
    show tb (wHold X.K cl i ts (fun _ _ _ _ => False) D1) D1 σ1 H1
    refine ⟨fun cls d H' => wHold X.K cl i ts (fun _ _ _ _ => False) D1 cls d σ1 H', fun _ _ _ h => h, ?_, hf1, hc1, Z, env, rX, rl.wish, hfX, ?_⟩
    · show ((L2.start Ng [V.ref f]).set j (some .non))[0]? = _
      rw [List.getElem?_set_ne (Ne.symm hj0)]
      exact h0 f
    cases rX with
    | ok d1 e1 =>
      intro v Z' H' r' s1 _
      exact fin r'.unwish (gr1.stp.trans s1) l1 (List.getElem?_set_self (by rw [hls]; exact hjn)) .non e
    | ex c0 a0 d0 e1 =>
      dsimp only at e
      split at e
      case isFalse => cases e
      rename_i hca
      obtain ⟨hmc, rfl⟩ := hca
      intro v p Z' H' r' s1 hp0 hz hg' hP hx dd
      refine ⟨true, hmt c0 true hmc, fun _ b0 nb => ?_, fun z => nomatch z⟩
      have r1' := rel_adopt r'.unwish hz hg' hP hx
      have z1 : Same Z' (upd Z' p (.xd [(at' c0, v)])) := .of (same_new hz _)
      have gr3 := grow_new r1'.zh nb (ExO b0 (.ref (LabW.C c0)) (some p))
      have s0 : Stp σ env Z H e1 Z' H' := gr1.stp.trans s1
      have s2 : Stp σ env Z H e1 (upd Z' p (.xd [(at' c0, v)])) H' := ⟨s0.z.trans z1, s0.h, fun q h1 h2 h3 => by
        by_cases hb : q = p
        · subst hb
          exact absurd hp0 (gr1.h.k q h3)
        · rw [upd_ne hb] at h1
          exact s0.n q h1 h2 h3, s0.o, s0.k⟩
      refine ⟨.ref b0, List.getElem?_set_self (by rw [l1]; exact hin), ?_⟩
      show D1.nx (((σ1.set i (some (.ref b0))).set j (some (.ref b0))).set i none) _
      refine fin (v0 := .ref b0) (r1'.grow gr3) (s2.trans gr3.stp) (by rw [List.length_set, List.length_set, List.length_set]; exact l1) ?_ (dd_exc r1'.zh (hk.k c0 hmc) (hk.n c0 hmc) nb upd_same (DDm dd z1)) e
      rw [List.getElem?_set_ne hij, List.getElem?_set_self (by rw [List.length_set, l1]; exact hjn)]
  refine wpAny_call (codeAny_mono rc fun r s2 hq => ?_)
  cases r with
  | error e => exact (show False from hq).elim
  | ok fl =>
    cases fl with
    | ret u => exact I1.after hq
    | next => exact False.elim hq
    | brk => exact False.elim hq
    | cont => exact False.elim hq
end
/-! ### checks of classes -/
section
omit [Lab]
def kexB (K : PySem.W.Frag) (C : Addr) : Bool :=
  (PySem.W.clsIn K C).isSome && (decide (PySem.W.findIn K (.ref C) "__getattribute__" = some (some (.builtin "BaseException.__getattribute__"))) && (decide (PySem.W.findIn K (.ref C) "__getattr__" = some none) && (decide (PySem.W.subIn K (.ref C) (.type "BaseException") = some true) && (PySem.W.hasDictIn K C &&
  (decide (PySem.W.findIn K (.ref C) "__class__" = some (some (.builtin "object.__class__"))) && (decide (PySem.W.specialIn K (.builtin "object.__class__") "__get__" = some (some (.builtin "getset_descriptor.__get__"))) && (decide (PySem.W.takesIn K (.builtin "object.__class__") = some true) && (decide (PySem.W.mroIn K C (.type "object") = some true) &&
  fiveT.all fun T => decide (PySem.W.kitOne K (.ref C) (.type T) = some false)))))))))
theorem kexB_ok {K : PySem.W.Frag} {C : Addr} (h : kexB K C = true) : KEx K C := by
  unfold kexB at h
  simp only [Bool.and_eq_true, decide_eq_true_eq, List.all_eq_true] at h
  obtain ⟨h1, h2, h3, h4, h5, h6, h7, h8, h9, h10⟩ := h
  exact ⟨h1, h2, h3, h4, h5, h6, h7, h8, h9, h10⟩
def kitTab (K : PySem.W.Frag) (l : List (Addr × Value × Bool)) : Bool := l.all fun x => decide (PySem.W.kitOne K (.ref x.1) x.2.1 = some x.2.2)
end
theorem RestOk.mono {P : Program} {w : World} {K : PySem.W.Frag} {mg : Str → Option Value} {base : Heap} {N : List Str} {qual : Str} {st : Stmt} {f : Addr} {cv : Value} {k k' : Nat} {rest : List Stmt} {g : DEnv → Option DFlow} (h : RestOk P w K mg base N qual st f cv k rest g) (hk : k ≤ k') : RestOk P w K mg base N qual st f cv k' rest g :=
  fun cdv A outer s H E F hcv hW hgd hr => h cdv A outer s H E F hcv hW hgd (hr.mono hk)
/-! ### f(a=.., b=..), f may raise -/
section
variable {X : Cx} {F : Fm} {W : WX} {C : Str → Addr} {k n : Nat} {f : Addr} {fd : FuncData} {ps ks : List Str} {sp : Sp} {x : Str} {p pos : Pos} {tk' : TA} {kws : List Keyword} {fk : DEnv → Option (List PyData × DEnv)} {gU : List Value → List Value} {gW : List V → List V}
omit [Lab] in
theorem pe_xcallK0 [Lab] (tk : Takes X W) (G : FnX X.prog X.w X.K X.mg X.base k f fd ps sp) (hgd : GdOk X.A) (hr : Room k X.A) (hm : X.mg x = some (.ref f)) (hk : PySem.W.keepIn X.K (.ref f) = true)
    (hb : ∀ (s : Shared) (ws : List Value), (gU ws).length = ps.length → BindsTo s fd ⟨[], ks.zip ws⟩ (ps.zip (gU ws))) (hrel : ∀ {zs : List V} {ws : List Value}, Vals zs ws → Vals (gW zs) (gU ws))
    (hkw : L2.PK X kws tk') (hg : Gl X x := by rfl) (hall : (backToKw pos (keywordEach kws X.env)).all (·.1.isSome) = true := by rfl) (hks : (backToKw pos (keywordEach kws X.env)).filterMap (·.1) = ks := by rfl)
    (hdb : (x == ("__debug__" : Str)) = false := by decide)
    (hpl : ((backTo pos (starEach [] X.env)).any (·.1) || (backToKw pos (keywordEach kws X.env)).any (·.1.isNone)) = false := by rfl) :
    PE X (.Call (.Name x p) [] kws pos) (fun σ H Q => tk' σ H fun zs H2 => sp (gW zs) H2 Q fun cls d H' => W cls d σ H') := by
  refine ⟨fun pins s σ H Q I h => wpAny_Call_Name_kw (ld_glob I hg hm (PySem.W.callWith_KW0 (h₀ := X.base) I.ok.mod.kin hk hall (thn (hkw.run pos pins s σ H _ I h) ?_) hpl) hdb)⟩
  rintro ws s2 ⟨zs, H2, I2, rz, q2⟩
  have r2 := hrel rz
  have hl : (gU ws).length = ps.length := by rw [← r2.length]; exact G.len _ _ _ _ q2
  refine ⟨I2.kIn, ?_⟩
  rw [hks]
  exact run_x (args := ⟨[], ks.zip ws⟩) (us := gU ws) tk G hgd hr (hb s2 ws hl) I2 r2 q2
def fCXK0 (gD : List PyData → List PyData) (m : List PyData → Option XR) (fk : DEnv → Option (List PyData × DEnv)) (env : DEnv) : Option DX := (fk env).bind fun x => (m (gD x.1)).map (toX x.2)
theorem pdx_callK0 {m : List PyData → Option XR} (gD : List PyData → List PyData) (hgD : ∀ (K : PySem.W.Frag) (Z : Hp) (vs : List V) (ds : List PyData), DDs K Z vs ds → DDs K Z (gW vs) (gD ds)) (tk : Takes X (wx C F.W)) (G : FnX X.prog X.w X.K X.mg X.base k f fd ps (spX X.K C n m)) (hn : ∀ ds r, m ds = some r → ds.length = n) (hgd : GdOk X.A) (hr : Room k X.A) (hm : X.mg x = some (.ref f)) (hk : PySem.W.keepIn X.K (.ref f) = true)
    (hb : ∀ (s : Shared) (ws : List Value), (gU ws).length = ps.length → BindsTo s fd ⟨[], ks.zip ws⟩ (ps.zip (gU ws))) (hrel : ∀ {zs : List V} {ws : List Value}, Vals zs ws → Vals (gW zs) (gU ws))
    (hkw : PDK X F kws fk) (hg : Gl X x := by rfl) (hall : (backToKw pos (keywordEach kws X.env)).all (·.1.isSome) = true := by rfl) (hks : (backToKw pos (keywordEach kws X.env)).filterMap (·.1) = ks := by rfl)
    (hdb : (x == ("__debug__" : Str)) = false := by decide)
    (hpl : ((backTo pos (starEach [] X.env)).any (·.1) || (backToKw pos (keywordEach kws X.env)).any (·.1.isNone)) = false := by rfl) :
    PDX X F (.Call (.Name x p) [] kws pos) (fCXK0 gD m fk) :=
  pe_imp (pe_xcallK0 tk G hgd hr hm hk hb hrel hkw hg hall hks hdb hpl) fun σ H Q h => by
    obtain ⟨Z, env, r0, r, e, q⟩ := h
    obtain ⟨⟨xs, e1⟩, h1, h⟩ := bnd e
    obtain ⟨y, h2, h⟩ := mpd h
    subst h
    refine ⟨Z, env, xs, e1, r, h1, fun vs Z1 H1 r1 s1 d1 => ?_⟩
    have d2 := hgD _ _ _ _ d1
    refine ⟨(dds_len d2).trans (hn _ _ h2), Z1, gD xs, y, r1.zh, r1.tb, d2, h2, ?_⟩
    cases y with
    | ok d => exact fun v Z' H' gr dd => q v Z' H' (r1.grow gr) (s1.trans gr.stp) dd
    | ex c a d => exact fun v p Z' H' gr h0 hz hp dd => ⟨c, rfl, q v p Z' H' (r1.grow gr) (s1.trans gr.stp) (s1.new h0) hz (r1.gh.free h0) (fun z => (r1.pp p z).1 h0) hp dd⟩
end
end DL
end L2


set_option Elab.async false
set_option maxRecDepth 100000
set_option maxHeartbeats 4000000
set_option autoImplicit false
namespace L2
namespace DL
open PySem PySem.Spec PyProof.Rows
variable [Lab]
section
variable {X : Cx} {F : Fm} {a e : Expr} {fa f : DEnv → Option (PyData × DEnv)} {p pos : Pos}
end
end DL
end L2


set_option Elab.async false
set_option maxRecDepth 100000
set_option maxHeartbeats 4000000
set_option autoImplicit false
namespace PySem
namespace HandSPX
open PySem.W PySem.Calls PyProof.Rows
section
variable {M : Model} {prog : Program} {w : World} {A : Around} {E : Value → Shared → Prop} {R : Result → Shared → Prop} {h : Heap} {g : Array GenState} {d : Drawn} {t : Nat} {os : OsState}
variable {nm q : Str} {C N : Addr} {bs bm bmB : List Value} {hdct : Bool} {sn : List Str} {sub : List Value} {ab : Bool} {col : Option Bool} {dd : Option Addr} {k0 k1 k2 k3 k5 : Option Value} {B newId initId : String}
end
end HandSPX
end PySem


/-! own exceptions over ArithmeticError, each with its one attribute -/
set_option maxRecDepth 4000
namespace PySem
namespace OEA
open PySem.W PySem.Calls PyProof.Rows PySem.HandSPX
abbrev leTail : List Value := [.type "ArithmeticError", .type "Exception", .type "BaseException", .type "object"]
def isRf : Value → Bool
  | .ref _ => true
  | _ => false
theorem isRf_ref {v : Value} (h : isRf v = true) : ∃ c, v = .ref c := by
  cases v <;> first | exact ⟨_, rfl⟩ | cases h
/-- own classes, then the mro of ArithmeticError -/
def leB : List Value → Bool
  | [] => false
  | a :: r => (isRf a && leB r) || (a :: r == leTail)
inductive LeM : List Value → Prop where
  | tail : LeM leTail
  | ref (c : Addr) {l : List Value} (h : LeM l) : LeM (.ref c :: l)
theorem leB_M : ∀ {l : List Value}, leB l = true → LeM l
  | [], h => by cases h
  | a :: r, h => by
    unfold leB at h
    rcases (Bool.or_eq_true _ _).mp h with z | z
    · obtain ⟨z1, z2⟩ := (Bool.and_eq_true _ _).mp z
      obtain ⟨c, rfl⟩ := isRf_ref z1
      exact .ref c (leB_M z2)
    · rw [beq_iff_eq.mp z]
      exact .tail
theorem LeM.contains (X : String) {l : List Value} (h : LeM l) : l.contains (.type X) = leTail.contains (.type X) := by
  induction h with
  | tail => rfl
  | ref c h ih => rw [List.contains_cons, ih]; rfl
theorem LeM.passes (self : Value) {l : List Value} (h : LeM l) : refuseLoop self "__setattr__" l = pure () := by
  induction h with
  | tail => kernel_rfl
  | ref c h ih => rw [refuseLoop_ref]; exact ih
theorem LeM.some {l : List Value} (h : LeM l) : l.isEmpty = false := by
  cases h <;> rfl
section
open Builtin Builtin.ObjectAttr
variable {prog : Program} {w : World} {A : Around} {E : Value → Shared → Prop} {R : Result → Shared → Prop} {hp : Heap} {g : Array GenState} {d : Drawn} {t : Nat} {os : OsState}
/-- the first attribute of such an exception -/
theorem first_attr {K : W.Frag} {name : Str} {tk : Tok} {v : Value} {x C : Addr} {fv : Array Value} {cd : ClassData}
    (X : K.In hp) (hx : hp.get? x = Option.some { cls := .ref C, data := .fields fv }) (hcd : W.clsIn K C = Option.some cd) (hm : LeM cd.mro) (hh : cd.hasDict = true) (ha : W.findIn K (.ref C) name = Option.some none)
    (hq : ∀ h' tk' dx, (∀ b o, b ≠ x → hp.get? b = Option.some o → h'.get? b = Option.some o) → hp.objs.size ≤ dx → dx ≠ x → h'.get? x = Option.some { cls := .ref C, dict := Option.some dx, data := .fields fv } →
      h'.Ns1 dx (fun y => if y = name then Option.some v else none) → R (.ok (.ret .none)) ⟨h', g, d, tk', os⟩) :
    codeAny (model prog w) A (.call (.builtin "object.__setattr__") ⟨[.ref x, .str name tk, v], []⟩) R ⟨hp, g, d, t, os⟩ := by
  have I : W.InstAt hp x { cls := .ref C, data := .fields fv } C none := ⟨hx, rfl, rfl, trivial⟩
  have S := F.store_object
  have xs : x ≠ hp.objs.size := Nat.ne_of_lt (Heap.lt_size hx)
  have isO : W.mroIn K C (.type "object") = Option.some true := by
    unfold W.mroIn
    rw [hcd, Option.bind_some, if_neg (by rw [hm.some]; decide), hm.contains]
    decide +kernel
  refine codeAny_call_builtin S.slot.plain S.entry (@W.check_slot (model prog w) _ _ ⟨hp, g, d, t, os⟩ "object.__setattr__" "object" "__setattr__" (.ref x) [.str name tk, v] [] _ S.kind S.split (I.type.andThen (W.looks_mroIn X isO)) (S.args (.ref x) (.str name tk) v) ?_)
  have l1 : W.Looks (model prog w) hp (mroOf (.ref C)) cd.mro := (W.looks_clsIn X hcd).andThen .now
  have l2 : W.Looks (model prog w) hp (storeTaker? none) none := .now
  have l3 : W.Looks (model prog w) hp (classData C) cd := W.looks_clsIn X hcd
  rw [W.osa_eq, refuse_eq]
  refine wpAny_bind (wpAny_bind (I.type.at (wpAny_bind (l1.at ?_))))
  rw [hm.passes]
  refine wpAny_pure (wpAny_bind (I.type.at (wpAny_bind ((W.looks_findIn X ha).at (wpAny_bind (l2.at ?_))))))
  show wpAny _ _ (storeInOwnDict (.ref x) (.ref C) (.str name tk) name v false) _ _ _
  obtain ⟨nm, bs, mro, ns, qn, hd, sn, sb, ab, col, del⟩ := cd
  dsimp only at hh
  subst hh
  unfold storeInOwnDict ownDictForStores
  repeat (first | with_reducible refine store_in_new ?_ ?_ | with_reducible refine wpAny_loadPart_at hx ?_ | with_reducible refine l3.at ?_ | wp_step)
  · exact ⟨_, #[], _, (Heap.get?_update_ne _ _ _ _ xs.symm).trans (Heap.get?_push_at rfl rfl), rfl, fun e he => absurd he (by simp), fun _ => rfl⟩
  · intro h' tk' hn' hs
    refine hq h' tk' hp.objs.size (fun b o hb ho => (hs.2 b (Nat.ne_of_lt (Heap.lt_size ho))).trans ((Heap.get?_update_ne _ _ _ _ hb).trans (Heap.get?_push_of_some _ ho))) (Nat.le_refl _) xs.symm ((hs.2 x xs).trans (Heap.get?_update_self _ (Heap.get?_push_of_some _ hx) rfl)) hn'
end
end OEA
end PySem
namespace L2
open PySem PySem.Spec PyProof.Rows PySem.OEA
/-- what is known of an own class over ArithmeticError -/
structure OexA (K : PySem.W.Frag) (C : Addr) : Prop where
  cls : ∃ nm q N bs bm sn sub ab col dd k0 k1 k2 k3 k5, K.lookup C = some (excClassObj nm q C N bs bm true sn sub ab col dd k0 k1 k2 k3 k5 "ArithmeticError.__new__") ∧ leB bm = true
  sa : PySem.W.findIn K (.ref C) "__setattr__" = some (some (.builtin "object.__setattr__"))
  exC : PySem.W.subIn K (.ref C) (.type "BaseException") = some true
  tyC : PySem.W.typeIn K (.ref C) = some (.type "type")
  kC : PySem.W.keepIn K (.ref C) = true
section
variable {X : Cx} {pins : List (Addr × Obj)} {σ : St} {H : Hp} {s : Shared} {a C dx : Addr} {f : Str} {y : V} {u : Value} {Q : Unit → Shared → Prop} {E : Value → Shared → Prop} {A : Around}
end
namespace DL
variable [Lab]
end DL
end L2


set_option Elab.async false
set_option maxRecDepth 100000
set_option maxHeartbeats 4000000
set_option autoImplicit false
namespace L2
open PySem PySem.Spec PyProof.Rows
section
variable {X : Cx} {pins : List (Addr × Obj)} {σ : St} {H : Hp}
end
namespace DL
variable [Lab]
/-- a table of truths by the classes' names -/
def tabI : List (Str × Bool) → Str → Option Bool
  | [], _ => none
  | x :: l, c => if c = x.1 then some x.2 else tabI l c
omit [Lab] in
theorem tabI_ok {K : PySem.W.Frag} {C : Str → Addr} {v : Value} {l : List (Str × Bool)} (h : kitTab K (l.map fun x => (C x.1, v, x.2)) = true) : ∀ c b, tabI l c = some b → PySem.W.kitOne K (.ref (C c)) v = some b := by
  induction l with
  | nil => intro c b e; cases e
  | cons x l ih =>
    intro c b e
    unfold tabI at e
    unfold kitTab at h
    rw [List.map_cons, List.all_cons, Bool.and_eq_true] at h
    split at e
    · rename_i z
      cases e
      rw [z]
      exact of_decide_eq_true h.1
    · exact ih h.2 c b e
end DL
end L2


set_option Elab.async false
set_option maxRecDepth 100000
set_option maxHeartbeats 4000000
set_option autoImplicit false
namespace L2
namespace DL
open PySem PySem.Spec PyProof.Rows
variable [Lab]
/-! ### for x in [f, g]: .. -/
def gFn (i : Nat) (d : PyData) (env : DEnv) : Option DEnv := match d with
  | .str n => some (env.set i (some (.fn n)))
  | _ => none
theorem Rel.storeFn {K : PySem.W.Frag} {F : Fm} {Z H : Hp} {σ : St} {env : DEnv} (r : Rel K F Z H σ env) (i : Nat) (n : Str) : Rel K F Z H (σ.set i (some (.ref (LabW.C n)))) (env.set i (some (.fn n))) :=
  r.put i _ _ (fun dv e hl => by cases e; exact List.getElem?_set_self hl) (fun dv p e o _ => by cases e; cases o)
def sForFn (i : Nat) (ns : List Str) (b : DEnv → Option DFlow) (env : DEnv) : Option DFlow := forD (gFn i) b (ns.map .str) env
theorem ds_forFn {X : Cx} {F : Fm} {f1 f2 x : Str} {pn pl p1 p2 pos : Pos} {ss : List Stmt} {h1 : DEnv → Option DFlow} (j : Nat) (m1 : X.mg f1 = some (.ref (LabW.C f1))) (m2 : X.mg f2 = some (.ref (LabW.C f2))) (hb : PDSs X F ss h1) (hN : X.N.Nodup) (g1 : Gl X f1 := by rfl) (g2 : Gl X f2 := by rfl) (d1 : (f1 == ("__debug__" : Str)) = false := by decide) (d2 : (f2 == ("__debug__" : Str)) = false := by decide)
    (hi : X.N[j]? = some x := by rfl) (hx : Loc X.env.scope x := by first | exact Or.inl rfl | exact Or.inr rfl) (hf : X.fn x = true ∨ X.env.scope.names.lookup x = some .local := by first | exact .inl rfl | exact .inr rfl | assumption)
    (hp : PassesOwn (model X.prog X.w) X.A X.env X.xe := by exact PassesOwn.never) (hc : X.calm = true := by rfl) (hs : ∀ y, foldedSetIterable (.List [.Name f1 p1, .Name f2 p2] pl) X.env y = pure y := by intro _; rfl)
    (he : starEach [.Name f1 p1, .Name f2 p2] X.env = (false, eval (.Name f1 p1) X.env) :: starEach [.Name f2 p2] X.env := by rfl) (he2 : starEach [.Name f2 p2] X.env = (false, eval (.Name f2 p2) X.env) :: starEach [] X.env := by rfl) :
    PDS X F (.For (.Name x pn) (.List [.Name f1 p1, .Name f2 p2] pl) ss [] pos) (sForFn j [f1, f2] h1) :=
  ps_imp (ps_for hp hc (pi_list (pe_lst (pa_cons (pe_glob (v := .ref (LabW.C f1)) g1 m1 rfl d1) (pa_cons (pe_glob (v := .ref (LabW.C f2)) g2 m2 rfl d2) pa_nil he2) he))) (pg_name hN hi hx hf) hb hs) fun D σ H h => by
    obtain ⟨Z, env, fl, r, e, q⟩ := h
    let xs : List V := [.ref (LabW.C f1), .ref (LabW.C f2)]
    refine ⟨by show 2 ≤ sizeLine; rw [sizeLine_eq]; omega, fun a ha => ?_⟩
    have gr := grow_new r.zh ha (.lst xs)
    have r1 := r.grow gr
    have ls : LsR X.K (upd Z a (.lst xs)) a xs := .inl (Rd.of upd_same)
    refine ⟨a, rfl, ⟨xs, (same_ls gr.zh ls).sq⟩, ?_⟩
    refine for_it (walk_list (K := X.K) (a := a) (xs := xs)) (fun i σ' H' => ∃ Z' env', Same (upd Z a (.lst xs)) Z' ∧ Rel X.K F Z' H' σ' env' ∧ forD (gFn j) h1 (([f1, f2].map PyData.str).drop i) env' = some fl) ⟨_, env, Same.refl _, r1, e⟩ ?_ ?_ ?_
    · rintro i σ' H' hi ⟨Z', env', s', r', _⟩
      exact (same_ls (s'.trans r'.zh) ls).sq
    · rintro i y σ' H' H2 hi ⟨Z', env', s', r', e'⟩ w
      obtain ⟨rfl, w⟩ := w
      obtain ⟨n, ed, rfl⟩ : ∃ n, ([f1, f2].map PyData.str).drop i = .str n :: ([f1, f2].map PyData.str).drop (i + 1) ∧ y = .ref (LabW.C n) := by
        match i, w with
        | 0, w => cases w; exact ⟨f1, rfl, rfl⟩
        | 1, w => cases w; exact ⟨f2, rfl, rfl⟩
        | i + 2, _ => exact absurd hi (by show ¬ i + 2 < 2; omega)
      rw [ed] at e'
      obtain ⟨e2, g2, e'⟩ := bnd e'
      cases g2
      obtain ⟨f2', b2, e'⟩ := bnd e'
      refine ⟨Z', _, f2', r'.storeFn j n, b2, ?_⟩
      cases f2' with
      | nx e3 => exact fun σ3 Z3 H3 r3 s3 => ⟨Z3, e3, s'.trans s3, r3, e'⟩
      | ct e3 => exact fun σ3 Z3 H3 r3 s3 => ⟨Z3, e3, s'.trans s3, r3, e'⟩
      | bk e3 =>
        cases e'
        exact fun σ3 Z3 H3 r3 s3 => q σ3 Z3 H3 r3 ((gr.z.trans s').trans s3)
      | rt d3 e3 =>
        cases e'
        exact fun v σ3 Z3 H3 r3 s3 => q v σ3 Z3 H3 r3 ((gr.z.trans s').trans s3)
      | rn d3 e3 =>
        cases e'
        exact fun p xs σ3 Z3 H3 r3 s3 => q p xs σ3 Z3 H3 r3 ((gr.z.trans s').trans s3)
      | ex c3 a3 d3 e3 =>
        cases e'
        exact fun v p σ3 Z3 H3 r3 s3 => q v p σ3 Z3 H3 r3 ((gr.z.trans s').trans s3)
    · rintro σ' H' ⟨Z', env', s', r', e'⟩
      cases e'
      exact q σ' Z' H' r' (gr.z.trans s')
/-! ### x(..), x a slot that keeps one of some functions -/
def mtab {α : Type} : List (Str × α) → Str → Option α
  | [], _ => none
  | x :: l, n => if n = x.1 then some x.2 else mtab l n
def rdFn (i : Nat) (env : DEnv) : Option Str := match env[i]? with
  | some (some (.fn n)) => some n
  | _ => none
theorem Rel.rdFn {K : PySem.W.Frag} {F : Fm} {Z H : Hp} {σ : St} {env : DEnv} {i : Nat} {n : Str} (r : Rel K F Z H σ env) (h : DL.rdFn i env = some n) : σ[i]? = some (some (.ref (LabW.C n))) := by
  unfold DL.rdFn at h
  split at h
  · rename_i m e
    cases h
    exact r.sl i _ e
  · cases h
def fCXV (i : Nat) (ms : List (Str × (List PyData → Option XR))) (fa : DEnv → Option (List PyData × DEnv)) (env : DEnv) : Option DX := (rdFn i env).bind fun n => (mtab ms n).bind fun m => (fa env).bind fun x => (m x.1).map (toX x.2)
def fCXVK (i : Nat) (gD : List PyData → List PyData) (ms : List (Str × (List PyData → Option XR))) (fk : DEnv → Option (List PyData × DEnv)) (env : DEnv) : Option DX := (rdFn i env).bind fun n => (mtab ms n).bind fun m => (fk env).bind fun x => (m (gD x.1)).map (toX x.2)
structure CalV (P : Program) (w : World) (K : PySem.W.Frag) (mg : Str → Option Value) (base : Heap) (C : Str → Addr) (k nA : Nat) (ps ks : List Str) (gU : List Value → List Value) (n : Str) (m : List PyData → Option XR) : Prop where
  g : ∃ fd, FnX P w K mg base k (LabW.C n) fd ps (spX K C nA m) ∧ Binds K fd ps [] ∧ ∀ (s : Shared) (ws : List Value), (gU ws).length = ps.length → BindsTo s fd ⟨[], ks.zip ws⟩ (ps.zip (gU ws))
  kp : PySem.W.keepIn K (.ref (LabW.C n)) = true
  ln : ∀ ds r, m ds = some r → ds.length = nA
section
variable {X : Cx} {F : Fm} {W : WX} {C : Str → Addr} {k nA i : Nat} {ps ks : List Str} {x : Str} {p pos : Pos} {e : Expr} {es : List Expr} {t : TA} {kws : List Keyword} {fa fk : DEnv → Option (List PyData × DEnv)} {gU : List Value → List Value} {gW : List V → List V} {ms : List (Str × (List PyData → Option XR))}
theorem pe_xcallV (tk : Takes X W) (hgd : GdOk X.A) (hr : Room k X.A) (ha : PA X (e :: es) t) (hN : X.N[i]? = some x) (hv : Vis X.env.scope x) (hd : (x == ("__debug__" : Str)) = false) (hcd : (x == ("__classdict__" : Str)) = false)
    (he : starEach (e :: es) X.env = (false, eval e X.env) :: starEach es X.env) (hpl : (backTo pos (starEach es X.env)).any (·.1) = false) :
    PE X (.Call (.Name x p) (e :: es) [] pos) (fun σ H Q => ∃ (f : Addr) (fd : FuncData) (ps : List Str) (sp : Sp), FnX X.prog X.w X.K X.mg X.base k f fd ps sp ∧ Binds X.K fd ps [] ∧ PySem.W.keepIn X.K (.ref f) = true ∧ σ[i]? = some (some (.ref f)) ∧ t σ H fun vs H1 => sp vs H1 Q fun cls d H' => W cls d σ H') := by
  refine ⟨fun pins s σ H Q I h => ?_⟩
  obtain ⟨f, fd, ps, sp, G, hb, hk, hs, h⟩ := h
  refine wpAny_Call_Name_kw (thn ((pe_var (pos := p) (i := i) hN hv hd hcd).run pins s σ H (fun v H1 => v = .ref f ∧ H1 = H) I ⟨.ref f, hs, rfl, rfl⟩) fun u s1 ⟨v, H1, I1, r1, q1⟩ => ?_)
  obtain ⟨ev, eH⟩ := q1
  subst ev
  rw [eH] at I1
  obtain rfl : u = Value.ref f := r1
  refine PySem.W.callWith_K (h₀ := X.base) I1.ok.mod.kin hk (thn (ha.run pos pins s1 σ H _ I1 h) ?_) he hpl
  rintro us s2 ⟨vs, H2, I2, rv, q⟩
  have hl : us.length = ps.length := by rw [← rv.length]; exact G.len _ _ _ _ q
  refine ⟨I2.kIn, run_x (args := ⟨us, []⟩) (us := us) tk G hgd hr ?_ I2 rv q⟩
  have := hb s2 us I2.kIn (by rw [List.append_nil]; exact hl)
  rw [List.append_nil] at this
  exact this
theorem pdx_callV (i : Nat) (tk : Takes X (wx C F.W)) (G : ∀ n m, mtab ms n = some m → CalV X.prog X.w X.K X.mg X.base C k nA ps ks gU n m) (hgd : GdOk X.A) (hr : Room k X.A) (ha : PDA X F (e :: es) fa) (hN : X.N[i]? = some x := by rfl) (hv : Vis X.env.scope x := by first | exact Or.inl rfl | exact Or.inr (Or.inl rfl) | exact Or.inr (Or.inr rfl)) (hd : (x == ("__debug__" : Str)) = false := by decide) (hcd : (x == ("__classdict__" : Str)) = false := by decide)
    (he : starEach (e :: es) X.env = (false, eval e X.env) :: starEach es X.env := by rfl) (hpl : (backTo pos (starEach es X.env)).any (·.1) = false := by rfl) :
    PDX X F (.Call (.Name x p) (e :: es) [] pos) (fCXV i ms fa) :=
  pe_imp (pe_xcallV tk hgd hr ha hN hv hd hcd he hpl) fun σ H Q h => by
    obtain ⟨Z, env, r0, r, e, q⟩ := h
    obtain ⟨n, hn, e⟩ := bnd e
    obtain ⟨m, hm, e⟩ := bnd e
    obtain ⟨⟨xs, e1⟩, h1, h⟩ := bnd e
    obtain ⟨y, h2, h⟩ := mpd h
    subst h
    have g := G n m hm
    obtain ⟨fd, g1, g2, _⟩ := g.g
    refine ⟨_, fd, ps, _, g1, g2, g.kp, r.rdFn hn, Z, env, xs, e1, r, h1, fun vs Z1 H1 r1 s1 d1 => ⟨(dds_len d1).trans (g.ln _ _ h2), Z1, xs, y, r1.zh, r1.tb, d1, h2, ?_⟩⟩
    cases y with
    | ok d => exact fun v Z' H' gr dd => q v Z' H' (r1.grow gr) (s1.trans gr.stp) dd
    | ex c a d => exact fun v p Z' H' gr h0 hz hp dd => ⟨c, rfl, q v p Z' H' (r1.grow gr) (s1.trans gr.stp) (s1.new h0) hz (r1.gh.free h0) (fun z => (r1.pp p z).1 h0) hp dd⟩
theorem pe_xcallVK (tk : Takes X W) (hgd : GdOk X.A) (hr : Room k X.A) (hrel : ∀ {zs : List V} {ws : List Value}, Vals zs ws → Vals (gW zs) (gU ws)) (hkw : L2.PK X kws t) (hN : X.N[i]? = some x) (hv : Vis X.env.scope x) (hd : (x == ("__debug__" : Str)) = false) (hcd : (x == ("__classdict__" : Str)) = false)
    (hall : (backToKw pos (keywordEach kws X.env)).all (·.1.isSome) = true) (hks : (backToKw pos (keywordEach kws X.env)).filterMap (·.1) = ks)
    (hpl : ((backTo pos (starEach [] X.env)).any (·.1) || (backToKw pos (keywordEach kws X.env)).any (·.1.isNone)) = false) :
    PE X (.Call (.Name x p) [] kws pos) (fun σ H Q => ∃ (f : Addr) (fd : FuncData) (ps : List Str) (sp : Sp), FnX X.prog X.w X.K X.mg X.base k f fd ps sp ∧ (∀ (s : Shared) (ws : List Value), (gU ws).length = ps.length → BindsTo s fd ⟨[], ks.zip ws⟩ (ps.zip (gU ws))) ∧ PySem.W.keepIn X.K (.ref f) = true ∧ σ[i]? = some (some (.ref f)) ∧ t σ H fun zs H2 => sp (gW zs) H2 Q fun cls d H' => W cls d σ H') := by
  refine ⟨fun pins s σ H Q I h => ?_⟩
  obtain ⟨f, fd, ps, sp, G, hb, hk, hs, h⟩ := h
  refine wpAny_Call_Name_kw (thn ((pe_var (pos := p) (i := i) hN hv hd hcd).run pins s σ H (fun v H1 => v = .ref f ∧ H1 = H) I ⟨.ref f, hs, rfl, rfl⟩) fun u s1 ⟨v, H1, I1, r1, q1⟩ => ?_)
  obtain ⟨ev, eH⟩ := q1
  subst ev
  rw [eH] at I1
  obtain rfl : u = Value.ref f := r1
  refine PySem.W.callWith_KW0 (h₀ := X.base) I1.ok.mod.kin hk hall (thn (hkw.run pos pins s1 σ H _ I1 h) ?_) hpl
  rintro ws s2 ⟨zs, H2, I2, rz, q2⟩
  have r2 := hrel rz
  have hl : (gU ws).length = ps.length := by rw [← r2.length]; exact G.len _ _ _ _ q2
  refine ⟨I2.kIn, ?_⟩
  rw [hks]
  exact run_x (args := ⟨[], ks.zip ws⟩) (us := gU ws) tk G hgd hr (hb s2 ws hl) I2 r2 q2
theorem pdx_callVK (i : Nat) (gD : List PyData → List PyData) (hgD : ∀ (K : PySem.W.Frag) (Z : Hp) (vs : List V) (ds : List PyData), DDs K Z vs ds → DDs K Z (gW vs) (gD ds)) (tk : Takes X (wx C F.W)) (G : ∀ n m, mtab ms n = some m → CalV X.prog X.w X.K X.mg X.base C k nA ps ks gU n m) (hgd : GdOk X.A) (hr : Room k X.A) (hrel : ∀ {zs : List V} {ws : List Value}, Vals zs ws → Vals (gW zs) (gU ws)) (hkw : PDK X F kws fk)
    (hN : X.N[i]? = some x := by rfl) (hv : Vis X.env.scope x := by first | exact Or.inl rfl | exact Or.inr (Or.inl rfl) | exact Or.inr (Or.inr rfl)) (hd : (x == ("__debug__" : Str)) = false := by decide) (hcd : (x == ("__classdict__" : Str)) = false := by decide)
    (hall : (backToKw pos (keywordEach kws X.env)).all (·.1.isSome) = true := by rfl) (hks : (backToKw pos (keywordEach kws X.env)).filterMap (·.1) = ks := by rfl)
    (hpl : ((backTo pos (starEach [] X.env)).any (·.1) || (backToKw pos (keywordEach kws X.env)).any (·.1.isNone)) = false := by rfl) :
    PDX X F (.Call (.Name x p) [] kws pos) (fCXVK i gD ms fk) :=
  pe_imp (pe_xcallVK tk hgd hr hrel hkw hN hv hd hcd hall hks hpl) fun σ H Q h => by
    obtain ⟨Z, env, r0, r, e, q⟩ := h
    obtain ⟨n, hn, e⟩ := bnd e
    obtain ⟨m, hm, e⟩ := bnd e
    obtain ⟨⟨xs, e1⟩, h1, h⟩ := bnd e
    obtain ⟨y, h2, h⟩ := mpd h
    subst h
    have g := G n m hm
    obtain ⟨fd, g1, _, g2⟩ := g.g
    refine ⟨_, fd, ps, _, g1, g2, g.kp, r.rdFn hn, Z, env, xs, e1, r, h1, fun vs Z1 H1 r1 s1 d1 => ?_⟩
    have d2 := hgD _ _ _ _ d1
    refine ⟨(dds_len d2).trans (g.ln _ _ h2), Z1, gD xs, y, r1.zh, r1.tb, d2, h2, ?_⟩
    cases y with
    | ok d => exact fun v Z' H' gr dd => q v Z' H' (r1.grow gr) (s1.trans gr.stp) dd
    | ex c a d => exact fun v p Z' H' gr h0 hz hp dd => ⟨c, rfl, q v p Z' H' (r1.grow gr) (s1.trans gr.stp) (s1.new h0) hz (r1.gh.free h0) (fun z => (r1.pp p z).1 h0) hp dd⟩
end
end DL
end L2


set_option Elab.async false
set_option maxRecDepth 100000
set_option maxHeartbeats 4000000
set_option autoImplicit false
namespace L2
namespace DL
open PySem PySem.Spec PyProof.Rows
variable [Lab]
def inS (i j : Nat) : Stmt := match PySem.Challenge.pw_sortcuts_k05_tables_and_orders_refused.main.body.getD i (.Pass ⟨0, 0, 0, 0⟩) with
  | .ClassDef _ _ _ b _ _ _ _ _ _ _ => b.getD j (.Pass ⟨0, 0, 0, 0⟩)
  | s => s
def topS (i : Nat) : Stmt := PySem.Challenge.pw_sortcuts_k05_tables_and_orders_refused.main.body.getD i (.Pass ⟨0, 0, 0, 0⟩)
def cv_MOST_COLUMNS : PyData := .int 5
def cv_MOST_RECORDS : PyData := .int 30
def cv_MOST_KEYS : PyData := .int 4
def cv_DIRECTIONS : PyData := .tuple [(.str "down"), (.str "up")]
structure Tx [LabW] (LT : List (Addr × Str)) (K : PySem.W.Frag) (mg : Str → Option Value) (base : Heap) (w : World) where
  hw : LabW.w = some w
  A : Nat → Addr
  FD : Nat → FuncData
  D_is_integer : Fun K "is_integer" "is_integer" (topS 26) (A 0) (FD 0)
  g_is_integer : mg "is_integer" = some (.ref (A 0))
  D_is_record : Fun K "is_record" "is_record" (topS 27) (A 1) (FD 1)
  g_is_record : mg "is_record" = some (.ref (A 1))
  D_check_table : Fun K "check_table" "check_table" (topS 28) (A 2) (FD 2)
  g_check_table : mg "check_table" = some (.ref (A 2))
  D_count_columns : Fun K "count_columns" "count_columns" (topS 29) (A 3) (FD 3)
  g_count_columns : mg "count_columns" = some (.ref (A 3))
  D_every_place : Fun K "every_place" "every_place" (topS 30) (A 4) (FD 4)
  g_every_place : mg "every_place" = some (.ref (A 4))
  D_records_at : Fun K "records_at" "records_at" (topS 31) (A 5) (FD 5)
  g_records_at : mg "records_at" = some (.ref (A 5))
  D_check_columns_below : Fun K "check_columns_below" "check_columns_below" (topS 32) (A 6) (FD 6)
  g_check_columns_below : mg "check_columns_below" = some (.ref (A 6))
  D_is_word : Fun K "is_word" "is_word" (topS 35) (A 7) (FD 7)
  g_is_word : mg "is_word" = some (.ref (A 7))
  D_is_pair : Fun K "is_pair" "is_pair" (topS 36) (A 8) (FD 8)
  g_is_pair : mg "is_pair" = some (.ref (A 8))
  D_is_sort_column : Fun K "is_sort_column" "is_sort_column" (topS 37) (A 9) (FD 9)
  g_is_sort_column : mg "is_sort_column" = some (.ref (A 9))
  D_is_key : Fun K "is_key" "is_key" (topS 38) (A 10) (FD 10)
  g_is_key : mg "is_key" = some (.ref (A 10))
  D_is_place_part : Fun K "is_place_part" "is_place_part" (topS 39) (A 11) (FD 11)
  g_is_place_part : mg "is_place_part" = some (.ref (A 11))
  D_check_order : Fun K "check_order" "check_order" (topS 40) (A 12) (FD 12)
  g_check_order : mg "check_order" = some (.ref (A 12))
  D_columns_of : Fun K "columns_of" "columns_of" (topS 41) (A 13) (FD 13)
  g_columns_of : mg "columns_of" = some (.ref (A 13))
  D_opposite : Fun K "opposite" "opposite" (topS 42) (A 14) (FD 14)
  g_opposite : mg "opposite" = some (.ref (A 14))
  D_turned : Fun K "turned" "turned" (topS 43) (A 15) (FD 15)
  g_turned : mg "turned" = some (.ref (A 15))
  D_sort_values : Fun K "sort_values" "sort_values" (topS 44) (A 16) (FD 16)
  g_sort_values : mg "sort_values" = some (.ref (A 16))
  D_sorted_places : Fun K "sorted_places" "sorted_places" (topS 45) (A 17) (FD 17)
  g_sorted_places : mg "sorted_places" = some (.ref (A 17))
  D_places_by : Fun K "places_by" "places_by" (topS 46) (A 18) (FD 18)
  g_places_by : mg "places_by" = some (.ref (A 18))
  D_sorted_by : Fun K "sorted_by" "sorted_by" (topS 47) (A 19) (FD 19)
  g_sorted_by : mg "sorted_by" = some (.ref (A 19))
  D__law_cell : Fun K "_law_cell" "_law_cell" (topS 49) (A 20) (FD 20)
  g__law_cell : mg "_law_cell" = some (.ref (A 20))
  D__law_pool : Fun K "_law_pool" "_law_pool" (topS 50) (A 21) (FD 21)
  g__law_pool : mg "_law_pool" = some (.ref (A 21))
  D__law_draw : Fun K "_law_draw" "_law_draw" (topS 51) (A 22) (FD 22)
  g__law_draw : mg "_law_draw" = some (.ref (A 22))
  D__law_table : Fun K "_law_table" "_law_table" (topS 52) (A 23) (FD 23)
  g__law_table : mg "_law_table" = some (.ref (A 23))
  D__law_order : Fun K "_law_order" "_law_order" (topS 53) (A 24) (FD 24)
  g__law_order : mg "_law_order" = some (.ref (A 24))
  D__law_is_record : Fun K "_law_is_record" "_law_is_record" (topS 54) (A 25) (FD 25)
  g__law_is_record : mg "_law_is_record" = some (.ref (A 25))
  D__law_table_fault : Fun K "_law_table_fault" "_law_table_fault" (topS 55) (A 26) (FD 26)
  g__law_table_fault : mg "_law_table_fault" = some (.ref (A 26))
  D__law_bent_table : Fun K "_law_bent_table" "_law_bent_table" (topS 56) (A 27) (FD 27)
  g__law_bent_table : mg "_law_bent_table" = some (.ref (A 27))
  D__law_order_fault : Fun K "_law_order_fault" "_law_order_fault" (topS 57) (A 28) (FD 28)
  g__law_order_fault : mg "_law_order_fault" = some (.ref (A 28))
  D__law_bent_order : Fun K "_law_bent_order" "_law_bent_order" (topS 58) (A 29) (FD 29)
  g__law_bent_order : mg "_law_bent_order" = some (.ref (A 29))
  D__law_kind : Fun K "_law_kind" "_law_kind" (topS 59) (A 30) (FD 30)
  g__law_kind : mg "_law_kind" = some (.ref (A 30))
  D__law_caught : Fun K "_law_caught" "_law_caught" (topS 60) (A 31) (FD 31)
  g__law_caught : mg "_law_caught" = some (.ref (A 31))
  D__law_table_due : Fun K "_law_table_due" "_law_table_due" (topS 61) (A 32) (FD 32)
  g__law_table_due : mg "_law_table_due" = some (.ref (A 32))
  D__law_due : Fun K "_law_due" "_law_due" (topS 62) (A 33) (FD 33)
  g__law_due : mg "_law_due" = some (.ref (A 33))
  D__law_pair_right : Fun K "_law_pair_right" "_law_pair_right" (topS 63) (A 34) (FD 34)
  g__law_pair_right : mg "_law_pair_right" = some (.ref (A 34))
  D__law_right : Fun K "_law_right" "_law_right" (topS 64) (A 35) (FD 35)
  g__law_right : mg "_law_right" = some (.ref (A 35))
  D_law : Fun K "law" "law" (topS 65) (A 36) (FD 36)
  g_law : mg "law" = some (.ref (A 36))
  n_ArithmeticError : mg "ArithmeticError" = none
  n_LookupError : mg "LookupError" = none
  n_ValueError : mg "ValueError" = none
  n_abs : mg "abs" = none
  n_all : mg "all" = none
  n_bool : mg "bool" = none
  n_divmod : mg "divmod" = none
  n_enumerate : mg "enumerate" = none
  n_int : mg "int" = none
  n_isinstance : mg "isinstance" = none
  n_len : mg "len" = none
  n_list : mg "list" = none
  n_max : mg "max" = none
  n_min : mg "min" = none
  n_range : mg "range" = none
  n_repr : mg "repr" = none
  n_sorted : mg "sorted" = none
  n_str : mg "str" = none
  n_tuple : mg "tuple" = none
  c_MOST_COLUMNS : ∃ uv : Value × V, mg "MOST_COLUMNS" = some uv.1 ∧ RelV uv.2 uv.1 ∧ ∀ Z, DD K Z uv.2 cv_MOST_COLUMNS
  c_MOST_RECORDS : ∃ uv : Value × V, mg "MOST_RECORDS" = some uv.1 ∧ RelV uv.2 uv.1 ∧ ∀ Z, DD K Z uv.2 cv_MOST_RECORDS
  c_MOST_KEYS : ∃ uv : Value × V, mg "MOST_KEYS" = some uv.1 ∧ RelV uv.2 uv.1 ∧ ∀ Z, DD K Z uv.2 cv_MOST_KEYS
  c_DIRECTIONS : ∃ uv : Value × V, mg "DIRECTIONS" = some uv.1 ∧ RelV uv.2 uv.1 ∧ ∀ Z, DD K Z uv.2 cv_DIRECTIONS
  cP_sorted_places : Addr × Addr
  tb_sorted_places : LamX.TabB base mg cP_sorted_places.1 cP_sorted_places.2
  cd_sorted_places : (FD 17).code = .ref cP_sorted_places.1
  lb_sorted_places : (cP_sorted_places.2, ("sorted_places" ++ ".<locals>." : Str) ++ "<lambda>") ∈ LT
  lu_sorted_places : ∀ p ∈ LT, p.1 = cP_sorted_places.2 → p.2 = ("sorted_places" ++ ".<locals>." : Str) ++ "<lambda>"
  cP__law_pair_right : Addr × Addr
  tb__law_pair_right : LamX.TabB base mg cP__law_pair_right.1 cP__law_pair_right.2
  cd__law_pair_right : (FD 34).code = .ref cP__law_pair_right.1
  lb__law_pair_right : (cP__law_pair_right.2, ("_law_pair_right" ++ ".<locals>." : Str) ++ "<lambda>") ∈ LT
  lu__law_pair_right : ∀ p ∈ LT, p.1 = cP__law_pair_right.2 → p.2 = ("_law_pair_right" ++ ".<locals>." : Str) ++ "<lambda>"
  C : Str → Addr
  FI : Str → Addr
  FDI : Str → FuncData
  hC : C = LabW.C
  hF_places_by : LabW.C "places_by" = A 18
  hF_sorted_by : LabW.C "sorted_by" = A 19
  xm_InvalidTable : mg "InvalidTable" = some (.ref (C "InvalidTable"))
  xm_MissingColumn : mg "MissingColumn" = some (.ref (C "MissingColumn"))
  xm_InvalidOrder : mg "InvalidOrder" = some (.ref (C "InvalidOrder"))
  xm_TableError : mg "TableError" = some (.ref (C "TableError"))
  xm_FindError : mg "FindError" = some (.ref (C "FindError"))
  xm_LimitError : mg "LimitError" = some (.ref (C "LimitError"))
  xm_LastRecord : mg "LastRecord" = some (.ref (C "LastRecord"))
  xm_TooManyEdits : mg "TooManyEdits" = some (.ref (C "TooManyEdits"))
  xm_TooManyRecords : mg "TooManyRecords" = some (.ref (C "TooManyRecords"))
  xm_NothingToUndo : mg "NothingToUndo" = some (.ref (C "NothingToUndo"))
  xm_NoPlace : mg "NoPlace" = some (.ref (C "NoPlace"))
  xm_InvalidCommand : mg "InvalidCommand" = some (.ref (C "InvalidCommand"))
  xm_InvalidEdit : mg "InvalidEdit" = some (.ref (C "InvalidEdit"))
  xm_InvalidValue : mg "InvalidValue" = some (.ref (C "InvalidValue"))
  xm_InvalidRecord : mg "InvalidRecord" = some (.ref (C "InvalidRecord"))
  xm_InvalidLimit : mg "InvalidLimit" = some (.ref (C "InvalidLimit"))
  xm_InvalidText : mg "InvalidText" = some (.ref (C "InvalidText"))
  xm_InvalidPlaces : mg "InvalidPlaces" = some (.ref (C "InvalidPlaces"))
  xm_InvalidNumber : mg "InvalidNumber" = some (.ref (C "InvalidNumber"))
  xm_InvalidProgram : mg "InvalidProgram" = some (.ref (C "InvalidProgram"))
  xm_InvalidColumns : mg "InvalidColumns" = some (.ref (C "InvalidColumns"))
  x_InvalidTable : OexC K (C "InvalidTable")
  xi_InvalidTable : PySem.W.findIn K (.ref (C "InvalidTable")) "__init__" = some (some (.ref (FI "InvalidTable")))
  xt_InvalidTable : PySem.W.typeIn K (.ref (FI "InvalidTable")) = some (.type "function")
  xn_InvalidTable : PySem.W.findIn K (.ref (C "InvalidTable")) "index" = some none
  xD_InvalidTable : Fun K "__init__" "InvalidTable.__init__" (inS 2 0) (FI "InvalidTable") (FDI "InvalidTable")
  x_MissingColumn : OexL K (C "MissingColumn")
  xi_MissingColumn : PySem.W.findIn K (.ref (C "MissingColumn")) "__init__" = some (some (.ref (FI "MissingColumn")))
  xt_MissingColumn : PySem.W.typeIn K (.ref (FI "MissingColumn")) = some (.type "function")
  xn_MissingColumn : PySem.W.findIn K (.ref (C "MissingColumn")) "column" = some none
  xD_MissingColumn : Fun K "__init__" "MissingColumn.__init__" (inS 15 0) (FI "MissingColumn") (FDI "MissingColumn")
  x_InvalidOrder : OexC K (C "InvalidOrder")
  xi_InvalidOrder : PySem.W.findIn K (.ref (C "InvalidOrder")) "__init__" = some (some (.ref (FI "InvalidOrder")))
  xt_InvalidOrder : PySem.W.typeIn K (.ref (FI "InvalidOrder")) = some (.type "function")
  xn_InvalidOrder : PySem.W.findIn K (.ref (C "InvalidOrder")) "index" = some none
  xD_InvalidOrder : Fun K "__init__" "InvalidOrder.__init__" (inS 4 0) (FI "InvalidOrder") (FDI "InvalidOrder")
  kx_InvalidTable : kexB K (C "InvalidTable") = true
  kx_MissingColumn : kexB K (C "MissingColumn") = true
  kx_InvalidOrder : kexB K (C "InvalidOrder") = true
  kt_ArithmeticError : kitTab K [(C "InvalidTable", .type "ArithmeticError", false), (C "MissingColumn", .type "ArithmeticError", false), (C "InvalidOrder", .type "ArithmeticError", false)] = true
  kt_LookupError : kitTab K [(C "InvalidTable", .type "LookupError", false), (C "MissingColumn", .type "LookupError", true), (C "InvalidOrder", .type "LookupError", false)] = true
  kt_ValueError : kitTab K [(C "InvalidTable", .type "ValueError", true), (C "MissingColumn", .type "ValueError", false), (C "InvalidOrder", .type "ValueError", true)] = true
  kt_LimitError : kitTab K [(C "InvalidTable", .ref (C "LimitError"), false), (C "MissingColumn", .ref (C "LimitError"), false), (C "InvalidOrder", .ref (C "LimitError"), false)] = true
  kt_FindError : kitTab K [(C "InvalidTable", .ref (C "FindError"), false), (C "MissingColumn", .ref (C "FindError"), true), (C "InvalidOrder", .ref (C "FindError"), false)] = true
  kt_TableError : kitTab K [(C "InvalidTable", .ref (C "TableError"), true), (C "MissingColumn", .ref (C "TableError"), false), (C "InvalidOrder", .ref (C "TableError"), true)] = true
  kt_LastRecord : kitTab K [(C "InvalidTable", .ref (C "LastRecord"), false), (C "MissingColumn", .ref (C "LastRecord"), false), (C "InvalidOrder", .ref (C "LastRecord"), false)] = true
  kt_TooManyEdits : kitTab K [(C "InvalidTable", .ref (C "TooManyEdits"), false), (C "MissingColumn", .ref (C "TooManyEdits"), false), (C "InvalidOrder", .ref (C "TooManyEdits"), false)] = true
  kt_TooManyRecords : kitTab K [(C "InvalidTable", .ref (C "TooManyRecords"), false), (C "MissingColumn", .ref (C "TooManyRecords"), false), (C "InvalidOrder", .ref (C "TooManyRecords"), false)] = true
  kt_NothingToUndo : kitTab K [(C "InvalidTable", .ref (C "NothingToUndo"), false), (C "MissingColumn", .ref (C "NothingToUndo"), false), (C "InvalidOrder", .ref (C "NothingToUndo"), false)] = true
  kt_NoPlace : kitTab K [(C "InvalidTable", .ref (C "NoPlace"), false), (C "MissingColumn", .ref (C "NoPlace"), false), (C "InvalidOrder", .ref (C "NoPlace"), false)] = true
  kt_MissingColumn : kitTab K [(C "InvalidTable", .ref (C "MissingColumn"), false), (C "MissingColumn", .ref (C "MissingColumn"), true), (C "InvalidOrder", .ref (C "MissingColumn"), false)] = true
  kt_InvalidCommand : kitTab K [(C "InvalidTable", .ref (C "InvalidCommand"), false), (C "MissingColumn", .ref (C "InvalidCommand"), false), (C "InvalidOrder", .ref (C "InvalidCommand"), false)] = true
  kt_InvalidEdit : kitTab K [(C "InvalidTable", .ref (C "InvalidEdit"), false), (C "MissingColumn", .ref (C "InvalidEdit"), false), (C "InvalidOrder", .ref (C "InvalidEdit"), false)] = true
  kt_InvalidValue : kitTab K [(C "InvalidTable", .ref (C "InvalidValue"), false), (C "MissingColumn", .ref (C "InvalidValue"), false), (C "InvalidOrder", .ref (C "InvalidValue"), false)] = true
  kt_InvalidRecord : kitTab K [(C "InvalidTable", .ref (C "InvalidRecord"), false), (C "MissingColumn", .ref (C "InvalidRecord"), false), (C "InvalidOrder", .ref (C "InvalidRecord"), false)] = true
  kt_InvalidLimit : kitTab K [(C "InvalidTable", .ref (C "InvalidLimit"), false), (C "MissingColumn", .ref (C "InvalidLimit"), false), (C "InvalidOrder", .ref (C "InvalidLimit"), false)] = true
  kt_InvalidText : kitTab K [(C "InvalidTable", .ref (C "InvalidText"), false), (C "MissingColumn", .ref (C "InvalidText"), false), (C "InvalidOrder", .ref (C "InvalidText"), false)] = true
  kt_InvalidPlaces : kitTab K [(C "InvalidTable", .ref (C "InvalidPlaces"), false), (C "MissingColumn", .ref (C "InvalidPlaces"), false), (C "InvalidOrder", .ref (C "InvalidPlaces"), false)] = true
  kt_InvalidNumber : kitTab K [(C "InvalidTable", .ref (C "InvalidNumber"), false), (C "MissingColumn", .ref (C "InvalidNumber"), false), (C "InvalidOrder", .ref (C "InvalidNumber"), false)] = true
  kt_InvalidProgram : kitTab K [(C "InvalidTable", .ref (C "InvalidProgram"), false), (C "MissingColumn", .ref (C "InvalidProgram"), false), (C "InvalidOrder", .ref (C "InvalidProgram"), false)] = true
  kt_InvalidOrder : kitTab K [(C "InvalidTable", .ref (C "InvalidOrder"), false), (C "MissingColumn", .ref (C "InvalidOrder"), false), (C "InvalidOrder", .ref (C "InvalidOrder"), true)] = true
  kt_InvalidColumns : kitTab K [(C "InvalidTable", .ref (C "InvalidColumns"), false), (C "MissingColumn", .ref (C "InvalidColumns"), false), (C "InvalidOrder", .ref (C "InvalidColumns"), false)] = true
  kt_InvalidTable : kitTab K [(C "InvalidTable", .ref (C "InvalidTable"), true), (C "MissingColumn", .ref (C "InvalidTable"), false), (C "InvalidOrder", .ref (C "InvalidTable"), false)] = true
  xe_InvalidTable_TableError : PySem.W.exmOne K (.ref (C "InvalidTable")) (.ref (C "TableError")) = some true
  xe_MissingColumn_TableError : PySem.W.exmOne K (.ref (C "MissingColumn")) (.ref (C "TableError")) = some false
  xe_InvalidOrder_TableError : PySem.W.exmOne K (.ref (C "InvalidOrder")) (.ref (C "TableError")) = some true
  xe_InvalidTable_FindError : PySem.W.exmOne K (.ref (C "InvalidTable")) (.ref (C "FindError")) = some false
  xe_MissingColumn_FindError : PySem.W.exmOne K (.ref (C "MissingColumn")) (.ref (C "FindError")) = some true
  xe_InvalidOrder_FindError : PySem.W.exmOne K (.ref (C "InvalidOrder")) (.ref (C "FindError")) = some false
  xe_InvalidTable_LimitError : PySem.W.exmOne K (.ref (C "InvalidTable")) (.ref (C "LimitError")) = some false
  xe_MissingColumn_LimitError : PySem.W.exmOne K (.ref (C "MissingColumn")) (.ref (C "LimitError")) = some false
  xe_InvalidOrder_LimitError : PySem.W.exmOne K (.ref (C "InvalidOrder")) (.ref (C "LimitError")) = some false
section
variable {P : Program} {w : World} {K : PySem.W.Frag} {mg : Str → Option Value} {base : Heap}
theorem xsc_InvalidTable : FnScope ["self", "index"] ["self", "index"] (defScope (inS 2 0)) := ⟨rfl, rfl, rfl, by decide +kernel, rfl, by decide +kernel, by decide +kernel⟩
theorem xo_InvalidTable (T : Tx Lab.T K mg base w) : FnOk P w K mg base CX0 1 (T.FI "InvalidTable") (T.FDI "InvalidTable") ["self", "index"] (spI (T.C "InvalidTable") "index") := init_ok T.xD_InvalidTable xsc_InvalidTable T.x_InvalidTable T.xn_InvalidTable rfl (Or.inl rfl) (Or.inl rfl) (by decide) (by decide)
theorem xb_InvalidTable (T : Tx Lab.T K mg base w) : Binds K (T.FDI "InvalidTable") ["self", "index"] [] := T.xD_InvalidTable.binds fun _ _ _ _ _ _ us hl => match us, hl with | [_, _], _ => rfl
theorem xsc_MissingColumn : FnScope ["self", "column"] ["self", "column"] (defScope (inS 15 0)) := ⟨rfl, rfl, rfl, by decide +kernel, rfl, by decide +kernel, by decide +kernel⟩
theorem xo_MissingColumn (T : Tx Lab.T K mg base w) : FnOk P w K mg base CX0 1 (T.FI "MissingColumn") (T.FDI "MissingColumn") ["self", "column"] (spI (T.C "MissingColumn") "column") := init_okL T.xD_MissingColumn xsc_MissingColumn T.x_MissingColumn T.xn_MissingColumn rfl (Or.inl rfl) (Or.inl rfl) (by decide) (by decide)
theorem xb_MissingColumn (T : Tx Lab.T K mg base w) : Binds K (T.FDI "MissingColumn") ["self", "column"] [] := T.xD_MissingColumn.binds fun _ _ _ _ _ _ us hl => match us, hl with | [_, _], _ => rfl
theorem xsc_InvalidOrder : FnScope ["self", "index"] ["self", "index"] (defScope (inS 4 0)) := ⟨rfl, rfl, rfl, by decide +kernel, rfl, by decide +kernel, by decide +kernel⟩
theorem xo_InvalidOrder (T : Tx Lab.T K mg base w) : FnOk P w K mg base CX0 1 (T.FI "InvalidOrder") (T.FDI "InvalidOrder") ["self", "index"] (spI (T.C "InvalidOrder") "index") := init_ok T.xD_InvalidOrder xsc_InvalidOrder T.x_InvalidOrder T.xn_InvalidOrder rfl (Or.inl rfl) (Or.inl rfl) (by decide) (by decide)
theorem xb_InvalidOrder (T : Tx Lab.T K mg base w) : Binds K (T.FDI "InvalidOrder") ["self", "index"] [] := T.xD_InvalidOrder.binds fun _ _ _ _ _ _ us hl => match us, hl with | [_, _], _ => rfl
def mt_TableError (c : Str) : Option Bool := if c = "InvalidTable" then some true else if c = "MissingColumn" then some false else if c = "InvalidOrder" then some true else none
theorem mtk_TableError (T : Tx Lab.T K mg base w) : ∀ c b, mt_TableError c = some b → PySem.W.exmOne K (.ref (T.C c)) (.ref (T.C "TableError")) = some b := by
  intro c b h
  unfold mt_TableError at h
  split at h
  · rename_i hc; cases h; rw [hc]; exact T.xe_InvalidTable_TableError
  split at h
  · rename_i hc; cases h; rw [hc]; exact T.xe_MissingColumn_TableError
  split at h
  · rename_i hc; cases h; rw [hc]; exact T.xe_InvalidOrder_TableError
  cases h
def mt_FindError (c : Str) : Option Bool := if c = "InvalidTable" then some false else if c = "MissingColumn" then some true else if c = "InvalidOrder" then some false else none
theorem mtk_FindError (T : Tx Lab.T K mg base w) : ∀ c b, mt_FindError c = some b → PySem.W.exmOne K (.ref (T.C c)) (.ref (T.C "FindError")) = some b := by
  intro c b h
  unfold mt_FindError at h
  split at h
  · rename_i hc; cases h; rw [hc]; exact T.xe_InvalidTable_FindError
  split at h
  · rename_i hc; cases h; rw [hc]; exact T.xe_MissingColumn_FindError
  split at h
  · rename_i hc; cases h; rw [hc]; exact T.xe_InvalidOrder_FindError
  cases h
def mt_LimitError (c : Str) : Option Bool := if c = "InvalidTable" then some false else if c = "MissingColumn" then some false else if c = "InvalidOrder" then some false else none
theorem mtk_LimitError (T : Tx Lab.T K mg base w) : ∀ c b, mt_LimitError c = some b → PySem.W.exmOne K (.ref (T.C c)) (.ref (T.C "LimitError")) = some b := by
  intro c b h
  unfold mt_LimitError at h
  split at h
  · rename_i hc; cases h; rw [hc]; exact T.xe_InvalidTable_LimitError
  split at h
  · rename_i hc; cases h; rw [hc]; exact T.xe_MissingColumn_LimitError
  split at h
  · rename_i hc; cases h; rw [hc]; exact T.xe_InvalidOrder_LimitError
  cases h
theorem mgF_places_by (T : Tx Lab.T K mg base w) : mg "places_by" = some (.ref (LabW.C "places_by")) := by rw [T.hF_places_by]; exact T.g_places_by
theorem mgF_sorted_by (T : Tx Lab.T K mg base w) : mg "sorted_by" = some (.ref (LabW.C "sorted_by")) := by rw [T.hF_sorted_by]; exact T.g_sorted_by
theorem tkC (T : Tx Lab.T K mg base w) {X : Cx} {W : Str → Option Addr → St → Hp → Prop} (h : Takes X (wx LabW.C W)) : Takes X (wx T.C W) := by rw [T.hC]; exact h
def at_ex (c : Str) : Str := if c = "InvalidTable" then "index" else if c = "MissingColumn" then "column" else if c = "InvalidOrder" then "index" else ""
theorem hmt_TableError_FindError_LimitError (T : Tx Lab.T K mg base w) : ∀ c b, mt3 mt_TableError mt_FindError mt_LimitError c = some b → PySem.W.exmAny K (.ref (LabW.C c)) [.ref (T.C "TableError"), .ref (T.C "FindError"), .ref (T.C "LimitError")] = some b := fun c b h => by rw [← T.hC]; exact mtk3 (mtk_TableError T) (mtk_FindError T) (mtk_LimitError T) c b h
theorem ekk_TableError_FindError_LimitError (T : Tx Lab.T K mg base w) : ∀ c, mt3 mt_TableError mt_FindError mt_LimitError c = some true → KEx K (LabW.C c) := by
  intro c h
  rw [← T.hC]
  obtain ⟨a, h1, _⟩ := Option.bind_eq_some_iff.mp h
  unfold mt_TableError at h1
  split at h1
  · rename_i hc; rw [hc]; exact kexB_ok T.kx_InvalidTable
  split at h1
  · rename_i hc; rw [hc]; exact kexB_ok T.kx_MissingColumn
  split at h1
  · rename_i hc; rw [hc]; exact kexB_ok T.kx_InvalidOrder
  cases h1
theorem ekn_TableError_FindError_LimitError (T : Tx Lab.T K mg base w) : ∀ c, mt3 mt_TableError mt_FindError mt_LimitError c = some true → PySem.W.findIn K (.ref (LabW.C c)) (at_ex c) = some none := by
  intro c h
  rw [← T.hC]
  obtain ⟨a, h1, _⟩ := Option.bind_eq_some_iff.mp h
  unfold mt_TableError at h1
  split at h1
  · rename_i hc; rw [hc]; exact (show at_ex "InvalidTable" = "index" by kernel_rfl) ▸ T.xn_InvalidTable
  split at h1
  · rename_i hc; rw [hc]; exact (show at_ex "MissingColumn" = "column" by kernel_rfl) ▸ T.xn_MissingColumn
  split at h1
  · rename_i hc; rw [hc]; exact (show at_ex "InvalidOrder" = "index" by kernel_rfl) ▸ T.xn_InvalidOrder
  cases h1
theorem ekp_TableError_FindError_LimitError (T : Tx Lab.T K mg base w) : ExKp K (mt3 mt_TableError mt_FindError mt_LimitError) at_ex := ⟨ekk_TableError_FindError_LimitError T, ekn_TableError_FindError_LimitError T⟩
def mi_ArithmeticError (c : Str) : Option Bool := tabI [("InvalidTable", false), ("MissingColumn", false), ("InvalidOrder", false)] c
theorem mik_ArithmeticError (T : Tx Lab.T K mg base w) : ∀ c b, mi_ArithmeticError c = some b → PySem.W.kitOne K (.ref (LabW.C c)) (.type "ArithmeticError") = some b := by rw [← T.hC]; exact tabI_ok (l := [("InvalidTable", false), ("MissingColumn", false), ("InvalidOrder", false)]) T.kt_ArithmeticError
def mi_LookupError (c : Str) : Option Bool := tabI [("InvalidTable", false), ("MissingColumn", true), ("InvalidOrder", false)] c
theorem mik_LookupError (T : Tx Lab.T K mg base w) : ∀ c b, mi_LookupError c = some b → PySem.W.kitOne K (.ref (LabW.C c)) (.type "LookupError") = some b := by rw [← T.hC]; exact tabI_ok (l := [("InvalidTable", false), ("MissingColumn", true), ("InvalidOrder", false)]) T.kt_LookupError
def mi_ValueError (c : Str) : Option Bool := tabI [("InvalidTable", true), ("MissingColumn", false), ("InvalidOrder", true)] c
theorem mik_ValueError (T : Tx Lab.T K mg base w) : ∀ c b, mi_ValueError c = some b → PySem.W.kitOne K (.ref (LabW.C c)) (.type "ValueError") = some b := by rw [← T.hC]; exact tabI_ok (l := [("InvalidTable", true), ("MissingColumn", false), ("InvalidOrder", true)]) T.kt_ValueError
def mi_LimitError (c : Str) : Option Bool := tabI [("InvalidTable", false), ("MissingColumn", false), ("InvalidOrder", false)] c
theorem mik_LimitError (T : Tx Lab.T K mg base w) : ∀ c b, mi_LimitError c = some b → PySem.W.kitOne K (.ref (LabW.C c)) (.ref (T.C "LimitError")) = some b := by rw [← T.hC]; exact tabI_ok (l := [("InvalidTable", false), ("MissingColumn", false), ("InvalidOrder", false)]) T.kt_LimitError
def mi_FindError (c : Str) : Option Bool := tabI [("InvalidTable", false), ("MissingColumn", true), ("InvalidOrder", false)] c
theorem mik_FindError (T : Tx Lab.T K mg base w) : ∀ c b, mi_FindError c = some b → PySem.W.kitOne K (.ref (LabW.C c)) (.ref (T.C "FindError")) = some b := by rw [← T.hC]; exact tabI_ok (l := [("InvalidTable", false), ("MissingColumn", true), ("InvalidOrder", false)]) T.kt_FindError
def mi_TableError (c : Str) : Option Bool := tabI [("InvalidTable", true), ("MissingColumn", false), ("InvalidOrder", true)] c
theorem mik_TableError (T : Tx Lab.T K mg base w) : ∀ c b, mi_TableError c = some b → PySem.W.kitOne K (.ref (LabW.C c)) (.ref (T.C "TableError")) = some b := by rw [← T.hC]; exact tabI_ok (l := [("InvalidTable", true), ("MissingColumn", false), ("InvalidOrder", true)]) T.kt_TableError
def mi_LastRecord (c : Str) : Option Bool := tabI [("InvalidTable", false), ("MissingColumn", false), ("InvalidOrder", false)] c
theorem mik_LastRecord (T : Tx Lab.T K mg base w) : ∀ c b, mi_LastRecord c = some b → PySem.W.kitOne K (.ref (LabW.C c)) (.ref (T.C "LastRecord")) = some b := by rw [← T.hC]; exact tabI_ok (l := [("InvalidTable", false), ("MissingColumn", false), ("InvalidOrder", false)]) T.kt_LastRecord
def mi_TooManyEdits (c : Str) : Option Bool := tabI [("InvalidTable", false), ("MissingColumn", false), ("InvalidOrder", false)] c
theorem mik_TooManyEdits (T : Tx Lab.T K mg base w) : ∀ c b, mi_TooManyEdits c = some b → PySem.W.kitOne K (.ref (LabW.C c)) (.ref (T.C "TooManyEdits")) = some b := by rw [← T.hC]; exact tabI_ok (l := [("InvalidTable", false), ("MissingColumn", false), ("InvalidOrder", false)]) T.kt_TooManyEdits
def mi_TooManyRecords (c : Str) : Option Bool := tabI [("InvalidTable", false), ("MissingColumn", false), ("InvalidOrder", false)] c
theorem mik_TooManyRecords (T : Tx Lab.T K mg base w) : ∀ c b, mi_TooManyRecords c = some b → PySem.W.kitOne K (.ref (LabW.C c)) (.ref (T.C "TooManyRecords")) = some b := by rw [← T.hC]; exact tabI_ok (l := [("InvalidTable", false), ("MissingColumn", false), ("InvalidOrder", false)]) T.kt_TooManyRecords
def mi_NothingToUndo (c : Str) : Option Bool := tabI [("InvalidTable", false), ("MissingColumn", false), ("InvalidOrder", false)] c
theorem mik_NothingToUndo (T : Tx Lab.T K mg base w) : ∀ c b, mi_NothingToUndo c = some b → PySem.W.kitOne K (.ref (LabW.C c)) (.ref (T.C "NothingToUndo")) = some b := by rw [← T.hC]; exact tabI_ok (l := [("InvalidTable", false), ("MissingColumn", false), ("InvalidOrder", false)]) T.kt_NothingToUndo
def mi_NoPlace (c : Str) : Option Bool := tabI [("InvalidTable", false), ("MissingColumn", false), ("InvalidOrder", false)] c
theorem mik_NoPlace (T : Tx Lab.T K mg base w) : ∀ c b, mi_NoPlace c = some b → PySem.W.kitOne K (.ref (LabW.C c)) (.ref (T.C "NoPlace")) = some b := by rw [← T.hC]; exact tabI_ok (l := [("InvalidTable", false), ("MissingColumn", false), ("InvalidOrder", false)]) T.kt_NoPlace
def mi_MissingColumn (c : Str) : Option Bool := tabI [("InvalidTable", false), ("MissingColumn", true), ("InvalidOrder", false)] c
theorem mik_MissingColumn (T : Tx Lab.T K mg base w) : ∀ c b, mi_MissingColumn c = some b → PySem.W.kitOne K (.ref (LabW.C c)) (.ref (T.C "MissingColumn")) = some b := by rw [← T.hC]; exact tabI_ok (l := [("InvalidTable", false), ("MissingColumn", true), ("InvalidOrder", false)]) T.kt_MissingColumn
def mi_InvalidCommand (c : Str) : Option Bool := tabI [("InvalidTable", false), ("MissingColumn", false), ("InvalidOrder", false)] c
theorem mik_InvalidCommand (T : Tx Lab.T K mg base w) : ∀ c b, mi_InvalidCommand c = some b → PySem.W.kitOne K (.ref (LabW.C c)) (.ref (T.C "InvalidCommand")) = some b := by rw [← T.hC]; exact tabI_ok (l := [("InvalidTable", false), ("MissingColumn", false), ("InvalidOrder", false)]) T.kt_InvalidCommand
def mi_InvalidEdit (c : Str) : Option Bool := tabI [("InvalidTable", false), ("MissingColumn", false), ("InvalidOrder", false)] c
theorem mik_InvalidEdit (T : Tx Lab.T K mg base w) : ∀ c b, mi_InvalidEdit c = some b → PySem.W.kitOne K (.ref (LabW.C c)) (.ref (T.C "InvalidEdit")) = some b := by rw [← T.hC]; exact tabI_ok (l := [("InvalidTable", false), ("MissingColumn", false), ("InvalidOrder", false)]) T.kt_InvalidEdit
def mi_InvalidValue (c : Str) : Option Bool := tabI [("InvalidTable", false), ("MissingColumn", false), ("InvalidOrder", false)] c
theorem mik_InvalidValue (T : Tx Lab.T K mg base w) : ∀ c b, mi_InvalidValue c = some b → PySem.W.kitOne K (.ref (LabW.C c)) (.ref (T.C "InvalidValue")) = some b := by rw [← T.hC]; exact tabI_ok (l := [("InvalidTable", false), ("MissingColumn", false), ("InvalidOrder", false)]) T.kt_InvalidValue
def mi_InvalidRecord (c : Str) : Option Bool := tabI [("InvalidTable", false), ("MissingColumn", false), ("InvalidOrder", false)] c
theorem mik_InvalidRecord (T : Tx Lab.T K mg base w) : ∀ c b, mi_InvalidRecord c = some b → PySem.W.kitOne K (.ref (LabW.C c)) (.ref (T.C "InvalidRecord")) = some b := by rw [← T.hC]; exact tabI_ok (l := [("InvalidTable", false), ("MissingColumn", false), ("InvalidOrder", false)]) T.kt_InvalidRecord
def mi_InvalidLimit (c : Str) : Option Bool := tabI [("InvalidTable", false), ("MissingColumn", false), ("InvalidOrder", false)] c
theorem mik_InvalidLimit (T : Tx Lab.T K mg base w) : ∀ c b, mi_InvalidLimit c = some b → PySem.W.kitOne K (.ref (LabW.C c)) (.ref (T.C "InvalidLimit")) = some b := by rw [← T.hC]; exact tabI_ok (l := [("InvalidTable", false), ("MissingColumn", false), ("InvalidOrder", false)]) T.kt_InvalidLimit
def mi_InvalidText (c : Str) : Option Bool := tabI [("InvalidTable", false), ("MissingColumn", false), ("InvalidOrder", false)] c
theorem mik_InvalidText (T : Tx Lab.T K mg base w) : ∀ c b, mi_InvalidText c = some b → PySem.W.kitOne K (.ref (LabW.C c)) (.ref (T.C "InvalidText")) = some b := by rw [← T.hC]; exact tabI_ok (l := [("InvalidTable", false), ("MissingColumn", false), ("InvalidOrder", false)]) T.kt_InvalidText
def mi_InvalidPlaces (c : Str) : Option Bool := tabI [("InvalidTable", false), ("MissingColumn", false), ("InvalidOrder", false)] c
theorem mik_InvalidPlaces (T : Tx Lab.T K mg base w) : ∀ c b, mi_InvalidPlaces c = some b → PySem.W.kitOne K (.ref (LabW.C c)) (.ref (T.C "InvalidPlaces")) = some b := by rw [← T.hC]; exact tabI_ok (l := [("InvalidTable", false), ("MissingColumn", false), ("InvalidOrder", false)]) T.kt_InvalidPlaces
def mi_InvalidNumber (c : Str) : Option Bool := tabI [("InvalidTable", false), ("MissingColumn", false), ("InvalidOrder", false)] c
theorem mik_InvalidNumber (T : Tx Lab.T K mg base w) : ∀ c b, mi_InvalidNumber c = some b → PySem.W.kitOne K (.ref (LabW.C c)) (.ref (T.C "InvalidNumber")) = some b := by rw [← T.hC]; exact tabI_ok (l := [("InvalidTable", false), ("MissingColumn", false), ("InvalidOrder", false)]) T.kt_InvalidNumber
def mi_InvalidProgram (c : Str) : Option Bool := tabI [("InvalidTable", false), ("MissingColumn", false), ("InvalidOrder", false)] c
theorem mik_InvalidProgram (T : Tx Lab.T K mg base w) : ∀ c b, mi_InvalidProgram c = some b → PySem.W.kitOne K (.ref (LabW.C c)) (.ref (T.C "InvalidProgram")) = some b := by rw [← T.hC]; exact tabI_ok (l := [("InvalidTable", false), ("MissingColumn", false), ("InvalidOrder", false)]) T.kt_InvalidProgram
def mi_InvalidOrder (c : Str) : Option Bool := tabI [("InvalidTable", false), ("MissingColumn", false), ("InvalidOrder", true)] c
theorem mik_InvalidOrder (T : Tx Lab.T K mg base w) : ∀ c b, mi_InvalidOrder c = some b → PySem.W.kitOne K (.ref (LabW.C c)) (.ref (T.C "InvalidOrder")) = some b := by rw [← T.hC]; exact tabI_ok (l := [("InvalidTable", false), ("MissingColumn", false), ("InvalidOrder", true)]) T.kt_InvalidOrder
def mi_InvalidColumns (c : Str) : Option Bool := tabI [("InvalidTable", false), ("MissingColumn", false), ("InvalidOrder", false)] c
theorem mik_InvalidColumns (T : Tx Lab.T K mg base w) : ∀ c b, mi_InvalidColumns c = some b → PySem.W.kitOne K (.ref (LabW.C c)) (.ref (T.C "InvalidColumns")) = some b := by rw [← T.hC]; exact tabI_ok (l := [("InvalidTable", false), ("MissingColumn", false), ("InvalidOrder", false)]) T.kt_InvalidColumns
def mi_InvalidTable (c : Str) : Option Bool := tabI [("InvalidTable", true), ("MissingColumn", false), ("InvalidOrder", false)] c
theorem mik_InvalidTable (T : Tx Lab.T K mg base w) : ∀ c b, mi_InvalidTable c = some b → PySem.W.kitOne K (.ref (LabW.C c)) (.ref (T.C "InvalidTable")) = some b := by rw [← T.hC]; exact tabI_ok (l := [("InvalidTable", true), ("MissingColumn", false), ("InvalidOrder", false)]) T.kt_InvalidTable
def mb_is_integer : DEnv → Option DFlow := (sRet (fAndV (fIsi "int" (rdF 0)) (fNotV (fIsi "bool" (rdF 0)))))
def m_is_integer := runF 1 1 mb_is_integer
theorem sc_is_integer : FnScope ["value"] ["value"] (defScope (topS 26)) := ⟨rfl, rfl, rfl, by decide +kernel, rfl, by decide +kernel, by decide +kernel⟩
theorem bd_is_integer (T : Tx Lab.T K mg base w) : BodyOk P w K mg base ["value"] "is_integer" (topS 26) (T.A 0) (T.FD 0).code 0 mb_is_integer := by
  have sc := sc_is_integer
  intro cdv A outer s H E F hcv hW hgd hr
  exact (dss_one (ds_ret (pd_and (pd_isi (kit_int K) T.n_isinstance T.n_int (by decide +kernel) (pd_name 0)) (pd_one (pd_not (pd_isi (kit_bool K) T.n_isinstance T.n_bool (by decide +kernel) (pd_name 0)))))))
theorem ok_is_integer (T : Tx Lab.T K mg base w) : FnG P w K mg base 1 (T.A 0) (T.FD 0) ["value"] (spF K 1 m_is_integer) :=
  fn_F T.D_is_integer sc_is_integer rfl rfl (bd_is_integer T)
theorem b_is_integer (T : Tx Lab.T K mg base w) : Binds K (T.FD 0) ["value"] [] := T.D_is_integer.binds fun _ _ _ _ _ _ us hl => match us, hl with | [_], _ => rfl
def mb_is_record : DEnv → Option DFlow := (sSeq (sIf (fOr (fNot (fTst (fIsi "tuple" (rdF 0)))) (fNot (fTst (fChain leD leD (fC (.int 1)) (fLenN 0) (fC cv_MOST_COLUMNS))))) (sRet (fC (.bool false))) sNil) (sRet (fCB allD (fCons (fFrz (nLc (iSeq (rdF 0)) (gSet 1) fYes (fCB m_is_integer (fCons (rdF 1) fNil)) [1])) fNil))))
def m_is_record := runF 1 2 mb_is_record
theorem sc_is_record : FnScope ["value", "part"] ["value"] (defScope (topS 27)) := ⟨rfl, rfl, rfl, by decide +kernel, rfl, by decide +kernel, by decide +kernel⟩
theorem bd_is_record (T : Tx Lab.T K mg base w) : BodyOk P w K mg base ["value", "part"] "is_record" (topS 27) (T.A 1) (T.FD 1).code 1 mb_is_record := by
  have sc := sc_is_record
  intro cdv A outer s H E F hcv hW hgd hr
  exact (dss_cons (ds_if (pdt_w (pdw_or (pdt_not (pdt_val (pd_isi (kit_tuple K) T.n_isinstance T.n_tuple (by decide +kernel) (pd_name 0)))) (pdw_or1 (pdt_not (pdt_chain od_le od_le intD_b pd_int (pd_lenN 0 T.n_len) (pd_glob (T.c_MOST_COLUMNS).choose_spec.1 (T.c_MOST_COLUMNS).choose_spec.2.1 (T.c_MOST_COLUMNS).choose_spec.2.2)))))) (dss_one (ds_ret pd_bl)) dss_nil)
    (dss_one (ds_ret (pd_callB (cd_all rfl) T.n_all (by decide +kernel) (pda_cons (pn_pd (pn_lc [("part", 1)] sc.nd (di_seq (pd_name 0)) (blkOk_by (own := [("part", 1)]) (by kernel_rfl)) (fun _ _ _ _ _ => (gn_name 1 sc.nd)) (fun _ _ _ _ _ => dts_nil) (fun _ _ _ _ _ => (pd_call ((ok_is_integer T).mono (by decide)) runF_len hgd hr T.g_is_integer T.D_is_integer.kp (b_is_integer T) (pda_cons (pd_name 1) pda_nil))))) pda_nil)))))
theorem ok_is_record (T : Tx Lab.T K mg base w) : FnG P w K mg base 2 (T.A 1) (T.FD 1) ["value"] (spF K 1 m_is_record) :=
  fn_F T.D_is_record sc_is_record rfl rfl (bd_is_record T)
theorem b_is_record (T : Tx Lab.T K mg base w) : Binds K (T.FD 1) ["value"] [] := T.D_is_record.binds fun _ _ _ _ _ _ us hl => match us, hl with | [_], _ => rfl
def mb_check_table : DEnv → Option DFlow := (sSeq (sIf (fOr (fNot (fTst (fIsi "tuple" (rdF 0)))) (fNot (fTst (fChain leD leD (fC (.int 1)) (fLenN 0) (fC cv_MOST_RECORDS))))) (sRaise "InvalidTable" "index" (fC .none)) sNil) (sFor (iArg enumTA (fCons (rdF 0) fNil)) (gTupD 2 (gsCons (gSet 1) (gsCons (gSet 2) gsNil))) (sIf (fOr (fNot (fTst (fCB m_is_record (fCons (rdF 2) fNil)))) (fTst (fBin neD (fLenN 2) (fCB lenD (fCons (fIxN 0 (fC (.int 0))) fNil))))) (sRaise "InvalidTable" "index" (rdF 1)) sNil)))
def m_check_table := runX 1 3 mb_check_table
theorem sc_check_table : FnScope ["table", "index", "record"] ["table"] (defScope (topS 28)) := ⟨rfl, rfl, rfl, by decide +kernel, rfl, by decide +kernel, by decide +kernel⟩
theorem bd_check_table (T : Tx Lab.T K mg base w) : BodyX T.C P w K mg base ["table", "index", "record"] "check_table" (topS 28) (T.A 2) (T.FD 2).code 2 mb_check_table := by
  have sc := sc_check_table
  intro cdv A outer s H E F hcv tk hp hgd hr
  exact (dss_cons (ds_if (pdt_w (pdw_or (pdt_not (pdt_val (pd_isi (kit_tuple K) T.n_isinstance T.n_tuple (by decide +kernel) (pd_name 0)))) (pdw_or1 (pdt_not (pdt_chain od_le od_le intD_b pd_int (pd_lenN 0 T.n_len) (pd_glob (T.c_MOST_RECORDS).choose_spec.1 (T.c_MOST_RECORDS).choose_spec.2.1 (T.c_MOST_RECORDS).choose_spec.2.2)))))) (dss_one (ds_raise rfl tk T.x_InvalidTable T.xi_InvalidTable T.xt_InvalidTable (xo_InvalidTable T) (hr.mono (by decide)) (xb_InvalidTable T) T.xm_InvalidTable pd_non)) dss_nil)
    (dss_one (ds_for (di_enumA T.n_enumerate (pda_cons (pd_name 0) pda_nil)) (dg_tup (dgs_cons (dg_name 1 sc.nd) (dgs_cons (dg_name 2 sc.nd) dgs_nil))) (dss_one (ds_if (pdt_w (pdw_or (pdt_not (pdt_val (pd_call ((ok_is_record T).mono (by decide)) runF_len hgd hr T.g_is_record T.D_is_record.kp (b_is_record T) (pda_cons (pd_name 2) pda_nil)))) (pdw_or1 (pdt_cmp (od_ne hr) neD_b (pd_lenN 2 T.n_len) (pd_callB (cd_len) T.n_len (by decide +kernel) (pda_cons (pd_ixN 0 pd_int) pda_nil)))))) (dss_one (ds_raise rfl tk T.x_InvalidTable T.xi_InvalidTable T.xt_InvalidTable (xo_InvalidTable T) (hr.mono (by decide)) (xb_InvalidTable T) T.xm_InvalidTable (pd_name 1))) dss_nil)) hp)))
theorem okx_check_table (T : Tx Lab.T K mg base w) : FnX P w K mg base 3 (T.A 2) (T.FD 2) ["table"] (spX K T.C 1 m_check_table) :=
  fn_X T.D_check_table sc_check_table rfl rfl (bd_check_table T)
theorem b_check_table (T : Tx Lab.T K mg base w) : Binds K (T.FD 2) ["table"] [] := T.D_check_table.binds fun _ _ _ _ _ _ us hl => match us, hl with | [_], _ => rfl
def mb_count_columns : DEnv → Option DFlow := (sSeq (sExprX (fCX m_check_table (fCons (rdF 0) fNil))) (sRet (fCB lenD (fCons (fIxN 0 (fC (.int 0))) fNil))))
def m_count_columns := runX 1 1 mb_count_columns
theorem sc_count_columns : FnScope ["table"] ["table"] (defScope (topS 29)) := ⟨rfl, rfl, rfl, by decide +kernel, rfl, by decide +kernel, by decide +kernel⟩
theorem bd_count_columns (T : Tx Lab.T K mg base w) : BodyX T.C P w K mg base ["table"] "count_columns" (topS 29) (T.A 3) (T.FD 3).code 3 mb_count_columns := by
  have sc := sc_count_columns
  intro cdv A outer s H E F hcv tk hp hgd hr
  exact (dss_cons (ds_exprX (pdx_call tk ((okx_check_table T).mono (by decide)) runX_len hgd hr T.g_check_table T.D_check_table.kp (b_check_table T) (pda_cons (pd_name 0) pda_nil)))
    (dss_one (ds_ret (pd_callB (cd_len) T.n_len (by decide +kernel) (pda_cons (pd_ixN 0 pd_int) pda_nil)))))
theorem okx_count_columns (T : Tx Lab.T K mg base w) : FnX P w K mg base 4 (T.A 3) (T.FD 3) ["table"] (spX K T.C 1 m_count_columns) :=
  fn_X T.D_count_columns sc_count_columns rfl rfl (bd_count_columns T)
theorem b_count_columns (T : Tx Lab.T K mg base w) : Binds K (T.FD 3) ["table"] [] := T.D_count_columns.binds fun _ _ _ _ _ _ us hl => match us, hl with | [_], _ => rfl
def mb_every_place : DEnv → Option DFlow := (sRet (fTupRg (fLenN 0)))
def m_every_place := runF 1 1 mb_every_place
theorem sc_every_place : FnScope ["table"] ["table"] (defScope (topS 30)) := ⟨rfl, rfl, rfl, by decide +kernel, rfl, by decide +kernel, by decide +kernel⟩
theorem bd_every_place (T : Tx Lab.T K mg base w) : BodyOk P w K mg base ["table"] "every_place" (topS 30) (T.A 4) (T.FD 4).code 0 mb_every_place := by
  have sc := sc_every_place
  intro cdv A outer s H E F hcv hW hgd hr
  exact (dss_one (ds_ret (pd_tupRg T.n_tuple T.n_range (pd_lenN 0 T.n_len))))
theorem ok_every_place (T : Tx Lab.T K mg base w) : FnG P w K mg base 1 (T.A 4) (T.FD 4) ["table"] (spF K 1 m_every_place) :=
  fn_F T.D_every_place sc_every_place rfl rfl (bd_every_place T)
theorem b_every_place (T : Tx Lab.T K mg base w) : Binds K (T.FD 4) ["table"] [] := T.D_every_place.binds fun _ _ _ _ _ _ us hl => match us, hl with | [_], _ => rfl
def mb_records_at : DEnv → Option DFlow := (sRet (fCB tupleD (fCons (fFrz (nLc (iSeq (rdF 1)) (gSet 2) fYes (fIxN 0 (rdF 2)) [2])) fNil)))
def m_records_at := runF 2 3 mb_records_at
theorem sc_records_at : FnScope ["table", "places", "place"] ["table", "places"] (defScope (topS 31)) := ⟨rfl, rfl, rfl, by decide +kernel, rfl, by decide +kernel, by decide +kernel⟩
theorem bd_records_at (T : Tx Lab.T K mg base w) : BodyOk P w K mg base ["table", "places", "place"] "records_at" (topS 31) (T.A 5) (T.FD 5).code 0 mb_records_at := by
  have sc := sc_records_at
  intro cdv A outer s H E F hcv hW hgd hr
  exact (dss_one (ds_ret (pd_callTy (cd_tuple) T.n_tuple (by decide +kernel) (pda_cons (pn_pd (pn_lc [("place", 2)] sc.nd (di_seq (pd_name 1)) (blkOk_by (own := [("place", 2)]) (by kernel_rfl)) (fun _ _ _ _ _ => (gn_name 2 sc.nd)) (fun _ _ _ _ _ => dts_nil) (fun _ _ _ _ _ => (pd_ixN 0 (pd_name 2))))) pda_nil))))
theorem ok_records_at (T : Tx Lab.T K mg base w) : FnG P w K mg base 1 (T.A 5) (T.FD 5) ["table", "places"] (spF K 2 m_records_at) :=
  fn_F T.D_records_at sc_records_at rfl rfl (bd_records_at T)
theorem b_records_at (T : Tx Lab.T K mg base w) : Binds K (T.FD 5) ["table", "places"] [] := T.D_records_at.binds fun _ _ _ _ _ _ us hl => match us, hl with | [_, _], _ => rfl
def mb_check_columns_below : DEnv → Option DFlow := (sSeq (sSetN 2 (nLc (iSeq (rdF 0)) (gSet 3) (fTst (fBin geD (rdF 3) (rdF 1))) (rdF 3) [3])) (sIf (fTruN 2) (sRaise "MissingColumn" "column" (fCB minLD (fCons (rdF 2) fNil))) sNil))
def m_check_columns_below := runX 2 4 mb_check_columns_below
theorem sc_check_columns_below : FnScope ["columns", "width", "missing", "column"] ["columns", "width"] (defScope (topS 32)) := ⟨rfl, rfl, rfl, by decide +kernel, rfl, by decide +kernel, by decide +kernel⟩
theorem bd_check_columns_below (T : Tx Lab.T K mg base w) : BodyX T.C P w K mg base ["columns", "width", "missing", "column"] "check_columns_below" (topS 32) (T.A 6) (T.FD 6).code 2 mb_check_columns_below := by
  have sc := sc_check_columns_below
  intro cdv A outer s H E F hcv tk hp hgd hr
  exact (dss_cons (ds_setLc 2 [("column", 3)] sc.nd (di_seq (pd_name 0)) (blkOk_by (own := [("column", 3)]) (by kernel_rfl)) (fun _ _ _ _ _ => (gn_name 3 sc.nd)) (fun _ _ _ _ _ => (dts_one (pdt_cmp od_ge intD_b (pd_name 3) (pd_name 1)))) (fun _ _ _ _ _ => (pd_name 3)) (sw_true rfl rfl rfl (by decide +kernel)))
    (dss_one (ds_if (pdt_name 2) (dss_one (ds_raiseL rfl tk T.x_MissingColumn T.xi_MissingColumn T.xt_MissingColumn (xo_MissingColumn T) (hr.mono (by decide)) (xb_MissingColumn T) T.xm_MissingColumn (pd_callB (cd_minL rfl) T.n_min (by decide +kernel) (pda_cons (pd_name 2) pda_nil)))) dss_nil)))
theorem okx_check_columns_below (T : Tx Lab.T K mg base w) : FnX P w K mg base 3 (T.A 6) (T.FD 6) ["columns", "width"] (spX K T.C 2 m_check_columns_below) :=
  fn_X T.D_check_columns_below sc_check_columns_below rfl rfl (bd_check_columns_below T)
theorem b_check_columns_below (T : Tx Lab.T K mg base w) : Binds K (T.FD 6) ["columns", "width"] [] := T.D_check_columns_below.binds fun _ _ _ _ _ _ us hl => match us, hl with | [_, _], _ => rfl
def mb_is_word : DEnv → Option DFlow := (sRet (fAndV (fIsi "str" (rdF 0)) (fCmpN inD (rdF 0) 1)))
def m_is_word := runF 2 2 mb_is_word
theorem sc_is_word : FnScope ["value", "words"] ["value", "words"] (defScope (topS 35)) := ⟨rfl, rfl, rfl, by decide +kernel, rfl, by decide +kernel, by decide +kernel⟩
theorem bd_is_word (T : Tx Lab.T K mg base w) : BodyOk P w K mg base ["value", "words"] "is_word" (topS 35) (T.A 7) (T.FD 7).code 0 mb_is_word := by
  have sc := sc_is_word
  intro cdv A outer s H E F hcv hW hgd hr
  exact (dss_one (ds_ret (pd_and (pd_isi (kit_str K) T.n_isinstance T.n_str (by decide +kernel) (pd_name 0)) (pd_one (pd_cmpN (od_in hr) inD_scal (pd_name 0) 1)))))
theorem ok_is_word (T : Tx Lab.T K mg base w) : FnG P w K mg base 1 (T.A 7) (T.FD 7) ["value", "words"] (spF K 2 m_is_word) :=
  fn_F T.D_is_word sc_is_word rfl rfl (bd_is_word T)
theorem b_is_word (T : Tx Lab.T K mg base w) : Binds K (T.FD 7) ["value", "words"] [] := T.D_is_word.binds fun _ _ _ _ _ _ us hl => match us, hl with | [_, _], _ => rfl
def mb_is_pair : DEnv → Option DFlow := (sRet (fAndV (fIsi "tuple" (rdF 0)) (fBin eqD (fLenN 0) (fC (.int 2)))))
def m_is_pair := runF 1 1 mb_is_pair
theorem sc_is_pair : FnScope ["value"] ["value"] (defScope (topS 36)) := ⟨rfl, rfl, rfl, by decide +kernel, rfl, by decide +kernel, by decide +kernel⟩
theorem bd_is_pair (T : Tx Lab.T K mg base w) : BodyOk P w K mg base ["value"] "is_pair" (topS 36) (T.A 8) (T.FD 8).code 0 mb_is_pair := by
  have sc := sc_is_pair
  intro cdv A outer s H E F hcv hW hgd hr
  exact (dss_one (ds_ret (pd_and (pd_isi (kit_tuple K) T.n_isinstance T.n_tuple (by decide +kernel) (pd_name 0)) (pd_one (pd_cmp (od_eq hr) (pd_lenN 0 T.n_len) pd_int)))))
theorem ok_is_pair (T : Tx Lab.T K mg base w) : FnG P w K mg base 1 (T.A 8) (T.FD 8) ["value"] (spF K 1 m_is_pair) :=
  fn_F T.D_is_pair sc_is_pair rfl rfl (bd_is_pair T)
theorem b_is_pair (T : Tx Lab.T K mg base w) : Binds K (T.FD 8) ["value"] [] := T.D_is_pair.binds fun _ _ _ _ _ _ us hl => match us, hl with | [_], _ => rfl
def mb_is_sort_column : DEnv → Option DFlow := (sRet (fAndV (fCB m_is_integer (fCons (rdF 0) fNil)) (fChain leD ltD (fC (.int 0)) (rdF 0) (fC cv_MOST_KEYS))))
def m_is_sort_column := runF 1 1 mb_is_sort_column
theorem sc_is_sort_column : FnScope ["value"] ["value"] (defScope (topS 37)) := ⟨rfl, rfl, rfl, by decide +kernel, rfl, by decide +kernel, by decide +kernel⟩
theorem bd_is_sort_column (T : Tx Lab.T K mg base w) : BodyOk P w K mg base ["value"] "is_sort_column" (topS 37) (T.A 9) (T.FD 9).code 1 mb_is_sort_column := by
  have sc := sc_is_sort_column
  intro cdv A outer s H E F hcv hW hgd hr
  exact (dss_one (ds_ret (pd_and (pd_call ((ok_is_integer T).mono (by decide)) runF_len hgd hr T.g_is_integer T.D_is_integer.kp (b_is_integer T) (pda_cons (pd_name 0) pda_nil)) (pd_one (pd_chain od_le od_lt pd_int (pd_name 0) (pd_glob (T.c_MOST_KEYS).choose_spec.1 (T.c_MOST_KEYS).choose_spec.2.1 (T.c_MOST_KEYS).choose_spec.2.2))))))
theorem ok_is_sort_column (T : Tx Lab.T K mg base w) : FnG P w K mg base 2 (T.A 9) (T.FD 9) ["value"] (spF K 1 m_is_sort_column) :=
  fn_F T.D_is_sort_column sc_is_sort_column rfl rfl (bd_is_sort_column T)
theorem b_is_sort_column (T : Tx Lab.T K mg base w) : Binds K (T.FD 9) ["value"] [] := T.D_is_sort_column.binds fun _ _ _ _ _ _ us hl => match us, hl with | [_], _ => rfl
def mb_is_key : DEnv → Option DFlow := (sRet (fAndV (fCB m_is_pair (fCons (rdF 0) fNil)) (fAndV (fCB m_is_sort_column (fCons (fIxN 0 (fC (.int 0))) fNil)) (fCB m_is_word (fCons (fIxN 0 (fC (.int 1))) (fCons (fC cv_DIRECTIONS) fNil))))))
def m_is_key := runF 1 1 mb_is_key
theorem sc_is_key : FnScope ["value"] ["value"] (defScope (topS 38)) := ⟨rfl, rfl, rfl, by decide +kernel, rfl, by decide +kernel, by decide +kernel⟩
theorem bd_is_key (T : Tx Lab.T K mg base w) : BodyOk P w K mg base ["value"] "is_key" (topS 38) (T.A 10) (T.FD 10).code 2 mb_is_key := by
  have sc := sc_is_key
  intro cdv A outer s H E F hcv hW hgd hr
  exact (dss_one (ds_ret (pd_and (pd_call ((ok_is_pair T).mono (by decide)) runF_len hgd hr T.g_is_pair T.D_is_pair.kp (b_is_pair T) (pda_cons (pd_name 0) pda_nil)) (pd_and (pd_call ((ok_is_sort_column T).mono (by decide)) runF_len hgd hr T.g_is_sort_column T.D_is_sort_column.kp (b_is_sort_column T) (pda_cons (pd_ixN 0 pd_int) pda_nil)) (pd_one (pd_call ((ok_is_word T).mono (by decide)) runF_len hgd hr T.g_is_word T.D_is_word.kp (b_is_word T) (pda_cons (pd_ixN 0 pd_int) (pda_cons (pd_glob (T.c_DIRECTIONS).choose_spec.1 (T.c_DIRECTIONS).choose_spec.2.1 (T.c_DIRECTIONS).choose_spec.2.2) pda_nil))))))))
theorem ok_is_key (T : Tx Lab.T K mg base w) : FnG P w K mg base 3 (T.A 10) (T.FD 10) ["value"] (spF K 1 m_is_key) :=
  fn_F T.D_is_key sc_is_key rfl rfl (bd_is_key T)
theorem b_is_key (T : Tx Lab.T K mg base w) : Binds K (T.FD 10) ["value"] [] := T.D_is_key.binds fun _ _ _ _ _ _ us hl => match us, hl with | [_], _ => rfl
def mb_is_place_part : DEnv → Option DFlow := (sRet (fAndV (fCB m_is_pair (fCons (rdF 0) fNil)) (fAndV (fCB m_is_word (fCons (fIxN 0 (fC (.int 0))) (fCons (fTup (fCons (fC (.str "place")) fNil)) fNil))) (fCB m_is_word (fCons (fIxN 0 (fC (.int 1))) (fCons (fC cv_DIRECTIONS) fNil))))))
def m_is_place_part := runF 1 1 mb_is_place_part
theorem sc_is_place_part : FnScope ["value"] ["value"] (defScope (topS 39)) := ⟨rfl, rfl, rfl, by decide +kernel, rfl, by decide +kernel, by decide +kernel⟩
theorem bd_is_place_part (T : Tx Lab.T K mg base w) : BodyOk P w K mg base ["value"] "is_place_part" (topS 39) (T.A 11) (T.FD 11).code 1 mb_is_place_part := by
  have sc := sc_is_place_part
  intro cdv A outer s H E F hcv hW hgd hr
  exact (dss_one (ds_ret (pd_and (pd_call ((ok_is_pair T).mono (by decide)) runF_len hgd hr T.g_is_pair T.D_is_pair.kp (b_is_pair T) (pda_cons (pd_name 0) pda_nil)) (pd_and (pd_call ((ok_is_word T).mono (by decide)) runF_len hgd hr T.g_is_word T.D_is_word.kp (b_is_word T) (pda_cons (pd_ixN 0 pd_int) (pda_cons (pd_tup (pda_cons pd_str pda_nil)) pda_nil))) (pd_one (pd_call ((ok_is_word T).mono (by decide)) runF_len hgd hr T.g_is_word T.D_is_word.kp (b_is_word T) (pda_cons (pd_ixN 0 pd_int) (pda_cons (pd_glob (T.c_DIRECTIONS).choose_spec.1 (T.c_DIRECTIONS).choose_spec.2.1 (T.c_DIRECTIONS).choose_spec.2.2) pda_nil))))))))
theorem ok_is_place_part (T : Tx Lab.T K mg base w) : FnG P w K mg base 2 (T.A 11) (T.FD 11) ["value"] (spF K 1 m_is_place_part) :=
  fn_F T.D_is_place_part sc_is_place_part rfl rfl (bd_is_place_part T)
theorem b_is_place_part (T : Tx Lab.T K mg base w) : Binds K (T.FD 11) ["value"] [] := T.D_is_place_part.binds fun _ _ _ _ _ _ us hl => match us, hl with | [_], _ => rfl
def mb_check_order : DEnv → Option DFlow := (sSeq (sIf (fOr (fNot (fTst (fIsi "tuple" (rdF 0)))) (fTst (fBin eqD (fLenN 0) (fC (.int 0))))) (sRaise "InvalidOrder" "index" (fC .none)) sNil) (sSeq (sSetN 1 (fLst fNil)) (sSeq (sFor (iArg enumTA (fCons (fSl (rdF 0) oNone (oSome (fNeg (fC (.int 1))))) fNil)) (gTupD 2 (gsCons (gSet 2) (gsCons (gSet 3) gsNil))) (sSeq (sIf (fOr (fNot (fTst (fCB m_is_key (fCons (rdF 3) fNil)))) (fTst (fCmpN inD (fIxN 3 (fC (.int 0))) 1))) (sRaise "InvalidOrder" "index" (rdF 2)) sNil) (sApp 1 (fIxN 3 (fC (.int 0)))))) (sIf (fNot (fTst (fCB m_is_place_part (fCons (fIxN 0 (fNeg (fC (.int 1)))) fNil)))) (sRaise "InvalidOrder" "index" (fBin subD (fLenN 0) (fC (.int 1)))) sNil))))
def m_check_order := runX 1 4 mb_check_order
theorem sc_check_order : FnScope ["order", "columns", "index", "part"] ["order"] (defScope (topS 40)) := ⟨rfl, rfl, rfl, by decide +kernel, rfl, by decide +kernel, by decide +kernel⟩
theorem bd_check_order (T : Tx Lab.T K mg base w) : BodyX T.C P w K mg base ["order", "columns", "index", "part"] "check_order" (topS 40) (T.A 12) (T.FD 12).code 3 mb_check_order := by
  have sc := sc_check_order
  intro cdv A outer s H E F hcv tk hp hgd hr
  exact (dss_cons (ds_if (pdt_w (pdw_or (pdt_not (pdt_val (pd_isi (kit_tuple K) T.n_isinstance T.n_tuple (by decide +kernel) (pd_name 0)))) (pdw_or1 (pdt_cmp (od_eq hr) eqD_b (pd_lenN 0 T.n_len) pd_int)))) (dss_one (ds_raise rfl tk T.x_InvalidOrder T.xi_InvalidOrder T.xt_InvalidOrder (xo_InvalidOrder T) (hr.mono (by decide)) (xb_InvalidOrder T) T.xm_InvalidOrder pd_non)) dss_nil)
    (dss_cons (ds_setN 1 (pn_lst pda_nil) sc.nd)
    (dss_cons (ds_for (di_enumA T.n_enumerate (pda_cons (pd_slice (pd_name 0) do_none (do_some (pd_neg pd_int))) pda_nil)) (dg_tup (dgs_cons (dg_name 2 sc.nd) (dgs_cons (dg_name 3 sc.nd) dgs_nil))) (dss_cons (ds_if (pdt_w (pdw_or (pdt_not (pdt_val (pd_call ((ok_is_key T).mono (by decide)) runF_len hgd hr T.g_is_key T.D_is_key.kp (b_is_key T) (pda_cons (pd_name 3) pda_nil)))) (pdw_or1 (pdt_cmpN (od_in hr) inD_scal inD_b (pd_ixN 3 pd_int) 1)))) (dss_one (ds_raise rfl tk T.x_InvalidOrder T.xi_InvalidOrder T.xt_InvalidOrder (xo_InvalidOrder T) (hr.mono (by decide)) (xb_InvalidOrder T) T.xm_InvalidOrder (pd_name 2))) dss_nil)
      (dss_one (ds_append 1 (pd_ixN 3 pd_int)))) hp)
    (dss_one (ds_if (pdt_not (pdt_val (pd_call ((ok_is_place_part T).mono (by decide)) runF_len hgd hr T.g_is_place_part T.D_is_place_part.kp (b_is_place_part T) (pda_cons (pd_ixN 0 (pd_neg pd_int)) pda_nil)))) (dss_one (ds_raise rfl tk T.x_InvalidOrder T.xi_InvalidOrder T.xt_InvalidOrder (xo_InvalidOrder T) (hr.mono (by decide)) (xb_InvalidOrder T) T.xm_InvalidOrder (pd_bin od_sub (pd_lenN 0 T.n_len) pd_int))) dss_nil)))))
theorem okx_check_order (T : Tx Lab.T K mg base w) : FnX P w K mg base 4 (T.A 12) (T.FD 12) ["order"] (spX K T.C 1 m_check_order) :=
  fn_X T.D_check_order sc_check_order rfl rfl (bd_check_order T)
theorem b_check_order (T : Tx Lab.T K mg base w) : Binds K (T.FD 12) ["order"] [] := T.D_check_order.binds fun _ _ _ _ _ _ us hl => match us, hl with | [_], _ => rfl
def mb_columns_of : DEnv → Option DFlow := (sRet (fFrz (nLc (iSeq (fSl (rdF 0) oNone (oSome (fNeg (fC (.int 1)))))) (gTupD 2 (gsCons (gSet 1) (gsCons (gSet 2) gsNil))) fYes (rdF 1) [1, 2])))
def m_columns_of := runF 1 3 mb_columns_of
theorem sc_columns_of : FnScope ["order", "column", "direction"] ["order"] (defScope (topS 41)) := ⟨rfl, rfl, rfl, by decide +kernel, rfl, by decide +kernel, by decide +kernel⟩
theorem bd_columns_of (T : Tx Lab.T K mg base w) : BodyOk P w K mg base ["order", "column", "direction"] "columns_of" (topS 41) (T.A 13) (T.FD 13).code 0 mb_columns_of := by
  have sc := sc_columns_of
  intro cdv A outer s H E F hcv hW hgd hr
  exact (dss_one (ds_ret (pn_pd (pn_lc [("column", 1), ("direction", 2)] sc.nd (di_seq (pd_slice (pd_name 0) do_none (do_some (pd_neg pd_int)))) (blkOk_by (own := [("column", 1), ("direction", 2)]) (by kernel_rfl)) (fun _ _ _ _ _ => (gn_tup (gns_cons (gn_name 1 sc.nd) (gns_cons (gn_name 2 sc.nd) gns_nil)))) (fun _ _ _ _ _ => dts_nil) (fun _ _ _ _ _ => (pd_name 1))))))
theorem ok_columns_of (T : Tx Lab.T K mg base w) : FnG P w K mg base 1 (T.A 13) (T.FD 13) ["order"] (spF K 1 m_columns_of) :=
  fn_F T.D_columns_of sc_columns_of rfl rfl (bd_columns_of T)
theorem b_columns_of (T : Tx Lab.T K mg base w) : Binds K (T.FD 13) ["order"] [] := T.D_columns_of.binds fun _ _ _ _ _ _ us hl => match us, hl with | [_], _ => rfl
def mb_opposite : DEnv → Option DFlow := (sRet (fIf (fTst (fBin eqD (rdF 0) (fC (.str "up")))) (fC (.str "down")) (fC (.str "up"))))
def m_opposite := runF 1 1 mb_opposite
theorem sc_opposite : FnScope ["direction"] ["direction"] (defScope (topS 42)) := ⟨rfl, rfl, rfl, by decide +kernel, rfl, by decide +kernel, by decide +kernel⟩
theorem bd_opposite (T : Tx Lab.T K mg base w) : BodyOk P w K mg base ["direction"] "opposite" (topS 42) (T.A 14) (T.FD 14).code 0 mb_opposite := by
  have sc := sc_opposite
  intro cdv A outer s H E F hcv hW hgd hr
  exact (dss_one (ds_ret (pd_if (pdt_cmp (od_eq hr) eqD_b (pd_name 0) pd_str) pd_str pd_str)))
theorem ok_opposite (T : Tx Lab.T K mg base w) : FnG P w K mg base 1 (T.A 14) (T.FD 14) ["direction"] (spF K 1 m_opposite) :=
  fn_F T.D_opposite sc_opposite rfl rfl (bd_opposite T)
theorem b_opposite (T : Tx Lab.T K mg base w) : Binds K (T.FD 14) ["direction"] [] := T.D_opposite.binds fun _ _ _ _ _ _ us hl => match us, hl with | [_], _ => rfl
def mb_turned : DEnv → Option DFlow := (sSeq (sExprX (fCX m_check_order (fCons (rdF 0) fNil))) (sRet (fCB tupleD (fCons (fFrz (nLc (iSeq (rdF 0)) (gTupD 2 (gsCons (gSet 1) (gsCons (gSet 2) gsNil))) fYes (fTup (fCons (rdF 1) (fCons (fCB m_opposite (fCons (rdF 2) fNil)) fNil))) [1, 2])) fNil))))
def m_turned := runX 1 3 mb_turned
theorem sc_turned : FnScope ["order", "part", "direction"] ["order"] (defScope (topS 43)) := ⟨rfl, rfl, rfl, by decide +kernel, rfl, by decide +kernel, by decide +kernel⟩
theorem bd_turned (T : Tx Lab.T K mg base w) : BodyX T.C P w K mg base ["order", "part", "direction"] "turned" (topS 43) (T.A 15) (T.FD 15).code 4 mb_turned := by
  have sc := sc_turned
  intro cdv A outer s H E F hcv tk hp hgd hr
  exact (dss_cons (ds_exprX (pdx_call tk ((okx_check_order T).mono (by decide)) runX_len hgd hr T.g_check_order T.D_check_order.kp (b_check_order T) (pda_cons (pd_name 0) pda_nil)))
    (dss_one (ds_ret (pd_callTy (cd_tuple) T.n_tuple (by decide +kernel) (pda_cons (pn_pd (pn_lc [("part", 1), ("direction", 2)] sc.nd (di_seq (pd_name 0)) (blkOk_by (own := [("part", 1), ("direction", 2)]) (by kernel_rfl)) (fun _ _ _ _ _ => (gn_tup (gns_cons (gn_name 1 sc.nd) (gns_cons (gn_name 2 sc.nd) gns_nil)))) (fun _ _ _ _ _ => dts_nil) (fun _ _ _ _ _ => (pd_tup (pda_cons (pd_name 1) (pda_cons (pd_call ((ok_opposite T).mono (by decide)) runF_len hgd hr T.g_opposite T.D_opposite.kp (b_opposite T) (pda_cons (pd_name 2) pda_nil)) pda_nil)))))) pda_nil)))))
theorem okx_turned (T : Tx Lab.T K mg base w) : FnX P w K mg base 5 (T.A 15) (T.FD 15) ["order"] (spX K T.C 1 m_turned) :=
  fn_X T.D_turned sc_turned rfl rfl (bd_turned T)
theorem b_turned (T : Tx Lab.T K mg base w) : Binds K (T.FD 15) ["order"] [] := T.D_turned.binds fun _ _ _ _ _ _ us hl => match us, hl with | [_], _ => rfl
def mb_sort_values : DEnv → Option DFlow := (sSeq (sSetN 3 (fLst fNil)) (sSeq (sFor (iSeq (rdF 1)) (gTupD 2 (gsCons (gSet 4) (gsCons (gSet 5) gsNil))) (sSeq (sSet 6 (fIf (fTst (fBin eqD (rdF 4) (fC (.str "place")))) (rdF 2) (fBin ixD (fIxN 0 (rdF 2)) (rdF 4)))) (sApp 3 (fIf (fTst (fBin eqD (rdF 5) (fC (.str "up")))) (rdF 6) (fNeg (rdF 6)))))) (sRet (fCB tupleD (fCons (rdF 3) fNil)))))
def m_sort_values := runF 3 7 mb_sort_values
theorem sc_sort_values : FnScope ["table", "order", "place", "found", "part", "direction", "value"] ["table", "order", "place"] (defScope (topS 44)) := ⟨rfl, rfl, rfl, by decide +kernel, rfl, by decide +kernel, by decide +kernel⟩
theorem bd_sort_values (T : Tx Lab.T K mg base w) : BodyOk P w K mg base ["table", "order", "place", "found", "part", "direction", "value"] "sort_values" (topS 44) (T.A 16) (T.FD 16).code 0 mb_sort_values := by
  have sc := sc_sort_values
  intro cdv A outer s H E F hcv hW hgd hr
  exact (dss_cons (ds_setN 3 (pn_lst pda_nil) sc.nd)
    (dss_cons (ds_for (di_seq (pd_name 1)) (dg_tup (dgs_cons (dg_name 4 sc.nd) (dgs_cons (dg_name 5 sc.nd) dgs_nil))) (dss_cons (ds_set 6 (pd_if (pdt_cmp (od_eq hr) eqD_b (pd_name 4) pd_str) (pd_name 2) (pd_ix (pd_ixN 0 (pd_name 2)) (pd_name 4))) sc.nd)
      (dss_one (ds_append 3 (pd_if (pdt_cmp (od_eq hr) eqD_b (pd_name 5) pd_str) (pd_name 6) (pd_neg (pd_name 6)))))))
    (dss_one (ds_ret (pd_callTy (cd_tuple) T.n_tuple (by decide +kernel) (pda_cons (pd_name 3) pda_nil))))))
theorem ok_sort_values (T : Tx Lab.T K mg base w) : FnG P w K mg base 1 (T.A 16) (T.FD 16) ["table", "order", "place"] (spF K 3 m_sort_values) :=
  fn_F T.D_sort_values sc_sort_values rfl rfl (bd_sort_values T)
theorem b_sort_values (T : Tx Lab.T K mg base w) : Binds K (T.FD 16) ["table", "order", "place"] [] := T.D_sort_values.binds fun _ _ _ _ _ _ us hl => match us, hl with | [_, _, _], _ => rfl
def mb_sorted_places : DEnv → Option DFlow := (sRet (fCB tupleD (fCons (fFrz (nSortT (rdF 1) (fCB m_sort_values (fCons (rdF 0) (fCons (rdF 2) (fCons (rdF 3) fNil)))))) fNil)))
def m_sorted_places := runF 3 3 mb_sorted_places
theorem sc_sorted_places : FnScope ["table", "places", "order"] ["table", "places", "order"] (defScope (topS 45)) := ⟨rfl, rfl, rfl, by decide +kernel, rfl, by decide +kernel, by decide +kernel⟩
theorem bd_sorted_places (T : Tx Lab.T K mg base w) : BodyOk P w K mg base ["table", "places", "order"] "sorted_places" (topS 45) (T.A 17) (T.FD 17).code 4 mb_sorted_places := by
  have sc := sc_sorted_places
  intro cdv A outer s H E F hcv hW hgd hr
  exact (dss_one (ds_ret (pd_callTy (cd_tuple) T.n_tuple (by decide +kernel) (pda_cons (pn_pd (pn_sortT (k := 1) T.n_sorted T.tb_sorted_places (hcv.trans T.cd_sorted_places) T.lb_sorted_places T.lu_sorted_places (lam1_by (by kernel_rfl)) (hr.mono (by decide)) (by kernel_rfl) (fun _ _ _ _ _ _ => rfl) (pd_name 1) (fun _ _ _ _ hr => (pd_call ((ok_sort_values T).mono (by decide)) runF_len hgd hr T.g_sort_values T.D_sort_values.kp (b_sort_values T) (pda_cons (pd_name 0) (pda_cons (pd_name 2) (pda_cons (pd_name 3) pda_nil))))))) pda_nil))))
theorem ok_sorted_places (T : Tx Lab.T K mg base w) : FnG P w K mg base 5 (T.A 17) (T.FD 17) ["table", "places", "order"] (spF K 3 m_sorted_places) :=
  fn_F T.D_sorted_places sc_sorted_places rfl rfl (bd_sorted_places T)
theorem b_sorted_places (T : Tx Lab.T K mg base w) : Binds K (T.FD 17) ["table", "places", "order"] [] := T.D_sorted_places.binds fun _ _ _ _ _ _ us hl => match us, hl with | [_, _, _], _ => rfl
def mb_places_by : DEnv → Option DFlow := (sSeq (sSetX 2 (fCX m_count_columns (fCons (rdF 0) fNil))) (sSeq (sExprX (fCX m_check_order (fCons (rdF 1) fNil))) (sSeq (sExprX (fCX m_check_columns_below (fCons (fCB m_columns_of (fCons (rdF 1) fNil)) (fCons (rdF 2) fNil)))) (sRet (fCB m_sorted_places (fCons (rdF 0) (fCons (fCB m_every_place (fCons (rdF 0) fNil)) (fCons (rdF 1) fNil))))))))
def m_places_by := runX 2 3 mb_places_by
theorem sc_places_by : FnScope ["table", "order", "width"] ["table", "order"] (defScope (topS 46)) := ⟨rfl, rfl, rfl, by decide +kernel, rfl, by decide +kernel, by decide +kernel⟩
theorem bd_places_by (T : Tx Lab.T K mg base w) : BodyX T.C P w K mg base ["table", "order", "width"] "places_by" (topS 46) (T.A 18) (T.FD 18).code 5 mb_places_by := by
  have sc := sc_places_by
  intro cdv A outer s H E F hcv tk hp hgd hr
  exact (dss_cons (ds_setX 2 (pdx_call tk ((okx_count_columns T).mono (by decide)) runX_len hgd hr T.g_count_columns T.D_count_columns.kp (b_count_columns T) (pda_cons (pd_name 0) pda_nil)) sc.nd)
    (dss_cons (ds_exprX (pdx_call tk ((okx_check_order T).mono (by decide)) runX_len hgd hr T.g_check_order T.D_check_order.kp (b_check_order T) (pda_cons (pd_name 1) pda_nil)))
    (dss_cons (ds_exprX (pdx_call tk ((okx_check_columns_below T).mono (by decide)) runX_len hgd hr T.g_check_columns_below T.D_check_columns_below.kp (b_check_columns_below T) (pda_cons (pd_call ((ok_columns_of T).mono (by decide)) runF_len hgd hr T.g_columns_of T.D_columns_of.kp (b_columns_of T) (pda_cons (pd_name 1) pda_nil)) (pda_cons (pd_name 2) pda_nil))))
    (dss_one (ds_ret (pd_call ((ok_sorted_places T).mono (by decide)) runF_len hgd hr T.g_sorted_places T.D_sorted_places.kp (b_sorted_places T) (pda_cons (pd_name 0) (pda_cons (pd_call ((ok_every_place T).mono (by decide)) runF_len hgd hr T.g_every_place T.D_every_place.kp (b_every_place T) (pda_cons (pd_name 0) pda_nil)) (pda_cons (pd_name 1) pda_nil)))))))))
theorem okx_places_by (T : Tx Lab.T K mg base w) : FnX P w K mg base 6 (T.A 18) (T.FD 18) ["table", "order"] (spX K T.C 2 m_places_by) :=
  fn_X T.D_places_by sc_places_by rfl rfl (bd_places_by T)
theorem b_places_by (T : Tx Lab.T K mg base w) : Binds K (T.FD 18) ["table", "order"] [] := T.D_places_by.binds fun _ _ _ _ _ _ us hl => match us, hl with | [_, _], _ => rfl
def mb_sorted_by : DEnv → Option DFlow := (sRetX (fCB2X m_records_at (rdF 0) (fCX m_places_by (fCons (rdF 0) (fCons (rdF 1) fNil)))))
def m_sorted_by := runX 2 2 mb_sorted_by
theorem sc_sorted_by : FnScope ["table", "order"] ["table", "order"] (defScope (topS 47)) := ⟨rfl, rfl, rfl, by decide +kernel, rfl, by decide +kernel, by decide +kernel⟩
theorem bd_sorted_by (T : Tx Lab.T K mg base w) : BodyX T.C P w K mg base ["table", "order"] "sorted_by" (topS 47) (T.A 19) (T.FD 19).code 6 mb_sorted_by := by
  have sc := sc_sorted_by
  intro cdv A outer s H E F hcv tk hp hgd hr
  exact (dss_one (ds_retX (pdx_call2 ((ok_records_at T).mono (by decide)) runF_len hgd hr T.g_records_at T.D_records_at.kp (b_records_at T) (pd_name 0) (pdx_call tk ((okx_places_by T).mono (by decide)) runX_len hgd hr T.g_places_by T.D_places_by.kp (b_places_by T) (pda_cons (pd_name 0) (pda_cons (pd_name 1) pda_nil))))))
theorem okx_sorted_by (T : Tx Lab.T K mg base w) : FnX P w K mg base 7 (T.A 19) (T.FD 19) ["table", "order"] (spX K T.C 2 m_sorted_by) :=
  fn_X T.D_sorted_by sc_sorted_by rfl rfl (bd_sorted_by T)
theorem b_sorted_by (T : Tx Lab.T K mg base w) : Binds K (T.FD 19) ["table", "order"] [] := T.D_sorted_by.binds fun _ _ _ _ _ _ us hl => match us, hl with | [_, _], _ => rfl
variable [LabR]
def mb__law_cell : DEnv → Option DFlow := (sSeq (sIf (fTst (fBin ltD (rdF 1) (fLenN 0))) (sRet (fIxN 0 (rdF 1))) sNil) (sSeq (sSet 2 (fBin modD (fBin mulD (fC (.int 60013)) (fBin addD (fBin addD (fBin mulD (rdF 1) (rdF 1)) (fBin mulD (fC (.int 5)) (rdF 1))) (fC (.int 3)))) (fC (.int 2147483249)))) (sSeq (sFor (iSeq (fSl (rdF 0) oNone (oSome (fC (.int 3))))) (gSet 3) (sSet 2 (fBin modD (fBin addD (fBin mulD (rdF 2) (fC (.int 41221))) (rdF 3)) (fC (.int 2147483249))))) (sRet (rdF 2)))))
def m__law_cell := runF 2 4 mb__law_cell
theorem sc__law_cell : FnScope ["_law_script", "_law_k", "_law_state", "_law_figure"] ["_law_script", "_law_k"] (defScope (topS 49)) := ⟨rfl, rfl, rfl, by decide +kernel, rfl, by decide +kernel, by decide +kernel⟩
theorem bd__law_cell (T : Tx Lab.T K mg base w) : BodyOk P w K mg base ["_law_script", "_law_k", "_law_state", "_law_figure"] "_law_cell" (topS 49) (T.A 20) (T.FD 20).code 0 mb__law_cell := by
  have sc := sc__law_cell
  intro cdv A outer s H E F hcv hW hgd hr
  exact (dss_cons (ds_if (pdt_cmp od_lt intD_b (pd_name 1) (pd_lenN 0 T.n_len)) (dss_one (ds_ret (pd_ixN 0 (pd_name 1)))) dss_nil)
    (dss_cons (ds_set 2 (pd_bin od_mod (pd_bin od_mul pd_int (pd_bin od_add (pd_bin od_add (pd_bin od_mul (pd_name 1) (pd_name 1)) (pd_bin od_mul pd_int (pd_name 1))) pd_int)) pd_int) sc.nd)
    (dss_cons (ds_for (di_seq (pd_slice (pd_name 0) do_none (do_some pd_int))) (dg_name 3 sc.nd) (dss_one (ds_set 2 (pd_bin od_mod (pd_bin od_add (pd_bin od_mul (pd_name 2) pd_int) (pd_name 3)) pd_int) sc.nd)))
    (dss_one (ds_ret (pd_name 2))))))
theorem ok__law_cell (T : Tx Lab.T K mg base w) : FnG P w K mg base 1 (T.A 20) (T.FD 20) ["_law_script", "_law_k"] (spF K 2 m__law_cell) :=
  fn_F T.D__law_cell sc__law_cell rfl rfl (bd__law_cell T)
theorem b__law_cell (T : Tx Lab.T K mg base w) : Binds K (T.FD 20) ["_law_script", "_law_k"] [] := T.D__law_cell.binds fun _ _ _ _ _ _ us hl => match us, hl with | [_, _], _ => rfl
def mb__law_pool : DEnv → Option DFlow := (sSeq (sSet 1 (fIf (fOr (fTst (fBin ltD (rdF 0) (fC (.int 0)))) (fTst (fBin geD (rdF 0) (fBin powD (fC (.int 10)) (fC (.int 18)))))) (fCB absD (fCons (rdF 0) fNil)) (fC (.int 0)))) (sRetN (fLst (fCons (fBin modD (rdF 0) (fC (.int 2147483249))) (fCons (rdF 1) (fCons (fC (.int 0)) fNil))))))
def m__law_pool := runN 1 2 mb__law_pool
theorem sc__law_pool : FnScope ["_law_figure", "_law_digits"] ["_law_figure"] (defScope (topS 50)) := ⟨rfl, rfl, rfl, by decide +kernel, rfl, by decide +kernel, by decide +kernel⟩
theorem bd__law_pool (T : Tx Lab.T K mg base w) : BodyOk P w K mg base ["_law_figure", "_law_digits"] "_law_pool" (topS 50) (T.A 21) (T.FD 21).code 0 mb__law_pool := by
  have sc := sc__law_pool
  intro cdv A outer s H E F hcv hW hgd hr
  exact (dss_cons (ds_set 1 (pd_if (pdt_w (pdw_or (pdt_cmp od_lt intD_b (pd_name 0) pd_int) (pdw_or1 (pdt_cmp od_ge intD_b (pd_name 0) (pd_bin od_pow pd_int pd_int))))) (pd_callB (cd_abs) T.n_abs (by decide +kernel) (pda_cons (pd_name 0) pda_nil)) pd_int) sc.nd)
    (dss_one (ds_retN (pn_lst (pda_cons (pd_bin od_mod (pd_name 0) pd_int) (pda_cons (pd_name 1) (pda_cons pd_int pda_nil)))))))
theorem ok__law_pool (T : Tx Lab.T K mg base w) : FnG P w K mg base 1 (T.A 21) (T.FD 21) ["_law_figure"] (spN K 1 m__law_pool) :=
  fn_N T.D__law_pool sc__law_pool rfl rfl (bd__law_pool T)
theorem b__law_pool (T : Tx Lab.T K mg base w) : Binds K (T.FD 21) ["_law_figure"] [] := T.D__law_pool.binds fun _ _ _ _ _ _ us hl => match us, hl with | [_], _ => rfl
def mb__law_draw : DEnv → Option DFlow := (sSeq (sAsg (fBin addD (fIxN 0 (fC (.int 2))) (fC (.int 1))) (gSubD 0 (fC (.int 2)))) (sSeq (sSet 2 (fIxN 0 (fC (.int 0)))) (sSeq (sAsg (fBin modD (fBin addD (fBin mulD (rdF 2) (fBin addD (fBin modD (rdF 2) (fC (.int 50021))) (fC (.int 30011)))) (fBin mulD (fC (.int 80021)) (fIxN 0 (fC (.int 2))))) (fC (.int 2147483249))) (gSubD 0 (fC (.int 0)))) (sSeq (sIf (fTst (fBin gtD (fIxN 0 (fC (.int 1))) (fC (.int 0)))) (sSeq (sAsg (fCB divmodB (fCons (fIxN 0 (fC (.int 1))) (fCons (rdF 1) fNil))) (gTupD 2 (gsCons (gSubD 0 (fC (.int 1))) (gsCons (gSet 3) gsNil)))) (sRet (rdF 3))) sNil) (sRet (fBin modD (fBin fdivD (fIxN 0 (fC (.int 0))) (fC (.int 64))) (rdF 1)))))))
def m__law_draw := runR 2 4 mb__law_draw
theorem sc__law_draw : FnScope ["_law_pool_here", "_law_most", "_law_state", "_law_digit"] ["_law_pool_here", "_law_most"] (defScope (topS 51)) := ⟨rfl, rfl, rfl, by decide +kernel, rfl, by decide +kernel, by decide +kernel⟩
theorem bd__law_draw (T : Tx Lab.T K mg base w) : BodyOk P w K mg base ["_law_pool_here", "_law_most", "_law_state", "_law_digit"] "_law_draw" (topS 51) (T.A 22) (T.FD 22).code 0 mb__law_draw := by
  have sc := sc__law_draw
  intro cdv A outer s H E F hcv hW hgd hr
  exact (dss_cons (ds_asg (pd_bin od_add (pd_ixN 0 pd_int) pd_int) (dg_sub 0 pd_int))
    (dss_cons (ds_set 2 (pd_ixN 0 pd_int) sc.nd)
    (dss_cons (ds_asg (pd_bin od_mod (pd_bin od_add (pd_bin od_mul (pd_name 2) (pd_bin od_add (pd_bin od_mod (pd_name 2) pd_int) pd_int)) (pd_bin od_mul pd_int (pd_ixN 0 pd_int))) pd_int) (dg_sub 0 pd_int))
    (dss_cons (ds_if (pdt_cmp od_gt intD_b (pd_ixN 0 pd_int) pd_int) (dss_cons (ds_asg (pd_callB cd_divmodB T.n_divmod (by decide +kernel) (pda_cons (pd_ixN 0 pd_int) (pda_cons (pd_name 1) pda_nil))) (dg_tup (dgs_cons (dg_sub 0 pd_int) (dgs_cons (dg_name 3 sc.nd) dgs_nil))))
      (dss_one (ds_ret (pd_name 3)))) dss_nil)
    (dss_one (ds_ret (pd_bin od_mod (pd_bin od_fdiv (pd_ixN 0 pd_int) pd_int) (pd_name 1))))))))
theorem ok__law_draw (T : Tx Lab.T K mg base w) : FnG P w K mg base 1 (T.A 22) (T.FD 22) ["_law_pool_here", "_law_most"] (spR K 2 m__law_draw) :=
  fn_R T.D__law_draw sc__law_draw rfl rfl (bd__law_draw T)
theorem b__law_draw (T : Tx Lab.T K mg base w) : Binds K (T.FD 22) ["_law_pool_here", "_law_most"] [] := T.D__law_draw.binds fun _ _ _ _ _ _ us hl => match us, hl with | [_, _], _ => rfl
def mb__law_table : DEnv → Option DFlow := (sSeq (sPar 3 4 (fCons (fBin addD (fC (.int 1)) (fCR 0 m__law_draw (fCons (rdF 2) fNil))) (fCons (fBin addD (fC (.int 1)) (fCR 0 m__law_draw (fCons (rdF 1) fNil))) fNil))) (sSeq (sSet 5 (fBin ixD (fFrz (fLst (fCons (fC (.int 2)) (fCons (fC (.int 3)) (fCons (fC (.int 9)) (fCons (fC (.int 1000)) fNil)))))) (fCR 0 m__law_draw (fCons (fC (.int 4)) fNil)))) (sSeq (sSetN 6 (fLst fNil)) (sSeq (sFor (iArg rng1 (fCons (rdF 4) fNil)) (gSet 7) (sIf (fAnd (fTst (fCmpL neD 6 (fFrz (fLst fNil)))) (fTst (fBin eqD (fCR 0 m__law_draw (fCons (fC (.int 6)) fNil)) (fC (.int 0))))) (sApp 6 (fIxN 6 (fCR 0 m__law_draw (fCons (fLenN 6) fNil)))) (sApp 6 (fCB tupleD (fCons (fFrz (nLc (iArg rng1 (fCons (rdF 3) fNil)) (gSet 8) fYes (fBin subD (fCR 0 m__law_draw (fCons (rdF 5) fNil)) (fBin fdivD (rdF 5) (fC (.int 2)))) [8])) fNil))))) (sRet (fCB tupleD (fCons (rdF 6) fNil)))))))
def m__law_table := runR 3 9 mb__law_table
theorem sc__law_table : FnScope ["_law_pool_here", "_law_most", "_law_wide", "_law_sides", "_law_many", "_law_spread", "_law_found", "_law_turn", "_law_side"] ["_law_pool_here", "_law_most", "_law_wide"] (defScope (topS 52)) := ⟨rfl, rfl, rfl, by decide +kernel, rfl, by decide +kernel, by decide +kernel⟩
theorem bd__law_table (T : Tx Lab.T K mg base w) : BodyOk P w K mg base ["_law_pool_here", "_law_most", "_law_wide", "_law_sides", "_law_many", "_law_spread", "_law_found", "_law_turn", "_law_side"] "_law_table" (topS 52) (T.A 23) (T.FD 23).code 1 mb__law_table := by
  have sc := sc__law_table
  intro cdv A outer s H E F hcv hW hgd hr
  exact (dss_cons (ds_par 3 4 (ps_par (i := 3) (j := 4) rfl sc.nd rfl rfl (by decide) rfl rfl (pda_cons (pd_bin od_add pd_int (pd_callR 0 ((ok__law_draw T).mono (by decide)) runR_len hgd hr T.g__law_draw T.D__law_draw.kp (b__law_draw T) (pda_cons (pd_name 2) pda_nil))) (pda_cons (pd_bin od_add pd_int (pd_callR 0 ((ok__law_draw T).mono (by decide)) runR_len hgd hr T.g__law_draw T.D__law_draw.kp (b__law_draw T) (pda_cons (pd_name 1) pda_nil))) pda_nil)) (by rfl)))
    (dss_cons (ds_set 5 (pd_ix (pn_pd (pn_lst (pda_cons pd_int (pda_cons pd_int (pda_cons pd_int (pda_cons pd_int pda_nil)))))) (pd_callR 0 ((ok__law_draw T).mono (by decide)) runR_len hgd hr T.g__law_draw T.D__law_draw.kp (b__law_draw T) (pda_cons pd_int pda_nil))) sc.nd)
    (dss_cons (ds_setN 6 (pn_lst pda_nil) sc.nd)
    (dss_cons (ds_for (di_range1 T.n_range (pda_cons (pd_name 4) pda_nil)) (dg_name 7 sc.nd) (dss_one (ds_if (pdt_w (pdw_and (pdt_cmpL (od_ne hr) neD_scal neD_b 6 (pn_pd (pn_lst pda_nil))) (pdw_and1 (pdt_cmp (od_eq hr) eqD_b (pd_callR 0 ((ok__law_draw T).mono (by decide)) runR_len hgd hr T.g__law_draw T.D__law_draw.kp (b__law_draw T) (pda_cons pd_int pda_nil)) pd_int)))) (dss_one (ds_append 6 (pd_ixN 6 (pd_callR 0 ((ok__law_draw T).mono (by decide)) runR_len hgd hr T.g__law_draw T.D__law_draw.kp (b__law_draw T) (pda_cons (pd_lenN 6 T.n_len) pda_nil))))) (dss_one (ds_append 6 (pd_callTy (cd_tuple) T.n_tuple (by decide +kernel) (pda_cons (pn_pd (pn_lc [("_law_side", 8)] sc.nd (di_range1 T.n_range (pda_cons (pd_name 3) pda_nil)) (blkOk_by (own := [("_law_side", 8)]) (by kernel_rfl)) (fun _ _ _ _ _ => (gn_name 8 sc.nd)) (fun _ _ _ _ _ => dts_nil) (fun _ _ _ _ _ => (pd_bin od_sub (pd_callR 0 ((ok__law_draw T).mono (by decide)) runR_len hgd hr T.g__law_draw T.D__law_draw.kp (b__law_draw T) (pda_cons (pd_name 5) pda_nil)) (pd_bin od_fdiv (pd_name 5) pd_int))))) pda_nil)))))))
    (dss_one (ds_ret (pd_callTy (cd_tuple) T.n_tuple (by decide +kernel) (pda_cons (pd_name 6) pda_nil))))))))
theorem ok__law_table (T : Tx Lab.T K mg base w) : FnG P w K mg base 2 (T.A 23) (T.FD 23) ["_law_pool_here", "_law_most", "_law_wide"] (spR K 3 m__law_table) :=
  fn_R T.D__law_table sc__law_table rfl rfl (bd__law_table T)
theorem b__law_table (T : Tx Lab.T K mg base w) : Binds K (T.FD 23) ["_law_pool_here", "_law_most", "_law_wide"] [] := T.D__law_table.binds fun _ _ _ _ _ _ us hl => match us, hl with | [_, _, _], _ => rfl
def mb__law_order : DEnv → Option DFlow := (sSeq (sParN 2 3 (nListRg (rdF 1)) (fLst fNil)) (sSeq (sFor (iArg rng1 (fCons (fCR 0 m__law_draw (fCons (fBin addD (rdF 1) (fC (.int 1))) fNil)) fNil)) (gSet 4) (sApp 3 (fTup (fCons (fPop 2 (fCR 0 m__law_draw (fCons (fLenN 2) fNil))) (fCons (fBin ixD (fFrz (fLst (fCons (fC (.str "up")) (fCons (fC (.str "down")) fNil)))) (fCR 0 m__law_draw (fCons (fC (.int 2)) fNil))) fNil))))) (sRet (fBin addD (fCB tupleD (fCons (rdF 3) fNil)) (fTup (fCons (fTup (fCons (fC (.str "place")) (fCons (fBin ixD (fFrz (fLst (fCons (fC (.str "up")) (fCons (fC (.str "down")) fNil)))) (fCR 0 m__law_draw (fCons (fC (.int 2)) fNil))) fNil))) fNil))))))
def m__law_order := runR 2 5 mb__law_order
theorem sc__law_order : FnScope ["_law_pool_here", "_law_most", "_law_left", "_law_found", "_law_turn"] ["_law_pool_here", "_law_most"] (defScope (topS 53)) := ⟨rfl, rfl, rfl, by decide +kernel, rfl, by decide +kernel, by decide +kernel⟩
theorem bd__law_order (T : Tx Lab.T K mg base w) : BodyOk P w K mg base ["_law_pool_here", "_law_most", "_law_left", "_law_found", "_law_turn"] "_law_order" (topS 53) (T.A 24) (T.FD 24).code 1 mb__law_order := by
  have sc := sc__law_order
  intro cdv A outer s H E F hcv hW hgd hr
  exact (dss_cons (ds_parN 2 3 (by decide) (ps_par (i := 2) (j := 3) rfl sc.nd rfl rfl (by decide) rfl rfl (pa_cons (pn_listRg T.n_list T.n_range (pd_name 1)) (pa_cons (pn_lst pda_nil) pa_nil)) (by rfl)))
    (dss_cons (ds_for (di_range1 T.n_range (pda_cons (pd_callR 0 ((ok__law_draw T).mono (by decide)) runR_len hgd hr T.g__law_draw T.D__law_draw.kp (b__law_draw T) (pda_cons (pd_bin od_add (pd_name 1) pd_int) pda_nil)) pda_nil)) (dg_name 4 sc.nd) (dss_one (ds_append 3 (pd_tup (pda_cons (pd_pop 2 (pd_callR 0 ((ok__law_draw T).mono (by decide)) runR_len hgd hr T.g__law_draw T.D__law_draw.kp (b__law_draw T) (pda_cons (pd_lenN 2 T.n_len) pda_nil))) (pda_cons (pd_ix (pn_pd (pn_lst (pda_cons pd_str (pda_cons pd_str pda_nil)))) (pd_callR 0 ((ok__law_draw T).mono (by decide)) runR_len hgd hr T.g__law_draw T.D__law_draw.kp (b__law_draw T) (pda_cons pd_int pda_nil))) pda_nil))))))
    (dss_one (ds_ret (pd_bin od_add (pd_callTy (cd_tuple) T.n_tuple (by decide +kernel) (pda_cons (pd_name 3) pda_nil)) (pd_tup (pda_cons (pd_tup (pda_cons pd_str (pda_cons (pd_ix (pn_pd (pn_lst (pda_cons pd_str (pda_cons pd_str pda_nil)))) (pd_callR 0 ((ok__law_draw T).mono (by decide)) runR_len hgd hr T.g__law_draw T.D__law_draw.kp (b__law_draw T) (pda_cons pd_int pda_nil))) pda_nil))) pda_nil)))))))
theorem ok__law_order (T : Tx Lab.T K mg base w) : FnG P w K mg base 2 (T.A 24) (T.FD 24) ["_law_pool_here", "_law_most"] (spR K 2 m__law_order) :=
  fn_R T.D__law_order sc__law_order rfl rfl (bd__law_order T)
theorem b__law_order (T : Tx Lab.T K mg base w) : Binds K (T.FD 24) ["_law_pool_here", "_law_most"] [] := T.D__law_order.binds fun _ _ _ _ _ _ us hl => match us, hl with | [_, _], _ => rfl
def mb__law_is_record : DEnv → Option DFlow := (sSeq (sIf (fOr (fNot (fTst (fIsi "tuple" (rdF 0)))) (fNot (fTst (fChain ltD ltD (fC (.int 0)) (fLenN 0) (fC (.int 6)))))) (sRet (fC (.bool false))) sNil) (sRet (fCB allD (fCons (fFrz (nLc (iSeq (rdF 0)) (gSet 1) fYes (fAndV (fIsi "int" (rdF 1)) (fNotV (fIsi "bool" (rdF 1)))) [1])) fNil))))
def m__law_is_record := runF 1 2 mb__law_is_record
theorem sc__law_is_record : FnScope ["_law_thing", "_law_one"] ["_law_thing"] (defScope (topS 54)) := ⟨rfl, rfl, rfl, by decide +kernel, rfl, by decide +kernel, by decide +kernel⟩
theorem bd__law_is_record (T : Tx Lab.T K mg base w) : BodyOk P w K mg base ["_law_thing", "_law_one"] "_law_is_record" (topS 54) (T.A 25) (T.FD 25).code 0 mb__law_is_record := by
  have sc := sc__law_is_record
  intro cdv A outer s H E F hcv hW hgd hr
  exact (dss_cons (ds_if (pdt_w (pdw_or (pdt_not (pdt_val (pd_isi (kit_tuple K) T.n_isinstance T.n_tuple (by decide +kernel) (pd_name 0)))) (pdw_or1 (pdt_not (pdt_chain od_lt od_lt intD_b pd_int (pd_lenN 0 T.n_len) pd_int))))) (dss_one (ds_ret pd_bl)) dss_nil)
    (dss_one (ds_ret (pd_callB (cd_all rfl) T.n_all (by decide +kernel) (pda_cons (pn_pd (pn_lc [("_law_one", 1)] sc.nd (di_seq (pd_name 0)) (blkOk_by (own := [("_law_one", 1)]) (by kernel_rfl)) (fun _ _ _ _ _ => (gn_name 1 sc.nd)) (fun _ _ _ _ _ => dts_nil) (fun _ _ _ _ _ => (pd_and (pd_isi (kit_int K) T.n_isinstance T.n_int (by decide +kernel) (pd_name 1)) (pd_one (pd_not (pd_isi (kit_bool K) T.n_isinstance T.n_bool (by decide +kernel) (pd_name 1)))))))) pda_nil)))))
theorem ok__law_is_record (T : Tx Lab.T K mg base w) : FnG P w K mg base 1 (T.A 25) (T.FD 25) ["_law_thing"] (spF K 1 m__law_is_record) :=
  fn_F T.D__law_is_record sc__law_is_record rfl rfl (bd__law_is_record T)
theorem b__law_is_record (T : Tx Lab.T K mg base w) : Binds K (T.FD 25) ["_law_thing"] [] := T.D__law_is_record.binds fun _ _ _ _ _ _ us hl => match us, hl with | [_], _ => rfl
def mb__law_table_fault : DEnv → Option DFlow := (sSeq (sIf (fOr (fNot (fTst (fIsi "tuple" (rdF 0)))) (fNot (fTst (fChain ltD ltD (fC (.int 0)) (fLenN 0) (fC (.int 31)))))) (sRet (fFrz (fLst (fCons (fC .none) fNil)))) sNil) (sSeq (sFor (iArg enumTA (fCons (rdF 0) fNil)) (gTupD 2 (gsCons (gSet 1) (gsCons (gSet 2) gsNil))) (sIf (fOr (fNot (fTst (fCB m__law_is_record (fCons (rdF 2) fNil)))) (fTst (fBin neD (fLenN 2) (fCB lenD (fCons (fIxN 0 (fC (.int 0))) fNil))))) (sRet (fFrz (fLst (fCons (rdF 1) fNil)))) sNil)) (sRet (fFrz (fLst fNil)))))
def m__law_table_fault := runF 1 3 mb__law_table_fault
theorem sc__law_table_fault : FnScope ["_law_thing", "_law_at", "_law_one"] ["_law_thing"] (defScope (topS 55)) := ⟨rfl, rfl, rfl, by decide +kernel, rfl, by decide +kernel, by decide +kernel⟩
theorem bd__law_table_fault (T : Tx Lab.T K mg base w) : BodyOk P w K mg base ["_law_thing", "_law_at", "_law_one"] "_law_table_fault" (topS 55) (T.A 26) (T.FD 26).code 1 mb__law_table_fault := by
  have sc := sc__law_table_fault
  intro cdv A outer s H E F hcv hW hgd hr
  exact (dss_cons (ds_if (pdt_w (pdw_or (pdt_not (pdt_val (pd_isi (kit_tuple K) T.n_isinstance T.n_tuple (by decide +kernel) (pd_name 0)))) (pdw_or1 (pdt_not (pdt_chain od_lt od_lt intD_b pd_int (pd_lenN 0 T.n_len) pd_int))))) (dss_one (ds_ret (pn_pd (pn_lst (pda_cons pd_non pda_nil))))) dss_nil)
    (dss_cons (ds_for (di_enumA T.n_enumerate (pda_cons (pd_name 0) pda_nil)) (dg_tup (dgs_cons (dg_name 1 sc.nd) (dgs_cons (dg_name 2 sc.nd) dgs_nil))) (dss_one (ds_if (pdt_w (pdw_or (pdt_not (pdt_val (pd_call ((ok__law_is_record T).mono (by decide)) runF_len hgd hr T.g__law_is_record T.D__law_is_record.kp (b__law_is_record T) (pda_cons (pd_name 2) pda_nil)))) (pdw_or1 (pdt_cmp (od_ne hr) neD_b (pd_lenN 2 T.n_len) (pd_callB (cd_len) T.n_len (by decide +kernel) (pda_cons (pd_ixN 0 pd_int) pda_nil)))))) (dss_one (ds_ret (pn_pd (pn_lst (pda_cons (pd_name 1) pda_nil))))) dss_nil)))
    (dss_one (ds_ret (pn_pd (pn_lst pda_nil))))))
theorem ok__law_table_fault (T : Tx Lab.T K mg base w) : FnG P w K mg base 2 (T.A 26) (T.FD 26) ["_law_thing"] (spF K 1 m__law_table_fault) :=
  fn_F T.D__law_table_fault sc__law_table_fault rfl rfl (bd__law_table_fault T)
theorem b__law_table_fault (T : Tx Lab.T K mg base w) : Binds K (T.FD 26) ["_law_thing"] [] := T.D__law_table_fault.binds fun _ _ _ _ _ _ us hl => match us, hl with | [_], _ => rfl
def mb__law_bent_table : DEnv → Option DFlow := (sSeq (sPar 2 3 (fCons (fCR 0 m__law_draw (fCons (fLenN 1) fNil)) (fCons (fCR 0 m__law_draw (fCons (fC (.int 6)) fNil)) fNil))) (sSeq (sSet 4 (fIxN 1 (fC (.int 0)))) (sSeq (sSetN 5 (fLst (fCons (fC .none) (fCons (fC (.int 7)) (fCons (fC (.str "1")) (fCons (fTup fNil) (fCons (fFrz (fLst fNil)) (fCons (fC (.dict [])) (fCons (fFrz (nListOf (rdF 4))) (fCons (fBin addD (rdF 4) (fTup (fCons (fC (.int 0)) fNil))) (fCons (fBin addD (fSl (rdF 4) oNone (oSome (fNeg (fC (.int 1))))) (fTup (fCons (fC (.bool true)) fNil))) (fCons (fBin addD (fSl (rdF 4) oNone (oSome (fNeg (fC (.int 1))))) (fTup (fCons (fC .none) fNil))) fNil)))))))))))) (sSeq (sSetN 5 (nAdd (rdF 5) (fFrz (fLst (fCons (fBin addD (fSl (rdF 4) oNone (oSome (fNeg (fC (.int 1))))) (fTup (fCons (fFrz (fLst fNil)) fNil))) (fCons (fSl (rdF 4) (oSome (fC (.int 1))) oNone) (fCons (fBin repTD (fTup (fCons (fC (.int 1)) fNil)) (fC (.int 6))) (fCons (fBin addD (fSl (rdF 4) oNone (oSome (fNeg (fC (.int 1))))) (fTup (fCons (fC (.str "1")) fNil))) fNil)))))))) (sSeq (sIf (fTst (fBin eqD (rdF 3) (fC (.int 0)))) (sSeq (sSetN 7 (fLst (fCons (fC .none) (fCons (fC (.int 0)) (fCons (fC (.bool true)) (fCons (fC (.str "table")) (fCons (fTup fNil) (fCons (fFrz (fLst fNil)) (fCons (fC (.dict [])) (fCons (fFrz (nListOf (rdF 1))) (fCons (fBin repTD (rdF 1) (fC (.int 31))) (fCons (fBin repTD (fTup (fCons (fC .none) fNil)) (fC (.int 31))) (fCons (rdF 4) (fCons (fTup (fCons (fTup fNil) fNil)) fNil)))))))))))))) (sRet (fIxN 7 (fCR 0 m__law_draw (fCons (fC (.int 12)) fNil))))) sNil) (sSeq (sIf (fTst (fBin eqD (rdF 3) (fC (.int 1)))) (sRet (rdF 1)) sNil) (sSeq (sSet 6 (fBin addD (fBin addD (fSl (rdF 1) oNone (oSome (rdF 2))) (fTup (fCons (fIxN 5 (fCR 0 m__law_draw (fCons (fC (.int 14)) fNil))) fNil))) (fSl (rdF 1) (oSome (fBin addD (rdF 2) (fC (.int 1)))) oNone))) (sSeq (sIf (fTst (fBin eqD (rdF 3) (fC (.int 2)))) (sSeq (sSet 2 (fCR 0 m__law_draw (fCons (fLenN 1) fNil))) (sRet (fBin addD (fBin addD (fSl (rdF 6) oNone (oSome (rdF 2))) (fTup (fCons (fIxN 5 (fCR 0 m__law_draw (fCons (fC (.int 14)) fNil))) fNil))) (fSl (rdF 6) (oSome (fBin addD (rdF 2) (fC (.int 1)))) oNone)))) sNil) (sRet (rdF 6))))))))))
def m__law_bent_table := runR 2 8 mb__law_bent_table
theorem sc__law_bent_table : FnScope ["_law_pool_here", "_law_records", "_law_at", "_law_mode", "_law_first", "_law_odd", "_law_bent", "_law_others"] ["_law_pool_here", "_law_records"] (defScope (topS 56)) := ⟨rfl, rfl, rfl, by decide +kernel, rfl, by decide +kernel, by decide +kernel⟩
theorem bd__law_bent_table (T : Tx Lab.T K mg base w) : BodyOk P w K mg base ["_law_pool_here", "_law_records", "_law_at", "_law_mode", "_law_first", "_law_odd", "_law_bent", "_law_others"] "_law_bent_table" (topS 56) (T.A 27) (T.FD 27).code 1 mb__law_bent_table := by
  have sc := sc__law_bent_table
  intro cdv A outer s H E F hcv hW hgd hr
  exact (dss_cons (ds_par 2 3 (ps_par (i := 2) (j := 3) rfl sc.nd rfl rfl (by decide) rfl rfl (pda_cons (pd_callR 0 ((ok__law_draw T).mono (by decide)) runR_len hgd hr T.g__law_draw T.D__law_draw.kp (b__law_draw T) (pda_cons (pd_lenN 1 T.n_len) pda_nil)) (pda_cons (pd_callR 0 ((ok__law_draw T).mono (by decide)) runR_len hgd hr T.g__law_draw T.D__law_draw.kp (b__law_draw T) (pda_cons pd_int pda_nil)) pda_nil)) (by rfl)))
    (dss_cons (ds_set 4 (pd_ixN 1 pd_int) sc.nd)
    (dss_cons (ds_setN 5 (pn_lst (pda_cons pd_non (pda_cons pd_int (pda_cons pd_str (pda_cons (pd_tup pda_nil) (pda_cons (pn_pd (pn_lst pda_nil)) (pda_cons pd_dict0 (pda_cons (pn_pd (pn_listOf T.n_list (pd_name 4))) (pda_cons (pd_bin od_add (pd_name 4) (pd_tup (pda_cons pd_int pda_nil))) (pda_cons (pd_bin od_add (pd_slice (pd_name 4) do_none (do_some (pd_neg pd_int))) (pd_tup (pda_cons pd_bl pda_nil))) (pda_cons (pd_bin od_add (pd_slice (pd_name 4) do_none (do_some (pd_neg pd_int))) (pd_tup (pda_cons pd_non pda_nil))) pda_nil))))))))))) sc.nd)
    (dss_cons (ds_setN 5 (pn_addL (pd_name 5) (pn_pd (pn_lst (pda_cons (pd_bin od_add (pd_slice (pd_name 4) do_none (do_some (pd_neg pd_int))) (pd_tup (pda_cons (pn_pd (pn_lst pda_nil)) pda_nil))) (pda_cons (pd_slice (pd_name 4) (do_some pd_int) do_none) (pda_cons (pd_bin od_repT (pd_tup (pda_cons pd_int pda_nil)) pd_int) (pda_cons (pd_bin od_add (pd_slice (pd_name 4) do_none (do_some (pd_neg pd_int))) (pd_tup (pda_cons pd_str pda_nil))) pda_nil))))))) sc.nd)
    (dss_cons (ds_if (pdt_cmp (od_eq hr) eqD_b (pd_name 3) pd_int) (dss_cons (ds_setN 7 (pn_lst (pda_cons pd_non (pda_cons pd_int (pda_cons pd_bl (pda_cons pd_str (pda_cons (pd_tup pda_nil) (pda_cons (pn_pd (pn_lst pda_nil)) (pda_cons pd_dict0 (pda_cons (pn_pd (pn_listOf T.n_list (pd_name 1))) (pda_cons (pd_bin od_repT (pd_name 1) pd_int) (pda_cons (pd_bin od_repT (pd_tup (pda_cons pd_non pda_nil)) pd_int) (pda_cons (pd_name 4) (pda_cons (pd_tup (pda_cons (pd_tup pda_nil) pda_nil)) pda_nil))))))))))))) sc.nd)
      (dss_one (ds_ret (pd_ixN 7 (pd_callR 0 ((ok__law_draw T).mono (by decide)) runR_len hgd hr T.g__law_draw T.D__law_draw.kp (b__law_draw T) (pda_cons pd_int pda_nil)))))) dss_nil)
    (dss_cons (ds_if (pdt_cmp (od_eq hr) eqD_b (pd_name 3) pd_int) (dss_one (ds_ret (pd_name 1))) dss_nil)
    (dss_cons (ds_set 6 (pd_bin od_add (pd_bin od_add (pd_slice (pd_name 1) do_none (do_some (pd_name 2))) (pd_tup (pda_cons (pd_ixN 5 (pd_callR 0 ((ok__law_draw T).mono (by decide)) runR_len hgd hr T.g__law_draw T.D__law_draw.kp (b__law_draw T) (pda_cons pd_int pda_nil))) pda_nil))) (pd_slice (pd_name 1) (do_some (pd_bin od_add (pd_name 2) pd_int)) do_none)) sc.nd)
    (dss_cons (ds_if (pdt_cmp (od_eq hr) eqD_b (pd_name 3) pd_int) (dss_cons (ds_set 2 (pd_callR 0 ((ok__law_draw T).mono (by decide)) runR_len hgd hr T.g__law_draw T.D__law_draw.kp (b__law_draw T) (pda_cons (pd_lenN 1 T.n_len) pda_nil)) sc.nd)
      (dss_one (ds_ret (pd_bin od_add (pd_bin od_add (pd_slice (pd_name 6) do_none (do_some (pd_name 2))) (pd_tup (pda_cons (pd_ixN 5 (pd_callR 0 ((ok__law_draw T).mono (by decide)) runR_len hgd hr T.g__law_draw T.D__law_draw.kp (b__law_draw T) (pda_cons pd_int pda_nil))) pda_nil))) (pd_slice (pd_name 6) (do_some (pd_bin od_add (pd_name 2) pd_int)) do_none))))) dss_nil)
    (dss_one (ds_ret (pd_name 6)))))))))))
theorem ok__law_bent_table (T : Tx Lab.T K mg base w) : FnG P w K mg base 2 (T.A 27) (T.FD 27) ["_law_pool_here", "_law_records"] (spR K 2 m__law_bent_table) :=
  fn_R T.D__law_bent_table sc__law_bent_table rfl rfl (bd__law_bent_table T)
theorem b__law_bent_table (T : Tx Lab.T K mg base w) : Binds K (T.FD 27) ["_law_pool_here", "_law_records"] [] := T.D__law_bent_table.binds fun _ _ _ _ _ _ us hl => match us, hl with | [_, _], _ => rfl
def mb__law_order_fault : DEnv → Option DFlow := (sSeq (sIf (fOr (fNot (fTst (fIsi "tuple" (rdF 0)))) (fTst (fBin eqTE (rdF 0) (fTup fNil)))) (sRet (fFrz (fLst (fCons (fC .none) fNil)))) sNil) (sSeq (sSetN 1 (fLst fNil)) (sSeq (sFor (iArg enumTA (fCons (rdF 0) fNil)) (gTupD 2 (gsCons (gSet 2) (gsCons (gSet 3) gsNil))) (sSeq (sIf (fOr (fNot (fTst (fIsi "tuple" (rdF 3)))) (fTst (fBin neD (fLenN 3) (fC (.int 2))))) (sRet (fFrz (fLst (fCons (rdF 2) fNil)))) sNil) (sSeq (sIf (fOr (fNot (fTst (fIsi "str" (fIxN 3 (fC (.int 1)))))) (fTst (fBin notInD (fIxN 3 (fC (.int 1))) (fTup (fCons (fC (.str "up")) (fCons (fC (.str "down")) fNil)))))) (sRet (fFrz (fLst (fCons (rdF 2) fNil)))) sNil) (sSeq (sIf (fTst (fBin eqD (rdF 2) (fBin subD (fLenN 0) (fC (.int 1))))) (sRet (fIf (fAnd (fTst (fIsi "str" (fIxN 3 (fC (.int 0))))) (fTst (fBin eqD (fIxN 3 (fC (.int 0))) (fC (.str "place"))))) (fFrz (fLst fNil)) (fFrz (fLst (fCons (rdF 2) fNil))))) sNil) (sSeq (sIf (fOr (fNot (fTst (fIsi "int" (fIxN 3 (fC (.int 0)))))) (fTst (fIsi "bool" (fIxN 3 (fC (.int 0)))))) (sRet (fFrz (fLst (fCons (rdF 2) fNil)))) sNil) (sSeq (sIf (fOr (fNot (fTst (fChain leD ltD (fC (.int 0)) (fIxN 3 (fC (.int 0))) (fC (.int 4))))) (fTst (fCmpN inD (fIxN 3 (fC (.int 0))) 1))) (sRet (fFrz (fLst (fCons (rdF 2) fNil)))) sNil) (sApp 1 (fIxN 3 (fC (.int 0)))))))))) (sRet (fFrz (fLst (fCons (fC .none) fNil)))))))
def m__law_order_fault := runF 1 4 mb__law_order_fault
theorem sc__law_order_fault : FnScope ["_law_thing", "_law_seen", "_law_at", "_law_one"] ["_law_thing"] (defScope (topS 57)) := ⟨rfl, rfl, rfl, by decide +kernel, rfl, by decide +kernel, by decide +kernel⟩
theorem bd__law_order_fault (T : Tx Lab.T K mg base w) : BodyOk P w K mg base ["_law_thing", "_law_seen", "_law_at", "_law_one"] "_law_order_fault" (topS 57) (T.A 28) (T.FD 28).code 0 mb__law_order_fault := by
  have sc := sc__law_order_fault
  intro cdv A outer s H E F hcv hW hgd hr
  exact (dss_cons (ds_if (pdt_w (pdw_or (pdt_not (pdt_val (pd_isi (kit_tuple K) T.n_isinstance T.n_tuple (by decide +kernel) (pd_name 0)))) (pdw_or1 (pdt_cmp (od_eqTE hr) eqTE_b (pd_name 0) (pd_tup pda_nil))))) (dss_one (ds_ret (pn_pd (pn_lst (pda_cons pd_non pda_nil))))) dss_nil)
    (dss_cons (ds_setN 1 (pn_lst pda_nil) sc.nd)
    (dss_cons (ds_for (di_enumA T.n_enumerate (pda_cons (pd_name 0) pda_nil)) (dg_tup (dgs_cons (dg_name 2 sc.nd) (dgs_cons (dg_name 3 sc.nd) dgs_nil))) (dss_cons (ds_if (pdt_w (pdw_or (pdt_not (pdt_val (pd_isi (kit_tuple K) T.n_isinstance T.n_tuple (by decide +kernel) (pd_name 3)))) (pdw_or1 (pdt_cmp (od_ne hr) neD_b (pd_lenN 3 T.n_len) pd_int)))) (dss_one (ds_ret (pn_pd (pn_lst (pda_cons (pd_name 2) pda_nil))))) dss_nil)
      (dss_cons (ds_if (pdt_w (pdw_or (pdt_not (pdt_val (pd_isi (kit_str K) T.n_isinstance T.n_str (by decide +kernel) (pd_ixN 3 pd_int)))) (pdw_or1 (pdt_cmp (od_notIn hr) notInD_b (pd_ixN 3 pd_int) (pd_tup (pda_cons pd_str (pda_cons pd_str pda_nil))))))) (dss_one (ds_ret (pn_pd (pn_lst (pda_cons (pd_name 2) pda_nil))))) dss_nil)
      (dss_cons (ds_if (pdt_cmp (od_eq hr) eqD_b (pd_name 2) (pd_bin od_sub (pd_lenN 0 T.n_len) pd_int)) (dss_one (ds_ret (pd_if (pdt_w (pdw_and (pdt_val (pd_isi (kit_str K) T.n_isinstance T.n_str (by decide +kernel) (pd_ixN 3 pd_int))) (pdw_and1 (pdt_cmp (od_eq hr) eqD_b (pd_ixN 3 pd_int) pd_str)))) (pn_pd (pn_lst pda_nil)) (pn_pd (pn_lst (pda_cons (pd_name 2) pda_nil)))))) dss_nil)
      (dss_cons (ds_if (pdt_w (pdw_or (pdt_not (pdt_val (pd_isi (kit_int K) T.n_isinstance T.n_int (by decide +kernel) (pd_ixN 3 pd_int)))) (pdw_or1 (pdt_val (pd_isi (kit_bool K) T.n_isinstance T.n_bool (by decide +kernel) (pd_ixN 3 pd_int)))))) (dss_one (ds_ret (pn_pd (pn_lst (pda_cons (pd_name 2) pda_nil))))) dss_nil)
      (dss_cons (ds_if (pdt_w (pdw_or (pdt_not (pdt_chain od_le od_lt intD_b pd_int (pd_ixN 3 pd_int) pd_int)) (pdw_or1 (pdt_cmpN (od_in hr) inD_scal inD_b (pd_ixN 3 pd_int) 1)))) (dss_one (ds_ret (pn_pd (pn_lst (pda_cons (pd_name 2) pda_nil))))) dss_nil)
      (dss_one (ds_append 1 (pd_ixN 3 pd_int)))))))))
    (dss_one (ds_ret (pn_pd (pn_lst (pda_cons pd_non pda_nil))))))))
theorem ok__law_order_fault (T : Tx Lab.T K mg base w) : FnG P w K mg base 1 (T.A 28) (T.FD 28) ["_law_thing"] (spF K 1 m__law_order_fault) :=
  fn_F T.D__law_order_fault sc__law_order_fault rfl rfl (bd__law_order_fault T)
theorem b__law_order_fault (T : Tx Lab.T K mg base w) : Binds K (T.FD 28) ["_law_thing"] [] := T.D__law_order_fault.binds fun _ _ _ _ _ _ us hl => match us, hl with | [_], _ => rfl
def mb__law_bent_order : DEnv → Option DFlow := (sSeq (sPar 2 3 (fCons (fCR 0 m__law_draw (fCons (fLenN 1) fNil)) (fCons (fCR 0 m__law_draw (fCons (fC (.int 7)) fNil)) fNil))) (sSeq (sSetN 4 (fLst (fCons (fC .none) (fCons (fC (.int 7)) (fCons (fC (.str "up")) (fCons (fTup fNil) (fCons (fFrz (fLst fNil)) (fCons (fC (.dict [])) (fCons (fTup (fCons (fC (.int 0)) (fCons (fC (.str "up")) fNil))) (fCons (fTup (fCons (fC (.int 4)) (fCons (fC (.str "up")) fNil))) (fCons (fTup (fCons (fC (.bool true)) (fCons (fC (.str "up")) fNil))) (fCons (fTup (fCons (fBin subD (fC (.int 0)) (fC (.int 1))) (fCons (fC (.str "down")) fNil))) (fCons (fTup (fCons (fC (.int 0)) (fCons (fC (.str "Up")) fNil))) (fCons (fTup (fCons (fC (.str "place")) (fCons (fC (.str "up")) fNil))) fNil)))))))))))))) (sSeq (sSetN 4 (nAdd (rdF 4) (fFrz (fLst (fCons (fTup (fCons (fC (.int 0)) (fCons (fC (.str "up")) (fCons (fC (.int 1)) fNil)))) (fCons (fFrz (fLst (fCons (fC (.int 0)) (fCons (fC (.str "up")) fNil)))) (fCons (fTup (fCons (fC (.str "0")) (fCons (fC (.str "up")) fNil))) (fCons (fTup (fCons (fFrz (fLst fNil)) (fCons (fC (.str "up")) fNil))) (fCons (fTup (fCons (fC (.int 1)) (fCons (fC .none) fNil))) (fCons (fTup (fCons (fC (.str "place")) (fCons (fC (.str "left")) fNil))) (fCons (fTup (fCons (fC (.str "place")) fNil)) fNil))))))))))) (sSeq (sApp 4 (fTup (fCons (fC (.int 3)) (fCons (fC (.str "down")) fNil)))) (sSeq (sIf (fTst (fBin eqD (rdF 3) (fC (.int 0)))) (sSeq (sSetN 6 (fLst (fCons (fC .none) (fCons (fC (.int 0)) (fCons (fC (.bool true)) (fCons (fC (.str "up")) (fCons (fTup fNil) (fCons (fFrz (fLst fNil)) (fCons (fC (.dict [])) (fCons (fFrz (nListOf (rdF 1))) (fCons (fTup (fCons (rdF 1) fNil)) (fCons (fIxN 1 (fC (.int 0))) (fCons (fBin repTD (fTup (fCons (fTup (fCons (fC (.str "place")) (fCons (fC (.str "up")) fNil))) fNil)) (fC (.int 2))) (fCons (fC (.int 7)) fNil)))))))))))))) (sRet (fIxN 6 (fCR 0 m__law_draw (fCons (fC (.int 12)) fNil))))) sNil) (sSeq (sIf (fTst (fBin eqD (rdF 3) (fC (.int 1)))) (sRet (rdF 1)) sNil) (sSeq (sIf (fTst (fBin eqD (rdF 3) (fC (.int 2)))) (sRet (fSl (rdF 1) oNone (oSome (fNeg (fC (.int 1)))))) sNil) (sSeq (sIf (fTst (fBin eqD (rdF 3) (fC (.int 3)))) (sRet (fBin addD (fBin addD (fSl (rdF 1) oNone (oSome (rdF 2))) (fTup (fCons (fIxN 4 (fCR 0 m__law_draw (fCons (fC (.int 20)) fNil))) fNil))) (fSl (rdF 1) (oSome (rdF 2)) oNone))) sNil) (sSeq (sSet 5 (fBin addD (fBin addD (fSl (rdF 1) oNone (oSome (rdF 2))) (fTup (fCons (fIxN 4 (fCR 0 m__law_draw (fCons (fC (.int 20)) fNil))) fNil))) (fSl (rdF 1) (oSome (fBin addD (rdF 2) (fC (.int 1)))) oNone))) (sSeq (sIf (fTst (fBin eqD (rdF 3) (fC (.int 4)))) (sSeq (sSet 2 (fCR 0 m__law_draw (fCons (fLenN 1) fNil))) (sRet (fBin addD (fBin addD (fSl (rdF 5) oNone (oSome (rdF 2))) (fTup (fCons (fIxN 4 (fCR 0 m__law_draw (fCons (fC (.int 20)) fNil))) fNil))) (fSl (rdF 5) (oSome (fBin addD (rdF 2) (fC (.int 1)))) oNone)))) sNil) (sRet (rdF 5))))))))))))
def m__law_bent_order := runR 2 7 mb__law_bent_order
theorem sc__law_bent_order : FnScope ["_law_pool_here", "_law_keys", "_law_at", "_law_mode", "_law_odd", "_law_bent", "_law_others"] ["_law_pool_here", "_law_keys"] (defScope (topS 58)) := ⟨rfl, rfl, rfl, by decide +kernel, rfl, by decide +kernel, by decide +kernel⟩
theorem bd__law_bent_order (T : Tx Lab.T K mg base w) : BodyOk P w K mg base ["_law_pool_here", "_law_keys", "_law_at", "_law_mode", "_law_odd", "_law_bent", "_law_others"] "_law_bent_order" (topS 58) (T.A 29) (T.FD 29).code 1 mb__law_bent_order := by
  have sc := sc__law_bent_order
  intro cdv A outer s H E F hcv hW hgd hr
  exact (dss_cons (ds_par 2 3 (ps_par (i := 2) (j := 3) rfl sc.nd rfl rfl (by decide) rfl rfl (pda_cons (pd_callR 0 ((ok__law_draw T).mono (by decide)) runR_len hgd hr T.g__law_draw T.D__law_draw.kp (b__law_draw T) (pda_cons (pd_lenN 1 T.n_len) pda_nil)) (pda_cons (pd_callR 0 ((ok__law_draw T).mono (by decide)) runR_len hgd hr T.g__law_draw T.D__law_draw.kp (b__law_draw T) (pda_cons pd_int pda_nil)) pda_nil)) (by rfl)))
    (dss_cons (ds_setN 4 (pn_lst (pda_cons pd_non (pda_cons pd_int (pda_cons pd_str (pda_cons (pd_tup pda_nil) (pda_cons (pn_pd (pn_lst pda_nil)) (pda_cons pd_dict0 (pda_cons (pd_tup (pda_cons pd_int (pda_cons pd_str pda_nil))) (pda_cons (pd_tup (pda_cons pd_int (pda_cons pd_str pda_nil))) (pda_cons (pd_tup (pda_cons pd_bl (pda_cons pd_str pda_nil))) (pda_cons (pd_tup (pda_cons (pd_bin od_sub pd_int pd_int) (pda_cons pd_str pda_nil))) (pda_cons (pd_tup (pda_cons pd_int (pda_cons pd_str pda_nil))) (pda_cons (pd_tup (pda_cons pd_str (pda_cons pd_str pda_nil))) pda_nil))))))))))))) sc.nd)
    (dss_cons (ds_setN 4 (pn_addL (pd_name 4) (pn_pd (pn_lst (pda_cons (pd_tup (pda_cons pd_int (pda_cons pd_str (pda_cons pd_int pda_nil)))) (pda_cons (pn_pd (pn_lst (pda_cons pd_int (pda_cons pd_str pda_nil)))) (pda_cons (pd_tup (pda_cons pd_str (pda_cons pd_str pda_nil))) (pda_cons (pd_tup (pda_cons (pn_pd (pn_lst pda_nil)) (pda_cons pd_str pda_nil))) (pda_cons (pd_tup (pda_cons pd_int (pda_cons pd_non pda_nil))) (pda_cons (pd_tup (pda_cons pd_str (pda_cons pd_str pda_nil))) (pda_cons (pd_tup (pda_cons pd_str pda_nil)) pda_nil)))))))))) sc.nd)
    (dss_cons (ds_append 4 (pd_tup (pda_cons pd_int (pda_cons pd_str pda_nil))))
    (dss_cons (ds_if (pdt_cmp (od_eq hr) eqD_b (pd_name 3) pd_int) (dss_cons (ds_setN 6 (pn_lst (pda_cons pd_non (pda_cons pd_int (pda_cons pd_bl (pda_cons pd_str (pda_cons (pd_tup pda_nil) (pda_cons (pn_pd (pn_lst pda_nil)) (pda_cons pd_dict0 (pda_cons (pn_pd (pn_listOf T.n_list (pd_name 1))) (pda_cons (pd_tup (pda_cons (pd_name 1) pda_nil)) (pda_cons (pd_ixN 1 pd_int) (pda_cons (pd_bin od_repT (pd_tup (pda_cons (pd_tup (pda_cons pd_str (pda_cons pd_str pda_nil))) pda_nil)) pd_int) (pda_cons pd_int pda_nil))))))))))))) sc.nd)
      (dss_one (ds_ret (pd_ixN 6 (pd_callR 0 ((ok__law_draw T).mono (by decide)) runR_len hgd hr T.g__law_draw T.D__law_draw.kp (b__law_draw T) (pda_cons pd_int pda_nil)))))) dss_nil)
    (dss_cons (ds_if (pdt_cmp (od_eq hr) eqD_b (pd_name 3) pd_int) (dss_one (ds_ret (pd_name 1))) dss_nil)
    (dss_cons (ds_if (pdt_cmp (od_eq hr) eqD_b (pd_name 3) pd_int) (dss_one (ds_ret (pd_slice (pd_name 1) do_none (do_some (pd_neg pd_int))))) dss_nil)
    (dss_cons (ds_if (pdt_cmp (od_eq hr) eqD_b (pd_name 3) pd_int) (dss_one (ds_ret (pd_bin od_add (pd_bin od_add (pd_slice (pd_name 1) do_none (do_some (pd_name 2))) (pd_tup (pda_cons (pd_ixN 4 (pd_callR 0 ((ok__law_draw T).mono (by decide)) runR_len hgd hr T.g__law_draw T.D__law_draw.kp (b__law_draw T) (pda_cons pd_int pda_nil))) pda_nil))) (pd_slice (pd_name 1) (do_some (pd_name 2)) do_none)))) dss_nil)
    (dss_cons (ds_set 5 (pd_bin od_add (pd_bin od_add (pd_slice (pd_name 1) do_none (do_some (pd_name 2))) (pd_tup (pda_cons (pd_ixN 4 (pd_callR 0 ((ok__law_draw T).mono (by decide)) runR_len hgd hr T.g__law_draw T.D__law_draw.kp (b__law_draw T) (pda_cons pd_int pda_nil))) pda_nil))) (pd_slice (pd_name 1) (do_some (pd_bin od_add (pd_name 2) pd_int)) do_none)) sc.nd)
    (dss_cons (ds_if (pdt_cmp (od_eq hr) eqD_b (pd_name 3) pd_int) (dss_cons (ds_set 2 (pd_callR 0 ((ok__law_draw T).mono (by decide)) runR_len hgd hr T.g__law_draw T.D__law_draw.kp (b__law_draw T) (pda_cons (pd_lenN 1 T.n_len) pda_nil)) sc.nd)
      (dss_one (ds_ret (pd_bin od_add (pd_bin od_add (pd_slice (pd_name 5) do_none (do_some (pd_name 2))) (pd_tup (pda_cons (pd_ixN 4 (pd_callR 0 ((ok__law_draw T).mono (by decide)) runR_len hgd hr T.g__law_draw T.D__law_draw.kp (b__law_draw T) (pda_cons pd_int pda_nil))) pda_nil))) (pd_slice (pd_name 5) (do_some (pd_bin od_add (pd_name 2) pd_int)) do_none))))) dss_nil)
    (dss_one (ds_ret (pd_name 5)))))))))))))
theorem ok__law_bent_order (T : Tx Lab.T K mg base w) : FnG P w K mg base 2 (T.A 29) (T.FD 29) ["_law_pool_here", "_law_keys"] (spR K 2 m__law_bent_order) :=
  fn_R T.D__law_bent_order sc__law_bent_order rfl rfl (bd__law_bent_order T)
theorem b__law_bent_order (T : Tx Lab.T K mg base w) : Binds K (T.FD 29) ["_law_pool_here", "_law_keys"] [] := T.D__law_bent_order.binds fun _ _ _ _ _ _ us hl => match us, hl with | [_, _], _ => rfl
def mb__law_kind : DEnv → Option DFlow := (sSeq (sSetN 1 (fLst (fCons (fIsC mi_InvalidTable (rdF 0)) (fCons (fIsC mi_InvalidColumns (rdF 0)) (fCons (fIsC mi_InvalidOrder (rdF 0)) fNil))))) (sSeq (sSetN 1 (nAdd (rdF 1) (fFrz (fLst (fCons (fIsC mi_InvalidProgram (rdF 0)) (fCons (fIsC mi_InvalidNumber (rdF 0)) (fCons (fIsC mi_InvalidPlaces (rdF 0)) fNil))))))) (sSeq (sSetN 1 (nAdd (rdF 1) (fFrz (fLst (fCons (fIsC mi_InvalidText (rdF 0)) (fCons (fIsC mi_InvalidLimit (rdF 0)) (fCons (fIsC mi_InvalidRecord (rdF 0)) fNil))))))) (sSeq (sSetN 1 (nAdd (rdF 1) (fFrz (fLst (fCons (fIsC mi_InvalidValue (rdF 0)) (fCons (fIsC mi_InvalidEdit (rdF 0)) (fCons (fIsC mi_InvalidCommand (rdF 0)) fNil))))))) (sSeq (sSetN 1 (nAdd (rdF 1) (fFrz (fLst (fCons (fIsC mi_MissingColumn (rdF 0)) (fCons (fIsC mi_NoPlace (rdF 0)) (fCons (fIsC mi_NothingToUndo (rdF 0)) fNil))))))) (sSeq (sSetN 1 (nAdd (rdF 1) (fFrz (fLst (fCons (fIsC mi_TooManyRecords (rdF 0)) (fCons (fIsC mi_TooManyEdits (rdF 0)) (fCons (fIsC mi_LastRecord (rdF 0)) fNil))))))) (sSeq (sSetN 2 (fLst (fCons (fIsC mi_TableError (rdF 0)) (fCons (fIsC mi_FindError (rdF 0)) (fCons (fIsC mi_LimitError (rdF 0)) fNil))))) (sSeq (sSetN 3 (fLst (fCons (fIsC mi_ValueError (rdF 0)) (fCons (fIsC mi_LookupError (rdF 0)) (fCons (fIsC mi_ArithmeticError (rdF 0)) fNil))))) (sSeq (sIf (fOr (fTst (fBin neD (fCntD 1 (fC (.bool true))) (fC (.int 1)))) (fTst (fCmpN neD (rdF 3) 2))) (sRet (fBin subD (fC (.int 0)) (fC (.int 1)))) sNil) (sSeq (sSet 4 (fIdxD 1 (fC (.bool true)))) (sRet (fIf (fTst (fCmpL eqD 2 (fFrz (fLst (fCons (fBin ltD (rdF 4) (fC (.int 12))) (fCons (fChain ltD ltD (fC (.int 11)) (rdF 4) (fC (.int 15))) (fCons (fBin gtD (rdF 4) (fC (.int 14))) fNil))))))) (rdF 4) (fBin subD (fC (.int 0)) (fC (.int 1)))))))))))))))
def m__law_kind := runF 1 5 mb__law_kind
theorem sc__law_kind : FnScope ["_law_e", "_law_found", "_law_bases", "_law_own", "_law_at"] ["_law_e"] (defScope (topS 59)) := ⟨rfl, rfl, rfl, by decide +kernel, rfl, by decide +kernel, by decide +kernel⟩
theorem bd__law_kind (T : Tx Lab.T K mg base w) : BodyOk P w K mg base ["_law_e", "_law_found", "_law_bases", "_law_own", "_law_at"] "_law_kind" (topS 59) (T.A 30) (T.FD 30).code 0 mb__law_kind := by
  have sc := sc__law_kind
  intro cdv A outer s H E F hcv hW hgd hr
  exact (dss_cons (ds_setN 1 (pn_lst (pda_cons (pd_isC (.own _) (mik_InvalidTable T) (pe_glob rfl T.xm_InvalidTable rfl) T.n_isinstance (pd_name 0)) (pda_cons (pd_isC (.own _) (mik_InvalidColumns T) (pe_glob rfl T.xm_InvalidColumns rfl) T.n_isinstance (pd_name 0)) (pda_cons (pd_isC (.own _) (mik_InvalidOrder T) (pe_glob rfl T.xm_InvalidOrder rfl) T.n_isinstance (pd_name 0)) pda_nil)))) sc.nd)
    (dss_cons (ds_setN 1 (pn_addL (pd_name 1) (pn_pd (pn_lst (pda_cons (pd_isC (.own _) (mik_InvalidProgram T) (pe_glob rfl T.xm_InvalidProgram rfl) T.n_isinstance (pd_name 0)) (pda_cons (pd_isC (.own _) (mik_InvalidNumber T) (pe_glob rfl T.xm_InvalidNumber rfl) T.n_isinstance (pd_name 0)) (pda_cons (pd_isC (.own _) (mik_InvalidPlaces T) (pe_glob rfl T.xm_InvalidPlaces rfl) T.n_isinstance (pd_name 0)) pda_nil)))))) sc.nd)
    (dss_cons (ds_setN 1 (pn_addL (pd_name 1) (pn_pd (pn_lst (pda_cons (pd_isC (.own _) (mik_InvalidText T) (pe_glob rfl T.xm_InvalidText rfl) T.n_isinstance (pd_name 0)) (pda_cons (pd_isC (.own _) (mik_InvalidLimit T) (pe_glob rfl T.xm_InvalidLimit rfl) T.n_isinstance (pd_name 0)) (pda_cons (pd_isC (.own _) (mik_InvalidRecord T) (pe_glob rfl T.xm_InvalidRecord rfl) T.n_isinstance (pd_name 0)) pda_nil)))))) sc.nd)
    (dss_cons (ds_setN 1 (pn_addL (pd_name 1) (pn_pd (pn_lst (pda_cons (pd_isC (.own _) (mik_InvalidValue T) (pe_glob rfl T.xm_InvalidValue rfl) T.n_isinstance (pd_name 0)) (pda_cons (pd_isC (.own _) (mik_InvalidEdit T) (pe_glob rfl T.xm_InvalidEdit rfl) T.n_isinstance (pd_name 0)) (pda_cons (pd_isC (.own _) (mik_InvalidCommand T) (pe_glob rfl T.xm_InvalidCommand rfl) T.n_isinstance (pd_name 0)) pda_nil)))))) sc.nd)
    (dss_cons (ds_setN 1 (pn_addL (pd_name 1) (pn_pd (pn_lst (pda_cons (pd_isC (.own _) (mik_MissingColumn T) (pe_glob rfl T.xm_MissingColumn rfl) T.n_isinstance (pd_name 0)) (pda_cons (pd_isC (.own _) (mik_NoPlace T) (pe_glob rfl T.xm_NoPlace rfl) T.n_isinstance (pd_name 0)) (pda_cons (pd_isC (.own _) (mik_NothingToUndo T) (pe_glob rfl T.xm_NothingToUndo rfl) T.n_isinstance (pd_name 0)) pda_nil)))))) sc.nd)
    (dss_cons (ds_setN 1 (pn_addL (pd_name 1) (pn_pd (pn_lst (pda_cons (pd_isC (.own _) (mik_TooManyRecords T) (pe_glob rfl T.xm_TooManyRecords rfl) T.n_isinstance (pd_name 0)) (pda_cons (pd_isC (.own _) (mik_TooManyEdits T) (pe_glob rfl T.xm_TooManyEdits rfl) T.n_isinstance (pd_name 0)) (pda_cons (pd_isC (.own _) (mik_LastRecord T) (pe_glob rfl T.xm_LastRecord rfl) T.n_isinstance (pd_name 0)) pda_nil)))))) sc.nd)
    (dss_cons (ds_setN 2 (pn_lst (pda_cons (pd_isC (.own _) (mik_TableError T) (pe_glob rfl T.xm_TableError rfl) T.n_isinstance (pd_name 0)) (pda_cons (pd_isC (.own _) (mik_FindError T) (pe_glob rfl T.xm_FindError rfl) T.n_isinstance (pd_name 0)) (pda_cons (pd_isC (.own _) (mik_LimitError T) (pe_glob rfl T.xm_LimitError rfl) T.n_isinstance (pd_name 0)) pda_nil)))) sc.nd)
    (dss_cons (ds_setN 3 (pn_lst (pda_cons (pd_isC (.ty "ValueError") (mik_ValueError T) (pe_bltn rfl T.n_ValueError (by decide +kernel) rfl) T.n_isinstance (pd_name 0)) (pda_cons (pd_isC (.ty "LookupError") (mik_LookupError T) (pe_bltn rfl T.n_LookupError (by decide +kernel) rfl) T.n_isinstance (pd_name 0)) (pda_cons (pd_isC (.ty "ArithmeticError") (mik_ArithmeticError T) (pe_bltn rfl T.n_ArithmeticError (by decide +kernel) rfl) T.n_isinstance (pd_name 0)) pda_nil)))) sc.nd)
    (dss_cons (ds_if (pdt_w (pdw_or (pdt_cmp (od_ne hr) neD_b (pd_cntD hr 1 pd_bl) pd_int) (pdw_or1 (pdt_cmpN (od_ne hr) neD_scal neD_b (pd_name 3) 2)))) (dss_one (ds_ret (pd_bin od_sub pd_int pd_int))) dss_nil)
    (dss_cons (ds_set 4 (pd_idxD hr 1 pd_bl) sc.nd)
    (dss_one (ds_ret (pd_if (pdt_cmpL (od_eq hr) eqD_scal eqD_b 2 (pn_pd (pn_lst (pda_cons (pd_cmp od_lt (pd_name 4) pd_int) (pda_cons (pd_chain od_lt od_lt pd_int (pd_name 4) pd_int) (pda_cons (pd_cmp od_gt (pd_name 4) pd_int) pda_nil)))))) (pd_name 4) (pd_bin od_sub pd_int pd_int))))))))))))))
theorem ok__law_kind (T : Tx Lab.T K mg base w) : FnG P w K mg base 1 (T.A 30) (T.FD 30) ["_law_e"] (spF K 1 m__law_kind) :=
  fn_F T.D__law_kind sc__law_kind rfl rfl (bd__law_kind T)
theorem b__law_kind (T : Tx Lab.T K mg base w) : Binds K (T.FD 30) ["_law_e"] [] := T.D__law_kind.binds fun _ _ _ _ _ _ us hl => match us, hl with | [_], _ => rfl
def mr__law_caught : DEnv → Option DFlow := (sSeq (sIf (fTst (fBin isND (rdF 1) (fC .none))) (sRet (fTup (fCons (fC (.str "told")) (fCons (fC (.str "")) fNil)))) sNil) (sSeq (sSet 2 (fCB m__law_kind (fCons (rdF 1) fNil))) (sSeq (sIf (fTst (fBin inD (rdF 2) (fTup (fCons (fC (.int 0)) (fCons (fC (.int 2)) fNil))))) (sRet (fTup (fCons (rdF 2) (fCons (fCB reprE (fCons (fExA "index" (rdF 1)) fNil)) fNil)))) sNil) (sSeq (sIf (fTst (fBin eqD (rdF 2) (fC (.int 1)))) (sRet (fTup (fCons (rdF 2) (fCons (fCB reprE (fCons (fExA "columns" (rdF 1)) fNil)) fNil)))) sNil) (sSeq (sIf (fTst (fBin eqD (rdF 2) (fC (.int 12)))) (sRet (fTup (fCons (rdF 2) (fCons (fCB reprE (fCons (fExA "column" (rdF 1)) fNil)) fNil)))) sNil) (sRet (fTup (fCons (rdF 2) (fCons (fIf (fTst (fBin eqD (rdF 2) (fC (.int 4)))) (fCB reprE (fCons (fExA "number" (rdF 1)) fNil)) (fC (.str ""))) fNil)))))))))
theorem sc__law_caught : FnScope ["_law_act", "_law_caught_here", "_law_at", "_law_e"] ["_law_act"] (defScope (topS 60)) := ⟨rfl, rfl, rfl, by decide +kernel, rfl, by decide +kernel, by decide +kernel⟩
theorem bdr__law_caught (T : Tx Lab.T K mg base w) : RestOk P w K mg base ["_law_act", "_law_caught_here", "_law_at", "_law_e"] "_law_caught" (topS 60) (T.A 31) (T.FD 31).code 1 ((defBody (topS 60)).drop 2) mr__law_caught := by
  have sc := sc__law_caught
  intro cdv A outer s H E F hcv hW hgd hr
  exact (dss_cons (ds_if (pdt_cmp od_isN isND_b (pd_name 1) pd_non) (dss_one (ds_ret (pd_tup (pda_cons pd_str (pda_cons pd_str pda_nil))))) dss_nil)
    (dss_cons (ds_set 2 (pd_call ((ok__law_kind T).mono (by decide)) runF_len hgd hr T.g__law_kind T.D__law_kind.kp (b__law_kind T) (pda_cons (pd_name 1) pda_nil)) sc.nd)
    (dss_cons (ds_if (pdt_cmp (od_in hr) inD_b (pd_name 2) (pd_tup (pda_cons pd_int (pda_cons pd_int pda_nil)))) (dss_one (ds_ret (pd_tup (pda_cons (pd_name 2) (pda_cons (pd_callB (cd_reprE hr hgd LabR.on) T.n_repr (by decide +kernel) (pda_cons (pd_exA (pd_name 1)) pda_nil)) pda_nil))))) dss_nil)
    (dss_cons (ds_if (pdt_cmp (od_eq hr) eqD_b (pd_name 2) pd_int) (dss_one (ds_ret (pd_tup (pda_cons (pd_name 2) (pda_cons (pd_callB (cd_reprE hr hgd LabR.on) T.n_repr (by decide +kernel) (pda_cons (pd_exA (pd_name 1)) pda_nil)) pda_nil))))) dss_nil)
    (dss_cons (ds_if (pdt_cmp (od_eq hr) eqD_b (pd_name 2) pd_int) (dss_one (ds_ret (pd_tup (pda_cons (pd_name 2) (pda_cons (pd_callB (cd_reprE hr hgd LabR.on) T.n_repr (by decide +kernel) (pda_cons (pd_exA (pd_name 1)) pda_nil)) pda_nil))))) dss_nil)
    (dss_one (ds_ret (pd_tup (pda_cons (pd_name 2) (pda_cons (pd_if (pdt_cmp (od_eq hr) eqD_b (pd_name 2) pd_int) (pd_callB (cd_reprE hr hgd LabR.on) T.n_repr (by decide +kernel) (pda_cons (pd_exA (pd_name 1)) pda_nil)) pd_str) pda_nil))))))))))
theorem b__law_caught (T : Tx Lab.T K mg base w) : Binds K (T.FD 31) ["_law_act"] [] := T.D__law_caught.binds fun _ _ _ _ _ _ us hl => match us, hl with | [_], _ => rfl
def mb__law_table_due : DEnv → Option DFlow := (sSeq (sSet 1 (fCB m__law_table_fault (fCons (rdF 0) fNil))) (sRet (fIf (fTst (fBin neD (rdF 1) (fFrz (fLst fNil)))) (fTup (fCons (fC (.int 0)) (fCons (fCB reprE (fCons (fIxN 1 (fC (.int 0))) fNil)) fNil))) (fTup (fCons (fC (.str "told")) (fCons (fC (.str "")) fNil))))))
def m__law_table_due := runF 1 2 mb__law_table_due
theorem sc__law_table_due : FnScope ["_law_thing", "_law_fault"] ["_law_thing"] (defScope (topS 61)) := ⟨rfl, rfl, rfl, by decide +kernel, rfl, by decide +kernel, by decide +kernel⟩
theorem bd__law_table_due (T : Tx Lab.T K mg base w) : BodyOk P w K mg base ["_law_thing", "_law_fault"] "_law_table_due" (topS 61) (T.A 32) (T.FD 32).code 2 mb__law_table_due := by
  have sc := sc__law_table_due
  intro cdv A outer s H E F hcv hW hgd hr
  exact (dss_cons (ds_set 1 (pd_call ((ok__law_table_fault T).mono (by decide)) runF_len hgd hr T.g__law_table_fault T.D__law_table_fault.kp (b__law_table_fault T) (pda_cons (pd_name 0) pda_nil)) sc.nd)
    (dss_one (ds_ret (pd_if (pdt_cmp (od_ne hr) neD_b (pd_name 1) (pn_pd (pn_lst pda_nil))) (pd_tup (pda_cons pd_int (pda_cons (pd_callB (cd_reprE hr hgd LabR.on) T.n_repr (by decide +kernel) (pda_cons (pd_ixN 1 pd_int) pda_nil)) pda_nil))) (pd_tup (pda_cons pd_str (pda_cons pd_str pda_nil)))))))
theorem ok__law_table_due (T : Tx Lab.T K mg base w) : FnG P w K mg base 3 (T.A 32) (T.FD 32) ["_law_thing"] (spF K 1 m__law_table_due) :=
  fn_F T.D__law_table_due sc__law_table_due rfl rfl (bd__law_table_due T)
theorem b__law_table_due (T : Tx Lab.T K mg base w) : Binds K (T.FD 32) ["_law_thing"] [] := T.D__law_table_due.binds fun _ _ _ _ _ _ us hl => match us, hl with | [_], _ => rfl
def mb__law_due : DEnv → Option DFlow := (sSeq (sIf (fTst (fBin neD (fCB m__law_table_fault (fCons (rdF 0) fNil)) (fFrz (fLst fNil)))) (sRet (fCB m__law_table_due (fCons (rdF 0) fNil))) sNil) (sSeq (sSet 2 (fCB m__law_order_fault (fCons (rdF 1) fNil))) (sSeq (sIf (fTst (fBin neD (rdF 2) (fFrz (fLst fNil)))) (sRet (fTup (fCons (fC (.int 2)) (fCons (fCB reprE (fCons (fIxN 2 (fC (.int 0))) fNil)) fNil)))) sNil) (sSeq (sSetN 3 (nSorted (fFrz (nLc (iSeq (fSl (rdF 1) oNone (oSome (fNeg (fC (.int 1)))))) (gTupD 2 (gsCons (gSet 4) (gsCons (gSet 5) gsNil))) (fTst (fBin geD (rdF 4) (fCB lenD (fCons (fIxN 0 (fC (.int 0))) fNil)))) (rdF 4) [4, 5])))) (sRet (fIf (fTst (fBin neD (rdF 3) (fFrz (fLst fNil)))) (fTup (fCons (fC (.int 12)) (fCons (fCB reprE (fCons (fIxN 3 (fC (.int 0))) fNil)) fNil))) (fTup (fCons (fC (.str "told")) (fCons (fC (.str "")) fNil)))))))))
def m__law_due := runF 2 6 mb__law_due
theorem sc__law_due : FnScope ["_law_thing", "_law_keys", "_law_fault", "_law_gone", "_law_side", "_law_way"] ["_law_thing", "_law_keys"] (defScope (topS 62)) := ⟨rfl, rfl, rfl, by decide +kernel, rfl, by decide +kernel, by decide +kernel⟩
theorem bd__law_due (T : Tx Lab.T K mg base w) : BodyOk P w K mg base ["_law_thing", "_law_keys", "_law_fault", "_law_gone", "_law_side", "_law_way"] "_law_due" (topS 62) (T.A 33) (T.FD 33).code 3 mb__law_due := by
  have sc := sc__law_due
  intro cdv A outer s H E F hcv hW hgd hr
  exact (dss_cons (ds_if (pdt_cmp (od_ne hr) neD_b (pd_call ((ok__law_table_fault T).mono (by decide)) runF_len hgd hr T.g__law_table_fault T.D__law_table_fault.kp (b__law_table_fault T) (pda_cons (pd_name 0) pda_nil)) (pn_pd (pn_lst pda_nil))) (dss_one (ds_ret (pd_call ((ok__law_table_due T).mono (by decide)) runF_len hgd hr T.g__law_table_due T.D__law_table_due.kp (b__law_table_due T) (pda_cons (pd_name 0) pda_nil)))) dss_nil)
    (dss_cons (ds_set 2 (pd_call ((ok__law_order_fault T).mono (by decide)) runF_len hgd hr T.g__law_order_fault T.D__law_order_fault.kp (b__law_order_fault T) (pda_cons (pd_name 1) pda_nil)) sc.nd)
    (dss_cons (ds_if (pdt_cmp (od_ne hr) neD_b (pd_name 2) (pn_pd (pn_lst pda_nil))) (dss_one (ds_ret (pd_tup (pda_cons pd_int (pda_cons (pd_callB (cd_reprE hr hgd LabR.on) T.n_repr (by decide +kernel) (pda_cons (pd_ixN 2 pd_int) pda_nil)) pda_nil))))) dss_nil)
    (dss_cons (ds_setN 3 (pn_sorted T.n_sorted (pn_pd (pn_lc [("_law_side", 4), ("_law_way", 5)] sc.nd (di_seq (pd_slice (pd_name 1) do_none (do_some (pd_neg pd_int)))) (blkOk_by (own := [("_law_side", 4), ("_law_way", 5)]) (by kernel_rfl)) (fun _ _ _ _ _ => (gn_tup (gns_cons (gn_name 4 sc.nd) (gns_cons (gn_name 5 sc.nd) gns_nil)))) (fun _ _ _ _ _ => (dts_one (pdt_cmp od_ge intD_b (pd_name 4) (pd_callB (cd_len) T.n_len (by decide +kernel) (pda_cons (pd_ixN 0 pd_int) pda_nil))))) (fun _ _ _ _ _ => (pd_name 4))))) sc.nd)
    (dss_one (ds_ret (pd_if (pdt_cmp (od_ne hr) neD_b (pd_name 3) (pn_pd (pn_lst pda_nil))) (pd_tup (pda_cons pd_int (pda_cons (pd_callB (cd_reprE hr hgd LabR.on) T.n_repr (by decide +kernel) (pda_cons (pd_ixN 3 pd_int) pda_nil)) pda_nil))) (pd_tup (pda_cons pd_str (pda_cons pd_str pda_nil))))))))))
theorem ok__law_due (T : Tx Lab.T K mg base w) : FnG P w K mg base 4 (T.A 33) (T.FD 33) ["_law_thing", "_law_keys"] (spF K 2 m__law_due) :=
  fn_F T.D__law_due sc__law_due rfl rfl (bd__law_due T)
theorem b__law_due (T : Tx Lab.T K mg base w) : Binds K (T.FD 33) ["_law_thing", "_law_keys"] [] := T.D__law_due.binds fun _ _ _ _ _ _ us hl => match us, hl with | [_, _], _ => rfl
def gd_places_by_order_table (ds : List PyData) : List PyData := match ds with
  | [x0, x1] => [x1, x0]
  | _ => ds
def gv_places_by_order_table (vs : List V) : List V := match vs with
  | [x0, x1] => [x1, x0]
  | _ => vs
def gu_places_by_order_table (vs : List Value) : List Value := match vs with
  | [x0, x1] => [x1, x0]
  | _ => vs
theorem gdd_places_by_order_table (K : PySem.W.Frag) (Z : Hp) (vs : List V) (ds : List PyData) (h : DDs K Z vs ds) : DDs K Z (gv_places_by_order_table vs) (gd_places_by_order_table ds) := by
  cases h with
  | nil => exact .nil
  | cons h0 h =>
    cases h with
    | nil => exact .cons h0 .nil
    | cons h1 h =>
      cases h with
      | nil => exact .cons h1 (.cons h0 .nil)
      | cons h2 h => exact .cons h0 (.cons h1 (.cons h2 (h)))
theorem gr_places_by_order_table {vs : List V} {us : List Value} (h : Vals vs us) : Vals (gv_places_by_order_table vs) (gu_places_by_order_table us) := by
  cases h with
  | nil => exact .nil
  | cons h0 h =>
    cases h with
    | nil => exact .cons h0 .nil
    | cons h1 h =>
      cases h with
      | nil => exact .cons h1 (.cons h0 .nil)
      | cons h2 h => exact .cons h0 (.cons h1 (.cons h2 (h)))
theorem kb_places_by_order_table (T : Tx Lab.T K mg base w) (s : Shared) (ws : List Value) (hl : (gu_places_by_order_table ws).length = 2) : BindsTo s (T.FD 18) ⟨[], (["order", "table"] : List Str).zip ws⟩ ((["table", "order"] : List Str).zip (gu_places_by_order_table ws)) := by
  obtain ⟨oc, od, kV, doc, pm, an, cdv, ct, osl, e, _, _⟩ := T.D_places_by.ex
  rw [e]
  match ws, hl with
  | [_, _], _ => exact .of_eq rfl
def gu_sorted_by_order_table (vs : List Value) : List Value := match vs with
  | [x0, x1] => [x1, x0]
  | _ => vs
theorem kb_sorted_by_order_table (T : Tx Lab.T K mg base w) (s : Shared) (ws : List Value) (hl : (gu_sorted_by_order_table ws).length = 2) : BindsTo s (T.FD 19) ⟨[], (["order", "table"] : List Str).zip ws⟩ ((["table", "order"] : List Str).zip (gu_sorted_by_order_table ws)) := by
  obtain ⟨oc, od, kV, doc, pm, an, cdv, ct, osl, e, _, _⟩ := T.D_sorted_by.ex
  rw [e]
  match ws, hl with
  | [_, _], _ => exact .of_eq rfl
def gd_turned_order (ds : List PyData) : List PyData := match ds with
  | [x0] => [x0]
  | _ => ds
def gv_turned_order (vs : List V) : List V := match vs with
  | [x0] => [x0]
  | _ => vs
def gu_turned_order (vs : List Value) : List Value := match vs with
  | [x0] => [x0]
  | _ => vs
theorem gdd_turned_order (K : PySem.W.Frag) (Z : Hp) (vs : List V) (ds : List PyData) (h : DDs K Z vs ds) : DDs K Z (gv_turned_order vs) (gd_turned_order ds) := by
  cases h with
  | nil => exact .nil
  | cons h0 h =>
    cases h with
    | nil => exact .cons h0 .nil
    | cons h1 h => exact .cons h0 (.cons h1 (h))
theorem gr_turned_order {vs : List V} {us : List Value} (h : Vals vs us) : Vals (gv_turned_order vs) (gu_turned_order us) := by
  cases h with
  | nil => exact .nil
  | cons h0 h =>
    cases h with
    | nil => exact .cons h0 .nil
    | cons h1 h => exact .cons h0 (.cons h1 (h))
theorem kb_turned_order (T : Tx Lab.T K mg base w) (s : Shared) (ws : List Value) (hl : (gu_turned_order ws).length = 1) : BindsTo s (T.FD 15) ⟨[], (["order"] : List Str).zip ws⟩ ((["order"] : List Str).zip (gu_turned_order ws)) := by
  obtain ⟨oc, od, kV, doc, pm, an, cdv, ct, osl, e, _, _⟩ := T.D_turned.ex
  rw [e]
  match ws, hl with
  | [_], _ => exact .of_eq rfl
theorem calv_places_by_sorted_by_order_table (T : Tx Lab.T K mg base w) {k : Nat} (hk : 7 ≤ k) : ∀ n m, mtab [("places_by", m_places_by), ("sorted_by", m_sorted_by)] n = some m → CalV P w K mg base T.C k 2 ["table", "order"] ["order", "table"] gu_places_by_order_table n m := by
  intro n m h
  unfold mtab at h
  split at h
  · rename_i hn
    cases h
    rw [hn]
    exact ⟨⟨T.FD 18, by rw [T.hF_places_by]; exact (okx_places_by T).mono (Nat.le_trans (by decide) hk), b_places_by T, kb_places_by_order_table T⟩, by rw [T.hF_places_by]; exact T.D_places_by.kp, runX_len⟩
  unfold mtab at h
  split at h
  · rename_i hn
    cases h
    rw [hn]
    exact ⟨⟨T.FD 19, by rw [T.hF_sorted_by]; exact (okx_sorted_by T).mono (Nat.le_trans (by decide) hk), b_sorted_by T, kb_sorted_by_order_table T⟩, by rw [T.hF_sorted_by]; exact T.D_sorted_by.kp, runX_len⟩
  cases h
def mb__law_pair_right : DEnv → Option DFlow := (sSeq (sSet 2 (fCB m__law_due (fCons (rdF 0) (fCons (rdF 1) fNil)))) (sSeq (sForFn 3 ["places_by", "sorted_by"] (sSeq (sIf (fTst (fCmpN neD (fCaught (mt3 mt_TableError mt_FindError mt_LimitError) at_ex 1 4 mr__law_caught (fCXV 3 [("places_by", m_places_by), ("sorted_by", m_sorted_by)] (fCons (rdF 0) (fCons (rdF 1) fNil)))) 2)) (sRet (fC (.bool false))) sNil) (sIf (fTst (fCmpN neD (fCaught (mt3 mt_TableError mt_FindError mt_LimitError) at_ex 1 4 mr__law_caught (fCXVK 3 gd_places_by_order_table [("places_by", m_places_by), ("sorted_by", m_sorted_by)] (fCons (rdF 1) (fCons (rdF 0) fNil)))) 2)) (sRet (fC (.bool false))) sNil))) (sSeq (sSet 4 (fCB m__law_order_fault (fCons (rdF 1) fNil))) (sSeq (sSet 2 (fIf (fTst (fBin neD (rdF 4) (fFrz (fLst fNil)))) (fTup (fCons (fC (.int 2)) (fCons (fCB reprE (fCons (fIxN 4 (fC (.int 0))) fNil)) fNil))) (fTup (fCons (fC (.str "told")) (fCons (fC (.str "")) fNil))))) (sSeq (sIf (fTst (fCmpN neD (fCaught (mt3 mt_TableError mt_FindError mt_LimitError) at_ex 1 4 mr__law_caught (fCX m_turned (fCons (rdF 1) fNil))) 2)) (sRet (fC (.bool false))) sNil) (sSeq (sIf (fTst (fBin neD (fCaught (mt3 mt_TableError mt_FindError mt_LimitError) at_ex 1 4 mr__law_caught (fCX m_count_columns (fCons (rdF 0) fNil))) (fCB m__law_table_due (fCons (rdF 0) fNil)))) (sRet (fC (.bool false))) sNil) (sRet (fCmpN eqD (fCaught (mt3 mt_TableError mt_FindError mt_LimitError) at_ex 1 4 mr__law_caught (fCXK0 gd_turned_order m_turned (fCons (rdF 1) fNil))) 2))))))))
def m__law_pair_right := runF 2 5 mb__law_pair_right
theorem sc__law_pair_right : FnScope ["_law_thing", "_law_keys", "_law_due_here", "_law_act", "_law_fault"] ["_law_thing", "_law_keys"] (defScope (topS 63)) := ⟨rfl, rfl, rfl, by decide +kernel, rfl, by decide +kernel, by decide +kernel⟩
theorem bd__law_pair_right (T : Tx Lab.T K mg base w) : BodyOk P w K mg base ["_law_thing", "_law_keys", "_law_due_here", "_law_act", "_law_fault"] "_law_pair_right" (topS 63) (T.A 34) (T.FD 34).code 10 mb__law_pair_right := by
  have sc := sc__law_pair_right
  intro cdv A outer s H E F hcv hW hgd hr
  exact (dss_cons (ds_set 2 (pd_call ((ok__law_due T).mono (by decide)) runF_len hgd hr T.g__law_due T.D__law_due.kp (b__law_due T) (pda_cons (pd_name 0) (pda_cons (pd_name 1) pda_nil))) sc.nd)
    (dss_cons (ds_forFn 3 (mgF_places_by T) (mgF_sorted_by T) (dss_cons (ds_if (pdt_cmpN (od_ne hr) neD_scal neD_b (by exact pd_caught (k := 7) (i := 3) (j := 1) T.D__law_caught sc__law_caught rfl rfl rfl rfl rfl (by decide) (by decide) (fun _ => rfl) (fun _ => rfl) (by first | exact Or.inl rfl | exact Or.inr (Or.inl rfl)) rfl rfl (by decide) (by decide) (by decide) (by decide) ((bdr__law_caught T).mono (by decide)) (hmt_TableError_FindError_LimitError T) (ekp_TableError_FindError_LimitError T) (fun _ hm hs _ => tupT3 ⟨(by unfold Gl Env.kindOf; rw [hs]; rfl), by decide, .inl (by rw [hm]; exact T.xm_TableError)⟩ ⟨(by unfold Gl Env.kindOf; rw [hs]; rfl), by decide, .inl (by rw [hm]; exact T.xm_FindError)⟩ ⟨(by unfold Gl Env.kindOf; rw [hs]; rfl), by decide, .inl (by rw [hm]; exact T.xm_LimitError)⟩) T.tb__law_pair_right (hcv.trans T.cd__law_pair_right) T.lb__law_pair_right T.lu__law_pair_right (LamX.lamS_by (by kernel_rfl)) (by kernel_rfl) (fun _ _ _ _ _ => rfl) (hr.mono (by decide)) hgd rfl T.g__law_caught T.D__law_caught.kp (b__law_caught T) (fun _ _ _ _ _ _ _ F tk0 hgd hr => have tk := tkC T tk0; (pdx_callV 3 tk (calv_places_by_sorted_by_order_table T (by decide)) hgd hr (pda_cons (pd_name 0) (pda_cons (pd_name 1) pda_nil))))) 2) (dss_one (ds_ret pd_bl)) dss_nil)
        (dss_one (ds_if (pdt_cmpN (od_ne hr) neD_scal neD_b (by exact pd_caught (k := 7) (i := 3) (j := 1) T.D__law_caught sc__law_caught rfl rfl rfl rfl rfl (by decide) (by decide) (fun _ => rfl) (fun _ => rfl) (by first | exact Or.inl rfl | exact Or.inr (Or.inl rfl)) rfl rfl (by decide) (by decide) (by decide) (by decide) ((bdr__law_caught T).mono (by decide)) (hmt_TableError_FindError_LimitError T) (ekp_TableError_FindError_LimitError T) (fun _ hm hs _ => tupT3 ⟨(by unfold Gl Env.kindOf; rw [hs]; rfl), by decide, .inl (by rw [hm]; exact T.xm_TableError)⟩ ⟨(by unfold Gl Env.kindOf; rw [hs]; rfl), by decide, .inl (by rw [hm]; exact T.xm_FindError)⟩ ⟨(by unfold Gl Env.kindOf; rw [hs]; rfl), by decide, .inl (by rw [hm]; exact T.xm_LimitError)⟩) T.tb__law_pair_right (hcv.trans T.cd__law_pair_right) T.lb__law_pair_right T.lu__law_pair_right (LamX.lamS_by (by kernel_rfl)) (by kernel_rfl) (fun _ _ _ _ _ => rfl) (hr.mono (by decide)) hgd rfl T.g__law_caught T.D__law_caught.kp (b__law_caught T) (fun _ _ _ _ _ _ _ F tk0 hgd hr => have tk := tkC T tk0; (pdx_callVK 3 (gd_places_by_order_table) (gdd_places_by_order_table) tk (calv_places_by_sorted_by_order_table T (by decide)) hgd hr gr_places_by_order_table (pdk_cons (pd_name 1) (pdk_cons (pd_name 0) pdk_nil))))) 2) (dss_one (ds_ret pd_bl)) dss_nil))) sc.nd)
    (dss_cons (ds_set 4 (pd_call ((ok__law_order_fault T).mono (by decide)) runF_len hgd hr T.g__law_order_fault T.D__law_order_fault.kp (b__law_order_fault T) (pda_cons (pd_name 1) pda_nil)) sc.nd)
    (dss_cons (ds_set 2 (pd_if (pdt_cmp (od_ne hr) neD_b (pd_name 4) (pn_pd (pn_lst pda_nil))) (pd_tup (pda_cons pd_int (pda_cons (pd_callB (cd_reprE hr hgd LabR.on) T.n_repr (by decide +kernel) (pda_cons (pd_ixN 4 pd_int) pda_nil)) pda_nil))) (pd_tup (pda_cons pd_str (pda_cons pd_str pda_nil)))) sc.nd)
    (dss_cons (ds_if (pdt_cmpN (od_ne hr) neD_scal neD_b (by exact pd_caught (k := 7) (i := 3) (j := 1) T.D__law_caught sc__law_caught rfl rfl rfl rfl rfl (by decide) (by decide) (fun _ => rfl) (fun _ => rfl) (by first | exact Or.inl rfl | exact Or.inr (Or.inl rfl)) rfl rfl (by decide) (by decide) (by decide) (by decide) ((bdr__law_caught T).mono (by decide)) (hmt_TableError_FindError_LimitError T) (ekp_TableError_FindError_LimitError T) (fun _ hm hs _ => tupT3 ⟨(by unfold Gl Env.kindOf; rw [hs]; rfl), by decide, .inl (by rw [hm]; exact T.xm_TableError)⟩ ⟨(by unfold Gl Env.kindOf; rw [hs]; rfl), by decide, .inl (by rw [hm]; exact T.xm_FindError)⟩ ⟨(by unfold Gl Env.kindOf; rw [hs]; rfl), by decide, .inl (by rw [hm]; exact T.xm_LimitError)⟩) T.tb__law_pair_right (hcv.trans T.cd__law_pair_right) T.lb__law_pair_right T.lu__law_pair_right (LamX.lamS_by (by kernel_rfl)) (by kernel_rfl) (fun _ _ _ _ _ => rfl) (hr.mono (by decide)) hgd rfl T.g__law_caught T.D__law_caught.kp (b__law_caught T) (fun _ _ _ _ _ _ _ F tk0 hgd hr => have tk := tkC T tk0; (pdx_call tk ((okx_turned T).mono (by decide)) runX_len hgd hr T.g_turned T.D_turned.kp (b_turned T) (pda_cons (pd_name 1) pda_nil)))) 2) (dss_one (ds_ret pd_bl)) dss_nil)
    (dss_cons (ds_if (pdt_cmp (od_ne hr) neD_b (by exact pd_caught (k := 7) (i := 3) (j := 1) T.D__law_caught sc__law_caught rfl rfl rfl rfl rfl (by decide) (by decide) (fun _ => rfl) (fun _ => rfl) (by first | exact Or.inl rfl | exact Or.inr (Or.inl rfl)) rfl rfl (by decide) (by decide) (by decide) (by decide) ((bdr__law_caught T).mono (by decide)) (hmt_TableError_FindError_LimitError T) (ekp_TableError_FindError_LimitError T) (fun _ hm hs _ => tupT3 ⟨(by unfold Gl Env.kindOf; rw [hs]; rfl), by decide, .inl (by rw [hm]; exact T.xm_TableError)⟩ ⟨(by unfold Gl Env.kindOf; rw [hs]; rfl), by decide, .inl (by rw [hm]; exact T.xm_FindError)⟩ ⟨(by unfold Gl Env.kindOf; rw [hs]; rfl), by decide, .inl (by rw [hm]; exact T.xm_LimitError)⟩) T.tb__law_pair_right (hcv.trans T.cd__law_pair_right) T.lb__law_pair_right T.lu__law_pair_right (LamX.lamS_by (by kernel_rfl)) (by kernel_rfl) (fun _ _ _ _ _ => rfl) (hr.mono (by decide)) hgd rfl T.g__law_caught T.D__law_caught.kp (b__law_caught T) (fun _ _ _ _ _ _ _ F tk0 hgd hr => have tk := tkC T tk0; (pdx_call tk ((okx_count_columns T).mono (by decide)) runX_len hgd hr T.g_count_columns T.D_count_columns.kp (b_count_columns T) (pda_cons (pd_name 0) pda_nil)))) (pd_call ((ok__law_table_due T).mono (by decide)) runF_len hgd hr T.g__law_table_due T.D__law_table_due.kp (b__law_table_due T) (pda_cons (pd_name 0) pda_nil))) (dss_one (ds_ret pd_bl)) dss_nil)
    (dss_one (ds_ret (pd_cmpN (od_eq hr) eqD_scal (by exact pd_caught (k := 7) (i := 3) (j := 1) T.D__law_caught sc__law_caught rfl rfl rfl rfl rfl (by decide) (by decide) (fun _ => rfl) (fun _ => rfl) (by first | exact Or.inl rfl | exact Or.inr (Or.inl rfl)) rfl rfl (by decide) (by decide) (by decide) (by decide) ((bdr__law_caught T).mono (by decide)) (hmt_TableError_FindError_LimitError T) (ekp_TableError_FindError_LimitError T) (fun _ hm hs _ => tupT3 ⟨(by unfold Gl Env.kindOf; rw [hs]; rfl), by decide, .inl (by rw [hm]; exact T.xm_TableError)⟩ ⟨(by unfold Gl Env.kindOf; rw [hs]; rfl), by decide, .inl (by rw [hm]; exact T.xm_FindError)⟩ ⟨(by unfold Gl Env.kindOf; rw [hs]; rfl), by decide, .inl (by rw [hm]; exact T.xm_LimitError)⟩) T.tb__law_pair_right (hcv.trans T.cd__law_pair_right) T.lb__law_pair_right T.lu__law_pair_right (LamX.lamS_by (by kernel_rfl)) (by kernel_rfl) (fun _ _ _ _ _ => rfl) (hr.mono (by decide)) hgd rfl T.g__law_caught T.D__law_caught.kp (b__law_caught T) (fun _ _ _ _ _ _ _ F tk0 hgd hr => have tk := tkC T tk0; (pdx_callK0 (gd_turned_order) (gdd_turned_order) tk ((okx_turned T).mono (by decide)) runX_len hgd hr T.g_turned T.D_turned.kp (kb_turned_order T) gr_turned_order (pdk_cons (pd_name 1) pdk_nil)))) 2)))))))))
theorem ok__law_pair_right (T : Tx Lab.T K mg base w) : FnG P w K mg base 11 (T.A 34) (T.FD 34) ["_law_thing", "_law_keys"] (spF K 2 m__law_pair_right) :=
  fn_F T.D__law_pair_right sc__law_pair_right rfl rfl (bd__law_pair_right T)
theorem b__law_pair_right (T : Tx Lab.T K mg base w) : Binds K (T.FD 34) ["_law_thing", "_law_keys"] [] := T.D__law_pair_right.binds fun _ _ _ _ _ _ us hl => match us, hl with | [_, _], _ => rfl
def mb__law_right : DEnv → Option DFlow := (sSeq (sPar 1 2 (fCons (fCR 0 m__law_table (fCons (fC (.int 6)) (fCons (fC (.int 5)) fNil))) (fCons (fCR 0 m__law_order (fCons (fC (.int 4)) fNil)) fNil))) (sSeq (sFor (iArg rng1 (fCons (fC (.int 6)) fNil)) (gSet 3) (sSeq (sSet 4 (fBin ixD (fFrz (fLst (fCons (rdF 1) (fCons (fCR 0 m__law_bent_table (fCons (rdF 1) fNil)) fNil)))) (fCR 0 m__law_draw (fCons (fC (.int 2)) fNil)))) (sIf (fNot (fTst (fCB m__law_pair_right (fCons (rdF 4) (fCons (fBin ixD (fFrz (fLst (fCons (rdF 2) (fCons (fCR 0 m__law_bent_order (fCons (rdF 2) fNil)) fNil)))) (fCR 0 m__law_draw (fCons (fC (.int 2)) fNil))) fNil))))) (sRet (fC (.bool false))) sNil))) (sRet (fCB m__law_pair_right (fCons (rdF 1) (fCons (rdF 2) fNil))))))
def m__law_right := runR 1 5 mb__law_right
theorem sc__law_right : FnScope ["_law_pool_here", "_law_records", "_law_keys", "_law_turn", "_law_thing"] ["_law_pool_here"] (defScope (topS 64)) := ⟨rfl, rfl, rfl, by decide +kernel, rfl, by decide +kernel, by decide +kernel⟩
theorem bd__law_right (T : Tx Lab.T K mg base w) : BodyOk P w K mg base ["_law_pool_here", "_law_records", "_law_keys", "_law_turn", "_law_thing"] "_law_right" (topS 64) (T.A 35) (T.FD 35).code 11 mb__law_right := by
  have sc := sc__law_right
  intro cdv A outer s H E F hcv hW hgd hr
  exact (dss_cons (ds_par 1 2 (ps_par (i := 1) (j := 2) rfl sc.nd rfl rfl (by decide) rfl rfl (pda_cons (pd_callR 0 ((ok__law_table T).mono (by decide)) runR_len hgd hr T.g__law_table T.D__law_table.kp (b__law_table T) (pda_cons pd_int (pda_cons pd_int pda_nil))) (pda_cons (pd_callR 0 ((ok__law_order T).mono (by decide)) runR_len hgd hr T.g__law_order T.D__law_order.kp (b__law_order T) (pda_cons pd_int pda_nil)) pda_nil)) (by rfl)))
    (dss_cons (ds_for (di_range1 T.n_range (pda_cons pd_int pda_nil)) (dg_name 3 sc.nd) (dss_cons (ds_set 4 (pd_ix (pn_pd (pn_lst (pda_cons (pd_name 1) (pda_cons (pd_callR 0 ((ok__law_bent_table T).mono (by decide)) runR_len hgd hr T.g__law_bent_table T.D__law_bent_table.kp (b__law_bent_table T) (pda_cons (pd_name 1) pda_nil)) pda_nil)))) (pd_callR 0 ((ok__law_draw T).mono (by decide)) runR_len hgd hr T.g__law_draw T.D__law_draw.kp (b__law_draw T) (pda_cons pd_int pda_nil))) sc.nd)
      (dss_one (ds_if (pdt_not (pdt_val (pd_call ((ok__law_pair_right T).mono (by decide)) runF_len hgd hr T.g__law_pair_right T.D__law_pair_right.kp (b__law_pair_right T) (pda_cons (pd_name 4) (pda_cons (pd_ix (pn_pd (pn_lst (pda_cons (pd_name 2) (pda_cons (pd_callR 0 ((ok__law_bent_order T).mono (by decide)) runR_len hgd hr T.g__law_bent_order T.D__law_bent_order.kp (b__law_bent_order T) (pda_cons (pd_name 2) pda_nil)) pda_nil)))) (pd_callR 0 ((ok__law_draw T).mono (by decide)) runR_len hgd hr T.g__law_draw T.D__law_draw.kp (b__law_draw T) (pda_cons pd_int pda_nil))) pda_nil))))) (dss_one (ds_ret pd_bl)) dss_nil))))
    (dss_one (ds_ret (pd_call ((ok__law_pair_right T).mono (by decide)) runF_len hgd hr T.g__law_pair_right T.D__law_pair_right.kp (b__law_pair_right T) (pda_cons (pd_name 1) (pda_cons (pd_name 2) pda_nil)))))))
theorem ok__law_right (T : Tx Lab.T K mg base w) : FnG P w K mg base 12 (T.A 35) (T.FD 35) ["_law_pool_here"] (spR K 1 m__law_right) :=
  fn_R T.D__law_right sc__law_right rfl rfl (bd__law_right T)
theorem b__law_right (T : Tx Lab.T K mg base w) : Binds K (T.FD 35) ["_law_pool_here"] [] := T.D__law_right.binds fun _ _ _ _ _ _ us hl => match us, hl with | [_], _ => rfl
def mb_law : DEnv → Option DFlow := (sSeq (sAsg (fTup (fCons (fTup (fCons (fTup (fCons (fC (.int 1)) (fCons (fC (.int 0)) fNil))) (fCons (fTup (fCons (fC (.int 2)) (fCons (fC (.int 1)) fNil))) fNil))) (fCons (fTup (fCons (fTup (fCons (fC (.int 1)) (fCons (fC (.str "up")) fNil))) (fCons (fTup (fCons (fC (.str "place")) (fCons (fC (.str "up")) fNil))) fNil))) fNil))) (gTupD 2 (gsCons (gSet 1) (gsCons (gSet 2) gsNil)))) (sSeq (sSetN 3 (fLst (fCons (fTup (fCons (rdF 1) (fCons (rdF 2) fNil))) (fCons (fTup (fCons (fTup (fCons (fTup (fCons (fC (.bool true)) (fCons (fC (.int 0)) fNil))) (fCons (fTup (fCons (fC (.int 2)) (fCons (fC (.int 1)) fNil))) fNil))) (fCons (rdF 2) fNil))) (fCons (fTup (fCons (rdF 1) (fCons (fTup (fCons (fTup (fCons (fC (.bool true)) (fCons (fC (.str "up")) fNil))) (fCons (fTup (fCons (fC (.str "place")) (fCons (fC (.str "up")) fNil))) fNil))) fNil))) (fCons (fTup (fCons (rdF 1) (fCons (rdF 2) fNil))) fNil)))))) (sSeq (sSetN 3 (nAdd (rdF 3) (fFrz (fLst (fCons (fTup (fCons (fTup (fCons (fTup (fCons (fC (.int 1)) (fCons (fC (.int 0)) fNil))) (fCons (fTup (fCons (fC (.int 2)) fNil)) (fCons (fC .none) fNil)))) (fCons (rdF 2) fNil))) (fCons (fTup (fCons (fTup (fCons (fTup (fCons (fC (.int 1)) (fCons (fC (.int 0)) fNil))) (fCons (fC .none) (fCons (fTup (fCons (fC (.int 2)) fNil)) fNil)))) (fCons (rdF 2) fNil))) (fCons (fTup (fCons (fTup (fCons (fTup (fCons (fC (.int 1)) (fCons (fC (.int 0)) fNil))) (fCons (fTup (fCons (fC (.int 2)) (fCons (fC .none) fNil))) (fCons (fTup (fCons (fC (.int 3)) fNil)) fNil)))) (fCons (rdF 2) fNil))) fNil))))))) (sSeq (sAsg (fTup (fCons (fTup (fCons (fC (.int 1)) (fCons (fC (.str "up")) fNil))) (fCons (fTup (fCons (fC (.str "place")) (fCons (fC (.str "up")) fNil))) fNil))) (gTupD 2 (gsCons (gSet 4) (gsCons (gSet 5) gsNil)))) (sSeq (sSetN 3 (nAdd (rdF 3) (fFrz (fLst (fCons (fTup (fCons (rdF 1) (fCons (fTup (fCons (rdF 4) (fCons (rdF 4) (fCons (fC .none) (fCons (rdF 5) fNil))))) fNil))) (fCons (fTup (fCons (rdF 1) (fCons (fTup (fCons (rdF 4) (fCons (fC .none) (fCons (rdF 4) (fCons (rdF 5) fNil))))) fNil))) (fCons (fTup (fCons (rdF 1) (fCons (fTup (fCons (rdF 4) (fCons (rdF 5) (fCons (fC .none) fNil)))) fNil))) fNil))))))) (sSeq (sIf (fNot (fTst (fCB allD (fCons (fFrz (nLcH 3 (gTupD 2 (gsCons (gSet 7) (gsCons (gSet 8) gsNil))) fYes (fCB m__law_pair_right (fCons (rdF 7) (fCons (rdF 8) fNil))) [7, 8])) fNil)))) (sRet (fC (.bool false))) sNil) (sRet (fCB allD (fCons (fFrz (nLc (iArg rng1 (fCons (fCB maxD (fCons (fC (.int 2)) (fCons (fCB minD (fCons (fLenN 0) (fCons (fC (.int 6)) fNil))) fNil))) fNil)) (gSet 6) fYes (fCRT m__law_right (fCN m__law_pool (fCons (fCB m__law_cell (fCons (rdF 0) (fCons (rdF 6) fNil))) fNil))) [6])) fNil)))))))))
def m_law := runF 1 9 mb_law
theorem sc_law : FnScope ["_law_script", "_law_good", "_law_keys", "_law_twins", "_law_up", "_law_place", "_law_k", "_law_thing", "_law_some"] ["_law_script"] (defScope (topS 65)) := ⟨rfl, rfl, rfl, by decide +kernel, rfl, by decide +kernel, by decide +kernel⟩
theorem bd_law (T : Tx Lab.T K mg base w) : BodyOk P w K mg base ["_law_script", "_law_good", "_law_keys", "_law_twins", "_law_up", "_law_place", "_law_k", "_law_thing", "_law_some"] "law" (topS 65) (T.A 36) (T.FD 36).code 12 mb_law := by
  have sc := sc_law
  intro cdv A outer s H E F hcv hW hgd hr
  exact (dss_cons (ds_asg (pd_tup (pda_cons (pd_tup (pda_cons (pd_tup (pda_cons pd_int (pda_cons pd_int pda_nil))) (pda_cons (pd_tup (pda_cons pd_int (pda_cons pd_int pda_nil))) pda_nil))) (pda_cons (pd_tup (pda_cons (pd_tup (pda_cons pd_int (pda_cons pd_str pda_nil))) (pda_cons (pd_tup (pda_cons pd_str (pda_cons pd_str pda_nil))) pda_nil))) pda_nil))) (dg_tup (dgs_cons (dg_name 1 sc.nd) (dgs_cons (dg_name 2 sc.nd) dgs_nil))))
    (dss_cons (ds_setN 3 (pn_lst (pda_cons (pd_tup (pda_cons (pd_name 1) (pda_cons (pd_name 2) pda_nil))) (pda_cons (pd_tup (pda_cons (pd_tup (pda_cons (pd_tup (pda_cons pd_bl (pda_cons pd_int pda_nil))) (pda_cons (pd_tup (pda_cons pd_int (pda_cons pd_int pda_nil))) pda_nil))) (pda_cons (pd_name 2) pda_nil))) (pda_cons (pd_tup (pda_cons (pd_name 1) (pda_cons (pd_tup (pda_cons (pd_tup (pda_cons pd_bl (pda_cons pd_str pda_nil))) (pda_cons (pd_tup (pda_cons pd_str (pda_cons pd_str pda_nil))) pda_nil))) pda_nil))) (pda_cons (pd_tup (pda_cons (pd_name 1) (pda_cons (pd_name 2) pda_nil))) pda_nil))))) sc.nd)
    (dss_cons (ds_setN 3 (pn_addL (pd_name 3) (pn_pd (pn_lst (pda_cons (pd_tup (pda_cons (pd_tup (pda_cons (pd_tup (pda_cons pd_int (pda_cons pd_int pda_nil))) (pda_cons (pd_tup (pda_cons pd_int pda_nil)) (pda_cons pd_non pda_nil)))) (pda_cons (pd_name 2) pda_nil))) (pda_cons (pd_tup (pda_cons (pd_tup (pda_cons (pd_tup (pda_cons pd_int (pda_cons pd_int pda_nil))) (pda_cons pd_non (pda_cons (pd_tup (pda_cons pd_int pda_nil)) pda_nil)))) (pda_cons (pd_name 2) pda_nil))) (pda_cons (pd_tup (pda_cons (pd_tup (pda_cons (pd_tup (pda_cons pd_int (pda_cons pd_int pda_nil))) (pda_cons (pd_tup (pda_cons pd_int (pda_cons pd_non pda_nil))) (pda_cons (pd_tup (pda_cons pd_int pda_nil)) pda_nil)))) (pda_cons (pd_name 2) pda_nil))) pda_nil)))))) sc.nd)
    (dss_cons (ds_asg (pd_tup (pda_cons (pd_tup (pda_cons pd_int (pda_cons pd_str pda_nil))) (pda_cons (pd_tup (pda_cons pd_str (pda_cons pd_str pda_nil))) pda_nil))) (dg_tup (dgs_cons (dg_name 4 sc.nd) (dgs_cons (dg_name 5 sc.nd) dgs_nil))))
    (dss_cons (ds_setN 3 (pn_addL (pd_name 3) (pn_pd (pn_lst (pda_cons (pd_tup (pda_cons (pd_name 1) (pda_cons (pd_tup (pda_cons (pd_name 4) (pda_cons (pd_name 4) (pda_cons pd_non (pda_cons (pd_name 5) pda_nil))))) pda_nil))) (pda_cons (pd_tup (pda_cons (pd_name 1) (pda_cons (pd_tup (pda_cons (pd_name 4) (pda_cons pd_non (pda_cons (pd_name 4) (pda_cons (pd_name 5) pda_nil))))) pda_nil))) (pda_cons (pd_tup (pda_cons (pd_name 1) (pda_cons (pd_tup (pda_cons (pd_name 4) (pda_cons (pd_name 5) (pda_cons pd_non pda_nil)))) pda_nil))) pda_nil)))))) sc.nd)
    (dss_cons (ds_if (pdt_not (pdt_val (pd_callB (cd_all rfl) T.n_all (by decide +kernel) (pda_cons (pn_pd (pn_lcH 3 [("_law_thing", 7), ("_law_some", 8)] sc.nd (blkOk_by (own := [("_law_thing", 7), ("_law_some", 8)]) (by kernel_rfl)) (fun _ _ _ _ _ => (gn_tup (gns_cons (gn_name 7 sc.nd) (gns_cons (gn_name 8 sc.nd) gns_nil)))) (fun _ _ _ _ _ => dts_nil) (fun _ _ _ _ _ => (pd_call ((ok__law_pair_right T).mono (by decide)) runF_len hgd hr T.g__law_pair_right T.D__law_pair_right.kp (b__law_pair_right T) (pda_cons (pd_name 7) (pda_cons (pd_name 8) pda_nil)))))) pda_nil)))) (dss_one (ds_ret pd_bl)) dss_nil)
    (dss_one (ds_ret (pd_callB (cd_all rfl) T.n_all (by decide +kernel) (pda_cons (pn_pd (pn_lc [("_law_k", 6)] sc.nd (di_range1 T.n_range (pda_cons (pd_callB (cd_max rfl) T.n_max (by decide +kernel) (pda_cons pd_int (pda_cons (pd_callB (cd_min rfl) T.n_min (by decide +kernel) (pda_cons (pd_lenN 0 T.n_len) (pda_cons pd_int pda_nil))) pda_nil))) pda_nil)) (blkOk_by (own := [("_law_k", 6)]) (by kernel_rfl)) (fun _ _ _ _ _ => (gn_name 6 sc.nd)) (fun _ _ _ _ _ => dts_nil) (fun _ _ _ _ _ => (pd_callRT ((ok__law_right T).mono (by decide)) runR_len hgd hr T.g__law_right T.D__law_right.kp (b__law_right T) (pn_call ((ok__law_pool T).mono (by decide)) runN_len hgd hr T.g__law_pool T.D__law_pool.kp (b__law_pool T) (pda_cons (pd_call ((ok__law_cell T).mono (by decide)) runF_len hgd hr T.g__law_cell T.D__law_cell.kp (b__law_cell T) (pda_cons (pd_name 0) (pda_cons (pd_name 6) pda_nil))) pda_nil)))))) pda_nil))))))))))
theorem ok_law (T : Tx Lab.T K mg base w) : FnG P w K mg base 13 (T.A 36) (T.FD 36) ["_law_script"] (spF K 1 m_law) :=
  fn_F T.D_law sc_law rfl rfl (bd_law T)
end
end DL
end L2


set_option Elab.async false
set_option maxRecDepth 100000
set_option maxHeartbeats 4000000
set_option autoImplicit false
namespace L2
namespace DL
open PySem PySem.Spec PyProof.Rows
local instance labNone_K05P : Lab := { w := none, T := [], gd := True }
def PoolOk (es : List PyData) : Prop := ∃ a b n : Int, es = [.int a, .int b, .int n] ∧ 0 ≤ a ∧ a < 2147483249 ∧ 0 ≤ b
theorem draw_spec {es : List PyData} (h : PoolOk es) {m : Int} (h0 : 0 < m) (h1 : m < 10000000000000000000000000000000000000000) : ∃ r es', m__law_draw es [.int m] = some (.int r, es') ∧ PoolOk es' ∧ 0 ≤ r ∧ r < m := by
  obtain ⟨a, b, n, rfl, ha, ha', hb⟩ := h
  have c1 : a.natAbs < 18446744073709551616 := by omega
  have hM : (0 : Int) < 2147483249 := by decide
  have e1 := Int.emod_nonneg ((a * (a % 50021 + 30011) + 80021 * (n + 1))) (show (2147483249 : Int) ≠ 0 by decide)
  have e2 := Int.emod_lt_of_pos ((a * (a % 50021 + 30011) + 80021 * (n + 1))) hM
  by_cases hpos : 0 < b
  · refine ⟨b % m, [.int ((a * (a % 50021 + 30011) + 80021 * (n + 1)) % 2147483249), .int (b / m), .int (n + 1)], ?_, ⟨_, _, _, rfl, e1, e2, Int.ediv_nonneg hb (by omega)⟩, Int.emod_nonneg _ (by omega), Int.emod_lt_of_pos _ h0⟩
    simp [m__law_draw, runR, mb__law_draw, sSeq, sAsg, sSet, sIf, sRet, sNil, fBin, fIxN, fC, fTst, fCB, fCons, fNil, rdB, rdF, rdO, wrO, gSubD, gSet, gTupD, gsCons, gsNil, addD, modD, mulD, gtD, divmodB, intD, ixD, atI, ixN, startE, rf0, truthD, c1, hpos, h0, h1]
  · have hb0 : b = 0 := by omega
    subst hb0
    refine ⟨(a * (a % 50021 + 30011) + 80021 * (n + 1)) % 2147483249 / 64 % m, [.int ((a * (a % 50021 + 30011) + 80021 * (n + 1)) % 2147483249), .int 0, .int (n + 1)], ?_, ⟨_, _, _, rfl, e1, e2, by omega⟩, Int.emod_nonneg _ (by omega), Int.emod_lt_of_pos _ h0⟩
    simp [m__law_draw, runR, mb__law_draw, sSeq, sAsg, sSet, sIf, sRet, sNil, fBin, fIxN, fC, fTst, fCB, fCons, fNil, rdB, rdF, rdO, wrO, gSubD, gSet, gTupD, gsCons, gsNil, addD, modD, mulD, fdivD, gtD, divmodB, intD, ixD, atI, ixN, startE, rf0, truthD, c1, h0, h1]
theorem pool_spec (c : Int) : ∃ es, m__law_pool [.int c] = some es ∧ PoolOk es := by
  have hM : (0 : Int) < 2147483249 := by decide
  have e1 := Int.emod_nonneg c (show (2147483249 : Int) ≠ 0 by decide)
  have e2 := Int.emod_lt_of_pos c hM
  by_cases h1 : c < 0
  · refine ⟨[.int (c % 2147483249), .int (-c), .int 0], ?_, _, _, _, rfl, e1, e2, by omega⟩
    simp [m__law_pool, runN, mb__law_pool, sSeq, sSet, sRetN, fIf, fOr, fBin, fC, fTst, fCB, fCons, fNil, fLst, rdF, modD, powD, ltD, geD, absD, intD, startE, truthD, h1, lim]
  · by_cases h2 : (1000000000000000000 : Int) ≤ c
    · refine ⟨[.int (c % 2147483249), .int c, .int 0], ?_, _, _, _, rfl, e1, e2, by omega⟩
      simp [m__law_pool, runN, mb__law_pool, sSeq, sSet, sRetN, fIf, fOr, fBin, fC, fTst, fCB, fCons, fNil, fLst, rdF, modD, powD, ltD, geD, absD, intD, startE, truthD, h1, h2, lim]
    · refine ⟨[.int (c % 2147483249), .int 0, .int 0], ?_, _, _, _, rfl, e1, e2, by omega⟩
      simp [m__law_pool, runN, mb__law_pool, sSeq, sSet, sRetN, fIf, fOr, fBin, fC, fTst, fCB, fCons, fNil, fLst, rdF, modD, powD, ltD, geD, absD, intD, startE, truthD, h1, h2, lim]
theorem cell_loop (a b : Option DV) : ∀ (xs : List Int) (s : Int) (z : Option DV), ∃ s' z', forD (gSet 3) (sSet 2 (fBin modD (fBin addD (fBin mulD (rdF 2) (fC (.int 41221))) (rdF 3)) (fC (.int 2147483249)))) (xs.map .int) [a, b, some (.fr (.int s)), z] = some (.nx [a, b, some (.fr (.int s')), z'])
  | [], s, z => ⟨s, z, rfl⟩
  | x :: xs, s, z => by
    obtain ⟨s', z', h⟩ := cell_loop a b xs ((s * 41221 + x) % 2147483249) (some (.fr (.int x)))
    refine ⟨s', z', ?_⟩
    rw [List.map_cons, forD]
    simp [gSet, sSet, fBin, rdF, fC, modD, addD, mulD, intD]
    exact h
theorem map_drop_take (ns : List Int) (i k : Nat) : ((ns.map PyData.int).drop i).take k = ((ns.drop i).take k).map PyData.int := by
  rw [List.map_take, List.map_drop]
theorem cell_spec (ns : List Int) {k : Int} (h0 : 0 ≤ k) (h1 : k ≤ 1000) : ∃ c, m__law_cell [.list (ns.map .int), .int k] = some (.int c) := by
  by_cases hk : k < (ns.length : Int)
  · refine ⟨ns.getD k.toNat 0, ?_⟩
    have hk2 : k.toNat < ns.length := by omega
    simp [m__law_cell, runF, mb__law_cell, sSeq, sIf, sRet, fTst, fBin, rdF, rdB, fLenN, lenD, ltD, intD, truthD, startE, hk, fIxN, ixD, atI, ixN, h0, hk2]
  · have c1 : k.natAbs < 18446744073709551616 := by omega
    obtain ⟨s', z', h⟩ := cell_loop (some (.fr (.list (ns.map .int)))) (some (.fr (.int k))) ((ns.drop 0).take (HT.sIx ns.length ns.length (some 3) - 0)) (60013 * (k * k + 5 * k + 3) % 2147483249) none
    refine ⟨s', ?_⟩
    rw [← map_drop_take] at h
    simp [m__law_cell, runF, mb__law_cell, sSeq, sIf, sRet, sNil, sSet, sFor, iSeq, fSl, slD, cutD, seqD, oNone, oSome, fTst, fBin, rdF, rdB, fLenN, lenD, ltD, mulD, addD, modD, fC, intD, truthD, startE, hk, c1]
    simp [HT.sIx] at h ⊢
    rw [h]
    rfl
theorem pop_perm {α : Type} : ∀ (l : List α) (j : Nat) (x : α), l[j]? = some x → (x :: l.eraseIdx j).Perm l
  | [], _, _, h => by simp at h
  | a :: l, 0, x, h => by
    have : a = x := by simpa using h
    subst this
    exact List.Perm.refl _
  | a :: l, j + 1, x, h => (List.Perm.swap a x _).trans (List.Perm.cons a (pop_perm l j x (by simpa using h)))
theorem map_erase {α β : Type} (f : α → β) : ∀ (l : List α) (j : Nat), (l.map f).eraseIdx j = (l.eraseIdx j).map f
  | [], _ => rfl
  | _ :: _, 0 => rfl
  | a :: l, j + 1 => by
    show f a :: (l.map f).eraseIdx j = f a :: (l.eraseIdx j).map f
    rw [map_erase f l j]
/-- i keys found, the columns left -/
def KInv (n : Nat) (i : Nat) (kd' fr : List PyData) : Prop := ∃ (ks : List Ky) (fs : List Int), kd' = ks.map kd ∧ fr = fs.map .int ∧ ks.length = i ∧ fs.length + i = n ∧ (ks.map (·.1) ++ fs).Nodup ∧ (∀ c ∈ ks.map (·.1) ++ fs, 0 ≤ c ∧ c < (n : Int)) ∧ ∀ k ∈ ks, k.2 ∈ dirsD
theorem KInv.step {n i : Nat} {kk fr : List PyData} (h : KInv n i kk fr) {j : Nat} {c : PyData} (hc : fr[j]? = some c) {s : Str} (hs : s ∈ dirsD) : KInv n (i + 1) (kk ++ [.tuple [c, .str s]]) (fr.eraseIdx j) := by
  obtain ⟨ks, fs, rfl, rfl, l1, l2, nd, rg, ds⟩ := h
  rw [List.getElem?_map] at hc
  obtain ⟨x, hx, rfl⟩ := mpd hc
  obtain ⟨hj, he⟩ := List.getElem?_eq_some_iff.mp hx
  have perm : (x :: fs.eraseIdx j).Perm fs := pop_perm fs j x hx
  have perm2 : ((ks ++ [(x, s)]).map (·.1) ++ fs.eraseIdx j).Perm (ks.map (·.1) ++ fs) := by
    rw [List.map_append, List.append_assoc]
    exact List.Perm.append_left _ perm
  refine ⟨ks ++ [(x, s)], fs.eraseIdx j, ?_, ?_, ?_, ?_, perm2.nodup_iff.mpr nd, fun c hc => rg c (perm2.mem_iff.mp hc), fun k hk => ?_⟩
  · rw [List.map_append]; rfl
  · rw [map_erase]
  · rw [List.length_append, l1]; rfl
  · rw [List.length_eraseIdx_of_lt hj]; omega
  · rcases List.mem_append.mp hk with h | h
    · exact ds k h
    · rw [List.mem_singleton] at h; rw [h]; exact hs
theorem KInv.len {n i : Nat} {kk fr : List PyData} (h : KInv n i kk fr) : kk.length = i ∧ fr.length + i = n := by
  obtain ⟨ks, fs, rfl, rfl, l1, l2, _⟩ := h
  rw [List.length_map, List.length_map]
  exact ⟨l1, l2⟩
theorem KInv.ok {n i : Nat} {kk fr : List PyData} (h : KInv n i kk fr) : ∃ ks : List Ky, kk = ks.map kd ∧ KOk n ks := by
  obtain ⟨ks, fs, rfl, rfl, l1, l2, nd, rg, ds⟩ := h
  refine ⟨ks, rfl, ⟨(List.nodup_append.mp nd).1, fun k hk => ?_⟩⟩
  obtain ⟨a, b⟩ := rg k.1 (List.mem_append_left _ (List.mem_map_of_mem hk))
  exact ⟨a, b, ds k hk⟩
theorem kinv0 (n : Nat) : KInv n 0 [] (rangeD 0 n) := by
  refine ⟨[], (List.range n).map fun i => (0 : Int) + (i : Nat), rfl, ?_, rfl, ?_, ?_, fun c hc => ?_, fun k hk => ?_⟩
  · unfold rangeD; rw [List.map_map]; rfl
  · rw [List.length_map, List.length_range]; omega
  · rw [List.map_nil, List.nil_append]
    refine List.Pairwise.map _ (fun a b hab h => hab ?_) List.nodup_range
    omega
  · rw [List.map_nil, List.nil_append] at hc
    obtain ⟨i, hi, rfl⟩ := List.mem_map.mp hc
    have := List.mem_range.mp hi
    omega
  · cases hk
theorem pick2 {r : Int} (h0 : 0 ≤ r) (h1 : r < 2) : ∃ s ∈ dirsD, ixD (.list [.str "up", .str "down"]) (.int r) = some (.str s) := by
  have : r = 0 ∨ r = 1 := by omega
  rcases this with rfl | rfl
  · exact ⟨"up", by simp [dirsD], rfl⟩
  · exact ⟨"down", by simp [dirsD], rfl⟩
abbrev ordBody := sApp 3 (fTup (fCons (fPop 2 (fCR 0 m__law_draw (fCons (fLenN 2) fNil))) (fCons (fBin ixD (fFrz (fLst (fCons (fC (.str "up")) (fCons (fC (.str "down")) fNil)))) (fCR 0 m__law_draw (fCons (fC (.int 2)) fNil))) fNil)))
theorem ord_turn {n i : Nat} {es ks fr : List PyData} {a z : Option DV} (hn : n ≤ 1000) (hi : i < n) (hp : PoolOk es) (hst : KInv n i ks fr) : ∃ es' ks' fr', ordBody [some (.rf es), a, some (.ow fr), some (.ow ks), z] = some (.nx [some (.rf es'), a, some (.ow fr'), some (.ow ks'), z]) ∧ PoolOk es' ∧ KInv n (i + 1) ks' fr' := by
  obtain ⟨l1, l2⟩ := hst.len
  obtain ⟨r1, es1, e1, p1, a1, b1⟩ := draw_spec hp (m := (fr.length : Int)) (by omega) (by omega)
  obtain ⟨r2, es2, e2, p2, a2, b2⟩ := draw_spec p1 (m := 2) (by omega) (by omega)
  obtain ⟨s, hs, e3⟩ := pick2 a2 b2
  have hj : r1.toNat < fr.length := by omega
  refine ⟨es2, ks ++ [.tuple [fr[r1.toNat], .str s]], fr.eraseIdx r1.toNat, ?_, p2, hst.step (List.getElem?_eq_getElem hj) hs⟩
  have hl : fr.length ≤ 100000 := by omega
  have hk : ks.length < 100000 := by omega
  have e4 : r1 < (fr.length : Int) := b1
  simp [ordBody, sApp, fTup, fCons, fNil, fPop, fCR, fLenN, fBin, fFrz, fLst, fC, rdO, rdB, wrO, lenD, e1, e2, e3, ixN, a1, e4, hj, hl, hk, lim]
theorem ord_loop {n : Nat} (hn : n ≤ 1000) {a : Option DV} : ∀ (xs : List PyData) (i : Nat) (es ks fr : List PyData) (z : Option DV), i + xs.length ≤ n → PoolOk es → KInv n i ks fr → ∃ es' ks' fr' z', forD (gSet 4) ordBody xs [some (.rf es), a, some (.ow fr), some (.ow ks), z] = some (.nx [some (.rf es'), a, some (.ow fr'), some (.ow ks'), z']) ∧ PoolOk es' ∧ KInv n (i + xs.length) ks' fr'
  | [], i, es, ks, fr, z, _, hp, hst => ⟨es, ks, fr, z, rfl, hp, hst⟩
  | x :: xs, i, es, ks, fr, z, hl, hp, hst => by
    rw [List.length_cons] at hl
    obtain ⟨es1, ks1, fr1, e1, p1, h1⟩ := ord_turn (a := a) (z := some (.fr x)) (i := i) hn (by omega) hp hst
    obtain ⟨es2, ks2, fr2, z2, e2, p2, h2⟩ := ord_loop hn xs (i + 1) es1 ks1 fr1 (some (.fr x)) (by omega) p1 h1
    refine ⟨es2, ks2, fr2, z2, ?_, p2, ?_⟩
    · rw [forD]
      show (ordBody [some (.rf es), a, some (.ow fr), some (.ow ks), some (.fr x)]).bind _ = _
      rw [e1]
      exact e2
    · rw [List.length_cons, show i + (xs.length + 1) = i + 1 + xs.length by omega]
      exact h2
theorem order_spec {n : Nat} (hn : n ≤ 1000) {es : List PyData} (hp : PoolOk es) : ∃ ks s es', m__law_order es [.int n] = some (ordD ks s, es') ∧ PoolOk es' ∧ KOk n ks ∧ s ∈ dirsD ∧ ks.length ≤ n := by
  obtain ⟨d, es1, e1, p1, a1, b1⟩ := draw_spec hp (m := (n : Int) + 1) (by omega) (by omega)
  obtain ⟨es2, kk, fr, z, e2, p2, h2⟩ := ord_loop hn (a := some (.fr (.int n))) (rangeD 0 d.toNat) 0 es1 [] (rangeD 0 n) none (by rw [rangeD_len]; omega) p1 (kinv0 n)
  rw [rangeD_len, Nat.zero_add] at h2
  obtain ⟨l1, l2⟩ := h2.len
  obtain ⟨ks, rfl, hk⟩ := h2.ok
  obtain ⟨r, es3, e3, p3, a3, b3⟩ := draw_spec p2 (m := 2) (by omega) (by omega)
  obtain ⟨s, hs, e4⟩ := pick2 a3 b3
  rw [List.length_map] at l1
  refine ⟨ks, s, es3, ?_, p3, hk, hs, by omega⟩
  have hk : ks.length + 1 ≤ 100000 := by omega
  have hd : d ≤ 1000000 ∧ -1000000 ≤ d := by omega
  have hn2 : (n : Int) ≤ 100000 ∧ -100000 ≤ (n : Int) := by omega
  simp [m__law_order, runR, mb__law_order, sSeq, sParN, nListRg, rdF, fLst, fNil, startE, lim, sFor, iArg, fCons, fCR, rdO, wrO, fBin, addD, fC, e1, rng1, hd, hn2]
  rw [e2]
  simp [sRet, fBin, fCB, fCons, fNil, rdF, tupleD, fTup, fC, fFrz, fLst, fCR, rdO, wrO, e3, e4, addD, rf0, lim, hk, ordD, plD]
end DL
end L2


set_option Elab.async false
set_option maxRecDepth 100000
set_option maxHeartbeats 4000000
set_option autoImplicit false
namespace L2
namespace DL
open PySem PySem.Spec PyProof.Rows
local instance labNone_K05C : Lab := { w := none, T := [], gd := True }
/-! ### orders told -/
theorem cl_all : ∀ ds : List PyData, PyData.canLayAll ds = true ↔ ∀ d ∈ ds, d.canLay = true
  | [] => ⟨fun _ _ h => (nomatch h), fun _ => rfl⟩
  | d :: ds => by
    rw [PyData.canLayAll, Bool.and_eq_true, cl_all ds]
    exact ⟨fun h x hx => (List.mem_cons.mp hx).elim (fun z => z ▸ h.1) (fun z => h.2 x z), fun h => ⟨h d List.mem_cons_self, fun x hx => h x (List.mem_cons_of_mem _ hx)⟩⟩
theorem cl_tup {ds : List PyData} : (PyData.tuple ds).canLay = true ↔ ∀ d ∈ ds, d.canLay = true := by rw [PyData.canLay, cl_all]
def isDir : PyData → Bool
  | .str s => decide (s = "up") || decide (s = "down")
  | _ => false
def isPlw : PyData → Bool
  | .str s => decide (s = "place")
  | _ => false
def isCol : PyData → Bool
  | .int c => decide (0 ≤ c) && decide (c < 4)
  | _ => false
def isKey : PyData → Bool
  | .tuple [a, b] => isCol a && isDir b
  | _ => false
def isPl : PyData → Bool
  | .tuple [a, b] => isPlw a && isDir b
  | _ => false
theorem sh_strs (ws : List Str) (h : ∀ s ∈ ws, PyData.strOk s = true) : shD (.tuple (ws.map .str)) = true := by
  refine (Ly.tuple (k := 0) fun d hd => ?_).sh (by decide)
  obtain ⟨s, hs, rfl⟩ := List.mem_map.mp hd
  exact ⟨h s hs, rfl, Nat.le_refl _⟩
theorem any_strs (s : Str) : ∀ ws : List Str, ((ws.map PyData.str).any fun z => PyData.eqv z (.str s)) = decide (s ∈ ws)
  | [] => rfl
  | x :: ws => by
    rw [List.map_cons, List.any_cons, any_strs s ws]
    show ((x == s) || decide (s ∈ ws)) = _
    by_cases h : x = s
    · subst h; simp
    · have hb : (x == s) = false := by simpa using h
      rw [hb, Bool.false_or, decide_eq_decide, List.mem_cons]
      exact ⟨.inr, fun z => z.elim (fun w => absurd w.symm h) id⟩
theorem in_strs {s : Str} {ws : List Str} (hs : PyData.strOk s = true) (h : ∀ s ∈ ws, PyData.strOk s = true) : inB (.str s) (.tuple (ws.map .str)) = some (decide (s ∈ ws)) := by
  have s1 : shD (.str s) = true := Ly.sh (k := 0) ⟨hs, rfl, Nat.le_refl _⟩ (by decide)
  show (if shD (.str s) && shD (.tuple (ws.map .str)) then some ((ws.map PyData.str).any fun z => PyData.eqv z (.str s)) else none) = _
  rw [s1, sh_strs ws h, any_strs]
  rfl
def inWs (ws : List Str) : PyData → Bool
  | .str s => decide (s ∈ ws)
  | _ => false
theorem is_word_spec {d : PyData} {ws : List Str} (hd : d.canLay = true) (h : ∀ s ∈ ws, PyData.strOk s = true) : m_is_word [d, .tuple (ws.map .str)] = some (.bool (inWs ws d)) := by
  cases d with
  | str s =>
    have e := in_strs (s := s) hd h
    simp [m_is_word, runF, mb_is_word, startE, sRet, fAndV, fIsi, isiT, tyN, rdF, fCmpN, rdB, inD, e, inWs]
  | _ => rfl
theorem dirs_ok : ∀ s ∈ (["down", "up"] : List Str), PyData.strOk s = true := by decide +kernel
theorem plc_ok : ∀ s ∈ (["place"] : List Str), PyData.strOk s = true := by decide +kernel
theorem word_dir {d : PyData} (hd : d.canLay = true) : m_is_word [d, cv_DIRECTIONS] = some (.bool (isDir d)) := by
  rw [show cv_DIRECTIONS = .tuple ((["down", "up"] : List Str).map .str) from rfl, is_word_spec hd dirs_ok]
  cases d with
  | str s =>
    show some (PyData.bool (decide (s ∈ (["down", "up"] : List Str)))) = some (PyData.bool (decide (s = "up") || decide (s = "down")))
    by_cases h1 : s = "up" <;> by_cases h2 : s = "down" <;> simp [h1, h2]
  | _ => rfl
theorem word_plc {d : PyData} (hd : d.canLay = true) : m_is_word [d, .tuple [.str "place"]] = some (.bool (isPlw d)) := by
  rw [show PyData.tuple [.str "place"] = .tuple ((["place"] : List Str).map .str) from rfl, is_word_spec hd plc_ok]
  cases d with
  | str s => simp [inWs, isPlw]
  | _ => rfl
theorem is_integer_spec (d : PyData) : m_is_integer [d] = some (.bool (match d with | .int _ => true | _ => false)) := by cases d <;> rfl
theorem is_col_spec (d : PyData) : m_is_sort_column [d] = some (.bool (isCol d)) := by
  cases d with
  | int c =>
    have e := is_integer_spec (.int c)
    by_cases h0 : 0 ≤ c <;> by_cases h1 : c < 4 <;> simp [m_is_sort_column, runF, mb_is_sort_column, startE, sRet, fAndV, fCB, fCons, rdF, fNil, e, fChain, fC, leD, ltD, intD, cv_MOST_KEYS, isCol, h0, h1]
  | _ => rfl
def pairB : PyData → Bool
  | .tuple ds => decide (ds.length = 2)
  | _ => false
theorem is_pair_spec (d : PyData) : m_is_pair [d] = some (.bool (pairB d)) := by
  cases d with
  | tuple ds =>
    have hc : ((ds.length : Int) = 2) ↔ ds.length = 2 := by omega
    simp [m_is_pair, runF, mb_is_pair, startE, sRet, fAndV, fIsi, isiT, tyN, rdF, fBin, fLenN, rdB, lenD, fC, eqD, eqB, pairB, hc]
  | _ => rfl
theorem pair_of {d : PyData} (h : pairB d = true) : ∃ a b, d = .tuple [a, b] := by
  match d, h with
  | .tuple [a, b], _ => exact ⟨a, b, rfl⟩
theorem is_key_spec {d : PyData} (hd : d.canLay = true) : m_is_key [d] = some (.bool (isKey d)) := by
  have e := is_pair_spec d
  cases hp : pairB d with
  | false =>
    rw [hp] at e
    have hk : isKey d = false := by
      match d, hp with
      | .tuple [_, _], h => cases h
      | .tuple [], _ => rfl
      | .tuple [_], _ => rfl
      | .tuple (_ :: _ :: _ :: _), _ => rfl
      | .none, _ => rfl
      | .bool _, _ => rfl
      | .int _, _ => rfl
      | .str _, _ => rfl
      | .list _, _ => rfl
      | .dict _, _ => rfl
    rw [hk]
    simp [m_is_key, runF, mb_is_key, startE, sRet, fAndV, fCB, fCons, rdF, fNil, e]
  | true =>
    obtain ⟨a, b, rfl⟩ := pair_of hp
    have hc := cl_tup.mp hd
    have e1 := is_col_spec a
    have e2 := word_dir (hc b (by simp))
    rw [hp] at e
    cases ha : isCol a <;> rw [ha] at e1 <;> simp [m_is_key, runF, mb_is_key, startE, sRet, fAndV, fCB, fCons, rdF, fNil, e, fIxN, rdB, fC, ixD, atI, ixN, e1, e2, isKey, ha]
theorem is_place_spec {d : PyData} (hd : d.canLay = true) : m_is_place_part [d] = some (.bool (isPl d)) := by
  have e := is_pair_spec d
  cases hp : pairB d with
  | false =>
    rw [hp] at e
    have hk : isPl d = false := by
      match d, hp with
      | .tuple [_, _], h => cases h
      | .tuple [], _ => rfl
      | .tuple [_], _ => rfl
      | .tuple (_ :: _ :: _ :: _), _ => rfl
      | .none, _ => rfl
      | .bool _, _ => rfl
      | .int _, _ => rfl
      | .str _, _ => rfl
      | .list _, _ => rfl
      | .dict _, _ => rfl
    rw [hk]
    simp [m_is_place_part, runF, mb_is_place_part, startE, sRet, fAndV, fCB, fCons, rdF, fNil, e]
  | true =>
    obtain ⟨a, b, rfl⟩ := pair_of hp
    have hc := cl_tup.mp hd
    have e1 := word_plc (hc a (by simp))
    have e2 := word_dir (hc b (by simp))
    rw [hp] at e
    cases ha : isPlw a <;> rw [ha] at e1 <;> simp [m_is_place_part, runF, mb_is_place_part, startE, sRet, fAndV, fCB, fCons, rdF, fNil, e, fIxN, rdB, fC, ixD, atI, ixN, fTup, lim, e1, e2, isPl, ha]
def colOf : PyData → Int
  | .tuple (.int c :: _) => c
  | _ => 0
def keyOk (seen : List Int) (d : PyData) : Bool := isKey d && !decide (colOf d ∈ seen)
def keysBad (seen : List Int) : List PyData → Nat → Option Nat
  | [], _ => none
  | d :: ds, i => if keyOk seen d then keysBad (seen ++ [colOf d]) ds (i + 1) else some i
def ordBad : PyData → Option PyData
  | .tuple ds => match ds.getLast? with
    | none => some .none
    | some l => match keysBad [] ds.dropLast 0 with
      | some j => some (.int (j : Nat))
      | none => if isPl l then none else some (.int ((ds.length : Int) - 1))
  | _ => some .none
theorem any_ints (c : Int) : ∀ cs : List Int, ((cs.map PyData.int).any fun z => PyData.eqv z (.int c)) = decide (c ∈ cs)
  | [] => rfl
  | x :: cs => by
    rw [List.map_cons, List.any_cons, any_ints c cs]
    show (decide (x = c) || decide (c ∈ cs)) = _
    by_cases h : x = c
    · subst h; simp
    · rw [decide_eq_false h, Bool.false_or]
      simp only [List.mem_cons]
      rw [decide_eq_decide]
      exact ⟨.inr, fun z => z.elim (fun w => absurd w.symm h) id⟩
theorem in_ints (c : Int) (cs : List Int) : inB (.int c) (.list (cs.map .int)) = some (decide (c ∈ cs)) := by
  show (if shD (.int c) && shD (.list (cs.map .int)) then some ((cs.map PyData.int).any fun z => PyData.eqv z (.int c)) else none) = _
  rw [(ly_int c).sh (by decide), (Ly.list (ly_ints cs)).sh (by decide), any_ints]
  rfl
theorem key_of {d : PyData} (h : isKey d = true) : ∃ c b, d = .tuple [.int c, b] ∧ 0 ≤ c ∧ c < 4 ∧ isDir b = true := by
  cases d with
  | tuple ds =>
    match ds, h with
    | [a, b], h =>
      cases a with
      | int c =>
        simp only [isKey, isCol, Bool.and_eq_true, decide_eq_true_eq] at h
        exact ⟨c, b, rfl, h.1.1, h.1.2, h.2⟩
      | _ => cases h
    | [], h => cases h
    | [_], h => cases h
    | _ :: _ :: _ :: _, h => cases h
  | _ => cases h
abbrev okIf := sIf (fOr (fNot (fTst (fCB m_is_key (fCons (rdF 3) fNil)))) (fTst (fCmpN inD (fIxN 3 (fC (.int 0))) 1))) (sRaise "InvalidOrder" "index" (rdF 2)) sNil
abbrev okBody := sSeq okIf (sApp 1 (fIxN 3 (fC (.int 0))))
abbrev enG := gTupD 2 (gsCons (gSet 2) (gsCons (gSet 3) gsNil))
theorem key_good {o : Option DV} {seen : List Int} {i d : PyData} (hd : d.canLay = true) (hl : seen.length < 1000) (h : keyOk seen d = true) : okBody [o, some (.ow (seen.map .int)), some (.fr i), some (.fr d)] = some (.nx [o, some (.ow ((seen ++ [colOf d]).map .int)), some (.fr i), some (.fr d)]) := by
  rw [keyOk, Bool.and_eq_true] at h
  obtain ⟨c, b, rfl, h0, h1, hb⟩ := key_of h.1
  have e1 := is_key_spec hd
  rw [h.1] at e1
  have e2 := in_ints c seen
  have hn : c ∉ seen := fun z => by
    have h2 := h.2
    rw [show decide (colOf (.tuple [.int c, b]) ∈ seen) = true from decide_eq_true z] at h2
    cases h2
  rw [decide_eq_false hn] at e2
  have hl' : seen.length < 100000 := by omega
  simp [okBody, okIf, sSeq, sIf, fOr, fNot, fTst, fCB, fCons, fNil, rdF, e1, truthD, fCmpN, fIxN, fC, rdB, ixD, atI, ixN, inD, e2, sNil, sApp, rdO, wrO, lim, hl', colOf]
theorem key_bad {o : Option DV} {seen : List Int} {i d : PyData} (hd : d.canLay = true) (h : keyOk seen d = false) : okBody [o, some (.ow (seen.map .int)), some (.fr i), some (.fr d)] = some (.ex "InvalidOrder" "index" i [o, some (.ow (seen.map .int)), some (.fr i), some (.fr d)]) := by
  have e1 := is_key_spec hd
  cases hk : isKey d with
  | false =>
    rw [hk] at e1
    simp [okBody, okIf, sSeq, sIf, fOr, fNot, fTst, fCB, fCons, fNil, rdF, e1, truthD, sRaise]
  | true =>
    obtain ⟨c, b, rfl, h0, h1, hb⟩ := key_of hk
    rw [hk] at e1
    have hn : c ∈ seen := Classical.byContradiction fun z => by
      rw [keyOk, hk, show decide (colOf (.tuple [.int c, b]) ∈ seen) = false from decide_eq_false z] at h
      cases h
    have e2 := in_ints c seen
    rw [decide_eq_true hn] at e2
    simp [okBody, okIf, sSeq, sIf, fOr, fNot, fTst, fCB, fCons, fNil, rdF, e1, truthD, sRaise, fCmpN, fIxN, fC, rdB, ixD, atI, ixN, inD, e2]
theorem keys_loop (o : Option DV) : ∀ (ds : List PyData) (k : Nat) (seen : List Int) (z1 z2 : Option DV), (∀ d ∈ ds, d.canLay = true) → seen.length + ds.length ≤ 1000 →
    ∃ s' z1' z2', forD enG okBody ((rangeD k ds.length).zipWith (fun a b => .tuple [a, b]) ds) [o, some (.ow (seen.map .int)), z1, z2] =
      some (match keysBad seen ds k with
        | none => .nx [o, s', z1', z2']
        | some j => .ex "InvalidOrder" "index" (.int (j : Nat)) [o, s', z1', z2'])
  | [], k, seen, z1, z2, _, _ => ⟨_, z1, z2, rfl⟩
  | d :: ds, k, seen, z1, z2, hd, hl => by
    rw [List.length_cons, rangeD_succ, List.zipWith_cons_cons, keysBad]
    rw [List.length_cons] at hl
    cases h : keyOk seen d with
    | true =>
      obtain ⟨s, a, b, e⟩ := keys_loop o ds (k + 1) (seen ++ [colOf d]) (some (.fr (.int k))) (some (.fr d)) (fun x hx => hd x (List.mem_cons_of_mem _ hx)) (by rw [List.length_append]; show seen.length + 1 + _ ≤ _; omega)
      exact ⟨s, a, b, ev_forN rfl (key_good (hd d List.mem_cons_self) (by omega) h) e⟩
    | false => exact ⟨_, _, _, ev_forX rfl (key_bad (hd d List.mem_cons_self) h)⟩
def ordX (d : PyData) : XR := match ordBad d with
  | none => .ok .none
  | some x => .ex "InvalidOrder" "index" x
theorem cut_init (ds : List PyData) : cutD ds none (some (-1)) = ds.dropLast := by
  unfold cutD
  rw [List.dropLast_eq_take]
  simp [HT.sIx]
  congr 1
  omega
theorem at_last {ds : List PyData} {l : PyData} (h : ds.getLast? = some l) : atI ds (-1) = some l := by
  have hne : ds ≠ [] := fun z => by rw [z] at h; cases h
  obtain ⟨xs, rfl⟩ : ∃ xs, ds = xs ++ [l] := ⟨ds.dropLast, by rw [List.getLast?_eq_some_getLast hne] at h; cases h; exact (List.dropLast_concat_getLast hne).symm⟩
  exact atI_last _ _
theorem check_order_spec {d : PyData} (hd : d.canLay = true) (hl : ∀ ds, d = .tuple ds → ds.length ≤ 1000) : m_check_order [d] = some (ordX d) := by
  cases d with
  | tuple ds =>
    have hlen := hl ds rfl
    have hc := cl_tup.mp hd
    cases hg : ds.getLast? with
    | none =>
      have : ds = [] := List.getLast?_eq_none_iff.mp hg
      subst this
      rfl
    | some l =>
      have hne : ds ≠ [] := fun z => by rw [z] at hg; cases hg
      have hn : ¬ ((ds.length : Int) = 0) := by
        intro z
        apply hne
        cases ds with
        | nil => rfl
        | cons _ _ => rw [List.length_cons] at z; omega
      have hml : l ∈ ds := List.mem_of_getLast? hg
      have hinit : ∀ x ∈ ds.dropLast, x.canLay = true := fun x hx => hc x ((List.dropLast_sublist ds).mem hx)
      obtain ⟨s, z1, z2, e⟩ := keys_loop (some (.fr (.tuple ds))) ds.dropLast 0 [] none none hinit (by rw [List.length_dropLast]; show 0 + _ ≤ _; omega)
      have e1 : sIf (fOr (fNot (fTst (fIsi "tuple" (rdF 0)))) (fTst (fBin eqD (fLenN 0) (fC (.int 0))))) (sRaise "InvalidOrder" "index" (fC .none)) sNil [some (.fr (.tuple ds)), none, none, none] = some (.nx [some (.fr (.tuple ds)), none, none, none]) := by
        simp [sIf, sNil, fOr, fNot, fTst, fIsi, isiT, tyN, rdF, truthD, fBin, fC, fLenN, rdB, lenD, eqD, eqB, hne]
      have e2 := cut_init ds
      have e3 := at_last hg
      have e4 := is_place_spec (hc l hml)
      have hI : iArg enumTA (fCons (fSl (rdF 0) oNone (oSome (fNeg (fC (.int 1))))) fNil) [some (.fr (.tuple ds)), some (.ow []), none, none] = some ((rangeD 0 ds.dropLast.length).zipWith (fun a b => .tuple [a, b]) ds.dropLast, [some (.fr (.tuple ds)), some (.ow []), none, none]) := by
        simp [iArg, fCons, fSl, rdF, oNone, oSome, fNeg, fC, fNil, slD, e2, enumTA, enumD]
      unfold ordX ordBad
      dsimp only
      rw [hg]
      dsimp only
      cases hk : keysBad [] ds.dropLast 0 with
      | some j =>
        rw [hk] at e
        exact ev_runXX rfl (ev_seq e1 (ev_seq (e1 := [some (.fr (.tuple ds)), some (.ow []), none, none]) rfl (ev_seqX (ev_for hI e))))
      | none =>
        rw [hk] at e
        have t : fTst (fCB m_is_place_part (fCons (fIxN 0 (fNeg (fC (.int 1)))) fNil)) [some (.fr (.tuple ds)), s, z1, z2] = some (isPl l, [some (.fr (.tuple ds)), s, z1, z2]) := by
          simp [fTst, fCB, fCons, fIxN, rdB, fNeg, fC, fNil, ixD, e3, e4, truthD]
        cases hp : isPl l with
        | true =>
          rw [hp] at t
          exact ev_runX0 rfl (ev_seq e1 (ev_seq (e1 := [some (.fr (.tuple ds)), some (.ow []), none, none]) rfl (ev_seq (ev_for hI e) (ev_ifF (ev_not t) rfl))))
        | false =>
          rw [hp] at t
          exact ev_runXX rfl (ev_seq e1 (ev_seq (e1 := [some (.fr (.tuple ds)), some (.ow []), none, none]) rfl (ev_seq (ev_for hI e) (ev_ifT (ev_not t) rfl))))
  | _ => rfl
abbrev bRet := sRet (fFrz (fLst (fCons (rdF 2) fNil)))
abbrev bA := sIf (fOr (fNot (fTst (fIsi "tuple" (rdF 3)))) (fTst (fBin neD (fLenN 3) (fC (.int 2))))) bRet sNil
abbrev bB := sIf (fOr (fNot (fTst (fIsi "str" (fIxN 3 (fC (.int 1)))))) (fTst (fBin notInD (fIxN 3 (fC (.int 1))) (fTup (fCons (fC (.str "up")) (fCons (fC (.str "down")) fNil)))))) bRet sNil
abbrev bC := sIf (fTst (fBin eqD (rdF 2) (fBin subD (fLenN 0) (fC (.int 1))))) (sRet (fIf (fAnd (fTst (fIsi "str" (fIxN 3 (fC (.int 0))))) (fTst (fBin eqD (fIxN 3 (fC (.int 0))) (fC (.str "place"))))) (fFrz (fLst fNil)) (fFrz (fLst (fCons (rdF 2) fNil))))) sNil
abbrev bD := sIf (fOr (fNot (fTst (fIsi "int" (fIxN 3 (fC (.int 0)))))) (fTst (fIsi "bool" (fIxN 3 (fC (.int 0)))))) bRet sNil
abbrev bE := sIf (fOr (fNot (fTst (fChain leD ltD (fC (.int 0)) (fIxN 3 (fC (.int 0))) (fC (.int 4))))) (fTst (fCmpN inD (fIxN 3 (fC (.int 0))) 1))) bRet sNil
abbrev bAll := sSeq bA (sSeq bB (sSeq bC (sSeq bD (sSeq bE (sApp 1 (fIxN 3 (fC (.int 0))))))))
section
variable {ds : List PyData} {seen : List Int} {k : Int} {d a b : PyData}
theorem bA_bad (h : pairB d = false) : bA [some (DV.fr (PyData.tuple ds)), some (DV.ow (seen.map PyData.int)), some (DV.fr (PyData.int k)), some (DV.fr d)] = some (.rt (.list [.int k]) [some (DV.fr (PyData.tuple ds)), some (DV.ow (seen.map PyData.int)), some (DV.fr (PyData.int k)), some (DV.fr d)]) := by
  cases d with
  | tuple xs =>
    have hn : ¬ ((xs.length : Int) = 2) := by
      have : ¬ xs.length = 2 := of_decide_eq_false h
      omega
    simp [bA, sIf, fOr, fNot, fTst, fIsi, isiT, tyN, rdF, truthD, fBin, neD, eqB, fLenN, rdB, lenD, fC, hn, bRet, sRet, fFrz, fLst, fCons, fNil, lim]
  | _ => rfl
theorem bA_ok : bA [some (DV.fr (PyData.tuple ds)), some (DV.ow (seen.map PyData.int)), some (DV.fr (PyData.int k)), some (DV.fr (.tuple [a, b]))] = some (.nx [some (DV.fr (PyData.tuple ds)), some (DV.ow (seen.map PyData.int)), some (DV.fr (PyData.int k)), some (DV.fr (.tuple [a, b]))]) := rfl
theorem bB_bad (hb : b.canLay = true) (h : isDir b = false) : bB [some (DV.fr (PyData.tuple ds)), some (DV.ow (seen.map PyData.int)), some (DV.fr (PyData.int k)), some (DV.fr (.tuple [a, b]))] = some (.rt (.list [.int k]) [some (DV.fr (PyData.tuple ds)), some (DV.ow (seen.map PyData.int)), some (DV.fr (PyData.int k)), some (DV.fr (.tuple [a, b]))]) := by
  cases b with
  | str s =>
    have e := in_strs (s := s) (ws := ["up", "down"]) hb (by decide +kernel)
    have hn : ¬ s ∈ (["up", "down"] : List Str) := fun z => by
      simp [isDir] at h
      simp [h] at z
    rw [decide_eq_false hn] at e
    simp [bB, sIf, fOr, fNot, fTst, fIsi, isiT, tyN, fIxN, rdB, fC, ixD, atI, ixN, truthD, fBin, notInD, fTup, fCons, fNil, lim, bRet, sRet, fFrz, fLst, rdF] at e ⊢
    simp [e]
  | _ => rfl
theorem bB_ok (hb : b.canLay = true) (h : isDir b = true) : bB [some (DV.fr (PyData.tuple ds)), some (DV.ow (seen.map PyData.int)), some (DV.fr (PyData.int k)), some (DV.fr (.tuple [a, b]))] = some (.nx [some (DV.fr (PyData.tuple ds)), some (DV.ow (seen.map PyData.int)), some (DV.fr (PyData.int k)), some (DV.fr (.tuple [a, b]))]) := by
  cases b with
  | str s =>
    have e := in_strs (s := s) (ws := ["up", "down"]) hb (by decide +kernel)
    have hn : s ∈ (["up", "down"] : List Str) := by
      have : s = "up" ∨ s = "down" := by simpa [isDir] using h
      rcases this with rfl | rfl <;> simp
    rw [decide_eq_true hn] at e
    simp [bB, sIf, fOr, fNot, fTst, fIsi, isiT, tyN, fIxN, rdB, fC, ixD, atI, ixN, truthD, fBin, notInD, fTup, fCons, fNil, lim, sNil] at e ⊢
    simp [e]
  | _ => cases h
theorem bC_last (hk : k = (ds.length : Int) - 1) : bC [some (DV.fr (PyData.tuple ds)), some (DV.ow (seen.map PyData.int)), some (DV.fr (PyData.int k)), some (DV.fr (.tuple [a, b]))] = some (.rt (.list (if isPlw a then [] else [.int k])) [some (DV.fr (PyData.tuple ds)), some (DV.ow (seen.map PyData.int)), some (DV.fr (PyData.int k)), some (DV.fr (.tuple [a, b]))]) := by
  cases a with
  | str s =>
    by_cases hs : s = "place"
    · subst hs
      simp [bC, sIf, fTst, fBin, eqD, eqB, rdF, subD, intD, fLenN, rdB, lenD, fC, hk, truthD, sRet, fIf, fAnd, fIsi, isiT, tyN, fIxN, ixD, atI, ixN, fFrz, fLst, fCons, fNil, lim, isPlw]
    · simp [bC, sIf, fTst, fBin, eqD, eqB, rdF, subD, intD, fLenN, rdB, lenD, fC, hk, truthD, sRet, fIf, fAnd, fIsi, isiT, tyN, fIxN, ixD, atI, ixN, fFrz, fLst, fCons, fNil, lim, isPlw, hs]
  | _ => simp [bC, sIf, fTst, fBin, eqD, eqB, rdF, subD, intD, fLenN, rdB, lenD, fC, hk, truthD, sRet, fIf, fAnd, fIsi, isiT, tyN, fIxN, ixD, atI, ixN, fFrz, fLst, fCons, fNil, lim, isPlw]
theorem bC_ok (hk : k ≠ (ds.length : Int) - 1) : bC [some (DV.fr (PyData.tuple ds)), some (DV.ow (seen.map PyData.int)), some (DV.fr (PyData.int k)), some (DV.fr (.tuple [a, b]))] = some (.nx [some (DV.fr (PyData.tuple ds)), some (DV.ow (seen.map PyData.int)), some (DV.fr (PyData.int k)), some (DV.fr (.tuple [a, b]))]) := by
  simp [bC, sIf, fTst, fBin, eqD, eqB, rdF, subD, intD, fLenN, rdB, lenD, fC, hk, truthD, sNil]
theorem bD_bad (h : ∀ c, a ≠ .int c) : bD [some (DV.fr (PyData.tuple ds)), some (DV.ow (seen.map PyData.int)), some (DV.fr (PyData.int k)), some (DV.fr (.tuple [a, b]))] = some (.rt (.list [.int k]) [some (DV.fr (PyData.tuple ds)), some (DV.ow (seen.map PyData.int)), some (DV.fr (PyData.int k)), some (DV.fr (.tuple [a, b]))]) := by
  cases a with
  | int c => exact absurd rfl (h c)
  | _ => rfl
theorem bD_ok {c : Int} : bD [some (DV.fr (PyData.tuple ds)), some (DV.ow (seen.map PyData.int)), some (DV.fr (PyData.int k)), some (DV.fr (.tuple [.int c, b]))] = some (.nx [some (DV.fr (PyData.tuple ds)), some (DV.ow (seen.map PyData.int)), some (DV.fr (PyData.int k)), some (DV.fr (.tuple [.int c, b]))]) := rfl
theorem bE_ok {c : Int} (h0 : 0 ≤ c) (h1 : c < 4) (hs : c ∉ seen) : bE [some (DV.fr (PyData.tuple ds)), some (DV.ow (seen.map PyData.int)), some (DV.fr (PyData.int k)), some (DV.fr (.tuple [.int c, b]))] = some (.nx [some (DV.fr (PyData.tuple ds)), some (DV.ow (seen.map PyData.int)), some (DV.fr (PyData.int k)), some (DV.fr (.tuple [.int c, b]))]) := by
  have e2 := in_ints c seen
  rw [decide_eq_false hs] at e2
  simp [bE, sIf, fOr, fNot, fTst, fChain, leD, ltD, intD, fC, fIxN, rdB, ixD, atI, ixN, h0, h1, truthD, fCmpN, inD, e2, sNil]
theorem bE_bad {c : Int} (h : ¬ (0 ≤ c ∧ c < 4 ∧ c ∉ seen)) : bE [some (DV.fr (PyData.tuple ds)), some (DV.ow (seen.map PyData.int)), some (DV.fr (PyData.int k)), some (DV.fr (.tuple [.int c, b]))] = some (.rt (.list [.int k]) [some (DV.fr (PyData.tuple ds)), some (DV.ow (seen.map PyData.int)), some (DV.fr (PyData.int k)), some (DV.fr (.tuple [.int c, b]))]) := by
  by_cases h0 : 0 ≤ c
  · by_cases h1 : c < 4
    · have hs : c ∈ seen := Classical.byContradiction fun z => h ⟨h0, h1, z⟩
      have e2 := in_ints c seen
      rw [decide_eq_true hs] at e2
      simp [bE, sIf, fOr, fNot, fTst, fChain, leD, ltD, intD, fC, fIxN, rdB, ixD, atI, ixN, h0, h1, truthD, fCmpN, inD, e2, bRet, sRet, fFrz, fLst, fCons, rdF, fNil, lim]
    · simp [bE, sIf, fOr, fNot, fTst, fChain, leD, ltD, intD, fC, fIxN, rdB, ixD, atI, ixN, h0, h1, truthD, bRet, sRet, fFrz, fLst, fCons, rdF, fNil, lim]
  · simp [bE, sIf, fOr, fNot, fTst, fChain, leD, ltD, intD, fC, fIxN, rdB, ixD, atI, ixN, h0, truthD, bRet, sRet, fFrz, fLst, fCons, rdF, fNil, lim]
theorem notPair_key (h : pairB d = false) : isKey d = false ∧ isPl d = false := by
  cases d with
  | tuple xs =>
    match xs, h with
    | [_, _], h => cases h
    | [], _ => exact ⟨rfl, rfl⟩
    | [_], _ => exact ⟨rfl, rfl⟩
    | _ :: _ :: _ :: _, _ => exact ⟨rfl, rfl⟩
  | _ => exact ⟨rfl, rfl⟩
theorem all_last (hd : d.canLay = true) (hk : k = (ds.length : Int) - 1) : bAll [some (DV.fr (PyData.tuple ds)), some (DV.ow (seen.map PyData.int)), some (DV.fr (PyData.int k)), some (DV.fr d)] = some (.rt (.list (if isPl d then [] else [.int k])) [some (DV.fr (PyData.tuple ds)), some (DV.ow (seen.map PyData.int)), some (DV.fr (PyData.int k)), some (DV.fr d)]) := by
  cases hp : pairB d with
  | false =>
    rw [(notPair_key hp).2]
    exact ev_seqR (bA_bad hp)
  | true =>
    obtain ⟨a, b, rfl⟩ := pair_of hp
    have hb := cl_tup.mp hd b (by simp)
    show bAll _ = some (.rt (.list (if isPlw a && isDir b then [] else [.int k])) _)
    cases h : isDir b with
    | false =>
      rw [Bool.and_false]
      exact ev_seq bA_ok (ev_seqR (bB_bad hb h))
    | true =>
      rw [Bool.and_true]
      exact ev_seq bA_ok (ev_seq (bB_ok hb h) (ev_seqR (bC_last hk)))
theorem all_bad (hd : d.canLay = true) (hk : k ≠ (ds.length : Int) - 1) (h : keyOk seen d = false) : bAll [some (DV.fr (PyData.tuple ds)), some (DV.ow (seen.map PyData.int)), some (DV.fr (PyData.int k)), some (DV.fr d)] = some (.rt (.list [.int k]) [some (DV.fr (PyData.tuple ds)), some (DV.ow (seen.map PyData.int)), some (DV.fr (PyData.int k)), some (DV.fr d)]) := by
  cases hp : pairB d with
  | false => exact ev_seqR (bA_bad hp)
  | true =>
    obtain ⟨a, b, rfl⟩ := pair_of hp
    have hb := cl_tup.mp hd b (by simp)
    cases hdir : isDir b with
    | false => exact ev_seq bA_ok (ev_seqR (bB_bad hb hdir))
    | true =>
      refine ev_seq bA_ok (ev_seq (bB_ok hb hdir) (ev_seq (bC_ok hk) ?_))
      by_cases hi : ∃ c, a = .int c
      · obtain ⟨c, rfl⟩ := hi
        refine ev_seq bD_ok (ev_seqR (bE_bad fun z => ?_))
        obtain ⟨z0, z1, z2⟩ := z
        rw [keyOk, show decide (colOf (.tuple [.int c, b]) ∈ seen) = false from decide_eq_false z2] at h
        simp [isKey, isCol, z0, z1, hdir] at h
      · exact ev_seqR (bD_bad fun c z => hi ⟨c, z⟩)
theorem all_good (hd : d.canLay = true) (hk : k ≠ (ds.length : Int) - 1) (hl : seen.length < 1000) (h : keyOk seen d = true) : bAll [some (DV.fr (PyData.tuple ds)), some (DV.ow (seen.map PyData.int)), some (DV.fr (PyData.int k)), some (DV.fr d)] = some (.nx [some (DV.fr (PyData.tuple ds)), some (DV.ow ((seen ++ [colOf d]).map PyData.int)), some (DV.fr (PyData.int k)), some (DV.fr d)]) := by
  rw [keyOk, Bool.and_eq_true] at h
  obtain ⟨c, b, rfl, h0, h1, hdir⟩ := key_of h.1
  have hb := cl_tup.mp hd b (by simp)
  have hn : c ∉ seen := fun z => by
    have h2 := h.2
    rw [show decide (colOf (.tuple [.int c, b]) ∈ seen) = true from decide_eq_true z] at h2
    cases h2
  refine ev_seq bA_ok (ev_seq (bB_ok hb hdir) (ev_seq (bC_ok hk) (ev_seq bD_ok (ev_seq (bE_ok h0 h1 hn) ?_))))
  have hl' : seen.length < 100000 := by omega
  simp [sApp, rdO, wrO, fIxN, rdB, fC, ixD, atI, ixN, lim, hl', colOf]
end
theorem fault_loop (ds : List PyData) : ∀ (init : List PyData) (l : PyData) (k : Nat) (seen : List Int) (z1 z2 : Option DV), (∀ d ∈ init, d.canLay = true) → l.canLay = true → k + init.length + 1 = ds.length → seen.length + init.length ≤ 1000 →
    ∃ env, forD enG bAll ((rangeD k (init ++ [l]).length).zipWith (fun a b => .tuple [a, b]) (init ++ [l])) [some (.fr (.tuple ds)), some (.ow (seen.map .int)), z1, z2] =
      some (.rt (.list (match keysBad seen init k with
        | none => if isPl l then [] else [.int ((ds.length : Int) - 1)]
        | some j => [.int (j : Nat)])) env)
  | [], l, k, seen, z1, z2, _, hl, hk, _ => by
    have hk' : (k : Int) = (ds.length : Int) - 1 := by rw [List.length_nil] at hk; omega
    have e := all_last (seen := seen) hl hk'
    rw [List.nil_append, show [l].length = 0 + 1 from rfl, rangeD_succ, List.zipWith_cons_cons, keysBad]
    rw [← hk']
    exact ⟨_, ev_forE rfl e⟩
  | d :: init, l, k, seen, z1, z2, hd, hl, hk, hs => by
    rw [List.length_cons] at hk hs
    have hk' : (k : Int) ≠ (ds.length : Int) - 1 := by omega
    rw [List.cons_append, List.length_cons, rangeD_succ, List.zipWith_cons_cons, keysBad]
    cases h : keyOk seen d with
    | true =>
      obtain ⟨env, e⟩ := fault_loop ds init l (k + 1) (seen ++ [colOf d]) (some (.fr (.int k))) (some (.fr d)) (fun x hx => hd x (List.mem_cons_of_mem _ hx)) hl (by omega) (by rw [List.length_append]; show seen.length + 1 + _ ≤ _; omega)
      exact ⟨env, ev_forN rfl (all_good (hd d List.mem_cons_self) hk' (by omega) h) e⟩
    | false => exact ⟨_, ev_forE rfl (all_bad (hd d List.mem_cons_self) hk' h)⟩
def faultL : Option PyData → List PyData
  | none => []
  | some x => [x]
theorem order_fault_spec {d : PyData} (hd : d.canLay = true) (hl : ∀ ds, d = .tuple ds → ds.length ≤ 1000) : m__law_order_fault [d] = some (.list (faultL (ordBad d))) := by
  cases d with
  | tuple ds =>
    have hlen := hl ds rfl
    have hc := cl_tup.mp hd
    cases hg : ds.getLast? with
    | none =>
      have : ds = [] := List.getLast?_eq_none_iff.mp hg
      subst this
      rfl
    | some l =>
      have hne : ds ≠ [] := fun z => by rw [z] at hg; cases hg
      have hsplit : ds = ds.dropLast ++ [l] := by
        rw [List.getLast?_eq_some_getLast hne] at hg
        cases hg
        exact (List.dropLast_concat_getLast hne).symm
      have hml : l ∈ ds := List.mem_of_getLast? hg
      have hpos : 1 ≤ ds.length := by
        cases ds with
        | nil => exact absurd rfl hne
        | cons _ _ => rw [List.length_cons]; omega
      obtain ⟨env, e⟩ := fault_loop ds ds.dropLast l 0 [] none none (fun x hx => hc x ((List.dropLast_sublist ds).mem hx)) (hc l hml) (by rw [List.length_dropLast]; omega) (by rw [List.length_dropLast]; show 0 + _ ≤ _; omega)
      rw [← hsplit] at e
      have e1 : sIf (fOr (fNot (fTst (fIsi "tuple" (rdF 0)))) (fTst (fBin eqTE (rdF 0) (fTup fNil)))) (sRet (fFrz (fLst (fCons (fC .none) fNil)))) sNil [some (.fr (.tuple ds)), none, none, none] = some (.nx [some (.fr (.tuple ds)), none, none, none]) := by
        simp [sIf, sNil, fOr, fNot, fTst, fIsi, isiT, tyN, rdF, truthD, fBin, fTup, fNil, lim, eqTE, hne]
      refine (ev_runF rfl (ev_seq e1 (ev_seq (e1 := [some (.fr (.tuple ds)), some (.ow []), none, none]) rfl (ev_seqR (ev_for rfl e))))).trans ?_
      unfold ordBad
      dsimp only
      rw [hg]
      dsimp only
      cases keysBad [] ds.dropLast 0 with
      | none => cases isPl l <;> rfl
      | some j => rfl
  | _ => rfl
theorem cl_cut {ds : List PyData} (hc : ∀ x ∈ ds, x.canLay = true) (lo hi : Option Int) : ∀ x ∈ cutD ds lo hi, x.canLay = true := fun x hx => by
  unfold cutD at hx
  exact hc x (List.mem_of_mem_drop (List.mem_of_mem_take hx))
theorem cut_le (ds : List PyData) (lo hi : Option Int) : (cutD ds lo hi).length ≤ ds.length := by
  unfold cutD
  rw [List.length_take, List.length_drop]
  omega
/-- data of the drawn kind -/
structure Th (d : PyData) : Prop where
  cl : d.canLay = true
  ln : ∀ ds, d = .tuple ds → ds.length ≤ 100
theorem th_tup {ds : List PyData} (hc : ∀ x ∈ ds, x.canLay = true) (hl : ds.length ≤ 100) : Th (.tuple ds) := ⟨cl_tup.mpr hc, fun _ e => by cases e; exact hl⟩
theorem add_tup {a b : List PyData} (ha : a.length ≤ 10000) (hb : b.length ≤ 10000) : addD (.tuple a) (.tuple b) = some (.tuple (a ++ b)) := if_pos (show a.length + b.length ≤ 100000 by omega)
def oddsO : List PyData := [.none, .int 7, .str "up", .tuple [], .list [], .dict [], .tuple [.int 0, .str "up"], .tuple [.int 4, .str "up"], .tuple [.bool true, .str "up"], .tuple [.int (-1), .str "down"], .tuple [.int 0, .str "Up"], .tuple [.str "place", .str "up"], .tuple [.int 0, .str "up", .int 1], .list [.int 0, .str "up"], .tuple [.str "0", .str "up"], .tuple [.list [], .str "up"], .tuple [.int 1, .none], .tuple [.str "place", .str "left"], .tuple [.str "place"], .tuple [.int 3, .str "down"]]
theorem odds_cl : oddsO.all PyData.canLay = true := by decide +kernel
theorem atI_ex {ds : List PyData} {r : Int} (h0 : 0 ≤ r) (h1 : r < ds.length) : ∃ d, atI ds r = some d ∧ d ∈ ds := by
  have h2 : r.toNat < ds.length := by omega
  exact ⟨ds[r.toNat], by simp [atI, ixN, h0, h1, h2], List.getElem_mem h2⟩
def othersO (ds : List PyData) (d0 : PyData) : List PyData := [.none, .int 0, .bool true, .str "up", .tuple [], .list [], .dict [], .list ds, .tuple [.tuple ds], d0, .tuple [.tuple [.str "place", .str "up"], .tuple [.str "place", .str "up"]], .int 7]
theorem bent_spec {ds : List PyData} (hc : ∀ x ∈ ds, x.canLay = true) (hl1 : 1 ≤ ds.length) (hl2 : ds.length ≤ 10) (hd0 : ∀ d0 xs, d0 ∈ ds → d0 = .tuple xs → xs.length ≤ 100) {es : List PyData} (hp : PoolOk es) : ∃ d es', m__law_bent_order es [.tuple ds] = some (d, es') ∧ PoolOk es' ∧ Th d := by
  obtain ⟨r1, es1, e1, p1, a1, b1⟩ := draw_spec hp (m := (ds.length : Int)) (by omega) (by omega)
  obtain ⟨r2, es2, e2, p2, a2, b2⟩ := draw_spec p1 (m := 7) (by decide) (by decide)
  have cutl : ∀ lo hi, (cutD ds lo hi).length ≤ 10 := fun lo hi => Nat.le_trans (cut_le ds lo hi) hl2
  have odc : ∀ x ∈ oddsO, x.canLay = true := fun x hx => List.all_eq_true.mp odds_cl x hx
  have tst : ∀ (k : Int) (o a b c d : Option DV), fTst (fBin eqD (rdF 3) (fC (.int k))) [o, a, b, some (.fr (.int r2)), c, d, none] = some (decide (r2 = k), [o, a, b, some (.fr (.int r2)), c, d, none]) := fun _ _ _ _ _ _ => rfl
  have tF : ∀ {k : Int} {o a b c d : Option DV} {S : DEnv → Option DFlow}, r2 ≠ k → sIf (fTst (fBin eqD (rdF 3) (fC (.int k)))) S sNil [o, a, b, some (.fr (.int r2)), c, d, none] = some (.nx [o, a, b, some (.fr (.int r2)), c, d, none]) := fun {k o a b c d S} h => ev_ifF ((tst k o a b c d).trans (by rw [decide_eq_false h])) rfl
  have tT : ∀ {k : Int} {o a b c d : Option DV} {S : DEnv → Option DFlow} {fl : DFlow}, r2 = k → S [o, a, b, some (.fr (.int r2)), c, d, none] = some fl → sIf (fTst (fBin eqD (rdF 3) (fC (.int k)))) S sNil [o, a, b, some (.fr (.int r2)), c, d, none] = some fl := fun {k o a b c d S fl} h hs => ev_ifT ((tst k o a b c d).trans (by rw [decide_eq_true h])) hs
  have hpre : ∀ {S : DEnv → Option DFlow} {fl : DFlow}, S [some (DV.rf es2), some (DV.fr (PyData.tuple ds)), some (DV.fr (PyData.int r1)), some (DV.fr (PyData.int r2)), some (DV.ow oddsO), none, none] = some fl → sSeq (sPar 2 3 (fCons (fCR 0 m__law_draw (fCons (fLenN 1) fNil)) (fCons (fCR 0 m__law_draw (fCons (fC (.int 7)) fNil)) fNil))) (sSeq (sSetN 4 (fLst (fCons (fC .none) (fCons (fC (.int 7)) (fCons (fC (.str "up")) (fCons (fTup fNil) (fCons (fFrz (fLst fNil)) (fCons (fC (.dict [])) (fCons (fTup (fCons (fC (.int 0)) (fCons (fC (.str "up")) fNil))) (fCons (fTup (fCons (fC (.int 4)) (fCons (fC (.str "up")) fNil))) (fCons (fTup (fCons (fC (.bool true)) (fCons (fC (.str "up")) fNil))) (fCons (fTup (fCons (fBin subD (fC (.int 0)) (fC (.int 1))) (fCons (fC (.str "down")) fNil))) (fCons (fTup (fCons (fC (.int 0)) (fCons (fC (.str "Up")) fNil))) (fCons (fTup (fCons (fC (.str "place")) (fCons (fC (.str "up")) fNil))) fNil)))))))))))))) (sSeq (sSetN 4 (nAdd (rdF 4) (fFrz (fLst (fCons (fTup (fCons (fC (.int 0)) (fCons (fC (.str "up")) (fCons (fC (.int 1)) fNil)))) (fCons (fFrz (fLst (fCons (fC (.int 0)) (fCons (fC (.str "up")) fNil)))) (fCons (fTup (fCons (fC (.str "0")) (fCons (fC (.str "up")) fNil))) (fCons (fTup (fCons (fFrz (fLst fNil)) (fCons (fC (.str "up")) fNil))) (fCons (fTup (fCons (fC (.int 1)) (fCons (fC .none) fNil))) (fCons (fTup (fCons (fC (.str "place")) (fCons (fC (.str "left")) fNil))) (fCons (fTup (fCons (fC (.str "place")) fNil)) fNil))))))))))) (sSeq (sApp 4 (fTup (fCons (fC (.int 3)) (fCons (fC (.str "down")) fNil)))) S))) [some (.rf es), some (.fr (.tuple ds)), none, none, none, none, none] = some fl := fun {S fl} h => by
    refine ev_seq (e1 := [some (.rf es2), some (.fr (.tuple ds)), some (.fr (.int r1)), some (.fr (.int r2)), none, none, none]) ?_ (ev_seq rfl (ev_seq rfl (ev_seq (e1 := [some (DV.rf es2), some (DV.fr (PyData.tuple ds)), some (DV.fr (PyData.int r1)), some (DV.fr (PyData.int r2)), some (DV.ow oddsO), none, none]) rfl h)))
    simp [sPar, fCons, fCR, rdO, wrO, fLenN, rdB, lenD, fNil, fC, e1, e2]
  suffices main : ∃ d es' env, mb__law_bent_order (some (.rf es) :: startE 6 [.tuple ds]) = some (.rt d (some (.rf es') :: env)) ∧ PoolOk es' ∧ Th d by
    obtain ⟨d, es', env, h, p, t⟩ := main
    exact ⟨d, es', ev_runR rfl h, p, t⟩
  obtain ⟨d0, hat, hm0⟩ := atI_ex (ds := ds) (r := 0) (by decide) (by omega)
  by_cases c0 : r2 = 0
  · obtain ⟨r3, es3, e3, p3, a3, b3⟩ := draw_spec p2 (m := 12) (by decide) (by decide)
    obtain ⟨x, hx, mx⟩ := atI_ex (ds := othersO ds d0) (r := r3) a3 b3
    refine ⟨x, es3, _, hpre (ev_seqR (tT c0 (ev_seq (e1 := [some (DV.rf es2), some (DV.fr (PyData.tuple ds)), some (DV.fr (PyData.int r1)), some (DV.fr (PyData.int r2)), some (DV.ow oddsO), none, some (DV.ow (othersO ds d0))]) ?_ (ev_ret (e1 := [some (DV.rf es3), some (DV.fr (PyData.tuple ds)), some (DV.fr (PyData.int r1)), some (DV.fr (PyData.int r2)), some (DV.ow oddsO), none, some (DV.ow (othersO ds d0))]) ?_)))), p3, ?_⟩
    · simp [sSetN, fLst, fCons, fC, fTup, fNil, fFrz, nListOf, rdF, seqD, fIxN, rdB, ixD, hat, fBin, repTD, lim, othersO, List.replicate]
    · simp [fIxN, rdB, fCR, rdO, wrO, fCons, fC, fNil, e3, ixD, hx]
    · have hcl : ∀ y ∈ othersO ds d0, y.canLay = true := by
        have h1 : PyData.canLayAll ds = true := (cl_all ds).mpr hc
        have h2 := hc d0 hm0
        intro y hy
        simp only [othersO, List.mem_cons, List.not_mem_nil, or_false] at hy
        rcases hy with rfl | rfl | rfl | rfl | rfl | rfl | rfl | rfl | rfl | rfl | rfl | rfl <;> first | (decide +kernel) | exact h2 | exact h1 | (simp [PyData.canLay, PyData.canLayAll, h1]; done)
      refine ⟨hcl x mx, fun xs hxs => ?_⟩
      subst hxs
      simp only [othersO, List.mem_cons, List.not_mem_nil, or_false, PyData.tuple.injEq, reduceCtorEq, false_or] at mx
      rcases mx with rfl | rfl | h | rfl
      · simp
      · simp
      · exact hd0 d0 xs hm0 h.symm
      · simp
  by_cases c1 : r2 = 1
  · exact ⟨.tuple ds, es2, _, hpre (ev_seq (tF c0) (ev_seqR (tT c1 rfl))), p2, th_tup hc (by omega)⟩
  by_cases c2 : r2 = 2
  · exact ⟨.tuple (cutD ds none (some (-1))), es2, _, hpre (ev_seq (tF c0) (ev_seq (tF c1) (ev_seqR (tT c2 rfl)))), p2, th_tup (cl_cut hc _ _) (by have := cutl none (some (-1)); omega)⟩
  obtain ⟨r4, es4, e4, p4, a4, b4⟩ := draw_spec p2 (m := 20) (by decide) (by decide)
  obtain ⟨x, hx, mx⟩ := atI_ex (ds := oddsO) (r := r4) a4 b4
  have cx := odc x mx
  have l2 : ∀ (lo hi lo' hi' : Option Int) (x : PyData), (cutD ds lo hi ++ [x] ++ cutD ds lo' hi').length ≤ 21 := fun lo hi lo' hi' x => by
    rw [List.length_append, List.length_append]
    have := cutl lo hi
    have := cutl lo' hi'
    show _ + 1 + _ ≤ _
    omega
  have cl2 : ∀ (lo hi lo' hi' : Option Int), ∀ y ∈ (cutD ds lo hi ++ [x] ++ cutD ds lo' hi'), y.canLay = true := fun lo hi lo' hi' y hy => by
    rcases List.mem_append.mp hy with h | h
    · rcases List.mem_append.mp h with h | h
      · exact cl_cut hc _ _ y h
      · rw [List.mem_singleton] at h; rw [h]; exact cx
    · exact cl_cut hc _ _ y h
  have q1 : ∀ (lo hi : Option Int) (x : PyData), addD (.tuple (cutD ds lo hi)) (.tuple [x]) = some (.tuple (cutD ds lo hi ++ [x])) := fun lo hi x => add_tup (by have := cutl lo hi; omega) (by simp)
  have q2 : ∀ (lo hi lo' hi' : Option Int) (x : PyData), addD (.tuple (cutD ds lo hi ++ [x])) (.tuple (cutD ds lo' hi')) = some (.tuple (cutD ds lo hi ++ [x] ++ cutD ds lo' hi')) := fun lo hi lo' hi' x => add_tup (by rw [List.length_append]; have := cutl lo hi; show _ + 1 ≤ _; omega) (by have := cutl lo' hi'; omega)
  have g8 : ∀ i j : Int, addD (.int i) (.int j) = some (.int (i + j)) := fun _ _ => rfl
  by_cases c3 : r2 = 3
  · refine ⟨.tuple (cutD ds none (some r1) ++ [x] ++ cutD ds (some r1) none), es4, _, hpre (ev_seq (tF c0) (ev_seq (tF c1) (ev_seq (tF c2) (ev_seqR (tT c3 (ev_ret (e1 := [some (DV.rf es4), some (DV.fr (PyData.tuple ds)), some (DV.fr (PyData.int r1)), some (DV.fr (PyData.int r2)), some (DV.ow oddsO), none, none]) ?_)))))), p4, th_tup (cl2 _ _ _ _) (by have := l2 none (some r1) (some r1) none x; omega)⟩
    simp [fBin, fSl, rdF, oNone, oSome, slD, fTup, fCons, fIxN, rdB, fCR, rdO, wrO, fC, fNil, e4, ixD, hx, lim, q1, q2, -List.append_assoc]
  have hbent : sSet 5 (fBin addD (fBin addD (fSl (rdF 1) oNone (oSome (rdF 2))) (fTup (fCons (fIxN 4 (fCR 0 m__law_draw (fCons (fC (.int 20)) fNil))) fNil))) (fSl (rdF 1) (oSome (fBin addD (rdF 2) (fC (.int 1)))) oNone)) [some (DV.rf es2), some (DV.fr (PyData.tuple ds)), some (DV.fr (PyData.int r1)), some (DV.fr (PyData.int r2)), some (DV.ow oddsO), none, none] = some (.nx [some (DV.rf es4), some (DV.fr (PyData.tuple ds)), some (DV.fr (PyData.int r1)), some (DV.fr (PyData.int r2)), some (DV.ow oddsO), some (DV.fr (PyData.tuple (cutD ds none (some r1) ++ [x] ++ cutD ds (some (r1 + 1)) none))), none]) := by
    simp [sSet, fBin, fSl, rdF, oNone, oSome, slD, fTup, fCons, fIxN, rdB, fCR, rdO, wrO, fC, fNil, e4, ixD, hx, lim, q1, q2, g8, -List.append_assoc]
  have lb := l2 none (some r1) (some (r1 + 1)) none x
  have cb := cl2 none (some r1) (some (r1 + 1)) none
  generalize hB : (cutD ds none (some r1) ++ [x] ++ cutD ds (some (r1 + 1)) none) = B at hbent lb cb
  by_cases c4 : r2 = 4
  · obtain ⟨r5, es5, e5, p5, a5, b5⟩ := draw_spec p4 (m := (ds.length : Int)) (by omega) (by omega)
    obtain ⟨r6, es6, e6, p6, a6, b6⟩ := draw_spec p5 (m := 20) (by decide) (by decide)
    obtain ⟨y, hy, my⟩ := atI_ex (ds := oddsO) (r := r6) a6 b6
    have cy := odc y my
    have k1 : ∀ (lo hi : Option Int), (cutD B lo hi).length ≤ 21 := fun lo hi => Nat.le_trans (cut_le B lo hi) lb
    have q3 : ∀ (lo hi : Option Int) (x : PyData), addD (.tuple (cutD B lo hi)) (.tuple [x]) = some (.tuple (cutD B lo hi ++ [x])) := fun lo hi x => add_tup (by have := k1 lo hi; omega) (by simp)
    have q4 : ∀ (lo hi lo' hi' : Option Int) (x : PyData), addD (.tuple (cutD B lo hi ++ [x])) (.tuple (cutD B lo' hi')) = some (.tuple (cutD B lo hi ++ [x] ++ cutD B lo' hi')) := fun lo hi lo' hi' x => add_tup (by rw [List.length_append]; have := k1 lo hi; show _ + 1 ≤ _; omega) (by have := k1 lo' hi'; omega)
    refine ⟨.tuple (cutD B none (some r5) ++ [y] ++ cutD B (some (r5 + 1)) none), es6, _, hpre (ev_seq (tF c0) (ev_seq (tF c1) (ev_seq (tF c2) (ev_seq (tF c3) (ev_seq hbent (ev_seqR (tT c4 (ev_seq (e1 := [some (DV.rf es5), some (DV.fr (PyData.tuple ds)), some (DV.fr (PyData.int r5)), some (DV.fr (PyData.int r2)), some (DV.ow oddsO), some (DV.fr (PyData.tuple B)), none]) ?_ (ev_ret (e1 := [some (DV.rf es6), some (DV.fr (PyData.tuple ds)), some (DV.fr (PyData.int r5)), some (DV.fr (PyData.int r2)), some (DV.ow oddsO), some (DV.fr (PyData.tuple B)), none]) ?_))))))))), p6, th_tup (fun z hz => ?_) ?_⟩
    · simp [sSet, fCR, rdO, wrO, fCons, fLenN, rdB, lenD, fNil, e5]
    · simp [fBin, fSl, rdF, oNone, oSome, slD, fTup, fCons, fIxN, rdB, fCR, rdO, wrO, fC, fNil, e6, ixD, hy, lim, q3, q4, g8, -List.append_assoc]
    · rcases List.mem_append.mp hz with h | h
      · rcases List.mem_append.mp h with h | h
        · exact cl_cut cb _ _ z h
        · rw [List.mem_singleton] at h; rw [h]; exact cy
      · exact cl_cut cb _ _ z h
    · rw [List.length_append, List.length_append]
      have := k1 none (some r5)
      have := k1 (some (r5 + 1)) none
      show _ + 1 + _ ≤ _
      omega
  · exact ⟨.tuple B, es4, _, hpre (ev_seq (tF c0) (ev_seq (tF c1) (ev_seq (tF c2) (ev_seq (tF c3) (ev_seq hbent (ev_seq (tF c4) rfl)))))), p4, th_tup cb (by omega)⟩
end DL
end L2


set_option Elab.async false
set_option maxRecDepth 100000
set_option maxHeartbeats 4000000
set_option autoImplicit false
namespace L2
namespace DL
open PySem PySem.Spec PyProof.Rows
local instance labNone_K05B : Lab := { w := none, T := [], gd := True }
namespace TB
/-! ### tables told -/
def isInt : PyData → Bool
  | .int _ => true
  | _ => false
def isRec : PyData → Bool
  | .tuple ds => decide (1 ≤ ds.length) && decide (ds.length ≤ 5) && ds.all isInt
  | _ => false
def rowLen : PyData → Nat
  | .tuple ds => ds.length
  | _ => 0
def rowOk (w : Nat) (r : PyData) : Bool := isRec r && (rowLen r == w)
def badAt (w : Nat) : List PyData → Nat → Option Nat
  | [], _ => none
  | r :: rs, i => if rowOk w r then badAt w rs (i + 1) else some i
def rowsBad : List PyData → Option Nat
  | [] => none
  | r :: rs => if isRec r then badAt (rowLen r) rs 1 else some 0
def tabBad : PyData → Option PyData
  | .tuple rs => if 1 ≤ rs.length ∧ rs.length ≤ 30 then (rowsBad rs).map fun j => .int (j : Nat) else some .none
  | _ => some .none
theorem is_integer_spec (d : PyData) : m_is_integer [d] = some (.bool (isInt d)) := by cases d <;> rfl
theorem rec_lc (fe : DEnv → Option (PyData × DEnv)) (hfe : ∀ (o : Option DV) (d : PyData), fe [o, some (.fr d)] = some (.bool (isInt d), [o, some (.fr d)])) (ds : List PyData) (hl : ds.length ≤ 5) :
    fCB allD (fCons (fFrz (nLc (iSeq (rdF 0)) (gSet 1) fYes fe [1])) fNil) [some (.fr (.tuple ds)), none] = some (.bool (ds.all isInt), [some (.fr (.tuple ds)), none]) := by
  refine ev_cb (ev_cons (ev_frz (ds := ds.map fun d => .bool (isInt d)) ?_) ev_nil) (all_map isInt ds)
  show (if ds.length ≤ lim then lcD _ _ _ _ ds [some (.fr (.tuple ds)), none] else none) = _
  rw [if_pos (by show _ ≤ 100000; omega)]
  exact lc_map rfl ds fun d _ => hfe _ d
theorem is_record_spec (d : PyData) : m_is_record [d] = some (.bool (isRec d)) := by
  cases d with
  | tuple ds =>
    by_cases h1 : (1 : Int) ≤ ds.length
    · by_cases h5 : (ds.length : Int) ≤ 5
      · have e := rec_lc (fCB m_is_integer (fCons (rdF 1) fNil)) (fun o d => ev_cb (ev_cons rfl ev_nil) (is_integer_spec d)) ds (by omega)
        refine (ev_runF rfl (ev_seq (e1 := [some (.fr (.tuple ds)), none]) ?_ (ev_ret e))).trans ?_
        · refine ev_ifF (e1 := [some (.fr (.tuple ds)), none]) ?_ rfl
          simp [startE, fOr, fNot, fTst, fIsi, isiT, tyN, rdF, truthD, fChain, fC, fLenN, rdB, lenD, leD, intD, cv_MOST_COLUMNS, h1, h5]
        · have h1' : 1 ≤ ds.length := by omega
          have h5' : ds.length ≤ 5 := by omega
          simp [isRec, h1', h5']
      · have h5' : ¬ ds.length ≤ 5 := by omega
        simp [m_is_record, runF, mb_is_record, sSeq, sIf, sRet, startE, fOr, fNot, fTst, fIsi, isiT, tyN, rdF, truthD, fChain, fC, fLenN, rdB, lenD, leD, intD, cv_MOST_COLUMNS, h1, h5, isRec, h5']
    · have h1' : ds = [] := by
        cases ds with
        | nil => rfl
        | cons _ _ => exact absurd (by rw [List.length_cons]; omega) h1
      subst h1'
      rfl
  | _ => rfl
theorem law_is_record_spec (d : PyData) : m__law_is_record [d] = some (.bool (isRec d)) := by
  cases d with
  | tuple ds =>
    by_cases h1 : (0 : Int) < ds.length
    · have h1n : 0 < ds.length := by omega
      by_cases h5 : (ds.length : Int) < 6
      · have e := rec_lc (fAndV (fIsi "int" (rdF 1)) (fNotV (fIsi "bool" (rdF 1)))) (fun o d => by cases d <;> rfl) ds (by omega)
        refine (ev_runF rfl (ev_seq (e1 := [some (.fr (.tuple ds)), none]) ?_ (ev_ret e))).trans ?_
        · refine ev_ifF (e1 := [some (.fr (.tuple ds)), none]) ?_ rfl
          simp [startE, fOr, fNot, fTst, fIsi, isiT, tyN, rdF, truthD, fChain, fC, fLenN, rdB, lenD, ltD, intD, h1n, h5]
        · have h1' : 1 ≤ ds.length := by omega
          have h5' : ds.length ≤ 5 := by omega
          simp [isRec, h1', h5']
      · have h5' : ¬ ds.length ≤ 5 := by omega
        simp [m__law_is_record, runF, mb__law_is_record, sSeq, sIf, sRet, startE, fOr, fNot, fTst, fIsi, isiT, tyN, rdF, truthD, fChain, fC, fLenN, rdB, lenD, ltD, intD, h1n, h5, isRec, h5']
    · have h1' : ds = [] := by
        cases ds with
        | nil => rfl
        | cons _ _ => exact absurd (by rw [List.length_cons]; omega) h1
      subst h1'
      rfl
  | _ => rfl
theorem isRec_tup {d : PyData} (h : isRec d = true) : ∃ ds, d = .tuple ds := by
  cases d with
  | tuple ds => exact ⟨ds, rfl⟩
  | _ => cases h
abbrev chkRow (m : List PyData → Option PyData) (S : DEnv → Option DFlow) := sIf (fOr (fNot (fTst (fCB m (fCons (rdF 2) fNil)))) (fTst (fBin neD (fLenN 2) (fCB lenD (fCons (fIxN 0 (fC (.int 0))) fNil))))) S sNil
abbrev enG := gTupD 2 (gsCons (gSet 1) (gsCons (gSet 2) gsNil))
section
variable {m : List PyData → Option PyData} (hm : ∀ d, m [d] = some (.bool (isRec d))) {S : DEnv → Option DFlow}
include hm
theorem row_good {xs : List PyData} {rest : List PyData} {i r : PyData} (h : rowOk xs.length r = true) : chkRow m S [some (.fr (.tuple (.tuple xs :: rest))), some (.fr i), some (.fr r)] = some (.nx [some (.fr (.tuple (.tuple xs :: rest))), some (.fr i), some (.fr r)]) := by
  rw [rowOk, Bool.and_eq_true] at h
  obtain ⟨h1, h2⟩ := h
  obtain ⟨ys, rfl⟩ := isRec_tup h1
  have h2' : ys.length = xs.length := by simpa [rowLen] using h2
  have e := hm (.tuple ys)
  rw [h1] at e
  simp [chkRow, sIf, fOr, fNot, fTst, fCB, fCons, fNil, rdF, e, truthD, fBin, neD, eqB, fLenN, rdB, lenD, fIxN, ixD, atI, ixN, fC, h2', sNil]
theorem row_bad {xs : List PyData} {rest : List PyData} {i r : PyData} (h : rowOk xs.length r = false) : chkRow m S [some (.fr (.tuple (.tuple xs :: rest))), some (.fr i), some (.fr r)] = S [some (.fr (.tuple (.tuple xs :: rest))), some (.fr i), some (.fr r)] := by
  have e := hm r
  cases h1 : isRec r with
  | false =>
    rw [h1] at e
    simp [chkRow, sIf, fOr, fNot, fTst, fCB, fCons, fNil, rdF, e, truthD]
  | true =>
    obtain ⟨ys, rfl⟩ := isRec_tup h1
    have h2' : ¬ ys.length = xs.length := by simpa [rowOk, h1, rowLen] using h
    have h2i : ¬ ((ys.length : Int) = xs.length) := by omega
    rw [h1] at e
    simp [chkRow, sIf, fOr, fNot, fTst, fCB, fCons, fNil, rdF, e, truthD, fBin, neD, eqB, fLenN, rdB, lenD, fIxN, ixD, atI, ixN, fC, h2i]
theorem row_bad0 {o : Option DV} {i r : PyData} (h : isRec r = false) : chkRow m S [o, some (.fr i), some (.fr r)] = S [o, some (.fr i), some (.fr r)] := by
  have e := hm r
  rw [h] at e
  simp [chkRow, sIf, fOr, fNot, fTst, fCB, fCons, fNil, rdF, e, truthD]
theorem rows_loop {fl : PyData → DEnv → DFlow} (hS : ∀ o i r, S [o, some (.fr i), some (.fr r)] = some (fl i [o, some (.fr i), some (.fr r)])) (hfl : ∀ {i e d ds env e1}, enG d env = some e1 → chkRow m S e1 = some (fl i e) → forD enG (chkRow m S) (d :: ds) env = some (fl i e)) {xs : List PyData} {rest : List PyData} :
    ∀ (rs : List PyData) (k : Nat) (z1 z2 : Option DV), ∃ z1' z2', forD enG (chkRow m S) ((rangeD k rs.length).zipWith (fun a b => .tuple [a, b]) rs) [some (.fr (.tuple (.tuple xs :: rest))), z1, z2] =
      some (match badAt xs.length rs k with
        | none => .nx [some (.fr (.tuple (.tuple xs :: rest))), z1', z2']
        | some j => fl (.int (j : Nat)) [some (.fr (.tuple (.tuple xs :: rest))), z1', z2'])
  | [], k, z1, z2 => ⟨z1, z2, rfl⟩
  | r :: rs, k, z1, z2 => by
    rw [List.length_cons, rangeD_succ, List.zipWith_cons_cons, badAt]
    cases h : rowOk xs.length r with
    | true =>
      obtain ⟨a, b, e⟩ := rows_loop hS hfl rs (k + 1) (some (.fr (.int k))) (some (.fr r))
      exact ⟨a, b, ev_forN rfl (row_good hm h) e⟩
    | false => exact ⟨_, _, hfl rfl ((row_bad hm h).trans (hS _ _ _))⟩
theorem tab_loop {fl : PyData → DEnv → DFlow} (hS : ∀ o i r, S [o, some (.fr i), some (.fr r)] = some (fl i [o, some (.fr i), some (.fr r)])) (hfl : ∀ {i e d ds env e1}, enG d env = some e1 → chkRow m S e1 = some (fl i e) → forD enG (chkRow m S) (d :: ds) env = some (fl i e)) (rs : List PyData) (z1 z2 : Option DV) :
    ∃ z1' z2', forD enG (chkRow m S) (enumD rs) [some (.fr (.tuple rs)), z1, z2] =
      some (match rowsBad rs with
        | none => .nx [some (.fr (.tuple rs)), z1', z2']
        | some j => fl (.int (j : Nat)) [some (.fr (.tuple rs)), z1', z2']) := by
  cases rs with
  | nil => exact ⟨z1, z2, rfl⟩
  | cons r rs =>
    rw [enum_cons, rowsBad]
    cases h : isRec r with
    | false => exact ⟨_, _, hfl rfl ((row_bad0 hm h).trans (hS _ _ _))⟩
    | true =>
      obtain ⟨xs, rfl⟩ := isRec_tup h
      obtain ⟨a, b, e⟩ := rows_loop (xs := xs) (rest := rs) hm hS hfl rs 1 (some (.fr (.int 0))) (some (.fr (.tuple xs)))
      exact ⟨a, b, ev_forN rfl (row_good hm (by simp [rowOk, h, rowLen])) e⟩
end
def tabX (d : PyData) : XR := match tabBad d with
  | none => .ok .none
  | some x => .ex "InvalidTable" "index" x
theorem check_table_spec (d : PyData) : m_check_table [d] = some (tabX d) := by
  cases d with
  | tuple rs =>
    by_cases h : 1 ≤ rs.length ∧ rs.length ≤ 30
    · have hb : tabBad (.tuple rs) = (rowsBad rs).map fun j => .int (j : Nat) := if_pos h
      obtain ⟨z1, z2, e⟩ := tab_loop is_record_spec (S := sRaise "InvalidTable" "index" (rdF 1)) (fl := fun i e => .ex "InvalidTable" "index" i e) (fun _ _ _ => rfl) (fun hg hb => ev_forX hg hb) rs none none
      have h1 : (1 : Int) ≤ rs.length := by omega
      have h3 : (rs.length : Int) ≤ 30 := by omega
      have e1 : sIf (fOr (fNot (fTst (fIsi "tuple" (rdF 0)))) (fNot (fTst (fChain leD leD (fC (.int 1)) (fLenN 0) (fC cv_MOST_RECORDS))))) (sRaise "InvalidTable" "index" (fC .none)) sNil [some (.fr (.tuple rs)), none, none] = some (.nx [some (.fr (.tuple rs)), none, none]) := by
        simp [sIf, sNil, fOr, fNot, fTst, fIsi, isiT, tyN, rdF, truthD, fChain, fC, fLenN, rdB, lenD, leD, intD, cv_MOST_RECORDS, h1, h3]
      unfold tabX
      rw [hb]
      cases hr : rowsBad rs with
      | none =>
        rw [hr] at e
        exact ev_runX0 rfl (ev_seq e1 (ev_for rfl e))
      | some j =>
        rw [hr] at e
        exact ev_runXX rfl (ev_seq e1 (ev_for rfl e))
    · have hb : tabBad (.tuple rs) = some .none := if_neg h
      unfold tabX
      rw [hb]
      have hc : ¬ ((1 : Int) ≤ rs.length ∧ (rs.length : Int) ≤ 30) := by omega
      by_cases h1 : (1 : Int) ≤ rs.length
      · have h3 : ¬ (rs.length : Int) ≤ 30 := fun z => hc ⟨h1, z⟩
        simp [m_check_table, runX, mb_check_table, startE, sSeq, sIf, sRaise, fOr, fNot, fTst, fIsi, isiT, tyN, rdF, truthD, fChain, fC, fLenN, rdB, lenD, leD, intD, cv_MOST_RECORDS, h1, h3]
      · simp [m_check_table, runX, mb_check_table, startE, sSeq, sIf, sRaise, fOr, fNot, fTst, fIsi, isiT, tyN, rdF, truthD, fChain, fC, fLenN, rdB, lenD, leD, intD, cv_MOST_RECORDS, h1]
  | _ => rfl
def faultL : Option PyData → List PyData
  | none => []
  | some x => [x]
theorem fault_spec (d : PyData) : m__law_table_fault [d] = some (.list (faultL (tabBad d))) := by
  cases d with
  | tuple rs =>
    by_cases h : 1 ≤ rs.length ∧ rs.length ≤ 30
    · have hb : tabBad (.tuple rs) = (rowsBad rs).map fun j => .int (j : Nat) := if_pos h
      obtain ⟨z1, z2, e⟩ := tab_loop law_is_record_spec (S := sRet (fFrz (fLst (fCons (rdF 1) fNil)))) (fl := fun i e => .rt (.list [i]) e) (fun _ _ _ => rfl) (fun hg hb => ev_forE hg hb) rs none none
      have h1 : 0 < rs.length := by omega
      have h3 : (rs.length : Int) < 31 := by omega
      have e1 : sIf (fOr (fNot (fTst (fIsi "tuple" (rdF 0)))) (fNot (fTst (fChain ltD ltD (fC (.int 0)) (fLenN 0) (fC (.int 31)))))) (sRet (fFrz (fLst (fCons (fC .none) fNil)))) sNil [some (.fr (.tuple rs)), none, none] = some (.nx [some (.fr (.tuple rs)), none, none]) := by
        simp [sIf, sNil, fOr, fNot, fTst, fIsi, isiT, tyN, rdF, truthD, fChain, fC, fLenN, rdB, lenD, ltD, intD, h1, h3]
      rw [hb]
      cases hr : rowsBad rs with
      | none =>
        rw [hr] at e
        exact ev_runF rfl (ev_seq e1 (ev_seq (ev_for rfl e) rfl))
      | some j =>
        rw [hr] at e
        exact ev_runF rfl (ev_seq e1 (ev_seqR (ev_for rfl e)))
    · have hb : tabBad (.tuple rs) = some .none := if_neg h
      rw [hb]
      by_cases h1 : 0 < rs.length
      · have h3 : ¬ (rs.length : Int) < 31 := by omega
        simp [m__law_table_fault, runF, mb__law_table_fault, startE, sSeq, sIf, sRet, fFrz, fLst, fCons, fNil, lim, fOr, fNot, fTst, fIsi, isiT, tyN, rdF, truthD, fChain, fC, fLenN, rdB, lenD, ltD, intD, h1, h3, faultL]
      · simp [m__law_table_fault, runF, mb__law_table_fault, startE, sSeq, sIf, sRet, fFrz, fLst, fCons, fNil, lim, fOr, fNot, fTst, fIsi, isiT, tyN, rdF, truthD, fChain, fC, fLenN, rdB, lenD, ltD, intD, h1, faultL]
  | _ => rfl
/-! ### rows that are ints -/
def RowI (w : Nat) (r : PyData) : Prop := ∃ is : List Int, r = .tuple (is.map .int) ∧ is.length = w
theorem RowI.ok {w : Nat} {r : PyData} (h : RowI w r) (h1 : 1 ≤ w) (h5 : w ≤ 5) : rowOk w r = true ∧ isRec r = true ∧ rowLen r = w := by
  obtain ⟨is, rfl, hl⟩ := h
  have : isRec (.tuple (is.map .int)) = true := by
    have a1 : 1 ≤ is.length := by omega
    have a5 : is.length ≤ 5 := by omega
    simp [isRec, a1, a5, isInt]
  exact ⟨by simp [rowOk, this, rowLen, hl], this, by simp [rowLen, hl]⟩
theorem bad_none {w : Nat} (h1 : 1 ≤ w) (h5 : w ≤ 5) : ∀ (rs : List PyData) (k : Nat), (∀ r ∈ rs, RowI w r) → badAt w rs k = none
  | [], _, _ => rfl
  | r :: rs, k, h => by
    rw [badAt, ((h r List.mem_cons_self).ok h1 h5).1]
    exact bad_none h1 h5 rs (k + 1) fun x hx => h x (List.mem_cons_of_mem _ hx)
structure TabI (rs : List PyData) : Prop where
  l1 : 1 ≤ rs.length
  l2 : rs.length ≤ 30
  row : ∃ w, 1 ≤ w ∧ w ≤ 5 ∧ ∀ r ∈ rs, RowI w r
theorem TabI.good {rs : List PyData} (h : TabI rs) : tabBad (.tuple rs) = none := by
  obtain ⟨w, h1, h5, hr⟩ := h.row
  rw [tabBad, if_pos ⟨h.l1, h.l2⟩]
  cases rs with
  | nil => rfl
  | cons r rs =>
    obtain ⟨a, b, c⟩ := (hr r List.mem_cons_self).ok h1 h5
    rw [rowsBad, b, c]
    show (badAt w rs 1).map _ = none
    rw [bad_none h1 h5 rs 1 fun x hx => hr x (List.mem_cons_of_mem _ hx)]
    rfl
theorem RowI.ly {w : Nat} {r : PyData} (h : RowI w r) : Ly 1 r := by
  obtain ⟨is, rfl, _⟩ := h
  exact Ly.tuple (ly_ints is)
theorem cut_le (ds : List PyData) (lo hi : Option Int) : (cutD ds lo hi).length ≤ ds.length := by
  unfold cutD
  rw [List.length_take, List.length_drop]
  omega
theorem add_tup {a b : List PyData} (ha : a.length ≤ 10000) (hb : b.length ≤ 10000) : addD (.tuple a) (.tuple b) = some (.tuple (a ++ b)) := if_pos (show a.length + b.length ≤ 100000 by omega)
theorem rep_tup {xs : List PyData} {k : Int} (h0 : xs ≠ []) (h1 : 2 ≤ k) (h2 : k ≤ 1000) (h3 : xs.length ≤ 1000) : repTD (.tuple xs) (.int k) = some (.tuple (List.replicate k.toNat xs).flatten) := if_pos ⟨h0, h1, h2, h3⟩
theorem bent_spec {rs : List PyData} (ht : TabI rs) {es : List PyData} (hp : PoolOk es) : ∃ d es', m__law_bent_table es [.tuple rs] = some (d, es') ∧ PoolOk es' := by
  obtain ⟨w, w1, w5, hrow⟩ := ht.row
  obtain ⟨r0, rest, rfl⟩ : ∃ r0 rest, rs = r0 :: rest := by
    cases rs with
    | nil => exact absurd ht.l1 (by simp)
    | cons a b => exact ⟨a, b, rfl⟩
  obtain ⟨is, rfl, hl⟩ := hrow r0 List.mem_cons_self
  have hlen := ht.l2
  generalize hR : (PyData.tuple (is.map PyData.int) :: rest) = rs at *
  have hil : (is.map PyData.int).length ≤ 5 := by rw [List.length_map]; omega
  obtain ⟨r1, es1, e1, p1, a1, b1⟩ := draw_spec hp (m := (rs.length : Int)) (by have := ht.l1; omega) (by omega)
  obtain ⟨r2, es2, e2, p2, a2, b2⟩ := draw_spec p1 (m := 6) (by decide) (by decide)
  have hat : atI rs 0 = some (.tuple (is.map .int)) := by rw [← hR]; simp [atI, ixN]
  have g1 : ∀ ds : List PyData, ds.length ≤ 10 → addD (.tuple (is.map .int)) (.tuple ds) = some (.tuple (is.map .int ++ ds)) := fun ds hd => add_tup (by omega) (by omega)
  have g2 : ∀ (lo hi : Option Int) (ds : List PyData), ds.length ≤ 10 → addD (.tuple (cutD (is.map .int) lo hi)) (.tuple ds) = some (.tuple (cutD (is.map .int) lo hi ++ ds)) := fun lo hi ds hd => add_tup (by have := cut_le (is.map .int) lo hi; omega) (by omega)
  have g3 : repTD (.tuple [.int 1]) (.int 6) = some (.tuple (List.replicate 6 [PyData.int 1]).flatten) := rfl
  have g4 : repTD (.tuple [.none]) (.int 31) = some (.tuple (List.replicate 31 [PyData.none]).flatten) := rfl
  have g5 : repTD (.tuple rs) (.int 31) = some (.tuple (List.replicate 31 rs).flatten) := rep_tup (by rw [← hR]; simp) (by decide) (by decide) (by omega)
  have ex : ∀ {x : Option (PyData × List PyData)} {es' : List PyData}, x.map (·.2) = some es' → PoolOk es' → ∃ d es', x = some (d, es') ∧ PoolOk es' := fun {x es'} h p => by
    obtain ⟨⟨d, es2⟩, h1, rfl⟩ := mpd h
    exact ⟨d, es2, h1, p⟩
  have pick : ∀ {n : Nat} {r : Int}, 0 ≤ r → r < n → ∀ l : List PyData, l.length = n → atI l r = some (l.getD r.toNat .none) := fun {n r} h0 h1 l hl => by
    have h2 : r.toNat < l.length := by omega
    have h3 : r < (l.length : Int) := by omega
    simp [atI, ixN, h0, h3, h2]
  have cutl : ∀ (ds : List PyData) (lo hi : Option Int), ds.length ≤ 1000 → (cutD ds lo hi).length ≤ 1000 := fun ds lo hi h => Nat.le_trans (cut_le ds lo hi) h
  obtain ⟨r3, es3, e3, p3, a3, b3⟩ := draw_spec p2 (m := 12) (by decide) (by decide)
  obtain ⟨r4, es4, e4, p4, a4, b4⟩ := draw_spec p2 (m := 14) (by decide) (by decide)
  obtain ⟨r5, es5, e5, p5, a5, b5⟩ := draw_spec p4 (m := (rs.length : Int)) (by have := ht.l1; omega) (by omega)
  obtain ⟨r6, es6, e6, p6, a6, b6⟩ := draw_spec p5 (m := 14) (by decide) (by decide)
  have k3 := @pick 12 r3 a3 b3
  have k4 := @pick 14 r4 a4 b4
  have k6 := @pick 14 r6 a6 b6
  have g6 : ∀ (ds es : List PyData), ds.length ≤ 3000 → es.length ≤ 3000 → addD (.tuple ds) (.tuple es) = some (.tuple (ds ++ es)) := fun ds es h1 h2 => add_tup (by omega) (by omega)
  have g7 : ∀ a b : List PyData, a.length + b.length ≤ 1000 → addD (.list a) (.list b) = some (.list (a ++ b)) := fun a b h => if_pos (show a.length + b.length ≤ 100000 by omega)
  have g8 : ∀ i j : Int, addD (.int i) (.int j) = some (.int (i + j)) := fun _ _ => rfl
  by_cases c0 : r2 = 0
  · refine ex (es' := es3) ?_ p3
    simp [m__law_bent_table, nAdd, runR, mb__law_bent_table, sSeq, sPar, fCons, fCR, rdO, wrO, fLenN, rdB, lenD, fNil, fC, startE, e1, e2, sSet, fIxN, ixD, hat, sSetN, fLst, fTup, fFrz, nListOf, rdF, seqD, fBin, fSl, oNone, oSome, fNeg, slD, g1, g2, g3, lim, sIf, fTst, eqD, eqB, c0, truthD, g4, g5, sRet, e3, k3, rf0, g7, g8]
  · by_cases c1 : r2 = 1
    · refine ex (es' := es2) ?_ p2
      simp [m__law_bent_table, nAdd, runR, mb__law_bent_table, sSeq, sPar, fCons, fCR, rdO, wrO, fLenN, rdB, lenD, fNil, fC, startE, e1, e2, sSet, fIxN, ixD, hat, sSetN, fLst, fTup, fFrz, nListOf, rdF, seqD, fBin, fSl, oNone, oSome, fNeg, slD, g1, g2, g3, lim, sIf, fTst, eqD, eqB, c1, truthD, g4, g5, sRet, rf0, g7, g8, sNil]
    · have l1 := fun lo hi => cutl rs lo hi (by omega)
      have l2 : ∀ (lo hi : Option Int) (x : PyData), (cutD rs lo hi ++ [x]).length ≤ 3000 := fun lo hi x => by rw [List.length_append]; have := l1 lo hi; show _ + 1 ≤ _; omega
      have q1 : ∀ (lo hi : Option Int) (x : PyData), addD (.tuple (cutD rs lo hi)) (.tuple [x]) = some (.tuple (cutD rs lo hi ++ [x])) := fun lo hi x => g6 _ _ (by have := l1 lo hi; omega) (by simp)
      have q2 : ∀ (lo hi lo' hi' : Option Int) (x : PyData), addD (.tuple (cutD rs lo hi ++ [x])) (.tuple (cutD rs lo' hi')) = some (.tuple (cutD rs lo hi ++ [x] ++ cutD rs lo' hi')) := fun lo hi lo' hi' x => g6 _ _ (l2 _ _ _) (by have := l1 lo' hi'; omega)
      have l3 : ∀ (lo hi lo' hi' : Option Int) (x : PyData), (cutD rs lo hi ++ [x] ++ cutD rs lo' hi').length ≤ 4000 := fun lo hi lo' hi' x => by rw [List.length_append, List.length_append]; have := l1 lo hi; have := l1 lo' hi'; show _ + 1 + _ ≤ _; omega
      by_cases c2 : r2 = 2
      · refine ex (es' := es6) ?_ p6
        have q3 : ∀ (ds : List PyData) (lo hi : Option Int) (x : PyData), ds.length ≤ 4000 → addD (.tuple (cutD ds lo hi)) (.tuple [x]) = some (.tuple (cutD ds lo hi ++ [x])) := fun ds lo hi x h => add_tup (by have := cut_le ds lo hi; omega) (by simp)
        have q4 : ∀ (ds : List PyData) (lo hi lo' hi' : Option Int) (x : PyData), ds.length ≤ 4000 → addD (.tuple (cutD ds lo hi ++ [x])) (.tuple (cutD ds lo' hi')) = some (.tuple (cutD ds lo hi ++ [x] ++ cutD ds lo' hi')) := fun ds lo hi lo' hi' x h => add_tup (by rw [List.length_append]; have := cut_le ds lo hi; show _ + 1 ≤ _; omega) (by have := cut_le ds lo' hi'; omega)
        have q3' := fun (a b c d : Option Int) (y : PyData) (lo hi : Option Int) (x : PyData) => q3 (cutD rs a b ++ [y] ++ cutD rs c d) lo hi x (l3 a b c d y)
        have q4' := fun (a b c d : Option Int) (y : PyData) (lo hi lo' hi' : Option Int) (x : PyData) => q4 (cutD rs a b ++ [y] ++ cutD rs c d) lo hi lo' hi' x (l3 a b c d y)
        simp [m__law_bent_table, nAdd, runR, mb__law_bent_table, sSeq, sPar, fCons, fCR, rdO, wrO, fLenN, rdB, lenD, fNil, fC, startE, e1, e2, sSet, fIxN, ixD, hat, sSetN, fLst, fTup, fFrz, nListOf, rdF, seqD, fBin, fSl, oNone, oSome, fNeg, slD, g1, g2, g3, lim, sIf, fTst, eqD, eqB, c2, truthD, g4, g5, sRet, rf0, g7, g8, sNil, e4, k4, e5, e6, k6, q1, q2, q3', q4', -List.append_assoc]
      · refine ex (es' := es4) ?_ p4
        simp [m__law_bent_table, nAdd, runR, mb__law_bent_table, sSeq, sPar, fCons, fCR, rdO, wrO, fLenN, rdB, lenD, fNil, fC, startE, e1, e2, sSet, fIxN, ixD, hat, sSetN, fLst, fTup, fFrz, nListOf, rdF, seqD, fBin, fSl, oNone, oSome, fNeg, slD, g1, g2, g3, lim, sIf, fTst, eqD, eqB, c0, c1, c2, truthD, g4, g5, sRet, rf0, g7, g8, sNil, e4, k4, q1, q2, -List.append_assoc]
/-! ### tables drawn -/
abbrev tabEl := fBin subD (fCR 0 m__law_draw (fCons (rdF 5) fNil)) (fBin fdivD (rdF 5) (fC (.int 2)))
theorem tab_lc {sp : Int} (h0 : 0 < sp) (h1 : sp < 1073741824) (b c d e f g : Option DV) : ∀ (xs es : List PyData), PoolOk es → ∃ (es' : List PyData) (is : List Int), lcD (gSet 8) fYes tabEl [8] xs [some (.rf es), b, c, d, e, some (.fr (.int sp)), f, g, none] = some (is.map PyData.int, [some (.rf es'), b, c, d, e, some (.fr (.int sp)), f, g, none]) ∧ PoolOk es' ∧ is.length = xs.length
  | [], es, hp => ⟨es, [], rfl, hp, rfl⟩
  | x :: xs, es, hp => by
    obtain ⟨r1, es1, e1, p1, a1, b1⟩ := draw_spec hp h0 (by omega)
    obtain ⟨es2, is, e2, p2, l2⟩ := tab_lc h0 h1 b c d e f g xs es1 p1
    refine ⟨es2, (r1 - sp / 2) :: is, ?_, p2, by simp [l2]⟩
    rw [lcD]
    simp [gSet, fYes, tabEl, fBin, fCR, rdO, wrO, rdF, fCons, fNil, fC, e1, subD, fdivD, intD, wipeE]
    exact e2
theorem ne_nil {k : Nat} {r : PyData} {rs : List PyData} (h : ∀ d ∈ r :: rs, Ly k d) (hk : k < 64) : neD (.list (r :: rs)) (.list []) = some (.bool true) := by
  have s1 := (Ly.list h).sh hk
  have s2 : shD (.list []) = true := rfl
  show ((if shD (.list (r :: rs)) && shD (.list []) then some (PyData.eqv (.list (r :: rs)) (.list [])) else none).map fun k => PyData.bool (!k)) = _
  rw [s1, s2]
  rfl
abbrev tabBody := sIf (fAnd (fTst (fCmpL neD 6 (fFrz (fLst fNil)))) (fTst (fBin eqD (fCR 0 m__law_draw (fCons (fC (.int 6)) fNil)) (fC (.int 0))))) (sApp 6 (fIxN 6 (fCR 0 m__law_draw (fCons (fLenN 6) fNil)))) (sApp 6 (fCB tupleD (fCons (fFrz (nLc (iArg rng1 (fCons (rdF 3) fNil)) (gSet 8) fYes tabEl [8])) fNil)))
theorem tab_new {w : Nat} (hw : w ≤ 5) {sp : Int} (h0 : 0 < sp) (h1 : sp < 1073741824) {b c e g : Option DV} {es found : List PyData} (hp : PoolOk es) (hl : found.length < 1000) :
    ∃ es' r, sApp 6 (fCB tupleD (fCons (fFrz (nLc (iArg rng1 (fCons (rdF 3) fNil)) (gSet 8) fYes tabEl [8])) fNil)) [some (.rf es), b, c, some (.fr (.int w)), e, some (.fr (.int sp)), some (.ow found), g, none] = some (.nx [some (.rf es'), b, c, some (.fr (.int w)), e, some (.fr (.int sp)), some (.ow (found ++ [r])), g, none]) ∧ PoolOk es' ∧ RowI w r := by
  obtain ⟨es1, is, e1, p1, l1⟩ := tab_lc h0 h1 b c (some (.fr (.int w))) e (some (.ow found)) g (rangeD 0 w) es hp
  rw [rangeD_len] at l1
  refine ⟨es1, .tuple (is.map .int), ?_, p1, is, rfl, l1⟩
  have hw2 : (w : Int) ≤ 1000000 ∧ -1000000 ≤ (w : Int) := by omega
  have hl2 : found.length < 100000 := by omega
  have hr : (rangeD 0 w).length ≤ 100000 := by rw [rangeD_len]; omega
  simp [sApp, rdO, fCB, fCons, fFrz, nLc, iArg, rdF, fNil, rng1, hw2, lim, hr, wipeE]
  rw [e1]
  simp [tupleD, wrO, hl2]
theorem tab_turn {w : Nat} (hw : w ≤ 5) {sp : Int} (h0 : 0 < sp) (h1 : sp < 1073741824) {b c e g : Option DV} {es found : List PyData} (hp : PoolOk es) (hf : ∀ r ∈ found, RowI w r) (hl : found.length < 1000) :
    ∃ es' r, tabBody [some (.rf es), b, c, some (.fr (.int w)), e, some (.fr (.int sp)), some (.ow found), g, none] = some (.nx [some (.rf es'), b, c, some (.fr (.int w)), e, some (.fr (.int sp)), some (.ow (found ++ [r])), g, none]) ∧ PoolOk es' ∧ RowI w r := by
  cases found with
  | nil =>
    obtain ⟨es1, r, e1, p1, hr⟩ := tab_new (found := []) hw h0 h1 (b := b) (c := c) (e := e) (g := g) hp hl
    exact ⟨es1, r, ev_ifF (ev_and0 rfl) e1, p1, hr⟩
  | cons r0 rs =>
    have hn := ne_nil (k := 1) (fun d hd => (hf d hd).ly) (by decide)
    obtain ⟨r1, es1, e1, p1, a1, b1⟩ := draw_spec hp (m := 6) (by decide) (by decide)
    have t1 : fTst (fCmpL neD 6 (fFrz (fLst fNil))) [some (.rf es), b, c, some (.fr (.int w)), e, some (.fr (.int sp)), some (.ow (r0 :: rs)), g, none] = some (true, [some (.rf es), b, c, some (.fr (.int w)), e, some (.fr (.int sp)), some (.ow (r0 :: rs)), g, none]) := by
      simp [fTst, fCmpL, rdB, fFrz, fLst, fNil, hn, truthD]
    have t2 : fTst (fBin eqD (fCR 0 m__law_draw (fCons (fC (.int 6)) fNil)) (fC (.int 0))) [some (.rf es), b, c, some (.fr (.int w)), e, some (.fr (.int sp)), some (.ow (r0 :: rs)), g, none] = some (decide (r1 = 0), [some (.rf es1), b, c, some (.fr (.int w)), e, some (.fr (.int sp)), some (.ow (r0 :: rs)), g, none]) := by
      simp [fTst, fBin, fCR, rdO, wrO, fCons, fNil, fC, e1, eqD, eqB, truthD]
    by_cases hz : r1 = 0
    · rw [decide_eq_true hz] at t2
      obtain ⟨r2, es2, e2, p2, a2, b2⟩ := draw_spec p1 (m := ((r0 :: rs).length : Int)) (by rw [List.length_cons]; omega) (by omega)
      have hj : r2.toNat < (r0 :: rs).length := by omega
      refine ⟨es2, (r0 :: rs)[r2.toNat], ev_ifT (ev_and1 t1 t2) ?_, p2, hf _ (List.getElem_mem hj)⟩
      have e2' := e2
      rw [List.length_cons] at e2'
      have b2' : r2 < (rs.length : Int) + 1 := by rw [List.length_cons] at b2; omega
      have hl' : rs.length + 1 < 100000 := by rw [List.length_cons] at hl; omega
      have hj' : r2.toNat < rs.length + 1 := hj
      simp [sApp, rdO, wrO, fIxN, rdB, fCR, fCons, fLenN, lenD, fNil] at e2' ⊢
      simp [e2', ixD, atI, ixN, a2, b2', hj', hl', lim]
    · rw [decide_eq_false hz] at t2
      obtain ⟨es2, r, e2, p2, hr⟩ := tab_new (found := r0 :: rs) hw h0 h1 (b := b) (c := c) (e := e) (g := g) p1 hl
      exact ⟨es2, r, ev_ifF (ev_and1 t1 t2) e2, p2, hr⟩
theorem tab_for {w : Nat} (hw : w ≤ 5) {sp : Int} (h0 : 0 < sp) (h1 : sp < 1073741824) {b c e : Option DV} : ∀ (xs : List PyData) (es found : List PyData) (g : Option DV), PoolOk es → (∀ r ∈ found, RowI w r) → found.length + xs.length < 1000 →
    ∃ es' found' g', forD (gSet 7) tabBody xs [some (.rf es), b, c, some (.fr (.int w)), e, some (.fr (.int sp)), some (.ow found), g, none] = some (.nx [some (.rf es'), b, c, some (.fr (.int w)), e, some (.fr (.int sp)), some (.ow found'), g', none]) ∧ PoolOk es' ∧ (∀ r ∈ found', RowI w r) ∧ found'.length = found.length + xs.length
  | [], es, found, g, hp, hf, _ => ⟨es, found, g, rfl, hp, hf, rfl⟩
  | x :: xs, es, found, g, hp, hf, hl => by
    rw [List.length_cons] at hl
    obtain ⟨es1, r, e1, p1, hr⟩ := tab_turn hw h0 h1 (b := b) (c := c) (e := e) (g := some (.fr x)) hp hf (by omega)
    obtain ⟨es2, f2, g2, e2, p2, hf2, l2⟩ := tab_for hw h0 h1 (b := b) (c := c) (e := e) xs es1 (found ++ [r]) (some (.fr x)) p1 (fun y hy => by
      rcases List.mem_append.mp hy with z | z
      · exact hf y z
      · rw [List.mem_singleton] at z; rw [z]; exact hr) (by rw [List.length_append]; show found.length + 1 + xs.length < 1000; omega)
    refine ⟨es2, f2, g2, ev_forN rfl e1 e2, p2, hf2, ?_⟩
    rw [l2]
    simp only [List.length_append, List.length_cons, List.length_nil]
    omega
theorem spread4 {r : Int} (h0 : 0 ≤ r) (h1 : r < 4) : ∃ sp : Int, ixD (.list [.int 2, .int 3, .int 9, .int 1000]) (.int r) = some (.int sp) ∧ 0 < sp ∧ sp < 1073741824 := by
  have : r = 0 ∨ r = 1 ∨ r = 2 ∨ r = 3 := by omega
  rcases this with rfl | rfl | rfl | rfl
  · exact ⟨2, rfl, by decide, by decide⟩
  · exact ⟨3, rfl, by decide, by decide⟩
  · exact ⟨9, rfl, by decide, by decide⟩
  · exact ⟨1000, rfl, by decide, by decide⟩
theorem table_spec {most : Int} (hm0 : 0 < most) (hm1 : most ≤ 30) {es : List PyData} (hp : PoolOk es) : ∃ rs es', m__law_table es [.int most, .int 5] = some (.tuple rs, es') ∧ PoolOk es' ∧ TabI rs := by
  obtain ⟨r1, es1, e1, p1, a1, b1⟩ := draw_spec hp (m := 5) (by decide) (by decide)
  obtain ⟨r2, es2, e2, p2, a2, b2⟩ := draw_spec p1 (m := most) hm0 (by omega)
  obtain ⟨r3, es3, e3, p3, a3, b3⟩ := draw_spec p2 (m := 4) (by decide) (by decide)
  obtain ⟨sp, e4, s0, s1⟩ := spread4 a3 b3
  obtain ⟨w, hw⟩ : ∃ w : Nat, 1 + r1 = (w : Int) := ⟨(1 + r1).toNat, by omega⟩
  obtain ⟨es5, rs, g, e5, p5, hr, l5⟩ := tab_for (w := w) (by omega) s0 s1 (b := some (.fr (.int most))) (c := some (.fr (.int 5))) (e := some (.fr (.int (1 + r2)))) (rangeD 0 (1 + r2).toNat) es3 [] none p3 (fun r h => nomatch h) (by rw [rangeD_len]; show 0 + _ < 1000; omega)
  rw [rangeD_len, List.length_nil] at l5
  refine ⟨rs, es5, ?_, p5, ⟨by omega, by omega, w, by omega, by omega, hr⟩⟩
  have hd : 1 + r2 ≤ 1000000 ∧ -1000000 ≤ 1 + r2 := by omega
  simp [m__law_table, runR, mb__law_table, sSeq, sPar, fCons, fBin, fC, fCR, rdO, wrO, rdF, fNil, startE, e1, e2, addD, sSet, fFrz, fLst, lim, e3, e4, sSetN, sFor, iArg, rng1, hd, hw]
  rw [e5]
  simp [sRet, fCB, fCons, rdF, fNil, tupleD, rf0]
end TB
end DL
end L2


set_option Elab.async false
set_option maxRecDepth 100000
set_option maxHeartbeats 4000000
set_option autoImplicit false
namespace L2
namespace DL
open PySem PySem.Spec PyProof.Rows
local instance labNone_K05E : Lab := { w := none, T := [], gd := True }
/-! ### an order that check_order takes is one of the orders -/
theorem isDir_of {b : PyData} (h : isDir b = true) : ∃ s, b = .str s ∧ s ∈ dirsD := by
  cases b with
  | str s =>
    refine ⟨s, rfl, ?_⟩
    simp only [isDir, Bool.or_eq_true, decide_eq_true_eq] at h
    rcases h with rfl | rfl <;> decide
  | _ => cases h
theorem isPl_of {d : PyData} (h : isPl d = true) : ∃ s, d = plD s ∧ s ∈ dirsD := by
  cases d with
  | tuple ds =>
    match ds, h with
    | [a, b], h =>
      cases a with
      | str p =>
        simp only [isPl, isPlw, Bool.and_eq_true, decide_eq_true_eq] at h
        obtain ⟨s, rfl, hs⟩ := isDir_of h.2
        rw [h.1]
        exact ⟨s, rfl, hs⟩
      | _ => cases h
    | [], h => cases h
    | [_], h => cases h
    | _ :: _ :: _ :: _, h => cases h
  | _ => cases h
theorem keys_of : ∀ (ds : List PyData) (seen : List Int) (i : Nat), keysBad seen ds i = none → ∃ ks : List Ky, ds = ks.map kd ∧ (∀ k ∈ ks, 0 ≤ k.1 ∧ k.1 < 4 ∧ k.2 ∈ dirsD) ∧ (ks.map (·.1)).Nodup ∧ ∀ k ∈ ks, k.1 ∉ seen
  | [], _, _, _ => ⟨[], rfl, fun _ h => by simp at h, List.nodup_nil, fun _ h => by simp at h⟩
  | d :: ds, seen, i, h => by
    rw [keysBad] at h
    split at h
    case isFalse => cases h
    rename_i hk
    rw [keyOk, Bool.and_eq_true, Bool.not_eq_true', decide_eq_false_iff_not] at hk
    obtain ⟨c, b, rfl, h0, h4, hb⟩ := key_of hk.1
    obtain ⟨s, rfl, hs⟩ := isDir_of hb
    have hc : c ∉ seen := hk.2
    obtain ⟨ks, rfl, h1, h2, h3⟩ := keys_of ds _ _ h
    refine ⟨(c, s) :: ks, rfl, fun k hk => ?_, ?_, fun k hk => ?_⟩
    · rcases List.mem_cons.mp hk with rfl | hk
      · exact ⟨h0, h4, hs⟩
      · exact h1 k hk
    · rw [List.map_cons, List.nodup_cons]
      refine ⟨fun hm => ?_, h2⟩
      obtain ⟨k, hk, e⟩ := List.mem_map.mp hm
      exact h3 k hk (List.mem_append.mpr (.inr (List.mem_singleton.mpr e)))
    · rcases List.mem_cons.mp hk with rfl | hk
      · exact hc
      · exact fun hm => h3 k hk (List.mem_append.mpr (.inl hm))
theorem ord_of {d : PyData} (h : ordBad d = none) : ∃ (ks : List Ky) (s : Str), d = ordD ks s ∧ KOk 4 ks ∧ s ∈ dirsD := by
  cases d with
  | tuple ds =>
    cases hl : ds.getLast? with
    | none => simp [ordBad, hl] at h
    | some l =>
    cases hk : keysBad [] ds.dropLast 0 with
    | some j => simp [ordBad, hl, hk] at h
    | none =>
    have hp : isPl l = true := by simpa [ordBad, hl, hk] using h
    obtain ⟨ks, e, h1, h2, _⟩ := keys_of _ _ _ hk
    obtain ⟨s, rfl, hs⟩ := isPl_of hp
    refine ⟨ks, s, ?_, ⟨h2, h1⟩, hs⟩
    obtain ⟨ys, rfl⟩ := List.getLast?_eq_some_iff.mp hl
    rw [List.dropLast_concat] at e
    rw [ordD, ← e]
  | _ => cases h
theorem few_keys {n : Nat} {ks : List Ky} (h : KOk n ks) : ks.length ≤ n := by
  have := nodup_le (ks.map (·.1)) ((List.range n).map fun i => ((i : Nat) : Int)) h.nd fun x hx => by
    obtain ⟨k, hk, rfl⟩ := List.mem_map.mp hx
    have := h.rg k hk
    exact List.mem_map.mpr ⟨k.1.toNat, List.mem_range.mpr (by omega), by omega⟩
  simpa using this
/-! ### the columns that are not below -/
theorem cols_lc (o : Option DV) : ∀ ks : List Ky, lcD (gTupD 2 (gsCons (gSet 1) (gsCons (gSet 2) gsNil))) fYes (rdF 1) [1, 2] (ks.map kd) [o, none, none] = some (ks.map (fun k => .int k.1), [o, none, none])
  | [] => rfl
  | k :: ks => by
    have ih := cols_lc o ks
    rw [List.map_cons, lcD]
    show (lcD (gTupD 2 (gsCons (gSet 1) (gsCons (gSet 2) gsNil))) fYes (rdF 1) [1, 2] (ks.map kd) [o, none, none]).map _ = _
    rw [ih]
    rfl
theorem cut_last (xs : List PyData) (y : PyData) : cutD (xs ++ [y]) none (some (-1)) = xs := by
  rw [cut_init, List.dropLast_concat]
theorem columns_of_spec {ks : List Ky} {s : Str} (hl : ks.length ≤ 4) : m_columns_of [ordD ks s] = some (.list ((ks.map (·.1)).map .int)) := by
  rw [List.map_map]
  refine ev_runF (env := [some (.fr (ordD ks s)), none, none]) rfl (ev_ret (ev_frz ?_))
  have hc := cut_last (ks.map kd) (plD s)
  have hl' : ks.length ≤ 100000 := by omega
  have e := cols_lc (some (.fr (ordD ks s))) ks
  simp [nLc, iSeq, fSl, rdF, oNone, oSome, fNeg, fC, startE, slD, ordD, hc, seqD, lim, hl', wipeE] at e ⊢
  exact e
def gone (w : Int) (cs : List Int) : List Int := cs.filter fun c => decide (w ≤ c)
theorem below_ok {cs : List Int} {w : Int} (hl : cs.length ≤ 100000) : m_check_columns_below [.list (cs.map .int), .int w] = some (match minI (gone w cs) with
    | none => .ok .none
    | some m => .ex "MissingColumn" "column" (.int m)) := by
  let E (a : Option DV) : DEnv := [some (.fr (.list (cs.map .int))), some (.fr (.int w)), a, none]
  have e := lc_flt (i := 3) (ft := fTst (fBin geD (rdF 3) (rdF 1))) (fe := rdF 3) (e := PyData.int) (q := PyData.int) (p := fun c => decide (w ≤ c)) (env := E none) rfl cs (fun c _ => ev_tst (d := .bool (decide (w ≤ c))) (ev_bin rfl rfl rfl) rfl) fun c _ _ => rfl
  have s1 : sSetN 2 (nLc (iSeq (rdF 0)) (gSet 3) (fTst (fBin geD (rdF 3) (rdF 1))) (rdF 3) [3]) (E none) = some (.nx (E (some (.ow ((gone w cs).map .int))))) := ev_setN (ev_lc (ev_seqI (d := .list (cs.map .int)) rfl rfl) (by rw [List.length_map]; exact hl) rfl e) rfl
  generalize gone w cs = B at s1
  cases B with
  | nil => exact ev_runX0 rfl (env := E (some (.ow []))) (ev_seq s1 (ev_ifF (ev_truN rfl rfl) rfl))
  | cons b B' =>
    have hmin : ∃ m, minI (b :: B') = some m := by
      clear s1
      induction B' generalizing b with
      | nil => exact ⟨b, rfl⟩
      | cons x xs ih => obtain ⟨m, e⟩ := ih x; exact ⟨_, by show (minI (x :: xs)).map _ = _; rw [e]; rfl⟩
    obtain ⟨m, em⟩ := hmin
    rw [em]
    have m2 : minLD [.list ((b :: B').map .int)] = some (.int m) := by show (intsL ((b :: B').map .int)).bind _ = _; rw [intsL_map]; show (minI (b :: B')).map _ = _; rw [em]; rfl
    refine ev_runXX rfl (env := E (some (.fr (.list ((b :: B').map .int))))) (ev_seq s1 (ev_ifT (ev_truN rfl rfl) ?_))
    unfold sRaise
    rw [ev_cb (o := minLD) (fa := fCons (rdF 2) fNil) (env := E (some (.ow ((b :: B').map .int)))) (ds := [.list ((b :: B').map .int)]) (e1 := E (some (.fr (.list ((b :: B').map .int))))) (ev_cons rfl ev_nil) m2]
    rfl
theorem sort_head : ∀ {B : List Int} {m : Int}, minI B = some m → ∃ r, sortI B = m :: r := by
  intro B m h
  obtain ⟨h1, h2⟩ := minI_is h
  have hp : (sortI B).Perm B := List.mergeSort_perm _ _
  have hs : (sortI B).Pairwise (· ≤ ·) := by
    have := List.pairwise_mergeSort (le := fun a b : Int => decide (a ≤ b)) (fun a b c h1 h2 => by simp only [decide_eq_true_eq] at *; omega) (fun a b => by simp only [Bool.or_eq_true, decide_eq_true_eq]; omega) B
    exact this.imp fun h => by simpa using h
  cases e : sortI B with
  | nil => rw [e] at hp; rw [← List.Perm.nil_eq hp] at h1; simp at h1
  | cons x r =>
    rw [e] at hp hs
    rw [List.pairwise_cons] at hs
    have a : m ≤ x := h2 x (hp.mem_iff.mp List.mem_cons_self)
    have b : x ≤ m := by
      rcases List.mem_cons.mp (hp.mem_iff.mpr h1) with rfl | hm
      · omega
      · exact hs.1 m hm
    exact ⟨r, by rw [show x = m by omega]⟩
theorem minI_none {B : List Int} (h : minI B = none) : B = [] := by
  cases B with
  | nil => rfl
  | cons b B' =>
    exfalso
    induction B' generalizing b with
    | nil => cases h
    | cons x xs ih =>
      refine ih x ?_
      have h : (minI (x :: xs)).map _ = none := h
      exact Option.map_eq_none_iff.mp h
end DL
end L2


set_option Elab.async false
set_option maxRecDepth 100000
set_option maxHeartbeats 4000000
set_option autoImplicit false
namespace L2
namespace DL
open PySem PySem.Spec PyProof.Rows
local instance labNone_K05S : Lab := { w := none, T := [], gd := True }
namespace TB
/-! ### tables, orders and keys as mathematics -/
abbrev Tab := List (List Int)
def rowD (r : List Int) : PyData := .tuple (r.map .int)
def tabD (t : Tab) : PyData := .tuple (t.map rowD)
def sg (d : Str) (x : Int) : Int := if d = "up" then x else -x
def cellT (t : Tab) (i : Nat) (c : Int) : Int := (t.getD i []).getD c.toNat 0
def kvs (t : Tab) (ks : List Ky) (i : Nat) : List Int := ks.map fun k => sg k.2 (cellT t i k.1)
def kv (t : Tab) (ks : List Ky) (s : Str) (i : Nat) : List Int := kvs t ks i ++ [sg s i]
structure TabW (w : Nat) (t : Tab) : Prop where
  l1 : 1 ≤ t.length
  l2 : t.length ≤ 30
  w1 : 1 ≤ w
  w5 : w ≤ 5
  row : ∀ r ∈ t, r.length = w
theorem TabW.tab {w : Nat} {t : Tab} (h : TabW w t) : TabI (t.map rowD) := by
  refine ⟨by rw [List.length_map]; exact h.l1, by rw [List.length_map]; exact h.l2, w, h.w1, h.w5, fun r hr => ?_⟩
  obtain ⟨is, hi, rfl⟩ := List.mem_map.mp hr
  exact ⟨is, rfl, h.row is hi⟩
theorem rows_of {w : Nat} : ∀ {rs : List PyData}, (∀ r ∈ rs, RowI w r) → ∃ t : Tab, rs = t.map rowD ∧ ∀ r ∈ t, r.length = w
  | [], _ => ⟨[], rfl, fun _ h => nomatch h⟩
  | r :: rs, h => by
    obtain ⟨t, rfl, ht⟩ := rows_of (rs := rs) fun x hx => h x (List.mem_cons_of_mem _ hx)
    obtain ⟨is, rfl, hl⟩ := h r List.mem_cons_self
    refine ⟨is :: t, rfl, fun r hr => ?_⟩
    rcases List.mem_cons.mp hr with rfl | hr
    · exact hl
    · exact ht r hr
theorem TabI.tabW {rs : List PyData} (h : TabI rs) : ∃ w t, rs = List.map rowD t ∧ TabW w t := by
  obtain ⟨w, w1, w5, hr⟩ := h.row
  obtain ⟨t, rfl, ht⟩ := rows_of hr
  have l1 := h.l1
  have l2 := h.l2
  rw [List.length_map] at l1 l2
  exact ⟨w, t, rfl, l1, l2, w1, w5, ht⟩
/-! ### what the program's defs give -/
theorem at_nat {α : Type} {l : List α} {i : Nat} (h : i < l.length) : atI l (i : Int) = some l[i] := by
  have h1 : (i : Int) < (l.length : Int) := by omega
  simp [atI, ixN, h1, h]
theorem at_row {w : Nat} {t : Tab} (h : TabW w t) {i : Nat} (hi : i < t.length) : ixD (tabD t) (.int i) = some (rowD (t.getD i [])) := by
  show atI (t.map rowD) (i : Int) = _
  rw [at_nat (by rw [List.length_map]; exact hi), List.getElem_map]
  congr 2
  rw [List.getD_eq_getElem?_getD, List.getElem?_eq_getElem hi]
  rfl
theorem at_cell {w : Nat} {t : Tab} (h : TabW w t) {i : Nat} (hi : i < t.length) {c : Int} (c0 : 0 ≤ c) (c1 : c < w) : ixD (rowD (t.getD i [])) (.int c) = some (.int (cellT t i c)) := by
  have hr : t.getD i [] ∈ t := by
    rw [List.getD_eq_getElem?_getD, List.getElem?_eq_getElem hi]
    exact List.getElem_mem hi
  have hl := h.row _ hr
  obtain ⟨k, rfl⟩ : ∃ k : Nat, c = k := ⟨c.toNat, by omega⟩
  have hk : k < (t.getD i []).length := by omega
  show atI ((t.getD i []).map PyData.int) (k : Int) = _
  rw [at_nat (by rw [List.length_map]; exact hk), List.getElem_map]
  congr 2
  unfold cellT
  rw [Int.toNat_natCast]
  exact (List.getElem_eq_getD (h := hk) 0)
theorem ne_place (c : Int) : eqD (.int c) (.str "place") = some (.bool false) := by
  have h1 : shD (.int c) = true := (ly_int c).sh (by decide)
  have h2 : shD (.str "place") = true := by decide +kernel
  show ((if shD (.int c) && shD (.str "place") then some (PyData.eqv (.int c) (.str "place")) else none).map PyData.bool) = _
  rw [h1, h2]
  rfl
abbrev svBody := sSeq (sSet 6 (fIf (fTst (fBin eqD (rdF 4) (fC (.str "place")))) (rdF 2) (fBin ixD (fIxN 0 (rdF 2)) (rdF 4)))) (sApp 3 (fIf (fTst (fBin eqD (rdF 5) (fC (.str "up")))) (rdF 6) (fNeg (rdF 6))))
theorem sv_app {a b c d : Option DV} {x : Int} {s : Str} {fs : List PyData} (hl : fs.length < 1000) : sApp 3 (fIf (fTst (fBin eqD (rdF 5) (fC (.str "up")))) (rdF 6) (fNeg (rdF 6))) [a, b, c, some (.ow fs), d, some (.fr (.str s)), some (.fr (.int x))] = some (.nx [a, b, c, some (.ow (fs ++ [.int (sg s x)])), d, some (.fr (.str s)), some (.fr (.int x))]) := by
  have hl' : fs.length < 100000 := by omega
  by_cases h : s = "up"
  · subst h
    simp [sApp, rdO, wrO, fIf, fTst, fBin, eqD, eqB, rdF, fC, truthD, lim, hl', sg]
  · simp [sApp, rdO, wrO, fIf, fTst, fBin, eqD, eqB, rdF, fC, truthD, lim, hl', sg, h, fNeg]
theorem sv_turn {w : Nat} {t : Tab} (ht : TabW w t) {i : Nat} (hi : i < t.length) {o z3 : Option DV} {k : Ky} (h0 : 0 ≤ k.1) (h1 : k.1 < w) {fs : List PyData} (hl : fs.length < 1000) :
    svBody [some (.fr (tabD t)), o, some (.fr (.int i)), some (.ow fs), some (.fr (.int k.1)), some (.fr (.str k.2)), z3] = some (.nx [some (.fr (tabD t)), o, some (.fr (.int i)), some (.ow (fs ++ [.int (sg k.2 (cellT t i k.1))])), some (.fr (.int k.1)), some (.fr (.str k.2)), some (.fr (.int (cellT t i k.1)))]) := by
  refine ev_seq (e1 := [some (.fr (tabD t)), o, some (.fr (.int i)), some (.ow fs), some (.fr (.int k.1)), some (.fr (.str k.2)), some (.fr (.int (cellT t i k.1)))]) ?_ (sv_app hl)
  have e1 := ne_place k.1
  have e2 := at_row ht hi
  have e3 := at_cell ht hi h0 h1
  simp [sSet, fIf, fTst, fBin, rdF, fC, e1, truthD, fIxN, rdB, e2]
  simpa using e3
theorem sv_last {t : Tab} {i : Nat} {o z3 : Option DV} {s : Str} {fs : List PyData} (hl : fs.length < 1000) :
    svBody [some (.fr (tabD t)), o, some (.fr (.int i)), some (.ow fs), some (.fr (.str "place")), some (.fr (.str s)), z3] = some (.nx [some (.fr (tabD t)), o, some (.fr (.int i)), some (.ow (fs ++ [.int (sg s i)])), some (.fr (.str "place")), some (.fr (.str s)), some (.fr (.int i))]) := by
  refine ev_seq (e1 := [some (.fr (tabD t)), o, some (.fr (.int i)), some (.ow fs), some (.fr (.str "place")), some (.fr (.str s)), some (.fr (.int i))]) ?_ (sv_app hl)
  simp [sSet, fIf, fTst, fBin, rdF, fC, eqD, eqB, truthD]
theorem sv_loop {w : Nat} {t : Tab} (ht : TabW w t) {i : Nat} (hi : i < t.length) {o : Option DV} {s : Str} : ∀ (ks : List Ky) (fs : List PyData) (z1 z2 z3 : Option DV), (∀ k ∈ ks, 0 ≤ k.1 ∧ k.1 < (w : Int)) → fs.length + ks.length < 900 →
    ∃ z1' z2' z3', forD (gTupD 2 (gsCons (gSet 4) (gsCons (gSet 5) gsNil))) svBody (ks.map kd ++ [plD s]) [some (.fr (tabD t)), o, some (.fr (.int i)), some (.ow fs), z1, z2, z3] = some (.nx [some (.fr (tabD t)), o, some (.fr (.int i)), some (.ow (fs ++ (kv t ks s i).map .int)), z1', z2', z3'])
  | [], fs, z1, z2, z3, _, hl => ⟨_, _, _, ev_forN rfl (sv_last (by rw [List.length_nil] at hl; omega)) rfl⟩
  | k :: ks, fs, z1, z2, z3, h, hl => by
    rw [List.length_cons] at hl
    obtain ⟨h0, h1⟩ := h k List.mem_cons_self
    obtain ⟨a, b, c, e⟩ := sv_loop ht hi (o := o) (s := s) ks (fs ++ [.int (sg k.2 (cellT t i k.1))]) (some (.fr (.int k.1))) (some (.fr (.str k.2))) (some (.fr (.int (cellT t i k.1)))) (fun x hx => h x (List.mem_cons_of_mem _ hx)) (by rw [List.length_append]; show fs.length + 1 + _ < _; omega)
    refine ⟨a, b, c, ev_forN rfl (sv_turn ht hi h0 h1 (by omega)) (e.trans ?_)⟩
    rw [List.append_assoc]
    rfl
theorem sort_values_spec {w : Nat} {t : Tab} (ht : TabW w t) {i : Nat} (hi : i < t.length) {ks : List Ky} {s : Str} (hk : ∀ k ∈ ks, 0 ≤ k.1 ∧ k.1 < (w : Int)) (hl : ks.length ≤ 4) : m_sort_values [tabD t, ordD ks s, .int i] = some (.tuple ((kv t ks s i).map .int)) := by
  obtain ⟨a, b, c, e⟩ := sv_loop ht hi (o := some (.fr (ordD ks s))) (s := s) ks [] none none none hk (by rw [List.length_nil]; omega)
  refine ev_runF rfl (ev_seq (e1 := [some (.fr (tabD t)), some (.fr (ordD ks s)), some (.fr (.int i)), some (.ow []), none, none, none]) rfl (ev_seq (ev_for rfl e) (ev_ret (e1 := _) (ev_cb (ev_cons rfl ev_nil) ?_))))
  rfl
theorem sort_list (n : Nat) (key : Nat → List Int) : sortD (rangeD 0 n) ((List.range n).map fun i => .tuple ((key i).map .int)) = (plc n key).map fun i : Nat => PyData.int i := by
  have e := PySem.W.sort_maps (r := PySem.W.dataLe false fun i : Nat => PyData.tuple ((key i).map .int)) (s := PySem.W.dataLe false fun b : PyData × PyData => b.2) (fun i : Nat => (PyData.int (0 + (i : Nat)), PyData.tuple ((key i).map .int))) (l := List.range n) fun _ _ _ _ => rfl
  have ez : (rangeD 0 n).zip ((List.range n).map fun i => PyData.tuple ((key i).map .int)) = (List.range n).map fun i : Nat => (PyData.int (0 + (i : Nat)), PyData.tuple ((key i).map .int)) := by
    unfold rangeD
    rw [List.zip_map']
  unfold sortD
  rw [ez, ← e, List.map_map]
  refine List.map_congr_left fun i _ => ?_
  show PyData.int (0 + (i : Nat)) = _
  rw [Int.zero_add]
theorem all_ints {n : Nat} {key : Nat → List Int} (h : ∀ i, i < n → key i ≠ []) : ((List.range n).map fun i => PyData.tuple ((key i).map .int)).all intsT = true := by
  rw [List.all_eq_true]
  intro d hd
  obtain ⟨i, hi, rfl⟩ := List.mem_map.mp hd
  have := h i (List.mem_range.mp hi)
  cases e : key i with
  | nil => exact absurd e this
  | cons x xs =>
    simp [intsT]
theorem keys_imgO {α : Type} {fb : DEnv → Option (PyData × DEnv)} {env : DEnv} {e g : α → PyData} : ∀ xs : List α, (∀ x ∈ xs, keyOf fb env (e x) = some (g x)) → keysD fb env (xs.map e) = some (xs.map g)
  | [], _ => rfl
  | x :: xs, h => by
    rw [List.map_cons, keysD, h x List.mem_cons_self]
    show (keysD fb env (xs.map e)).map _ = _
    rw [keys_imgO xs fun y hy => h y (List.mem_cons_of_mem _ hy)]
    rfl
theorem range_int (n : Nat) : rangeD 0 n = (List.range n).map fun i : Nat => PyData.int i := by
  unfold rangeD
  refine List.map_congr_left fun i _ => ?_
  rw [Int.zero_add]
theorem every_spec {w : Nat} {t : Tab} (ht : TabW w t) : m_every_place [tabD t] = some (.tuple (rangeD 0 t.length)) := by
  have hl := ht.l2
  refine ev_runF (env := [some (.fr (tabD t))]) rfl (ev_ret ?_)
  exact ev_tupRg (j := t.length) (e1 := [some (.fr (tabD t))]) (ev_lenN rfl (by show some (PyData.int ((t.map rowD).length : Nat)) = _; rw [List.length_map])) (by omega)
theorem sorted_all {w : Nat} {t : Tab} (ht : TabW w t) {ks : List Ky} {s : Str} (hk : ∀ k ∈ ks, 0 ≤ k.1 ∧ k.1 < (w : Int)) (hl : ks.length ≤ 4) : m_sorted_places [tabD t, .tuple (rangeD 0 t.length), ordD ks s] = some (.tuple ((plc t.length (kv t ks s)).map fun i : Nat => PyData.int i)) := by
  have ek := keys_imgO (fb := fCB m_sort_values (fCons (rdF 0) (fCons (rdF 2) (fCons (rdF 3) fNil)))) (env := [some (.fr (tabD t)), some (.fr (.tuple (rangeD 0 t.length))), some (.fr (ordD ks s))]) (e := fun i : Nat => PyData.int i) (g := fun i => PyData.tuple ((kv t ks s i).map .int)) (List.range t.length) fun i hi => by
    have e := sort_values_spec ht (i := i) (List.mem_range.mp hi) (s := s) hk hl
    unfold keyOf
    rw [ev_cb (o := m_sort_values) (ds := [tabD t, ordD ks s, .int i]) (e1 := [some (.fr (tabD t)), some (.fr (.tuple (rangeD 0 t.length))), some (.fr (ordD ks s)), some (.fr (.int i))]) rfl e]
    rfl
  have ea := all_ints (n := t.length) (key := kv t ks s) fun i _ h => by
    unfold kv at h
    exact absurd (List.append_eq_nil_iff.mp h).2 (by simp)
  have es : nSortT (rdF 1) (fCB m_sort_values (fCons (rdF 0) (fCons (rdF 2) (fCons (rdF 3) fNil)))) [some (.fr (tabD t)), some (.fr (.tuple (rangeD 0 t.length))), some (.fr (ordD ks s))] = some ((plc t.length (kv t ks s)).map fun i : Nat => PyData.int i, [some (.fr (tabD t)), some (.fr (.tuple (rangeD 0 t.length))), some (.fr (ordD ks s))]) := by
    show (keysD _ _ (rangeD 0 t.length)).bind _ = _
    have ek2 := ek
    rw [← range_int] at ek2
    rw [ek2]
    show (if _ then _ else none) = _
    rw [if_pos ea, sort_list]
  exact ev_runF (env := [some (.fr (tabD t)), some (.fr (.tuple (rangeD 0 t.length))), some (.fr (ordD ks s))]) rfl (ev_ret (ev_cb (ev_cons (ev_frz es) ev_nil) rfl))
def pickT (t : Tab) (l : List Nat) : Tab := l.map fun i => t.getD i []
theorem records_spec {w : Nat} {t : Tab} (ht : TabW w t) {l : List Nat} (hl : ∀ i ∈ l, i < t.length) (hn : l.length ≤ 1000) : m_records_at [tabD t, .tuple (l.map fun i : Nat => PyData.int i)] = some (tabD (pickT t l)) := by
  have e := lc_img (i := 2) (fe := fIxN 0 (rdF 2)) (e := fun i : Nat => PyData.int i) (q := fun i => rowD (t.getD i [])) (env := [some (.fr (tabD t)), some (.fr (.tuple (l.map fun i : Nat => PyData.int i))), none]) rfl l fun i hi => ev_ixN rfl rfl rfl (at_row ht (hl i hi))
  refine ev_runF (env := [some (.fr (tabD t)), some (.fr (.tuple (l.map fun i : Nat => PyData.int i))), none]) rfl (ev_ret (ev_cb (ev_cons (ev_frz (ev_lc (ev_seqI rfl rfl) (by rw [List.length_map]; show _ ≤ 100000; omega) rfl e)) ev_nil) ?_))
  unfold tabD pickT
  rw [List.map_map]
  rfl
end TB
end DL
end L2


set_option Elab.async false
set_option maxRecDepth 100000
set_option maxHeartbeats 4000000
set_option autoImplicit false
namespace L2
namespace DL
open PySem PySem.Spec PyProof.Rows
local instance labNone_K05G : Lab := { w := none, T := [], gd := True }
/-! ### what _law_caught answers -/
abbrev mtT := mt3 mt_TableError mt_FindError mt_LimitError
abbrev cgt (fX : DEnv → Option DX) := fCaught mtT at_ex 1 4 mr__law_caught fX
def toldD : PyData := .tuple [.str "told", .str ""]
def codD (i : Int) (s : PyData) : PyData := .tuple [.int i, s]
section
variable {fX : DEnv → Option DX} {env e1 : DEnv} {d s : PyData}
theorem cgt_ok (h : fX env = some (.ok d e1)) : cgt fX env = some (toldD, e1) := by
  show fCaught _ _ _ _ _ _ _ = _
  unfold fCaught; rw [h]; kernel_rfl
theorem cgt_ex {c a : Str} {r : PyData} {ez : DEnv} (hm : mtT c = some true) (ha : a = at_ex c) (h : fX env = some (.ex c a d e1)) (hr : mr__law_caught [none, some (.fr (excD c a d)), none, none] = some (.rt r ez)) : cgt fX env = some (r, e1) := by
  show fCaught _ _ _ _ _ _ _ = _
  unfold fCaught; rw [h]
  show (if mtT c = some true ∧ a = at_ex c then (retD (mr__law_caught ((List.replicate 4 none).set 1 (some (.fr (excD c a d)))))).map (fun d' => (d', e1)) else none) = _
  rw [if_pos ⟨hm, ha⟩]
  show (retD (mr__law_caught [none, some (.fr (excD c a d)), none, none])).map (fun d' => (d', e1)) = _
  rw [hr]; rfl
theorem kd_tab (d : PyData) : m__law_kind [excD "InvalidTable" "index" d] = some (.int 0) := by kernel_rfl
theorem kd_ord (d : PyData) : m__law_kind [excD "InvalidOrder" "index" d] = some (.int 2) := by kernel_rfl
theorem kd_mis (d : PyData) : m__law_kind [excD "MissingColumn" "column" d] = some (.int 12) := by kernel_rfl
theorem cgt_tab (h : fX env = some (.ex "InvalidTable" "index" d e1)) (hr : reprE [d] = some s) : cgt fX env = some (codD 0 s, e1) := by
  let E (k : Option DV) : DEnv := [none, some (.fr (excD "InvalidTable" "index" d)), k, none]
  let E1 : DEnv := E (some (.fr (.int 0)))
  have q : fCB reprE (fCons (fExA "index" (rdF 1)) fNil) E1 = some (s, E1) := ev_cb (ev_cons (by kernel_rfl) ev_nil) hr
  have q2 : sRet (fTup (fCons (rdF 2) (fCons (fCB reprE (fCons (fExA "index" (rdF 1)) fNil)) fNil))) E1 = some (.rt (codD 0 s) E1) := ev_ret (ev_tup (ev_cons rfl (ev_cons q ev_nil)) (by show 2 ≤ 100000; decide))
  refine cgt_ex (ez := E1) (by kernel_rfl) (by kernel_rfl) h (ev_seq (e1 := E none) (ev_ifF (ev_tst (d := .bool false) (by kernel_rfl) rfl) rfl) (ev_seq (e1 := E1) (ev_setE (ev_cb (ev_cons rfl ev_nil) (kd_tab d)) rfl) ?_))
  exact ev_seqR (ev_ifT (ev_tst (d := .bool true) (by kernel_rfl) rfl) q2)
theorem cgt_ord (h : fX env = some (.ex "InvalidOrder" "index" d e1)) (hr : reprE [d] = some s) : cgt fX env = some (codD 2 s, e1) := by
  let E (k : Option DV) : DEnv := [none, some (.fr (excD "InvalidOrder" "index" d)), k, none]
  let E1 : DEnv := E (some (.fr (.int 2)))
  have q : fCB reprE (fCons (fExA "index" (rdF 1)) fNil) E1 = some (s, E1) := ev_cb (ev_cons (by kernel_rfl) ev_nil) hr
  have q2 : sRet (fTup (fCons (rdF 2) (fCons (fCB reprE (fCons (fExA "index" (rdF 1)) fNil)) fNil))) E1 = some (.rt (codD 2 s) E1) := ev_ret (ev_tup (ev_cons rfl (ev_cons q ev_nil)) (by show 2 ≤ 100000; decide))
  refine cgt_ex (ez := E1) (by kernel_rfl) (by kernel_rfl) h (ev_seq (e1 := E none) (ev_ifF (ev_tst (d := .bool false) (by kernel_rfl) rfl) rfl) (ev_seq (e1 := E1) (ev_setE (ev_cb (ev_cons rfl ev_nil) (kd_ord d)) rfl) ?_))
  exact ev_seqR (ev_ifT (ev_tst (d := .bool true) (by kernel_rfl) rfl) q2)
theorem cgt_mis (h : fX env = some (.ex "MissingColumn" "column" d e1)) (hr : reprE [d] = some s) : cgt fX env = some (codD 12 s, e1) := by
  let E (k : Option DV) : DEnv := [none, some (.fr (excD "MissingColumn" "column" d)), k, none]
  let E1 : DEnv := E (some (.fr (.int 12)))
  have q : fCB reprE (fCons (fExA "column" (rdF 1)) fNil) E1 = some (s, E1) := ev_cb (ev_cons (by kernel_rfl) ev_nil) hr
  have q2 : sRet (fTup (fCons (rdF 2) (fCons (fCB reprE (fCons (fExA "column" (rdF 1)) fNil)) fNil))) E1 = some (.rt (codD 12 s) E1) := ev_ret (ev_tup (ev_cons rfl (ev_cons q ev_nil)) (by show 2 ≤ 100000; decide))
  refine cgt_ex (ez := E1) (by kernel_rfl) (by kernel_rfl) h (ev_seq (e1 := E none) (ev_ifF (ev_tst (d := .bool false) (by kernel_rfl) rfl) rfl) (ev_seq (e1 := E1) (ev_setE (ev_cb (ev_cons rfl ev_nil) (kd_mis d)) rfl) ?_))
  refine ev_seq (e1 := E1) (ev_ifF (ev_tst (d := .bool false) (by kernel_rfl) rfl) rfl) ?_
  refine ev_seq (e1 := E1) (ev_ifF (ev_tst (d := .bool false) (by kernel_rfl) rfl) rfl) ?_
  exact ev_seqR (ev_ifT (ev_tst (d := .bool true) (by kernel_rfl) rfl) q2)
end
end DL
end L2


set_option Elab.async false
set_option maxRecDepth 100000
set_option maxHeartbeats 4000000
set_option autoImplicit false
namespace L2
namespace DL
open PySem PySem.Spec PyProof.Rows
local instance labNone_K05I : Lab := { w := none, T := [], gd := True }
theorem dir_cases {s : Str} (h : s ∈ dirsD) : s = "up" ∨ s = "down" := by simpa [dirsD] using h
theorem dir_is {s : Str} (h : s ∈ dirsD) : isDir (.str s) = true ∧ PyData.strOk s = true := by
  rcases dir_cases h with rfl | rfl <;> exact ⟨by decide +kernel, by decide +kernel⟩
theorem kd_cl {n : Int} {ks : List Ky} (hk : KOk n ks) {s : Str} (hs : s ∈ dirsD) : ∀ x ∈ ks.map kd ++ [plD s], x.canLay = true := fun x hx => by
  rcases List.mem_append.mp hx with z | z
  · obtain ⟨k, h1, rfl⟩ := List.mem_map.mp z
    have := (dir_is (hk.rg k h1).2.2).2
    simp [kd, PyData.canLay, PyData.canLayAll, this]
  · rw [List.mem_singleton] at z
    rw [z]
    have := (dir_is hs).2
    have h2 : PyData.strOk "place" = true := by decide +kernel
    simp [plD, PyData.canLay, PyData.canLayAll, this, h2]
theorem kd_len {ks : List Ky} {s : Str} : ∀ d0 xs, d0 ∈ ks.map kd ++ [plD s] → d0 = .tuple xs → xs.length ≤ 100 := fun d0 xs hx e => by
  subst e
  rcases List.mem_append.mp hx with z | z
  · obtain ⟨k, h1, h2⟩ := List.mem_map.mp z
    cases h2
    simp
  · rw [List.mem_singleton] at z
    cases z
    simp
theorem keys_none : ∀ (ks : List Ky) (seen : List Int) (k : Nat), (∀ k ∈ ks, 0 ≤ k.1 ∧ k.1 < 4 ∧ k.2 ∈ dirsD) → (seen ++ ks.map (·.1)).Nodup → keysBad seen (ks.map kd) k = none
  | [], _, _, _, _ => rfl
  | x :: ks, seen, k, h, nd => by
    obtain ⟨h0, h1, h2⟩ := h x List.mem_cons_self
    have hnot : x.1 ∉ seen := fun z => by
      rw [List.map_cons, List.nodup_append] at nd
      exact nd.2.2 x.1 z x.1 List.mem_cons_self rfl
    have hk : keyOk seen (kd x) = true := by
      rw [keyOk, show decide (colOf (kd x) ∈ seen) = false from decide_eq_false hnot]
      have := (dir_is h2).1
      simp [isKey, kd, isCol, h0, h1, this]
    rw [List.map_cons, keysBad, hk]
    exact keys_none ks (seen ++ [x.1]) (k + 1) (fun y hy => h y (List.mem_cons_of_mem _ hy)) (by rw [List.append_assoc]; exact nd)
theorem ord_good {ks : List Ky} (hk : KOk 4 ks) {s : Str} (hs : s ∈ dirsD) : ordBad (ordD ks s) = none := by
  unfold ordBad ordD
  dsimp only
  rw [List.getLast?_concat, List.dropLast_concat, keys_none ks [] 0 hk.rg (by simpa using hk.nd)]
  have : isPl (plD s) = true := by simp [isPl, plD, isPlw, (dir_is hs).1]
  dsimp only
  rw [this]
  rfl
/-! ### orders_right -/
theorem bad_lt : ∀ (ds : List PyData) (seen : List Int) (i j : Nat), keysBad seen ds i = some j → j < i + ds.length
  | [], _, _, _, h => by cases h
  | d :: ds, seen, i, j, h => by
    rw [keysBad] at h
    rw [List.length_cons]
    split at h
    · have := bad_lt ds _ _ _ h; omega
    · cases h; omega
theorem bad_small {d x : PyData} (ht : Th d) (h : ordBad d = some x) : x = .none ∨ ∃ j : Nat, j ≤ 100 ∧ x = .int j := by
  cases d with
  | tuple ds =>
    have hl := ht.ln ds rfl
    cases hg : ds.getLast? with
    | none => simp [ordBad, hg] at h; exact .inl h.symm
    | some l =>
    have h1 : 1 ≤ ds.length := by cases ds with
      | nil => simp at hg
      | cons _ _ => simp
    cases hk : keysBad [] ds.dropLast 0 with
    | some j =>
      simp [ordBad, hg, hk] at h
      have := bad_lt _ _ _ _ hk
      rw [List.length_dropLast] at this
      exact .inr ⟨j, by omega, h.symm⟩
    | none =>
      simp [ordBad, hg, hk] at h
      exact .inr ⟨ds.length - 1, by omega, by rw [← h.2]; congr 1; omega⟩
  | _ => cases h; exact .inl rfl
theorem rep_ok : ∀ i : Nat, i < 101 → reprOkE (.int (i : Nat)) = true := by decide +kernel
theorem rep_of {x : PyData} (h : x = .none ∨ ∃ j : Nat, j ≤ 100 ∧ x = .int j) : ∃ s, reprE [x] = some (.str s) ∧ Ly 0 (.str s) := by
  rcases h with rfl | ⟨j, hj, rfl⟩
  · exact ⟨_, rfl, ly_shown rfl⟩
  · refine ⟨(PyData.int (j : Nat)).shown, ?_, ly_shown rfl⟩
    show (if reprOkE (.int (j : Nat)) then some (PyData.str (PyData.int (j : Nat)).shown) else none) = _
    rw [if_pos (rep_ok j (by omega))]
theorem eqD_self {k : Nat} {a : PyData} (ha : Ly k a) (hk : k ≤ 64) : eqD a a = some (.bool true) ∧ neD a a = some (.bool false) := by
  unfold eqD neD; rw [eqB_self ha hk]; exact ⟨rfl, rfl⟩
theorem ly_cod {i : Int} {s : PyData} (h : Ly 0 s) : Ly 1 (codD i s) := Ly.tuple fun d hd => by
  rcases List.mem_cons.mp hd with rfl | hd
  · exact ly_int _
  · rw [List.mem_singleton.mp hd]; exact h
theorem ev_cXK0 {gD : List PyData → List PyData} {m : List PyData → Option XR} {fk : DEnv → Option (List PyData × DEnv)} {env e1 : DEnv} {ds : List PyData} {r : XR} (h : fk env = some (ds, e1)) (h2 : m (gD ds) = some r) : fCXK0 gD m fk env = some (toX e1 r) := by
  unfold fCXK0; rw [h]; show (m (gD ds)).map _ = _; rw [h2]; rfl
theorem ev_sorted {f : DEnv → Option (PyData × DEnv)} {env e1 : DEnv} {ns : List Int} (h : f env = some (.list (ns.map .int), e1)) : nSorted f env = some ((sortI ns).map .int, e1) := by
  unfold nSorted; rw [h]; show (intsL (ns.map PyData.int)).map _ = _; rw [intsL_map]; rfl
theorem ev_ex0 {m : List PyData → Option XR} {fa : DEnv → Option (List PyData × DEnv)} {env e1 : DEnv} {ds : List PyData} {v : PyData} (h : fa env = some (ds, e1)) (h2 : m ds = some (.ok v)) : sExprX (fCX m fa) env = some (.nx e1) := by
  unfold sExprX; rw [ev_cX h h2]; rfl
theorem ev_exE {m : List PyData → Option XR} {fa : DEnv → Option (List PyData × DEnv)} {env e1 : DEnv} {ds : List PyData} {c a : Str} {x : PyData} (h : fa env = some (ds, e1)) (h2 : m ds = some (.ex c a x)) : sExprX (fCX m fa) env = some (.ex c a x e1) := by
  unfold sExprX; rw [ev_cX h h2]; rfl
theorem ev_sx0 {i : Nat} {m : List PyData → Option XR} {fa : DEnv → Option (List PyData × DEnv)} {env e1 e2 : DEnv} {ds : List PyData} {v : PyData} (h : fa env = some (ds, e1)) (h2 : m ds = some (.ok v)) (he : e1.set i (some (.fr v)) = e2) : sSetX i (fCX m fa) env = some (.nx e2) := by
  unfold sSetX; rw [ev_cX h h2, ← he]; rfl
theorem ev_sxE {i : Nat} {m : List PyData → Option XR} {fa : DEnv → Option (List PyData × DEnv)} {env e1 : DEnv} {ds : List PyData} {c a : Str} {x : PyData} (h : fa env = some (ds, e1)) (h2 : m ds = some (.ex c a x)) : sSetX i (fCX m fa) env = some (.ex c a x e1) := by
  unfold sSetX; rw [ev_cX h h2]; rfl
/-! ### good tables -/
theorem ints5_of : ∀ ds : List PyData, ds.all TB.isInt = true → ∃ is : List Int, ds = is.map .int
  | [], _ => ⟨[], rfl⟩
  | d :: ds, h => by
    rw [List.all_cons, Bool.and_eq_true] at h
    obtain ⟨is, rfl⟩ := ints5_of ds h.2
    cases d with
    | int i => exact ⟨i :: is, rfl⟩
    | _ => cases h.1
theorem rec_row {r : PyData} (h : TB.isRec r = true) : ∃ is : List Int, r = .tuple (is.map .int) ∧ 1 ≤ is.length ∧ is.length ≤ 5 := by
  cases r with
  | tuple ds =>
    simp only [TB.isRec, Bool.and_eq_true, decide_eq_true_eq] at h
    obtain ⟨is, rfl⟩ := ints5_of ds h.2
    rw [List.length_map] at h
    exact ⟨is, rfl, h.1.1, h.1.2⟩
  | _ => cases h
theorem bad_rows {w : Nat} : ∀ (rs : List PyData) (i : Nat), TB.badAt w rs i = none → ∀ r ∈ rs, TB.RowI w r
  | [], _, _, _, h => nomatch h
  | r :: rs, i, h, x, hx => by
    rw [TB.badAt] at h
    split at h
    · rename_i hr
      rcases List.mem_cons.mp hx with rfl | hx
      · rw [TB.rowOk, Bool.and_eq_true] at hr
        obtain ⟨is, rfl, _, _⟩ := rec_row hr.1
        have := beq_iff_eq.mp hr.2
        exact ⟨is, rfl, by rw [TB.rowLen, List.length_map] at this; exact this⟩
      · exact bad_rows rs _ h x hx
    · cases h
theorem tab_of {d : PyData} (h : TB.tabBad d = none) : ∃ w t, d = TB.tabD t ∧ TB.TabW w t := by
  cases d with
  | tuple rs =>
    rw [TB.tabBad] at h
    split at h
    · rename_i hl
      have h := Option.map_eq_none_iff.mp h
      cases rs with
      | nil => exact absurd hl.1 (by simp)
      | cons r rs =>
        rw [TB.rowsBad] at h
        split at h
        · rename_i hr
          obtain ⟨is, rfl, a, b⟩ := rec_row hr
          have hw : TB.rowLen (.tuple (is.map PyData.int)) = is.length := by rw [TB.rowLen, List.length_map]
          rw [hw] at h
          have hI : TB.TabI (.tuple (is.map PyData.int) :: rs) := ⟨hl.1, hl.2, is.length, a, b, fun x hx => by
            rcases List.mem_cons.mp hx with rfl | hx
            · exact ⟨is, rfl, rfl⟩
            · exact bad_rows rs _ h x hx⟩
          obtain ⟨w, t, e, ht⟩ := hI.tabW
          exact ⟨w, t, by rw [e]; rfl, ht⟩
        · cases h
    · cases h
  | _ => cases h
theorem badAt_lt {w : Nat} : ∀ (rs : List PyData) (i j : Nat), TB.badAt w rs i = some j → j < i + rs.length
  | [], _, _, h => by cases h
  | r :: rs, i, j, h => by
    rw [TB.badAt] at h
    rw [List.length_cons]
    split at h
    · have := badAt_lt rs _ _ h; omega
    · cases h; omega
theorem tab_small {d x : PyData} (h : TB.tabBad d = some x) : x = .none ∨ ∃ j : Nat, j ≤ 100 ∧ x = .int j := by
  cases d with
  | tuple rs =>
    rw [TB.tabBad] at h
    split at h
    · rename_i hl
      obtain ⟨j, hj, rfl⟩ := mpd h
      refine .inr ⟨j, ?_, rfl⟩
      cases rs with
      | nil => cases hj
      | cons r rs =>
        rw [TB.rowsBad] at hj
        split at hj
        · have := badAt_lt _ _ _ hj
          have := hl.2
          rw [List.length_cons] at this
          omega
        · cases hj; omega
    · cases h; exact .inl rfl
  | _ => cases h; exact .inl rfl
end DL
end L2


set_option Elab.async false
set_option maxRecDepth 100000
set_option maxHeartbeats 4000000
set_option autoImplicit false
namespace L2
namespace DL
open PySem PySem.Spec PyProof.Rows
local instance labNone_K05T : Lab := { w := none, T := [], gd := True }
/-! ### what the asked functions do, as _law_caught tells it -/
def Told (o : Option XR) (u : PyData) : Prop := (∃ x s, o = some (.ex "InvalidTable" "index" x) ∧ reprE [x] = some s ∧ u = codD 0 s) ∨ (∃ x s, o = some (.ex "InvalidOrder" "index" x) ∧ reprE [x] = some s ∧ u = codD 2 s) ∨ (∃ x s, o = some (.ex "MissingColumn" "column" x) ∧ reprE [x] = some s ∧ u = codD 12 s) ∨ ((∃ v, o = some (.ok v)) ∧ u = toldD)
theorem told_cgt {o : Option XR} {u : PyData} (h : Told o u) {fX : DEnv → Option DX} {env : DEnv} (hf : ∀ r, o = some r → fX env = some (toX env r)) : cgt fX env = some (u, env) := by
  rcases h with ⟨x, s, h, hr, rfl⟩ | ⟨x, s, h, hr, rfl⟩ | ⟨x, s, h, hr, rfl⟩ | ⟨⟨v, h⟩, rfl⟩
  · exact cgt_tab (hf _ h) hr
  · exact cgt_ord (hf _ h) hr
  · exact cgt_mis (hf _ h) hr
  · exact cgt_ok (hf _ h)
theorem ly_told : Ly 1 toldD := Ly.tuple (ds := [.str "told", .str ""]) fun d hd => by
  rcases List.mem_cons.mp hd with rfl | hd
  · exact ⟨by decide +kernel, rfl, Nat.le_refl _⟩
  · rw [List.mem_singleton.mp hd]; exact ⟨by decide +kernel, rfl, Nat.le_refl _⟩
theorem ne_fault {x : PyData} (hx : Ly 0 x) : neD (.list [x]) (.list []) = some (.bool true) := by
  have a1 := (Ly.list (ds := [x]) fun d hd => by rw [List.mem_singleton] at hd; rw [hd]; exact hx).sh (by decide)
  show ((if shD (.list [x]) && shD (.list []) then some (PyData.eqv (.list [x]) (.list [])) else none).map fun k => PyData.bool (!k)) = _
  rw [a1, show shD (.list []) = true from rfl]
  rfl
theorem ly_small {x : PyData} (h : x = .none ∨ ∃ j : Nat, j ≤ 100 ∧ x = .int j) : Ly 0 x := by
  rcases h with rfl | ⟨j, _, rfl⟩
  · exact ly_none
  · exact ly_int _
section
variable {d o : PyData}
theorem cc_bad {x : PyData} (h : TB.tabBad d = some x) : m_count_columns [d] = some (.ex "InvalidTable" "index" x) := by
  have e := TB.check_table_spec d
  rw [TB.tabX, h] at e
  exact ev_runXX rfl (ev_seqX (e1 := [some (.fr d)]) (ev_exE (ev_cons rfl ev_nil) e))
theorem row0 {w : Nat} {t : TB.Tab} (ht : TB.TabW w t) : ixD (TB.tabD t) (.int 0) = some (TB.rowD (t.getD 0 [])) ∧ lenD [TB.rowD (t.getD 0 [])] = some (.int w) := by
  have hp : 0 < t.length := ht.l1
  have hl : (t.getD 0 []).length = w := ht.row _ (by rw [List.getD_eq_getElem?_getD, List.getElem?_eq_getElem hp]; exact List.getElem_mem hp)
  refine ⟨TB.at_row ht hp, ?_⟩
  show some (PyData.int ((List.map PyData.int (t.getD 0 [])).length : Int)) = _
  rw [List.length_map, hl]
theorem cc_good {w : Nat} {t : TB.Tab} (ht : TB.TabW w t) : m_count_columns [TB.tabD t] = some (.ok (.int w)) := by
  have e := TB.check_table_spec (TB.tabD t)
  rw [TB.tabX, show TB.tabBad (TB.tabD t) = none from ht.tab.good] at e
  obtain ⟨h1, h2⟩ := row0 ht
  exact ev_runX rfl (ev_seq (e1 := [some (.fr (TB.tabD t))]) (ev_ex0 (ev_cons rfl ev_nil) e) (ev_ret (ev_cb (ev_cons (ev_ixN rfl rfl rfl h1) ev_nil) h2)))
/-- what the table's part of a claim is due -/
theorem due_tab (d : PyData) : ∃ u, Ly 1 u ∧ m__law_table_due [d] = some u ∧ Told (m_count_columns [d]) u := by
  have ef := TB.fault_spec d
  cases hb : TB.tabBad d with
  | none =>
    obtain ⟨w, t, rfl, ht⟩ := tab_of hb
    rw [hb] at ef
    exact ⟨toldD, ly_told, ev_runF (env := [some (.fr (TB.tabD t)), some (.fr (.list []))]) rfl (ev_seq (e1 := [some (.fr (TB.tabD t)), some (.fr (.list []))]) (ev_setE (ev_cb (ev_cons rfl ev_nil) ef) rfl) (by kernel_rfl)), .inr (.inr (.inr ⟨⟨_, cc_good ht⟩, rfl⟩))⟩
  | some x =>
    rw [hb] at ef
    obtain ⟨s, hs, hly⟩ := rep_of (tab_small hb)
    exact ⟨codD 0 (.str s), ly_cod hly, ev_runF rfl (ev_seq (e1 := [some (.fr d), some (.fr (.list [x]))]) (ev_setE (ev_cb (ev_cons rfl ev_nil) ef) rfl) (ev_ret (ev_iff (k := true) (ev_tst (ev_bin rfl rfl (ne_fault (ly_small (tab_small hb)))) rfl) (ev_tup (ev_cons rfl (ev_cons (ev_cb (ev_cons (ev_ixN (d := .list [x]) rfl rfl rfl rfl) ev_nil) hs) ev_nil)) (by show 2 ≤ 100000; decide))))), .inl ⟨x, _, cc_bad hb, hs, rfl⟩⟩
theorem turn_lc (a : Option DV) : ∀ xs : List PyData, (∀ x ∈ xs, ∃ y s, x = .tuple [y, .str s] ∧ s ∈ dirsD) → ∃ r, r.length = xs.length ∧ lcD (gTupD 2 (gsCons (gSet 1) (gsCons (gSet 2) gsNil))) fYes (fTup (fCons (rdF 1) (fCons (fCB m_opposite (fCons (rdF 2) fNil)) fNil))) [1, 2] xs [a, none, none] = some (r, [a, none, none])
  | [], _ => ⟨[], rfl, rfl⟩
  | x :: xs, h => by
    obtain ⟨r, hl, ih⟩ := turn_lc a xs fun y hy => h y (List.mem_cons_of_mem _ hy)
    obtain ⟨y, s, rfl, hs⟩ := h x List.mem_cons_self
    obtain ⟨s2, h2⟩ : ∃ s2, m_opposite [.str s] = some (.str s2) := by
      rcases dir_cases hs with rfl | rfl
      · exact ⟨"down", by kernel_rfl⟩
      · exact ⟨"up", by kernel_rfl⟩
    refine ⟨.tuple [y, .str s2] :: r, by rw [List.length_cons, List.length_cons, hl], ?_⟩
    rw [lcD]
    have e : fTup (fCons (rdF 1) (fCons (fCB m_opposite (fCons (rdF 2) fNil)) fNil)) [a, some (.fr y), some (.fr (.str s))] = some (.tuple [y, .str s2], [a, some (.fr y), some (.fr (.str s))]) := ev_tup (ev_cons rfl (ev_cons (ev_cb (ev_cons rfl ev_nil) h2) ev_nil)) (by show 2 ≤ 100000; decide)
    show (fTup (fCons (rdF 1) (fCons (fCB m_opposite (fCons (rdF 2) fNil)) fNil)) [a, some (.fr y), some (.fr (.str s))]).bind _ = _
    rw [e]
    show (lcD (gTupD 2 (gsCons (gSet 1) (gsCons (gSet 2) gsNil))) fYes (fTup (fCons (rdF 1) (fCons (fCB m_opposite (fCons (rdF 2) fNil)) fNil))) [1, 2] xs [a, none, none]).map _ = _
    rw [ih]
    rfl
theorem ord_len {ks : List Ky} (s : Str) (hk : KOk 4 ks) : (ks.map kd ++ [plD s]).length ≤ 5 := by
  have : ks.length ≤ 4 := few_keys (n := 4) hk
  rw [List.length_append, List.length_map]
  show ks.length + 1 ≤ 5
  omega
theorem co_good {ks : List Ky} {s : Str} (hk : KOk 4 ks) (hs : s ∈ dirsD) : m_check_order [ordD ks s] = some (.ok .none) := by
  have ho := check_order_spec (d := ordD ks s) (cl_tup.mpr (kd_cl hk hs)) fun ds h => by
    cases h
    have := ord_len s hk
    omega
  rw [ordX, ord_good hk hs] at ho
  exact ho
theorem co_bad {x : PyData} (ht : Th o) (hb : ordBad o = some x) : m_check_order [o] = some (.ex "InvalidOrder" "index" x) := by
  have ho := check_order_spec ht.cl fun ds h => by have := ht.ln ds h; omega
  rw [ordX, hb] at ho
  exact ho
theorem turned_good {ks : List Ky} {s : Str} (hk : KOk 4 ks) (hs : s ∈ dirsD) : ∃ v, m_turned [ordD ks s] = some (.ok v) := by
  obtain ⟨r, hl, e⟩ := turn_lc (some (.fr (ordD ks s))) (ks.map kd ++ [plD s]) fun x hx => by
    rcases List.mem_append.mp hx with z | z
    · obtain ⟨k, h1, rfl⟩ := List.mem_map.mp z
      exact ⟨_, _, rfl, (hk.rg k h1).2.2⟩
    · rw [List.mem_singleton] at z; rw [z]; exact ⟨_, _, rfl, hs⟩
  have h5 := ord_len s hk
  exact ⟨_, ev_runX rfl (ev_seq (e1 := [some (.fr (ordD ks s)), none, none]) (ev_ex0 (ev_cons rfl ev_nil) (co_good hk hs)) (ev_ret (ev_cb (ev_cons (ev_frz (ev_lc (ds := ks.map kd ++ [plD s]) (ev_seqI rfl rfl) (by show _ ≤ 100000; omega) rfl e)) ev_nil) rfl)))⟩
/-- what the order's part of a claim is due -/
theorem due_ord (ht : Th o) : ∃ u f, Ly 1 u ∧ m__law_order_fault [o] = some (.list f) ∧ Told (m_turned [o]) u ∧ ((f = [] ∧ u = toldD ∧ ordBad o = none) ∨ ∃ x s, f = [x] ∧ reprE [x] = some (.str s) ∧ Ly 0 x ∧ u = codD 2 (.str s) ∧ ordBad o = some x) := by
  have ef := order_fault_spec ht.cl fun ds h => by have := ht.ln ds h; omega
  cases hb : ordBad o with
  | none =>
    obtain ⟨ks, s, rfl, hk, hs⟩ := ord_of hb
    rw [hb] at ef
    exact ⟨toldD, [], ly_told, ef, .inr (.inr (.inr ⟨turned_good hk hs, rfl⟩)), .inl ⟨rfl, rfl, rfl⟩⟩
  | some x =>
    rw [hb] at ef
    obtain ⟨s, hs, hly⟩ := rep_of (bad_small ht hb)
    exact ⟨codD 2 (.str s), [x], ly_cod hly, ef, .inr (.inl ⟨x, _, ev_runXX rfl (ev_seqX (e1 := [some (.fr o), none, none]) (ev_exE (ev_cons rfl ev_nil) (co_bad ht hb))), hs, rfl⟩), .inr ⟨x, s, rfl, hs, ly_small (bad_small ht hb), rfl, rfl⟩⟩
end
end DL
end L2


set_option Elab.async false
set_option maxRecDepth 100000
set_option maxHeartbeats 4000000
set_option autoImplicit false
namespace L2
namespace DL
open PySem PySem.Spec PyProof.Rows
local instance labNone_K05U : Lab := { w := none, T := [], gd := True }
/-! ### places_by, sorted_by -/
abbrev ptE (d o : PyData) (a : Option DV) : DEnv := [some (.fr d), some (.fr o), a]
section
variable {d o : PyData}
theorem pb_tab {x : PyData} (h : TB.tabBad d = some x) : m_places_by [d, o] = some (.ex "InvalidTable" "index" x) :=
  ev_runXX rfl (ev_seqX (e1 := ptE d o none) (ev_sxE (ev_cons rfl ev_nil) (cc_bad h)))
theorem pb_ord {w : Nat} {t : TB.Tab} (ht : TB.TabW w t) (hth : Th o) {x : PyData} (hb : ordBad o = some x) : m_places_by [TB.tabD t, o] = some (.ex "InvalidOrder" "index" x) :=
  ev_runXX rfl (ev_seq (e1 := ptE (TB.tabD t) o (some (.fr (.int w)))) (ev_sx0 (ev_cons rfl ev_nil) (cc_good ht) rfl) (ev_seqX (e1 := ptE (TB.tabD t) o (some (.fr (.int w)))) (ev_exE (ev_cons rfl ev_nil) (co_bad hth hb))))
theorem pb_mis {w : Nat} {t : TB.Tab} (ht : TB.TabW w t) {ks : List Ky} {s : Str} (hk : KOk 4 ks) (hs : s ∈ dirsD) {m : Int} (hm : minI (gone w (ks.map (·.1))) = some m) : m_places_by [TB.tabD t, ordD ks s] = some (.ex "MissingColumn" "column" (.int m)) := by
  have hl : ks.length ≤ 4 := few_keys (n := 4) hk
  have hb := below_ok (cs := ks.map (·.1)) (w := (w : Int)) (by rw [List.length_map]; omega)
  rw [hm] at hb
  let E : DEnv := ptE (TB.tabD t) (ordD ks s) (some (.fr (.int w)))
  exact ev_runXX rfl (ev_seq (e1 := E) (ev_sx0 (ev_cons rfl ev_nil) (cc_good ht) rfl) (ev_seq (e1 := E) (ev_ex0 (ev_cons rfl ev_nil) (co_good hk hs)) (ev_seqX (e1 := E) (ev_exE (ev_cons (ev_cb (ev_cons rfl ev_nil) (columns_of_spec hl)) (ev_cons rfl ev_nil)) hb))))
theorem pb_good {w : Nat} {t : TB.Tab} (ht : TB.TabW w t) {ks : List Ky} {s : Str} (hk : KOk 4 ks) (hs : s ∈ dirsD) (hm : minI (gone w (ks.map (·.1))) = none) : ∃ l : List Nat, m_places_by [TB.tabD t, ordD ks s] = some (.ok (.tuple (l.map fun i : Nat => PyData.int i))) ∧ (∀ i ∈ l, i < t.length) ∧ l.length ≤ 1000 := by
  have hl : ks.length ≤ 4 := few_keys (n := 4) hk
  have hb := below_ok (cs := ks.map (·.1)) (w := (w : Int)) (by rw [List.length_map]; omega)
  rw [hm] at hb
  have hg := minI_none hm
  have hk2 : ∀ k ∈ ks, 0 ≤ k.1 ∧ k.1 < (w : Int) := fun k h => ⟨(hk.rg k h).1, Int.not_le.mp fun z => by
    have : k.1 ∈ gone w (ks.map (·.1)) := List.mem_filter.mpr ⟨List.mem_map.mpr ⟨k, h, rfl⟩, decide_eq_true z⟩
    rw [hg] at this
    simp at this⟩
  have e5 := TB.every_spec ht
  have e6 := TB.sorted_all ht (s := s) hk2 hl
  let E : DEnv := ptE (TB.tabD t) (ordD ks s) (some (.fr (.int w)))
  exact ⟨_, ev_runX rfl (ev_seq (e1 := E) (ev_sx0 (ev_cons rfl ev_nil) (cc_good ht) rfl) (ev_seq (e1 := E) (ev_ex0 (ev_cons rfl ev_nil) (co_good hk hs)) (ev_seq (e1 := E) (ev_ex0 (ev_cons (ev_cb (ev_cons rfl ev_nil) (columns_of_spec hl)) (ev_cons rfl ev_nil)) hb)
    (ev_ret (ev_cb (ev_cons rfl (ev_cons (ev_cb (ev_cons rfl ev_nil) e5) (ev_cons rfl ev_nil))) e6))))), fun i hi => plc_lt hi, by rw [plc_len]; have := ht.l2; omega⟩
theorem sb_ex {c a : Str} {x : PyData} (h : m_places_by [d, o] = some (.ex c a x)) : m_sorted_by [d, o] = some (.ex c a x) := by
  refine ev_runXX (env := [some (.fr d), some (.fr o)]) rfl ?_
  show sRetX _ _ = _
  unfold sRetX
  rw [ev_cb2E (x := d) (c := c) (a := a) (d := x) (e2 := [some (.fr d), some (.fr o)]) rfl (ev_cX (ev_cons rfl (ev_cons rfl ev_nil)) h)]
  rfl
theorem sb_ok {x v : PyData} (h : m_places_by [d, o] = some (.ok x)) (h2 : m_records_at [d, x] = some v) : m_sorted_by [d, o] = some (.ok v) := by
  refine ev_runX (env := [some (.fr d), some (.fr o)]) rfl ?_
  show sRetX _ _ = _
  unfold sRetX
  rw [ev_cb2X (x := d) (d2 := x) (y := v) (e2 := [some (.fr d), some (.fr o)]) rfl (ev_cX (ev_cons rfl (ev_cons rfl ev_nil)) h) h2]
  rfl
theorem told_sb {u : PyData} (h : Told (m_places_by [d, o]) u) (hv : ∀ v, m_places_by [d, o] = some (.ok v) → ∃ y, m_records_at [d, v] = some y) : Told (m_sorted_by [d, o]) u := by
  rcases h with ⟨x, s, h, hr, rfl⟩ | ⟨x, s, h, hr, rfl⟩ | ⟨x, s, h, hr, rfl⟩ | ⟨⟨v, h⟩, rfl⟩
  · exact .inl ⟨x, s, sb_ex h, hr, rfl⟩
  · exact .inr (.inl ⟨x, s, sb_ex h, hr, rfl⟩)
  · exact .inr (.inr (.inl ⟨x, s, sb_ex h, hr, rfl⟩))
  · obtain ⟨y, hy⟩ := hv v h
    exact .inr (.inr (.inr ⟨⟨y, sb_ok h hy⟩, rfl⟩))
end
/-! ### what a claim is due -/
abbrev duE (d o : PyData) (a b : Option DV) : DEnv := [some (.fr d), some (.fr o), a, b, none, none]
abbrev geT := fTst (fBin geD (rdF 4) (fCB lenD (fCons (fIxN 0 (fC (.int 0))) fNil)))
theorem gone_lc5 {w : Nat} {t : TB.Tab} (ht : TB.TabW w t) (o a b : Option DV) : ∀ ks : List Ky, lcD (gTupD 2 (gsCons (gSet 4) (gsCons (gSet 5) gsNil))) geT (rdF 4) [4, 5] (ks.map kd) [some (.fr (TB.tabD t)), o, a, b, none, none] = some ((gone w (ks.map (·.1))).map .int, [some (.fr (TB.tabD t)), o, a, b, none, none])
  | [] => rfl
  | k :: ks => by
    have ih := gone_lc5 ht o a b ks
    obtain ⟨h1, h2⟩ := row0 ht
    let E : DEnv := [some (.fr (TB.tabD t)), o, a, b, some (.fr (.int k.1)), some (.fr (.str k.2))]
    have hq : geT E = some (decide ((w : Int) ≤ k.1), E) := ev_tst (d := .bool (decide ((w : Int) ≤ k.1))) (ev_bin (a := .int k.1) (b := .int w) (e1 := E) rfl (ev_cb (ev_cons (ev_ixN (d0 := TB.tabD t) (d := TB.tabD t) rfl rfl rfl h1) ev_nil) h2) rfl) rfl
    rw [List.map_cons, lcD]
    show (geT E).bind _ = _
    rw [hq]
    show (if decide ((w : Int) ≤ k.1) = true then _ else _) = _
    by_cases h : (w : Int) ≤ k.1
    · rw [if_pos (decide_eq_true h)]
      have e1 : gone w ((k :: ks).map (·.1)) = k.1 :: gone w (ks.map (·.1)) := List.filter_cons_of_pos (decide_eq_true h)
      rw [e1]
      show (lcD (gTupD 2 (gsCons (gSet 4) (gsCons (gSet 5) gsNil))) geT (rdF 4) [4, 5] (ks.map kd) [some (.fr (TB.tabD t)), o, a, b, none, none]).map _ = _
      rw [ih]
      rfl
    · rw [if_neg (by simpa using h)]
      have e1 : gone w ((k :: ks).map (·.1)) = gone w (ks.map (·.1)) := List.filter_cons_of_neg (by simpa using h)
      rw [e1]
      exact ih
theorem due_all {d o : PyData} (hth : Th o) : ∃ u, Ly 1 u ∧ m__law_due [d, o] = some u ∧ Told (m_places_by [d, o]) u ∧ Told (m_sorted_by [d, o]) u := by
  have ef := TB.fault_spec d
  cases hb : TB.tabBad d with
  | some x =>
    rw [hb] at ef
    obtain ⟨u, l1, l2, l3⟩ := due_tab d
    have hu : Told (m_places_by [d, o]) u := by
      rw [cc_bad hb] at l3
      rw [pb_tab hb]
      exact l3
    exact ⟨u, l1, ev_runF rfl (ev_seqR (e1 := duE d o none none) (ev_ifT (ev_tst (ev_bin (ev_cb (ev_cons rfl ev_nil) ef) rfl (ne_fault (ly_small (tab_small hb)))) rfl) (ev_ret (ev_cb (ev_cons rfl ev_nil) l2)))), hu, told_sb hu fun v h => by rw [pb_tab hb] at h; cases h⟩
  | none =>
    obtain ⟨w, t, rfl, ht⟩ := tab_of hb
    rw [hb] at ef
    have s0 : ∀ (X Y : DEnv → Option DFlow), sIf (fTst (fBin neD (fCB m__law_table_fault (fCons (rdF 0) fNil)) (fFrz (fLst fNil)))) X sNil (duE (TB.tabD t) o none none) = some (.nx (duE (TB.tabD t) o none none)) := fun X _ => ev_ifF (ev_tst (d := .bool false) (ev_bin (ev_cb (ev_cons rfl ev_nil) ef) rfl (by kernel_rfl)) rfl) rfl
    obtain ⟨u, f, l1, l2, _, l4⟩ := due_ord hth
    rcases l4 with ⟨rfl, rfl, hob⟩ | ⟨x, s, rfl, hs, hx, rfl, hob⟩
    · obtain ⟨ks, s, rfl, hk, hs⟩ := ord_of hob
      have h4 : ks.length ≤ 4 := few_keys (n := 4) hk
      let E (b : Option DV) : DEnv := duE (TB.tabD t) (ordD ks s) (some (.fr (.list []))) b
      have es : nSorted (fFrz (nLc (iSeq (fSl (rdF 1) oNone (oSome (fNeg (fC (.int 1)))))) (gTupD 2 (gsCons (gSet 4) (gsCons (gSet 5) gsNil))) geT (rdF 4) [4, 5])) (E none) = some ((sortI (gone w (ks.map (·.1)))).map .int, E none) :=
        ev_sorted (ev_frz (ev_lc (ds := ks.map kd) (ev_seqI (d := .tuple (ks.map kd)) (ev_sl rfl rfl (ev_oS rfl) (by show some (PyData.tuple (cutD (ks.map kd ++ [plD s]) none (some (-1)))) = _; rw [cut_last])) rfl) (by rw [List.length_map]; show ks.length ≤ 100000; omega) rfl (gone_lc5 ht _ _ _ _)))
      have go : ∀ {u : PyData} {env : DEnv}, sRet (fIf (fTst (fBin neD (rdF 3) (fFrz (fLst fNil)))) (fTup (fCons (fC (.int 12)) (fCons (fCB reprE (fCons (fIxN 3 (fC (.int 0))) fNil)) fNil))) (fTup (fCons (fC (.str "told")) (fCons (fC (.str "")) fNil)))) (E (some (.ow ((sortI (gone w (ks.map (·.1)))).map .int)))) = some (.rt u env) → m__law_due [TB.tabD t, ordD ks s] = some u := fun h =>
        ev_runF rfl (ev_seq (s0 _ sNil) (ev_seq (e1 := E none) (ev_setE (ev_cb (ev_cons rfl ev_nil) l2) rfl) (ev_seq (e1 := E none) (ev_ifF (ev_tst (d := .bool false) (by kernel_rfl) rfl) rfl) (ev_seq (e1 := E (some (.ow ((sortI (gone w (ks.map (·.1)))).map .int)))) (ev_setN es rfl) h))))
      cases hm : minI (gone w (ks.map (·.1))) with
      | none =>
        have hsrt : (sortI (gone w (ks.map (·.1)))).map PyData.int = [] := by rw [minI_none hm, sortI, List.mergeSort_nil]; rfl
        rw [hsrt] at go
        obtain ⟨l, hp, hl1, hl2⟩ := pb_good ht hk hs hm
        have hu : Told (m_places_by [TB.tabD t, ordD ks s]) toldD := .inr (.inr (.inr ⟨⟨_, hp⟩, rfl⟩))
        exact ⟨toldD, ly_told, go (env := E (some (.fr (.list [])))) (by kernel_rfl), hu, told_sb hu fun v h => by
          rw [hp] at h
          injection h with h
          injection h with h
          rw [← h]
          exact ⟨_, TB.records_spec ht hl1 hl2⟩⟩
      | some m =>
        obtain ⟨r, er⟩ := sort_head hm
        rw [er] at go
        have hmm := (minI_is hm).1
        obtain ⟨hmk, _⟩ := List.mem_filter.mp hmm
        obtain ⟨k, hkk, ek⟩ := List.mem_map.mp hmk
        have hr := hk.rg k hkk
        obtain ⟨s2, hs2, hly⟩ := rep_of (x := .int m) (.inr ⟨m.toNat, by omega, by congr 1; omega⟩)
        have hne : neD (.list ((m :: r).map .int)) (.list []) = some (.bool true) := by
          have a1 := (Ly.list (ly_ints (m :: r))).sh (by decide : 1 ≤ 64)
          show ((if shD (.list ((m :: r).map .int)) && shD (.list []) then some (PyData.eqv (.list ((m :: r).map .int)) (.list [])) else none).map fun k => PyData.bool (!k)) = _
          rw [a1, show shD (.list []) = true from rfl]
          rfl
        have hix : ixD (.list ((m :: r).map .int)) (.int 0) = some (.int m) := by simp [ixD, atI, ixN]
        have hu : Told (m_places_by [TB.tabD t, ordD ks s]) (codD 12 (.str s2)) := .inr (.inr (.inl ⟨_, _, pb_mis ht hk hs hm, hs2, rfl⟩))
        let E2 : DEnv := E (some (.fr (.list ((m :: r).map .int))))
        exact ⟨codD 12 (.str s2), ly_cod hly, go (env := E2) (ev_ret (ev_iff (k := true) (e1 := E2) (ev_tst (ev_bin (a := .list ((m :: r).map .int)) (e1 := E2) rfl rfl hne) rfl) (ev_tup (ev_cons rfl (ev_cons (ev_cb (ev_cons (ev_ixN (d := .list ((m :: r).map .int)) rfl rfl rfl hix) ev_nil) hs2) ev_nil)) (by show 2 ≤ 100000; decide)))), hu, told_sb hu fun v h => by rw [pb_mis ht hk hs hm] at h; cases h⟩
    · have hu : Told (m_places_by [TB.tabD t, o]) (codD 2 (.str s)) := .inr (.inl ⟨x, _, pb_ord ht hth hob, hs, rfl⟩)
      let E : DEnv := duE (TB.tabD t) o (some (.fr (.list [x]))) none
      exact ⟨codD 2 (.str s), l1, ev_runF rfl (ev_seq (s0 _ sNil) (ev_seq (e1 := E) (ev_setE (ev_cb (ev_cons rfl ev_nil) l2) rfl) (ev_seqR (ev_ifT (ev_tst (ev_bin rfl rfl (ne_fault hx)) rfl) (ev_ret (ev_tup (ev_cons rfl (ev_cons (ev_cb (ev_cons (ev_ixN (d := .list [x]) rfl rfl rfl rfl) ev_nil) hs) ev_nil)) (by show 2 ≤ 100000; decide))))))), hu, told_sb hu fun v h => by rw [pb_ord ht hth hob] at h; cases h⟩
end DL
end L2


set_option Elab.async false
set_option maxRecDepth 100000
set_option maxHeartbeats 4000000
set_option autoImplicit false
namespace L2
namespace DL
open PySem PySem.Spec PyProof.Rows
local instance labNone_K05V : Lab := { w := none, T := [], gd := True }
/-! ### pairs -/
theorem ev_cXV {i : Nat} {ms : List (Str × (List PyData → Option XR))} {fa : DEnv → Option (List PyData × DEnv)} {env e1 : DEnv} {ds : List PyData} {n : Str} {m : List PyData → Option XR} {r : XR} (h : rdFn i env = some n) (hm : mtab ms n = some m) (h1 : fa env = some (ds, e1)) (h2 : m ds = some r) : fCXV i ms fa env = some (toX e1 r) := by
  unfold fCXV; rw [h]; show (mtab ms n).bind _ = _; rw [hm]; show (fa env).bind _ = _; rw [h1]; show (m ds).map _ = _; rw [h2]; rfl
theorem ev_cXVK {i : Nat} {gD : List PyData → List PyData} {ms : List (Str × (List PyData → Option XR))} {fa : DEnv → Option (List PyData × DEnv)} {env e1 : DEnv} {ds : List PyData} {n : Str} {m : List PyData → Option XR} {r : XR} (h : rdFn i env = some n) (hm : mtab ms n = some m) (h1 : fa env = some (ds, e1)) (h2 : m (gD ds) = some r) : fCXVK i gD ms fa env = some (toX e1 r) := by
  unfold fCXVK; rw [h]; show (mtab ms n).bind _ = _; rw [hm]; show (fa env).bind _ = _; rw [h1]; show (m (gD ds)).map _ = _; rw [h2]; rfl
abbrev prE (d o : PyData) (a b c : Option DV) : DEnv := [some (.fr d), some (.fr o), a, b, c]
abbrev prMs : List (Str × (List PyData → Option XR)) := [("places_by", m_places_by), ("sorted_by", m_sorted_by)]
abbrev prBody := (sSeq (sIf (fTst (fCmpN neD (cgt (fCXV 3 prMs (fCons (rdF 0) (fCons (rdF 1) fNil)))) 2)) (sRet (fC (.bool false))) sNil) (sIf (fTst (fCmpN neD (cgt (fCXVK 3 gd_places_by_order_table prMs (fCons (rdF 1) (fCons (rdF 0) fNil)))) 2)) (sRet (fC (.bool false))) sNil))
theorem pr_turn {d o u : PyData} {n : Str} {m : List PyData → Option XR} (hm : mtab prMs n = some m) (h : Told (m [d, o]) u) (hu : Ly 1 u) (c : Option DV) : prBody (prE d o (some (.fr u)) (some (.fn n)) c) = some (.nx (prE d o (some (.fr u)) (some (.fn n)) c)) := by
  obtain ⟨_, q2⟩ := eqD_self hu (by decide)
  exact ev_seq (ev_ifF (ev_tst (ev_cmpN (told_cgt h fun r hr => ev_cXV rfl hm (ev_cons rfl (ev_cons rfl ev_nil)) hr) rfl q2) rfl) rfl) (ev_ifF (ev_tst (ev_cmpN (told_cgt h fun r hr => ev_cXVK rfl hm (ev_cons rfl (ev_cons rfl ev_nil)) hr) rfl q2) rfl) rfl)
theorem pair_spec {d o : PyData} (hth : Th o) : m__law_pair_right [d, o] = some (.bool true) := by
  obtain ⟨u, l1, l2, l3, l4⟩ := due_all (d := d) hth
  obtain ⟨u2, f, k1, k2, k3, k4⟩ := due_ord hth
  obtain ⟨u3, j1, j2, j3⟩ := due_tab d
  have p1 : ("places_by" : Str) ≠ "sorted_by" := by decide
  let E1 : DEnv := prE d o (some (.fr u)) (some (.fn "sorted_by")) none
  let E2 : DEnv := prE d o (some (.fr u)) (some (.fn "sorted_by")) (some (.fr (.list f)))
  let E3 : DEnv := prE d o (some (.fr u2)) (some (.fn "sorted_by")) (some (.fr (.list f)))
  have hset : sSet 2 (fIf (fTst (fBin neD (rdF 4) (fFrz (fLst fNil)))) (fTup (fCons (fC (.int 2)) (fCons (fCB reprE (fCons (fIxN 4 (fC (.int 0))) fNil)) fNil))) (fTup (fCons (fC (.str "told")) (fCons (fC (.str "")) fNil)))) E2 = some (.nx E3) := by
    rcases k4 with ⟨rfl, rfl, _⟩ | ⟨x, s, rfl, hs, hx, rfl, _⟩
    · kernel_rfl
    · exact ev_setE (ev_iff (k := true) (ev_tst (ev_bin rfl rfl (ne_fault hx)) rfl) (ev_tup (ev_cons rfl (ev_cons (ev_cb (ev_cons (ev_ixN (d := .list [x]) rfl rfl rfl rfl) ev_nil) hs) ev_nil)) (by show 2 ≤ 100000; decide))) rfl
  obtain ⟨q1, q2⟩ := eqD_self k1 (by decide)
  obtain ⟨_, q3⟩ := eqD_self j1 (by decide)
  refine ev_runF rfl (env := E3) (ev_seq (e1 := prE d o (some (.fr u)) none none) (ev_setE (ev_cb (ev_cons rfl (ev_cons rfl ev_nil)) l2) rfl) (ev_seq (e1 := E1) ?_ (ev_seq (e1 := E2) (ev_setE (ev_cb (ev_cons rfl ev_nil) k2) rfl) (ev_seq (e1 := E3) hset (ev_seq (e1 := E3) ?_ (ev_seq (e1 := E3) ?_ ?_))))))
  · exact ev_forN (e1 := prE d o (some (.fr u)) (some (.fn "places_by")) none) rfl (pr_turn (m := m_places_by) (by kernel_rfl) l3 l1 none) (ev_forN (e1 := E1) rfl (pr_turn (m := m_sorted_by) (by kernel_rfl) l4 l1 none) rfl)
  · exact ev_ifF (ev_tst (ev_cmpN (told_cgt k3 fun r hr => ev_cX (ev_cons rfl ev_nil) hr) rfl q2) rfl) rfl
  · exact ev_ifF (ev_tst (ev_bin (told_cgt j3 fun r hr => ev_cX (ev_cons rfl ev_nil) hr) (ev_cb (ev_cons rfl ev_nil) j2) q3) rfl) rfl
  · exact ev_ret (ev_cmpN (told_cgt k3 fun r hr => ev_cXK0 (ev_cons rfl ev_nil) hr) rfl q1)
/-! ### right -/
abbrev rtE (p : List PyData) (d o : PyData) (a b : Option DV) : DEnv := [some (.rf p), some (.fr d), some (.fr o), a, b]
abbrev rtBody := (sSeq (sSet 4 (fBin ixD (fFrz (fLst (fCons (rdF 1) (fCons (fCR 0 m__law_bent_table (fCons (rdF 1) fNil)) fNil)))) (fCR 0 m__law_draw (fCons (fC (.int 2)) fNil)))) (sIf (fNot (fTst (fCB m__law_pair_right (fCons (rdF 4) (fCons (fBin ixD (fFrz (fLst (fCons (rdF 2) (fCons (fCR 0 m__law_bent_order (fCons (rdF 2) fNil)) fNil)))) (fCR 0 m__law_draw (fCons (fC (.int 2)) fNil))) fNil))))) (sRet (fC (.bool false))) sNil))
theorem rt_turn {rs : List PyData} (ht : TB.TabI rs) {ks : List Ky} {s : Str} (hk : KOk 4 ks) (hs : s ∈ dirsD) {p : List PyData} (hp : PoolOk p) (a b : Option DV) : ∃ p' b', rtBody (rtE p (.tuple rs) (ordD ks s) a b) = some (.nx (rtE p' (.tuple rs) (ordD ks s) a b')) ∧ PoolOk p' := by
  have h5 := ord_len s hk
  obtain ⟨d, p1, e1, q1⟩ := TB.bent_spec ht hp
  obtain ⟨r, p2, e2, q2, a2, b2⟩ := draw_spec q1 (m := 2) (by decide) (by decide)
  obtain ⟨t, p3, e3, q3, hth⟩ := bent_spec (ds := ks.map kd ++ [plD s]) (kd_cl hk hs) (by rw [List.length_append]; show 1 ≤ _ + 1; omega) (by omega) kd_len q2
  obtain ⟨r4, p4, e4, q4, a4, b4⟩ := draw_spec q3 (m := 2) (by decide) (by decide)
  have hto : Th (ordD ks s) := th_tup (kd_cl hk hs) (by omega)
  obtain ⟨x, hx⟩ : ∃ x, ixD (.list [.tuple rs, d]) (.int r) = some x := by
    have : r = 0 ∨ r = 1 := by omega
    rcases this with rfl | rfl <;> exact ⟨_, rfl⟩
  obtain ⟨y, hy, hty⟩ : ∃ y, ixD (.list [ordD ks s, t]) (.int r4) = some y ∧ Th y := by
    have : r4 = 0 ∨ r4 = 1 := by omega
    rcases this with rfl | rfl
    · exact ⟨_, rfl, hto⟩
    · exact ⟨_, rfl, hth⟩
  have e3' : m__law_bent_order p2 [ordD ks s] = some (t, p3) := e3
  have e6 := pair_spec (d := x) hty
  let R (p : List PyData) (b : Option DV) : DEnv := rtE p (.tuple rs) (ordD ks s) a b
  exact ⟨p4, some (.fr x), ev_seq (e1 := R p2 (some (.fr x))) (ev_setE (ev_bin (ev_frz (ev_lst (ds := [.tuple rs, d]) (ev_cons rfl (ev_cons (ev_crE (e2 := R p1 b) rfl (ev_cons rfl ev_nil) rfl e1 rfl) ev_nil)) (by show 2 ≤ 100000; decide))) (ev_crE (e2 := R p2 b) rfl (ev_cons rfl ev_nil) rfl e2 rfl) hx) rfl)
    (ev_ifF (ev_not (ev_tst (ev_cb (ev_cons rfl (ev_cons (ev_bin (ev_frz (ev_lst (ds := [ordD ks s, t]) (ev_cons rfl (ev_cons (ev_crE (e2 := R p3 (some (.fr x))) rfl (ev_cons rfl ev_nil) rfl e3' rfl) ev_nil)) (by show 2 ≤ 100000; decide))) (ev_crE (e2 := R p4 (some (.fr x))) rfl (ev_cons rfl ev_nil) rfl e4 rfl) hy) ev_nil)) e6) rfl)) rfl), q4⟩
theorem rt_loop {rs : List PyData} (ht : TB.TabI rs) {ks : List Ky} {s : Str} (hk : KOk 4 ks) (hs : s ∈ dirsD) : ∀ (xs p : List PyData) (a b : Option DV), PoolOk p → ∃ p' a' b', forD (gSet 3) rtBody xs (rtE p (.tuple rs) (ordD ks s) a b) = some (.nx (rtE p' (.tuple rs) (ordD ks s) a' b')) ∧ PoolOk p'
  | [], p, a, b, hp => ⟨p, a, b, rfl, hp⟩
  | x :: xs, p, a, b, hp => by
    obtain ⟨p1, b1, e1, q1⟩ := rt_turn ht hk hs hp (some (.fr x)) b
    obtain ⟨p2, a2, b2, e2, q2⟩ := rt_loop ht hk hs xs p1 (some (.fr x)) b1 q1
    exact ⟨p2, a2, b2, ev_forN rfl e1 e2, q2⟩
theorem right_spec {p : List PyData} (hp : PoolOk p) : ∃ p', m__law_right p [] = some (.bool true, p') := by
  obtain ⟨rs, p1, e1, q1, ht⟩ := TB.table_spec (most := 6) (by decide) (by decide) hp
  obtain ⟨ks, s, p2, e2, q2, hk, hs, hl⟩ := order_spec (n := 4) (by decide) q1
  have e2' : m__law_order p1 [.int 4] = some (ordD ks s, p2) := e2
  have hk4 : KOk 4 ks := hk
  obtain ⟨p3, a3, b3, e3, q3⟩ := rt_loop ht hk4 hs (rangeD 0 6) p2 none none q2
  have h5 := ord_len s hk4
  have e6 := pair_spec (d := .tuple rs) (o := ordD ks s) (th_tup (kd_cl hk4 hs) (by omega))
  exact ⟨p3, ev_runR rfl (ev_seq (e1 := rtE p2 (.tuple rs) (ordD ks s) none none) (ev_par (ev_cons (ev_crE (e2 := [some (.rf p1), none, none, none, none]) rfl (ev_cons rfl (ev_cons rfl ev_nil)) rfl e1 rfl) (ev_cons (ev_crE (e2 := [some (.rf p2), none, none, none, none]) rfl (ev_cons rfl ev_nil) rfl e2' rfl) ev_nil)) rfl)
    (ev_seq (e1 := rtE p3 (.tuple rs) (ordD ks s) a3 b3) (ev_for (ds := rangeD 0 6) rfl e3) (ev_ret (ev_cb (ev_cons rfl (ev_cons rfl ev_nil)) e6))))⟩
/-! ### the law -/
theorem tw_lc (a b c e f : Option DV) : ∀ xs : List (PyData × PyData), (∀ x ∈ xs, Th x.2) → lcD (gTupD 2 (gsCons (gSet 7) (gsCons (gSet 8) gsNil))) fYes (fCB m__law_pair_right (fCons (rdF 7) (fCons (rdF 8) fNil))) [7, 8] (xs.map fun x => .tuple [x.1, x.2]) [a, b, c, none, e, f, none, none, none] = some (xs.map fun _ => .bool true, [a, b, c, none, e, f, none, none, none])
  | [], _ => rfl
  | x :: xs, h => by
    have ih := tw_lc a b c e f xs fun y hy => h y (List.mem_cons_of_mem _ hy)
    let E : DEnv := [a, b, c, none, e, f, none, some (.fr x.1), some (.fr x.2)]
    have q : fCB m__law_pair_right (fCons (rdF 7) (fCons (rdF 8) fNil)) E = some (.bool true, E) := ev_cb (ev_cons rfl (ev_cons rfl ev_nil)) (pair_spec (h x List.mem_cons_self))
    rw [List.map_cons, lcD]
    show (fCB m__law_pair_right (fCons (rdF 7) (fCons (rdF 8) fNil)) E).bind _ = _
    rw [q]
    show (lcD (gTupD 2 (gsCons (gSet 7) (gsCons (gSet 8) gsNil))) fYes (fCB m__law_pair_right (fCons (rdF 7) (fCons (rdF 8) fNil))) [7, 8] (xs.map fun x => .tuple [x.1, x.2]) [a, b, c, none, e, f, none, none, none]).map _ = _
    rw [ih]
    rfl
def gT : PyData := .tuple [.tuple [.int 1, .int 0], .tuple [.int 2, .int 1]]
def uK : PyData := .tuple [.int 1, .str "up"]
def pK : PyData := .tuple [.str "place", .str "up"]
def gK : PyData := .tuple [uK, pK]
def twL : List (PyData × PyData) := [(gT, gK), (.tuple [.tuple [.bool true, .int 0], .tuple [.int 2, .int 1]], gK), (gT, .tuple [.tuple [.bool true, .str "up"], pK]), (gT, gK),
  (.tuple [.tuple [.int 1, .int 0], .tuple [.int 2], .none], gK), (.tuple [.tuple [.int 1, .int 0], .none, .tuple [.int 2]], gK), (.tuple [.tuple [.int 1, .int 0], .tuple [.int 2, .none], .tuple [.int 3]], gK),
  (gT, .tuple [uK, uK, .none, pK]), (gT, .tuple [uK, .none, uK, pK]), (gT, .tuple [uK, pK, .none])]
theorem twL_th : ∀ x ∈ twL, Th x.2 := by
  have h : twL.all (fun x => x.2.canLay && (match x.2 with | .tuple ds => decide (ds.length ≤ 100) | _ => true)) = true := by decide +kernel
  intro x hx
  have := List.all_eq_true.mp h x hx
  rw [Bool.and_eq_true] at this
  exact ⟨this.1, fun ds e => by rw [e] at this; exact of_decide_eq_true this.2⟩
abbrev twE (S : PyData) (c : Option DV) (e f : Option DV) : DEnv := [some (.fr S), some (.fr gT), some (.fr gK), c, e, f, none, none, none]
theorem law_spec (ns : List Int) : m_law [.list (ns.map .int)] = some (.bool true) := by
  let S : PyData := .list (ns.map .int)
  let W : List PyData := twL.map fun x => .tuple [x.1, x.2]
  let E : DEnv := twE S (some (.ow W)) (some (.fr uK)) (some (.fr pK))
  have hlc : nLcH 3 (gTupD 2 (gsCons (gSet 7) (gsCons (gSet 8) gsNil))) fYes (fCB m__law_pair_right (fCons (rdF 7) (fCons (rdF 8) fNil))) [7, 8] E = some (twL.map fun _ => .bool true, E) :=
    ev_lcH (ds := W) rfl (by show 10 ≤ 100000; decide) rfl (tw_lc _ _ _ _ _ twL twL_th) rfl
  refine ev_runF rfl (env := E) (ev_seq (e1 := twE S none none none) (by kernel_rfl) (ev_seq (e1 := twE S (some (.ow ((twL.take 4).map fun x => .tuple [x.1, x.2]))) none none) (by kernel_rfl) (ev_seq (e1 := twE S (some (.ow ((twL.take 7).map fun x => .tuple [x.1, x.2]))) none none) (by kernel_rfl) (ev_seq (e1 := twE S (some (.ow ((twL.take 7).map fun x => .tuple [x.1, x.2]))) (some (.fr uK)) (some (.fr pK))) (by kernel_rfl) (ev_seq (e1 := E) (by kernel_rfl) (ev_seq (e1 := E) (ev_ifF (ev_not (ev_tst (d := .bool true) (ev_cb (ev_cons (ev_frz hlc) ev_nil) (by kernel_rfl)) rfl)) rfl)
    (law_fin (PO := PoolOk) (fun k h0 h1 => cell_spec ns h0 h1) pool_spec (fun es h => right_spec h) (v := 6) ?_ rfl (fun _ => rfl) (fun _ => rfl))))))))
  obtain ⟨m, e, m1, m2⟩ := mm_b (a := 6) (by decide) (env := E) (n := ns.length) (by
    refine ev_lenN (d := .list (ns.map .int)) rfl ?_
    show some (PyData.int ((ns.map PyData.int).length : Nat)) = _
    rw [List.length_map])
  exact ⟨m, e, m1, by omega⟩
end DL
end L2


set_option Elab.async false
set_option maxRecDepth 100000
set_option maxHeartbeats 4000000
set_option autoImplicit false
namespace L2
namespace DL
open PySem PySem.Spec PyProof.Rows
def mkTx [Lab] {w : World} (hw : LabW.w = some w) {K : PySem.W.Frag} {h base : Heap} {mg : Str → Option Value} (X : K.In h) (G : h.Ns mainGlobals mg)
    {f0 : Addr} {od0 an0 : Option Addr} {sl0 : Array (Option Value)} {oc0 kV0 dc0 pm0 cd0 ct0 : Value}
    {f1 : Addr} {od1 an1 : Option Addr} {sl1 : Array (Option Value)} {oc1 kV1 dc1 pm1 cd1 ct1 : Value}
    {f2 : Addr} {od2 an2 : Option Addr} {sl2 : Array (Option Value)} {oc2 kV2 dc2 pm2 cd2 ct2 : Value}
    {f3 : Addr} {od3 an3 : Option Addr} {sl3 : Array (Option Value)} {oc3 kV3 dc3 pm3 cd3 ct3 : Value}
    {f4 : Addr} {od4 an4 : Option Addr} {sl4 : Array (Option Value)} {oc4 kV4 dc4 pm4 cd4 ct4 : Value}
    {f5 : Addr} {od5 an5 : Option Addr} {sl5 : Array (Option Value)} {oc5 kV5 dc5 pm5 cd5 ct5 : Value}
    {f6 : Addr} {od6 an6 : Option Addr} {sl6 : Array (Option Value)} {oc6 kV6 dc6 pm6 cd6 ct6 : Value}
    {f7 : Addr} {od7 an7 : Option Addr} {sl7 : Array (Option Value)} {oc7 kV7 dc7 pm7 cd7 ct7 : Value}
    {f8 : Addr} {od8 an8 : Option Addr} {sl8 : Array (Option Value)} {oc8 kV8 dc8 pm8 cd8 ct8 : Value}
    {f9 : Addr} {od9 an9 : Option Addr} {sl9 : Array (Option Value)} {oc9 kV9 dc9 pm9 cd9 ct9 : Value}
    {f10 : Addr} {od10 an10 : Option Addr} {sl10 : Array (Option Value)} {oc10 kV10 dc10 pm10 cd10 ct10 : Value}
    {f11 : Addr} {od11 an11 : Option Addr} {sl11 : Array (Option Value)} {oc11 kV11 dc11 pm11 cd11 ct11 : Value}
    {f12 : Addr} {od12 an12 : Option Addr} {sl12 : Array (Option Value)} {oc12 kV12 dc12 pm12 cd12 ct12 : Value}
    {f13 : Addr} {od13 an13 : Option Addr} {sl13 : Array (Option Value)} {oc13 kV13 dc13 pm13 cd13 ct13 : Value}
    {f14 : Addr} {od14 an14 : Option Addr} {sl14 : Array (Option Value)} {oc14 kV14 dc14 pm14 cd14 ct14 : Value}
    {f15 : Addr} {od15 an15 : Option Addr} {sl15 : Array (Option Value)} {oc15 kV15 dc15 pm15 cd15 ct15 : Value}
    {f16 : Addr} {od16 an16 : Option Addr} {sl16 : Array (Option Value)} {oc16 kV16 dc16 pm16 cd16 ct16 : Value}
    {f17 : Addr} {od17 an17 : Option Addr} {sl17 : Array (Option Value)} {oc17 kV17 dc17 pm17 cd17 ct17 : Value}
    {f18 : Addr} {od18 an18 : Option Addr} {sl18 : Array (Option Value)} {oc18 kV18 dc18 pm18 cd18 ct18 : Value}
    {f19 : Addr} {od19 an19 : Option Addr} {sl19 : Array (Option Value)} {oc19 kV19 dc19 pm19 cd19 ct19 : Value}
    {f20 : Addr} {od20 an20 : Option Addr} {sl20 : Array (Option Value)} {oc20 kV20 dc20 pm20 cd20 ct20 : Value}
    {f21 : Addr} {od21 an21 : Option Addr} {sl21 : Array (Option Value)} {oc21 kV21 dc21 pm21 cd21 ct21 : Value}
    {f22 : Addr} {od22 an22 : Option Addr} {sl22 : Array (Option Value)} {oc22 kV22 dc22 pm22 cd22 ct22 : Value}
    {f23 : Addr} {od23 an23 : Option Addr} {sl23 : Array (Option Value)} {oc23 kV23 dc23 pm23 cd23 ct23 : Value}
    {f24 : Addr} {od24 an24 : Option Addr} {sl24 : Array (Option Value)} {oc24 kV24 dc24 pm24 cd24 ct24 : Value}
    {f25 : Addr} {od25 an25 : Option Addr} {sl25 : Array (Option Value)} {oc25 kV25 dc25 pm25 cd25 ct25 : Value}
    {f26 : Addr} {od26 an26 : Option Addr} {sl26 : Array (Option Value)} {oc26 kV26 dc26 pm26 cd26 ct26 : Value}
    {f27 : Addr} {od27 an27 : Option Addr} {sl27 : Array (Option Value)} {oc27 kV27 dc27 pm27 cd27 ct27 : Value}
    {f28 : Addr} {od28 an28 : Option Addr} {sl28 : Array (Option Value)} {oc28 kV28 dc28 pm28 cd28 ct28 : Value}
    {f29 : Addr} {od29 an29 : Option Addr} {sl29 : Array (Option Value)} {oc29 kV29 dc29 pm29 cd29 ct29 : Value}
    {f30 : Addr} {od30 an30 : Option Addr} {sl30 : Array (Option Value)} {oc30 kV30 dc30 pm30 cd30 ct30 : Value}
    {f31 : Addr} {od31 an31 : Option Addr} {sl31 : Array (Option Value)} {oc31 kV31 dc31 pm31 cd31 ct31 : Value}
    {f32 : Addr} {od32 an32 : Option Addr} {sl32 : Array (Option Value)} {oc32 kV32 dc32 pm32 cd32 ct32 : Value}
    {f33 : Addr} {od33 an33 : Option Addr} {sl33 : Array (Option Value)} {oc33 kV33 dc33 pm33 cd33 ct33 : Value}
    {f34 : Addr} {od34 an34 : Option Addr} {sl34 : Array (Option Value)} {oc34 kV34 dc34 pm34 cd34 ct34 : Value}
    {f35 : Addr} {od35 an35 : Option Addr} {sl35 : Array (Option Value)} {oc35 kV35 dc35 pm35 cd35 ct35 : Value}
    {f36 : Addr} {od36 an36 : Option Addr} {sl36 : Array (Option Value)} {oc36 kV36 dc36 pm36 cd36 ct36 : Value}
    {C_InvalidTable : Addr}
    {C_MissingColumn : Addr}
    {C_InvalidOrder : Addr}
    {C_TableError : Addr}
    {C_FindError : Addr}
    {C_LimitError : Addr}
    {C_LastRecord : Addr}
    {C_TooManyEdits : Addr}
    {C_TooManyRecords : Addr}
    {C_NothingToUndo : Addr}
    {C_NoPlace : Addr}
    {C_InvalidCommand : Addr}
    {C_InvalidEdit : Addr}
    {C_InvalidValue : Addr}
    {C_InvalidRecord : Addr}
    {C_InvalidLimit : Addr}
    {C_InvalidText : Addr}
    {C_InvalidPlaces : Addr}
    {C_InvalidNumber : Addr}
    {C_InvalidProgram : Addr}
    {C_InvalidColumns : Addr}
    {FI_InvalidTable : Addr} {xod_InvalidTable xan_InvalidTable : Option Addr} {xsl_InvalidTable : Array (Option Value)} {xoc_InvalidTable xkV_InvalidTable xdc_InvalidTable xpm_InvalidTable xcd_InvalidTable xct_InvalidTable : Value}
    {FI_MissingColumn : Addr} {xod_MissingColumn xan_MissingColumn : Option Addr} {xsl_MissingColumn : Array (Option Value)} {xoc_MissingColumn xkV_MissingColumn xdc_MissingColumn xpm_MissingColumn xcd_MissingColumn xct_MissingColumn : Value}
    {FI_InvalidOrder : Addr} {xod_InvalidOrder xan_InvalidOrder : Option Addr} {xsl_InvalidOrder : Array (Option Value)} {xoc_InvalidOrder xkV_InvalidOrder xdc_InvalidOrder xpm_InvalidOrder xcd_InvalidOrder xct_InvalidOrder : Value}
    {c_sorted_places P_sorted_places : Addr}
    {c__law_pair_right P__law_pair_right : Addr}
    (a0 : PySem.W.nsIn K mainGlobals "is_integer" = some (some (.ref f0))) (l0 : K.lookup f0 = some ⟨oc0, od0, .func (PySem.W.fnOf "is_integer" "is_integer" (defArgs (topS 26)) (defBody (topS 26)) (defScope (topS 26)) .none kV0 dc0 pm0 an0 cd0 ct0), sl0⟩) (c0 : PySem.W.codeIn K cd0 "is_integer" = true) (k0 : PySem.W.keepIn K (.ref f0) = true)
    (a1 : PySem.W.nsIn K mainGlobals "is_record" = some (some (.ref f1))) (l1 : K.lookup f1 = some ⟨oc1, od1, .func (PySem.W.fnOf "is_record" "is_record" (defArgs (topS 27)) (defBody (topS 27)) (defScope (topS 27)) .none kV1 dc1 pm1 an1 cd1 ct1), sl1⟩) (c1 : PySem.W.codeIn K cd1 "is_record" = true) (k1 : PySem.W.keepIn K (.ref f1) = true)
    (a2 : PySem.W.nsIn K mainGlobals "check_table" = some (some (.ref f2))) (l2 : K.lookup f2 = some ⟨oc2, od2, .func (PySem.W.fnOf "check_table" "check_table" (defArgs (topS 28)) (defBody (topS 28)) (defScope (topS 28)) .none kV2 dc2 pm2 an2 cd2 ct2), sl2⟩) (c2 : PySem.W.codeIn K cd2 "check_table" = true) (k2 : PySem.W.keepIn K (.ref f2) = true)
    (a3 : PySem.W.nsIn K mainGlobals "count_columns" = some (some (.ref f3))) (l3 : K.lookup f3 = some ⟨oc3, od3, .func (PySem.W.fnOf "count_columns" "count_columns" (defArgs (topS 29)) (defBody (topS 29)) (defScope (topS 29)) .none kV3 dc3 pm3 an3 cd3 ct3), sl3⟩) (c3 : PySem.W.codeIn K cd3 "count_columns" = true) (k3 : PySem.W.keepIn K (.ref f3) = true)
    (a4 : PySem.W.nsIn K mainGlobals "every_place" = some (some (.ref f4))) (l4 : K.lookup f4 = some ⟨oc4, od4, .func (PySem.W.fnOf "every_place" "every_place" (defArgs (topS 30)) (defBody (topS 30)) (defScope (topS 30)) .none kV4 dc4 pm4 an4 cd4 ct4), sl4⟩) (c4 : PySem.W.codeIn K cd4 "every_place" = true) (k4 : PySem.W.keepIn K (.ref f4) = true)
    (a5 : PySem.W.nsIn K mainGlobals "records_at" = some (some (.ref f5))) (l5 : K.lookup f5 = some ⟨oc5, od5, .func (PySem.W.fnOf "records_at" "records_at" (defArgs (topS 31)) (defBody (topS 31)) (defScope (topS 31)) .none kV5 dc5 pm5 an5 cd5 ct5), sl5⟩) (c5 : PySem.W.codeIn K cd5 "records_at" = true) (k5 : PySem.W.keepIn K (.ref f5) = true)
    (a6 : PySem.W.nsIn K mainGlobals "check_columns_below" = some (some (.ref f6))) (l6 : K.lookup f6 = some ⟨oc6, od6, .func (PySem.W.fnOf "check_columns_below" "check_columns_below" (defArgs (topS 32)) (defBody (topS 32)) (defScope (topS 32)) .none kV6 dc6 pm6 an6 cd6 ct6), sl6⟩) (c6 : PySem.W.codeIn K cd6 "check_columns_below" = true) (k6 : PySem.W.keepIn K (.ref f6) = true)
    (a7 : PySem.W.nsIn K mainGlobals "is_word" = some (some (.ref f7))) (l7 : K.lookup f7 = some ⟨oc7, od7, .func (PySem.W.fnOf "is_word" "is_word" (defArgs (topS 35)) (defBody (topS 35)) (defScope (topS 35)) .none kV7 dc7 pm7 an7 cd7 ct7), sl7⟩) (c7 : PySem.W.codeIn K cd7 "is_word" = true) (k7 : PySem.W.keepIn K (.ref f7) = true)
    (a8 : PySem.W.nsIn K mainGlobals "is_pair" = some (some (.ref f8))) (l8 : K.lookup f8 = some ⟨oc8, od8, .func (PySem.W.fnOf "is_pair" "is_pair" (defArgs (topS 36)) (defBody (topS 36)) (defScope (topS 36)) .none kV8 dc8 pm8 an8 cd8 ct8), sl8⟩) (c8 : PySem.W.codeIn K cd8 "is_pair" = true) (k8 : PySem.W.keepIn K (.ref f8) = true)
    (a9 : PySem.W.nsIn K mainGlobals "is_sort_column" = some (some (.ref f9))) (l9 : K.lookup f9 = some ⟨oc9, od9, .func (PySem.W.fnOf "is_sort_column" "is_sort_column" (defArgs (topS 37)) (defBody (topS 37)) (defScope (topS 37)) .none kV9 dc9 pm9 an9 cd9 ct9), sl9⟩) (c9 : PySem.W.codeIn K cd9 "is_sort_column" = true) (k9 : PySem.W.keepIn K (.ref f9) = true)
    (a10 : PySem.W.nsIn K mainGlobals "is_key" = some (some (.ref f10))) (l10 : K.lookup f10 = some ⟨oc10, od10, .func (PySem.W.fnOf "is_key" "is_key" (defArgs (topS 38)) (defBody (topS 38)) (defScope (topS 38)) .none kV10 dc10 pm10 an10 cd10 ct10), sl10⟩) (c10 : PySem.W.codeIn K cd10 "is_key" = true) (k10 : PySem.W.keepIn K (.ref f10) = true)
    (a11 : PySem.W.nsIn K mainGlobals "is_place_part" = some (some (.ref f11))) (l11 : K.lookup f11 = some ⟨oc11, od11, .func (PySem.W.fnOf "is_place_part" "is_place_part" (defArgs (topS 39)) (defBody (topS 39)) (defScope (topS 39)) .none kV11 dc11 pm11 an11 cd11 ct11), sl11⟩) (c11 : PySem.W.codeIn K cd11 "is_place_part" = true) (k11 : PySem.W.keepIn K (.ref f11) = true)
    (a12 : PySem.W.nsIn K mainGlobals "check_order" = some (some (.ref f12))) (l12 : K.lookup f12 = some ⟨oc12, od12, .func (PySem.W.fnOf "check_order" "check_order" (defArgs (topS 40)) (defBody (topS 40)) (defScope (topS 40)) .none kV12 dc12 pm12 an12 cd12 ct12), sl12⟩) (c12 : PySem.W.codeIn K cd12 "check_order" = true) (k12 : PySem.W.keepIn K (.ref f12) = true)
    (a13 : PySem.W.nsIn K mainGlobals "columns_of" = some (some (.ref f13))) (l13 : K.lookup f13 = some ⟨oc13, od13, .func (PySem.W.fnOf "columns_of" "columns_of" (defArgs (topS 41)) (defBody (topS 41)) (defScope (topS 41)) .none kV13 dc13 pm13 an13 cd13 ct13), sl13⟩) (c13 : PySem.W.codeIn K cd13 "columns_of" = true) (k13 : PySem.W.keepIn K (.ref f13) = true)
    (a14 : PySem.W.nsIn K mainGlobals "opposite" = some (some (.ref f14))) (l14 : K.lookup f14 = some ⟨oc14, od14, .func (PySem.W.fnOf "opposite" "opposite" (defArgs (topS 42)) (defBody (topS 42)) (defScope (topS 42)) .none kV14 dc14 pm14 an14 cd14 ct14), sl14⟩) (c14 : PySem.W.codeIn K cd14 "opposite" = true) (k14 : PySem.W.keepIn K (.ref f14) = true)
    (a15 : PySem.W.nsIn K mainGlobals "turned" = some (some (.ref f15))) (l15 : K.lookup f15 = some ⟨oc15, od15, .func (PySem.W.fnOf "turned" "turned" (defArgs (topS 43)) (defBody (topS 43)) (defScope (topS 43)) .none kV15 dc15 pm15 an15 cd15 ct15), sl15⟩) (c15 : PySem.W.codeIn K cd15 "turned" = true) (k15 : PySem.W.keepIn K (.ref f15) = true)
    (a16 : PySem.W.nsIn K mainGlobals "sort_values" = some (some (.ref f16))) (l16 : K.lookup f16 = some ⟨oc16, od16, .func (PySem.W.fnOf "sort_values" "sort_values" (defArgs (topS 44)) (defBody (topS 44)) (defScope (topS 44)) .none kV16 dc16 pm16 an16 cd16 ct16), sl16⟩) (c16 : PySem.W.codeIn K cd16 "sort_values" = true) (k16 : PySem.W.keepIn K (.ref f16) = true)
    (a17 : PySem.W.nsIn K mainGlobals "sorted_places" = some (some (.ref f17))) (l17 : K.lookup f17 = some ⟨oc17, od17, .func (PySem.W.fnOf "sorted_places" "sorted_places" (defArgs (topS 45)) (defBody (topS 45)) (defScope (topS 45)) .none kV17 dc17 pm17 an17 cd17 ct17), sl17⟩) (c17 : PySem.W.codeIn K cd17 "sorted_places" = true) (k17 : PySem.W.keepIn K (.ref f17) = true)
    (a18 : PySem.W.nsIn K mainGlobals "places_by" = some (some (.ref f18))) (l18 : K.lookup f18 = some ⟨oc18, od18, .func (PySem.W.fnOf "places_by" "places_by" (defArgs (topS 46)) (defBody (topS 46)) (defScope (topS 46)) .none kV18 dc18 pm18 an18 cd18 ct18), sl18⟩) (c18 : PySem.W.codeIn K cd18 "places_by" = true) (k18 : PySem.W.keepIn K (.ref f18) = true)
    (a19 : PySem.W.nsIn K mainGlobals "sorted_by" = some (some (.ref f19))) (l19 : K.lookup f19 = some ⟨oc19, od19, .func (PySem.W.fnOf "sorted_by" "sorted_by" (defArgs (topS 47)) (defBody (topS 47)) (defScope (topS 47)) .none kV19 dc19 pm19 an19 cd19 ct19), sl19⟩) (c19 : PySem.W.codeIn K cd19 "sorted_by" = true) (k19 : PySem.W.keepIn K (.ref f19) = true)
    (a20 : PySem.W.nsIn K mainGlobals "_law_cell" = some (some (.ref f20))) (l20 : K.lookup f20 = some ⟨oc20, od20, .func (PySem.W.fnOf "_law_cell" "_law_cell" (defArgs (topS 49)) (defBody (topS 49)) (defScope (topS 49)) .none kV20 dc20 pm20 an20 cd20 ct20), sl20⟩) (c20 : PySem.W.codeIn K cd20 "_law_cell" = true) (k20 : PySem.W.keepIn K (.ref f20) = true)
    (a21 : PySem.W.nsIn K mainGlobals "_law_pool" = some (some (.ref f21))) (l21 : K.lookup f21 = some ⟨oc21, od21, .func (PySem.W.fnOf "_law_pool" "_law_pool" (defArgs (topS 50)) (defBody (topS 50)) (defScope (topS 50)) .none kV21 dc21 pm21 an21 cd21 ct21), sl21⟩) (c21 : PySem.W.codeIn K cd21 "_law_pool" = true) (k21 : PySem.W.keepIn K (.ref f21) = true)
    (a22 : PySem.W.nsIn K mainGlobals "_law_draw" = some (some (.ref f22))) (l22 : K.lookup f22 = some ⟨oc22, od22, .func (PySem.W.fnOf "_law_draw" "_law_draw" (defArgs (topS 51)) (defBody (topS 51)) (defScope (topS 51)) .none kV22 dc22 pm22 an22 cd22 ct22), sl22⟩) (c22 : PySem.W.codeIn K cd22 "_law_draw" = true) (k22 : PySem.W.keepIn K (.ref f22) = true)
    (a23 : PySem.W.nsIn K mainGlobals "_law_table" = some (some (.ref f23))) (l23 : K.lookup f23 = some ⟨oc23, od23, .func (PySem.W.fnOf "_law_table" "_law_table" (defArgs (topS 52)) (defBody (topS 52)) (defScope (topS 52)) .none kV23 dc23 pm23 an23 cd23 ct23), sl23⟩) (c23 : PySem.W.codeIn K cd23 "_law_table" = true) (k23 : PySem.W.keepIn K (.ref f23) = true)
    (a24 : PySem.W.nsIn K mainGlobals "_law_order" = some (some (.ref f24))) (l24 : K.lookup f24 = some ⟨oc24, od24, .func (PySem.W.fnOf "_law_order" "_law_order" (defArgs (topS 53)) (defBody (topS 53)) (defScope (topS 53)) .none kV24 dc24 pm24 an24 cd24 ct24), sl24⟩) (c24 : PySem.W.codeIn K cd24 "_law_order" = true) (k24 : PySem.W.keepIn K (.ref f24) = true)
    (a25 : PySem.W.nsIn K mainGlobals "_law_is_record" = some (some (.ref f25))) (l25 : K.lookup f25 = some ⟨oc25, od25, .func (PySem.W.fnOf "_law_is_record" "_law_is_record" (defArgs (topS 54)) (defBody (topS 54)) (defScope (topS 54)) .none kV25 dc25 pm25 an25 cd25 ct25), sl25⟩) (c25 : PySem.W.codeIn K cd25 "_law_is_record" = true) (k25 : PySem.W.keepIn K (.ref f25) = true)
    (a26 : PySem.W.nsIn K mainGlobals "_law_table_fault" = some (some (.ref f26))) (l26 : K.lookup f26 = some ⟨oc26, od26, .func (PySem.W.fnOf "_law_table_fault" "_law_table_fault" (defArgs (topS 55)) (defBody (topS 55)) (defScope (topS 55)) .none kV26 dc26 pm26 an26 cd26 ct26), sl26⟩) (c26 : PySem.W.codeIn K cd26 "_law_table_fault" = true) (k26 : PySem.W.keepIn K (.ref f26) = true)
    (a27 : PySem.W.nsIn K mainGlobals "_law_bent_table" = some (some (.ref f27))) (l27 : K.lookup f27 = some ⟨oc27, od27, .func (PySem.W.fnOf "_law_bent_table" "_law_bent_table" (defArgs (topS 56)) (defBody (topS 56)) (defScope (topS 56)) .none kV27 dc27 pm27 an27 cd27 ct27), sl27⟩) (c27 : PySem.W.codeIn K cd27 "_law_bent_table" = true) (k27 : PySem.W.keepIn K (.ref f27) = true)
    (a28 : PySem.W.nsIn K mainGlobals "_law_order_fault" = some (some (.ref f28))) (l28 : K.lookup f28 = some ⟨oc28, od28, .func (PySem.W.fnOf "_law_order_fault" "_law_order_fault" (defArgs (topS 57)) (defBody (topS 57)) (defScope (topS 57)) .none kV28 dc28 pm28 an28 cd28 ct28), sl28⟩) (c28 : PySem.W.codeIn K cd28 "_law_order_fault" = true) (k28 : PySem.W.keepIn K (.ref f28) = true)
    (a29 : PySem.W.nsIn K mainGlobals "_law_bent_order" = some (some (.ref f29))) (l29 : K.lookup f29 = some ⟨oc29, od29, .func (PySem.W.fnOf "_law_bent_order" "_law_bent_order" (defArgs (topS 58)) (defBody (topS 58)) (defScope (topS 58)) .none kV29 dc29 pm29 an29 cd29 ct29), sl29⟩) (c29 : PySem.W.codeIn K cd29 "_law_bent_order" = true) (k29 : PySem.W.keepIn K (.ref f29) = true)
    (a30 : PySem.W.nsIn K mainGlobals "_law_kind" = some (some (.ref f30))) (l30 : K.lookup f30 = some ⟨oc30, od30, .func (PySem.W.fnOf "_law_kind" "_law_kind" (defArgs (topS 59)) (defBody (topS 59)) (defScope (topS 59)) .none kV30 dc30 pm30 an30 cd30 ct30), sl30⟩) (c30 : PySem.W.codeIn K cd30 "_law_kind" = true) (k30 : PySem.W.keepIn K (.ref f30) = true)
    (a31 : PySem.W.nsIn K mainGlobals "_law_caught" = some (some (.ref f31))) (l31 : K.lookup f31 = some ⟨oc31, od31, .func (PySem.W.fnOf "_law_caught" "_law_caught" (defArgs (topS 60)) (defBody (topS 60)) (defScope (topS 60)) .none kV31 dc31 pm31 an31 cd31 ct31), sl31⟩) (c31 : PySem.W.codeIn K cd31 "_law_caught" = true) (k31 : PySem.W.keepIn K (.ref f31) = true)
    (a32 : PySem.W.nsIn K mainGlobals "_law_table_due" = some (some (.ref f32))) (l32 : K.lookup f32 = some ⟨oc32, od32, .func (PySem.W.fnOf "_law_table_due" "_law_table_due" (defArgs (topS 61)) (defBody (topS 61)) (defScope (topS 61)) .none kV32 dc32 pm32 an32 cd32 ct32), sl32⟩) (c32 : PySem.W.codeIn K cd32 "_law_table_due" = true) (k32 : PySem.W.keepIn K (.ref f32) = true)
    (a33 : PySem.W.nsIn K mainGlobals "_law_due" = some (some (.ref f33))) (l33 : K.lookup f33 = some ⟨oc33, od33, .func (PySem.W.fnOf "_law_due" "_law_due" (defArgs (topS 62)) (defBody (topS 62)) (defScope (topS 62)) .none kV33 dc33 pm33 an33 cd33 ct33), sl33⟩) (c33 : PySem.W.codeIn K cd33 "_law_due" = true) (k33 : PySem.W.keepIn K (.ref f33) = true)
    (a34 : PySem.W.nsIn K mainGlobals "_law_pair_right" = some (some (.ref f34))) (l34 : K.lookup f34 = some ⟨oc34, od34, .func (PySem.W.fnOf "_law_pair_right" "_law_pair_right" (defArgs (topS 63)) (defBody (topS 63)) (defScope (topS 63)) .none kV34 dc34 pm34 an34 cd34 ct34), sl34⟩) (c34 : PySem.W.codeIn K cd34 "_law_pair_right" = true) (k34 : PySem.W.keepIn K (.ref f34) = true)
    (a35 : PySem.W.nsIn K mainGlobals "_law_right" = some (some (.ref f35))) (l35 : K.lookup f35 = some ⟨oc35, od35, .func (PySem.W.fnOf "_law_right" "_law_right" (defArgs (topS 64)) (defBody (topS 64)) (defScope (topS 64)) .none kV35 dc35 pm35 an35 cd35 ct35), sl35⟩) (c35 : PySem.W.codeIn K cd35 "_law_right" = true) (k35 : PySem.W.keepIn K (.ref f35) = true)
    (a36 : PySem.W.nsIn K mainGlobals "law" = some (some (.ref f36))) (l36 : K.lookup f36 = some ⟨oc36, od36, .func (PySem.W.fnOf "law" "law" (defArgs (topS 65)) (defBody (topS 65)) (defScope (topS 65)) .none kV36 dc36 pm36 an36 cd36 ct36), sl36⟩) (c36 : PySem.W.codeIn K cd36 "law" = true) (k36 : PySem.W.keepIn K (.ref f36) = true)
    (n_ArithmeticError : PySem.W.nsIn K mainGlobals "ArithmeticError" = some none)
    (n_LookupError : PySem.W.nsIn K mainGlobals "LookupError" = some none)
    (n_ValueError : PySem.W.nsIn K mainGlobals "ValueError" = some none)
    (n_abs : PySem.W.nsIn K mainGlobals "abs" = some none)
    (n_all : PySem.W.nsIn K mainGlobals "all" = some none)
    (n_bool : PySem.W.nsIn K mainGlobals "bool" = some none)
    (n_divmod : PySem.W.nsIn K mainGlobals "divmod" = some none)
    (n_enumerate : PySem.W.nsIn K mainGlobals "enumerate" = some none)
    (n_int : PySem.W.nsIn K mainGlobals "int" = some none)
    (n_isinstance : PySem.W.nsIn K mainGlobals "isinstance" = some none)
    (n_len : PySem.W.nsIn K mainGlobals "len" = some none)
    (n_list : PySem.W.nsIn K mainGlobals "list" = some none)
    (n_max : PySem.W.nsIn K mainGlobals "max" = some none)
    (n_min : PySem.W.nsIn K mainGlobals "min" = some none)
    (n_range : PySem.W.nsIn K mainGlobals "range" = some none)
    (n_repr : PySem.W.nsIn K mainGlobals "repr" = some none)
    (n_sorted : PySem.W.nsIn K mainGlobals "sorted" = some none)
    (n_str : PySem.W.nsIn K mainGlobals "str" = some none)
    (n_tuple : PySem.W.nsIn K mainGlobals "tuple" = some none)
    (c_MOST_COLUMNS : ∀ [LabW], ∃ uv : Value × V, mg "MOST_COLUMNS" = some uv.1 ∧ RelV uv.2 uv.1 ∧ ∀ Z, DD K Z uv.2 cv_MOST_COLUMNS)
    (c_MOST_RECORDS : ∀ [LabW], ∃ uv : Value × V, mg "MOST_RECORDS" = some uv.1 ∧ RelV uv.2 uv.1 ∧ ∀ Z, DD K Z uv.2 cv_MOST_RECORDS)
    (c_MOST_KEYS : ∀ [LabW], ∃ uv : Value × V, mg "MOST_KEYS" = some uv.1 ∧ RelV uv.2 uv.1 ∧ ∀ Z, DD K Z uv.2 cv_MOST_KEYS)
    (c_DIRECTIONS : ∀ [LabW], ∃ uv : Value × V, mg "DIRECTIONS" = some uv.1 ∧ RelV uv.2 uv.1 ∧ ∀ Z, DD K Z uv.2 cv_DIRECTIONS)
    (xa_InvalidTable : PySem.W.nsIn K mainGlobals "InvalidTable" = some (some (.ref C_InvalidTable)))
    (xa_MissingColumn : PySem.W.nsIn K mainGlobals "MissingColumn" = some (some (.ref C_MissingColumn)))
    (xa_InvalidOrder : PySem.W.nsIn K mainGlobals "InvalidOrder" = some (some (.ref C_InvalidOrder)))
    (xa_TableError : PySem.W.nsIn K mainGlobals "TableError" = some (some (.ref C_TableError)))
    (xa_FindError : PySem.W.nsIn K mainGlobals "FindError" = some (some (.ref C_FindError)))
    (xa_LimitError : PySem.W.nsIn K mainGlobals "LimitError" = some (some (.ref C_LimitError)))
    (xa_LastRecord : PySem.W.nsIn K mainGlobals "LastRecord" = some (some (.ref C_LastRecord)))
    (xa_TooManyEdits : PySem.W.nsIn K mainGlobals "TooManyEdits" = some (some (.ref C_TooManyEdits)))
    (xa_TooManyRecords : PySem.W.nsIn K mainGlobals "TooManyRecords" = some (some (.ref C_TooManyRecords)))
    (xa_NothingToUndo : PySem.W.nsIn K mainGlobals "NothingToUndo" = some (some (.ref C_NothingToUndo)))
    (xa_NoPlace : PySem.W.nsIn K mainGlobals "NoPlace" = some (some (.ref C_NoPlace)))
    (xa_InvalidCommand : PySem.W.nsIn K mainGlobals "InvalidCommand" = some (some (.ref C_InvalidCommand)))
    (xa_InvalidEdit : PySem.W.nsIn K mainGlobals "InvalidEdit" = some (some (.ref C_InvalidEdit)))
    (xa_InvalidValue : PySem.W.nsIn K mainGlobals "InvalidValue" = some (some (.ref C_InvalidValue)))
    (xa_InvalidRecord : PySem.W.nsIn K mainGlobals "InvalidRecord" = some (some (.ref C_InvalidRecord)))
    (xa_InvalidLimit : PySem.W.nsIn K mainGlobals "InvalidLimit" = some (some (.ref C_InvalidLimit)))
    (xa_InvalidText : PySem.W.nsIn K mainGlobals "InvalidText" = some (some (.ref C_InvalidText)))
    (xa_InvalidPlaces : PySem.W.nsIn K mainGlobals "InvalidPlaces" = some (some (.ref C_InvalidPlaces)))
    (xa_InvalidNumber : PySem.W.nsIn K mainGlobals "InvalidNumber" = some (some (.ref C_InvalidNumber)))
    (xa_InvalidProgram : PySem.W.nsIn K mainGlobals "InvalidProgram" = some (some (.ref C_InvalidProgram)))
    (xa_InvalidColumns : PySem.W.nsIn K mainGlobals "InvalidColumns" = some (some (.ref C_InvalidColumns)))
    (xi_InvalidTable : PySem.W.findIn K (.ref C_InvalidTable) "__init__" = some (some (.ref FI_InvalidTable))) (xt_InvalidTable : PySem.W.typeIn K (.ref FI_InvalidTable) = some (.type "function")) (xn_InvalidTable : PySem.W.findIn K (.ref C_InvalidTable) "index" = some none) (xl_InvalidTable : K.lookup FI_InvalidTable = some ⟨xoc_InvalidTable, xod_InvalidTable, .func (PySem.W.fnOf "__init__" "InvalidTable.__init__" (defArgs (inS 2 0)) (defBody (inS 2 0)) (defScope (inS 2 0)) .none xkV_InvalidTable xdc_InvalidTable xpm_InvalidTable xan_InvalidTable xcd_InvalidTable xct_InvalidTable), xsl_InvalidTable⟩) (xc_InvalidTable : PySem.W.codeIn K xcd_InvalidTable "InvalidTable.__init__" = true) (xk_InvalidTable : PySem.W.keepIn K (.ref FI_InvalidTable) = true) (x_InvalidTable : OexC K C_InvalidTable)
    (xi_MissingColumn : PySem.W.findIn K (.ref C_MissingColumn) "__init__" = some (some (.ref FI_MissingColumn))) (xt_MissingColumn : PySem.W.typeIn K (.ref FI_MissingColumn) = some (.type "function")) (xn_MissingColumn : PySem.W.findIn K (.ref C_MissingColumn) "column" = some none) (xl_MissingColumn : K.lookup FI_MissingColumn = some ⟨xoc_MissingColumn, xod_MissingColumn, .func (PySem.W.fnOf "__init__" "MissingColumn.__init__" (defArgs (inS 15 0)) (defBody (inS 15 0)) (defScope (inS 15 0)) .none xkV_MissingColumn xdc_MissingColumn xpm_MissingColumn xan_MissingColumn xcd_MissingColumn xct_MissingColumn), xsl_MissingColumn⟩) (xc_MissingColumn : PySem.W.codeIn K xcd_MissingColumn "MissingColumn.__init__" = true) (xk_MissingColumn : PySem.W.keepIn K (.ref FI_MissingColumn) = true) (x_MissingColumn : OexL K C_MissingColumn)
    (xi_InvalidOrder : PySem.W.findIn K (.ref C_InvalidOrder) "__init__" = some (some (.ref FI_InvalidOrder))) (xt_InvalidOrder : PySem.W.typeIn K (.ref FI_InvalidOrder) = some (.type "function")) (xn_InvalidOrder : PySem.W.findIn K (.ref C_InvalidOrder) "index" = some none) (xl_InvalidOrder : K.lookup FI_InvalidOrder = some ⟨xoc_InvalidOrder, xod_InvalidOrder, .func (PySem.W.fnOf "__init__" "InvalidOrder.__init__" (defArgs (inS 4 0)) (defBody (inS 4 0)) (defScope (inS 4 0)) .none xkV_InvalidOrder xdc_InvalidOrder xpm_InvalidOrder xan_InvalidOrder xcd_InvalidOrder xct_InvalidOrder), xsl_InvalidOrder⟩) (xc_InvalidOrder : PySem.W.codeIn K xcd_InvalidOrder "InvalidOrder.__init__" = true) (xk_InvalidOrder : PySem.W.keepIn K (.ref FI_InvalidOrder) = true) (x_InvalidOrder : OexC K C_InvalidOrder)
    (xe_InvalidTable_TableError : PySem.W.exmOne K (.ref C_InvalidTable) (.ref C_TableError) = some true)
    (xe_MissingColumn_TableError : PySem.W.exmOne K (.ref C_MissingColumn) (.ref C_TableError) = some false)
    (xe_InvalidOrder_TableError : PySem.W.exmOne K (.ref C_InvalidOrder) (.ref C_TableError) = some true)
    (xe_InvalidTable_FindError : PySem.W.exmOne K (.ref C_InvalidTable) (.ref C_FindError) = some false)
    (xe_MissingColumn_FindError : PySem.W.exmOne K (.ref C_MissingColumn) (.ref C_FindError) = some true)
    (xe_InvalidOrder_FindError : PySem.W.exmOne K (.ref C_InvalidOrder) (.ref C_FindError) = some false)
    (xe_InvalidTable_LimitError : PySem.W.exmOne K (.ref C_InvalidTable) (.ref C_LimitError) = some false)
    (xe_MissingColumn_LimitError : PySem.W.exmOne K (.ref C_MissingColumn) (.ref C_LimitError) = some false)
    (xe_InvalidOrder_LimitError : PySem.W.exmOne K (.ref C_InvalidOrder) (.ref C_LimitError) = some false)
    (kx_InvalidTable : kexB K C_InvalidTable = true)
    (kx_MissingColumn : kexB K C_MissingColumn = true)
    (kx_InvalidOrder : kexB K C_InvalidOrder = true)
    (kt_ArithmeticError : kitTab K [(C_InvalidTable, .type "ArithmeticError", false), (C_MissingColumn, .type "ArithmeticError", false), (C_InvalidOrder, .type "ArithmeticError", false)] = true)
    (kt_LookupError : kitTab K [(C_InvalidTable, .type "LookupError", false), (C_MissingColumn, .type "LookupError", true), (C_InvalidOrder, .type "LookupError", false)] = true)
    (kt_ValueError : kitTab K [(C_InvalidTable, .type "ValueError", true), (C_MissingColumn, .type "ValueError", false), (C_InvalidOrder, .type "ValueError", true)] = true)
    (kt_LimitError : kitTab K [(C_InvalidTable, .ref C_LimitError, false), (C_MissingColumn, .ref C_LimitError, false), (C_InvalidOrder, .ref C_LimitError, false)] = true)
    (kt_FindError : kitTab K [(C_InvalidTable, .ref C_FindError, false), (C_MissingColumn, .ref C_FindError, true), (C_InvalidOrder, .ref C_FindError, false)] = true)
    (kt_TableError : kitTab K [(C_InvalidTable, .ref C_TableError, true), (C_MissingColumn, .ref C_TableError, false), (C_InvalidOrder, .ref C_TableError, true)] = true)
    (kt_LastRecord : kitTab K [(C_InvalidTable, .ref C_LastRecord, false), (C_MissingColumn, .ref C_LastRecord, false), (C_InvalidOrder, .ref C_LastRecord, false)] = true)
    (kt_TooManyEdits : kitTab K [(C_InvalidTable, .ref C_TooManyEdits, false), (C_MissingColumn, .ref C_TooManyEdits, false), (C_InvalidOrder, .ref C_TooManyEdits, false)] = true)
    (kt_TooManyRecords : kitTab K [(C_InvalidTable, .ref C_TooManyRecords, false), (C_MissingColumn, .ref C_TooManyRecords, false), (C_InvalidOrder, .ref C_TooManyRecords, false)] = true)
    (kt_NothingToUndo : kitTab K [(C_InvalidTable, .ref C_NothingToUndo, false), (C_MissingColumn, .ref C_NothingToUndo, false), (C_InvalidOrder, .ref C_NothingToUndo, false)] = true)
    (kt_NoPlace : kitTab K [(C_InvalidTable, .ref C_NoPlace, false), (C_MissingColumn, .ref C_NoPlace, false), (C_InvalidOrder, .ref C_NoPlace, false)] = true)
    (kt_MissingColumn : kitTab K [(C_InvalidTable, .ref C_MissingColumn, false), (C_MissingColumn, .ref C_MissingColumn, true), (C_InvalidOrder, .ref C_MissingColumn, false)] = true)
    (kt_InvalidCommand : kitTab K [(C_InvalidTable, .ref C_InvalidCommand, false), (C_MissingColumn, .ref C_InvalidCommand, false), (C_InvalidOrder, .ref C_InvalidCommand, false)] = true)
    (kt_InvalidEdit : kitTab K [(C_InvalidTable, .ref C_InvalidEdit, false), (C_MissingColumn, .ref C_InvalidEdit, false), (C_InvalidOrder, .ref C_InvalidEdit, false)] = true)
    (kt_InvalidValue : kitTab K [(C_InvalidTable, .ref C_InvalidValue, false), (C_MissingColumn, .ref C_InvalidValue, false), (C_InvalidOrder, .ref C_InvalidValue, false)] = true)
    (kt_InvalidRecord : kitTab K [(C_InvalidTable, .ref C_InvalidRecord, false), (C_MissingColumn, .ref C_InvalidRecord, false), (C_InvalidOrder, .ref C_InvalidRecord, false)] = true)
    (kt_InvalidLimit : kitTab K [(C_InvalidTable, .ref C_InvalidLimit, false), (C_MissingColumn, .ref C_InvalidLimit, false), (C_InvalidOrder, .ref C_InvalidLimit, false)] = true)
    (kt_InvalidText : kitTab K [(C_InvalidTable, .ref C_InvalidText, false), (C_MissingColumn, .ref C_InvalidText, false), (C_InvalidOrder, .ref C_InvalidText, false)] = true)
    (kt_InvalidPlaces : kitTab K [(C_InvalidTable, .ref C_InvalidPlaces, false), (C_MissingColumn, .ref C_InvalidPlaces, false), (C_InvalidOrder, .ref C_InvalidPlaces, false)] = true)
    (kt_InvalidNumber : kitTab K [(C_InvalidTable, .ref C_InvalidNumber, false), (C_MissingColumn, .ref C_InvalidNumber, false), (C_InvalidOrder, .ref C_InvalidNumber, false)] = true)
    (kt_InvalidProgram : kitTab K [(C_InvalidTable, .ref C_InvalidProgram, false), (C_MissingColumn, .ref C_InvalidProgram, false), (C_InvalidOrder, .ref C_InvalidProgram, false)] = true)
    (kt_InvalidOrder : kitTab K [(C_InvalidTable, .ref C_InvalidOrder, false), (C_MissingColumn, .ref C_InvalidOrder, false), (C_InvalidOrder, .ref C_InvalidOrder, true)] = true)
    (kt_InvalidColumns : kitTab K [(C_InvalidTable, .ref C_InvalidColumns, false), (C_MissingColumn, .ref C_InvalidColumns, false), (C_InvalidOrder, .ref C_InvalidColumns, false)] = true)
    (kt_InvalidTable : kitTab K [(C_InvalidTable, .ref C_InvalidTable, true), (C_MissingColumn, .ref C_InvalidTable, false), (C_InvalidOrder, .ref C_InvalidTable, false)] = true)
    (cq_sorted_places : cd17 = .ref c_sorted_places) (tbx_sorted_places : LamX.TabB base mg c_sorted_places P_sorted_places) (lbx_sorted_places : (P_sorted_places, ("sorted_places" ++ ".<locals>." : Str) ++ "<lambda>") ∈ Lab.T) (lux_sorted_places : ∀ p ∈ Lab.T, p.1 = P_sorted_places → p.2 = ("sorted_places" ++ ".<locals>." : Str) ++ "<lambda>")
    (cq__law_pair_right : cd34 = .ref c__law_pair_right) (tbx__law_pair_right : LamX.TabB base mg c__law_pair_right P__law_pair_right) (lbx__law_pair_right : (P__law_pair_right, ("_law_pair_right" ++ ".<locals>." : Str) ++ "<lambda>") ∈ Lab.T) (lux__law_pair_right : ∀ p ∈ Lab.T, p.1 = P__law_pair_right → p.2 = ("_law_pair_right" ++ ".<locals>." : Str) ++ "<lambda>")
    (hCC : LabW.C = clsOf [("InvalidTable", C_InvalidTable), ("MissingColumn", C_MissingColumn), ("InvalidOrder", C_InvalidOrder), ("TableError", C_TableError), ("FindError", C_FindError), ("LimitError", C_LimitError), ("LastRecord", C_LastRecord), ("TooManyEdits", C_TooManyEdits), ("TooManyRecords", C_TooManyRecords), ("NothingToUndo", C_NothingToUndo), ("NoPlace", C_NoPlace), ("InvalidCommand", C_InvalidCommand), ("InvalidEdit", C_InvalidEdit), ("InvalidValue", C_InvalidValue), ("InvalidRecord", C_InvalidRecord), ("InvalidLimit", C_InvalidLimit), ("InvalidText", C_InvalidText), ("InvalidPlaces", C_InvalidPlaces), ("InvalidNumber", C_InvalidNumber), ("InvalidProgram", C_InvalidProgram), ("InvalidColumns", C_InvalidColumns), ("places_by", f18), ("sorted_by", f19)] 0) : Tx Lab.T K mg base w where
  hw := hw
  A := fun i => match i with
    | 0 => f0
    | 1 => f1
    | 2 => f2
    | 3 => f3
    | 4 => f4
    | 5 => f5
    | 6 => f6
    | 7 => f7
    | 8 => f8
    | 9 => f9
    | 10 => f10
    | 11 => f11
    | 12 => f12
    | 13 => f13
    | 14 => f14
    | 15 => f15
    | 16 => f16
    | 17 => f17
    | 18 => f18
    | 19 => f19
    | 20 => f20
    | 21 => f21
    | 22 => f22
    | 23 => f23
    | 24 => f24
    | 25 => f25
    | 26 => f26
    | 27 => f27
    | 28 => f28
    | 29 => f29
    | 30 => f30
    | 31 => f31
    | 32 => f32
    | 33 => f33
    | 34 => f34
    | 35 => f35
    | 36 => f36
    | _ => f0
  FD := fun i => match i with
    | 0 => (PySem.W.fnOf "is_integer" "is_integer" (defArgs (topS 26)) (defBody (topS 26)) (defScope (topS 26)) .none kV0 dc0 pm0 an0 cd0 ct0)
    | 1 => (PySem.W.fnOf "is_record" "is_record" (defArgs (topS 27)) (defBody (topS 27)) (defScope (topS 27)) .none kV1 dc1 pm1 an1 cd1 ct1)
    | 2 => (PySem.W.fnOf "check_table" "check_table" (defArgs (topS 28)) (defBody (topS 28)) (defScope (topS 28)) .none kV2 dc2 pm2 an2 cd2 ct2)
    | 3 => (PySem.W.fnOf "count_columns" "count_columns" (defArgs (topS 29)) (defBody (topS 29)) (defScope (topS 29)) .none kV3 dc3 pm3 an3 cd3 ct3)
    | 4 => (PySem.W.fnOf "every_place" "every_place" (defArgs (topS 30)) (defBody (topS 30)) (defScope (topS 30)) .none kV4 dc4 pm4 an4 cd4 ct4)
    | 5 => (PySem.W.fnOf "records_at" "records_at" (defArgs (topS 31)) (defBody (topS 31)) (defScope (topS 31)) .none kV5 dc5 pm5 an5 cd5 ct5)
    | 6 => (PySem.W.fnOf "check_columns_below" "check_columns_below" (defArgs (topS 32)) (defBody (topS 32)) (defScope (topS 32)) .none kV6 dc6 pm6 an6 cd6 ct6)
    | 7 => (PySem.W.fnOf "is_word" "is_word" (defArgs (topS 35)) (defBody (topS 35)) (defScope (topS 35)) .none kV7 dc7 pm7 an7 cd7 ct7)
    | 8 => (PySem.W.fnOf "is_pair" "is_pair" (defArgs (topS 36)) (defBody (topS 36)) (defScope (topS 36)) .none kV8 dc8 pm8 an8 cd8 ct8)
    | 9 => (PySem.W.fnOf "is_sort_column" "is_sort_column" (defArgs (topS 37)) (defBody (topS 37)) (defScope (topS 37)) .none kV9 dc9 pm9 an9 cd9 ct9)
    | 10 => (PySem.W.fnOf "is_key" "is_key" (defArgs (topS 38)) (defBody (topS 38)) (defScope (topS 38)) .none kV10 dc10 pm10 an10 cd10 ct10)
    | 11 => (PySem.W.fnOf "is_place_part" "is_place_part" (defArgs (topS 39)) (defBody (topS 39)) (defScope (topS 39)) .none kV11 dc11 pm11 an11 cd11 ct11)
    | 12 => (PySem.W.fnOf "check_order" "check_order" (defArgs (topS 40)) (defBody (topS 40)) (defScope (topS 40)) .none kV12 dc12 pm12 an12 cd12 ct12)
    | 13 => (PySem.W.fnOf "columns_of" "columns_of" (defArgs (topS 41)) (defBody (topS 41)) (defScope (topS 41)) .none kV13 dc13 pm13 an13 cd13 ct13)
    | 14 => (PySem.W.fnOf "opposite" "opposite" (defArgs (topS 42)) (defBody (topS 42)) (defScope (topS 42)) .none kV14 dc14 pm14 an14 cd14 ct14)
    | 15 => (PySem.W.fnOf "turned" "turned" (defArgs (topS 43)) (defBody (topS 43)) (defScope (topS 43)) .none kV15 dc15 pm15 an15 cd15 ct15)
    | 16 => (PySem.W.fnOf "sort_values" "sort_values" (defArgs (topS 44)) (defBody (topS 44)) (defScope (topS 44)) .none kV16 dc16 pm16 an16 cd16 ct16)
    | 17 => (PySem.W.fnOf "sorted_places" "sorted_places" (defArgs (topS 45)) (defBody (topS 45)) (defScope (topS 45)) .none kV17 dc17 pm17 an17 cd17 ct17)
    | 18 => (PySem.W.fnOf "places_by" "places_by" (defArgs (topS 46)) (defBody (topS 46)) (defScope (topS 46)) .none kV18 dc18 pm18 an18 cd18 ct18)
    | 19 => (PySem.W.fnOf "sorted_by" "sorted_by" (defArgs (topS 47)) (defBody (topS 47)) (defScope (topS 47)) .none kV19 dc19 pm19 an19 cd19 ct19)
    | 20 => (PySem.W.fnOf "_law_cell" "_law_cell" (defArgs (topS 49)) (defBody (topS 49)) (defScope (topS 49)) .none kV20 dc20 pm20 an20 cd20 ct20)
    | 21 => (PySem.W.fnOf "_law_pool" "_law_pool" (defArgs (topS 50)) (defBody (topS 50)) (defScope (topS 50)) .none kV21 dc21 pm21 an21 cd21 ct21)
    | 22 => (PySem.W.fnOf "_law_draw" "_law_draw" (defArgs (topS 51)) (defBody (topS 51)) (defScope (topS 51)) .none kV22 dc22 pm22 an22 cd22 ct22)
    | 23 => (PySem.W.fnOf "_law_table" "_law_table" (defArgs (topS 52)) (defBody (topS 52)) (defScope (topS 52)) .none kV23 dc23 pm23 an23 cd23 ct23)
    | 24 => (PySem.W.fnOf "_law_order" "_law_order" (defArgs (topS 53)) (defBody (topS 53)) (defScope (topS 53)) .none kV24 dc24 pm24 an24 cd24 ct24)
    | 25 => (PySem.W.fnOf "_law_is_record" "_law_is_record" (defArgs (topS 54)) (defBody (topS 54)) (defScope (topS 54)) .none kV25 dc25 pm25 an25 cd25 ct25)
    | 26 => (PySem.W.fnOf "_law_table_fault" "_law_table_fault" (defArgs (topS 55)) (defBody (topS 55)) (defScope (topS 55)) .none kV26 dc26 pm26 an26 cd26 ct26)
    | 27 => (PySem.W.fnOf "_law_bent_table" "_law_bent_table" (defArgs (topS 56)) (defBody (topS 56)) (defScope (topS 56)) .none kV27 dc27 pm27 an27 cd27 ct27)
    | 28 => (PySem.W.fnOf "_law_order_fault" "_law_order_fault" (defArgs (topS 57)) (defBody (topS 57)) (defScope (topS 57)) .none kV28 dc28 pm28 an28 cd28 ct28)
    | 29 => (PySem.W.fnOf "_law_bent_order" "_law_bent_order" (defArgs (topS 58)) (defBody (topS 58)) (defScope (topS 58)) .none kV29 dc29 pm29 an29 cd29 ct29)
    | 30 => (PySem.W.fnOf "_law_kind" "_law_kind" (defArgs (topS 59)) (defBody (topS 59)) (defScope (topS 59)) .none kV30 dc30 pm30 an30 cd30 ct30)
    | 31 => (PySem.W.fnOf "_law_caught" "_law_caught" (defArgs (topS 60)) (defBody (topS 60)) (defScope (topS 60)) .none kV31 dc31 pm31 an31 cd31 ct31)
    | 32 => (PySem.W.fnOf "_law_table_due" "_law_table_due" (defArgs (topS 61)) (defBody (topS 61)) (defScope (topS 61)) .none kV32 dc32 pm32 an32 cd32 ct32)
    | 33 => (PySem.W.fnOf "_law_due" "_law_due" (defArgs (topS 62)) (defBody (topS 62)) (defScope (topS 62)) .none kV33 dc33 pm33 an33 cd33 ct33)
    | 34 => (PySem.W.fnOf "_law_pair_right" "_law_pair_right" (defArgs (topS 63)) (defBody (topS 63)) (defScope (topS 63)) .none kV34 dc34 pm34 an34 cd34 ct34)
    | 35 => (PySem.W.fnOf "_law_right" "_law_right" (defArgs (topS 64)) (defBody (topS 64)) (defScope (topS 64)) .none kV35 dc35 pm35 an35 cd35 ct35)
    | 36 => (PySem.W.fnOf "law" "law" (defArgs (topS 65)) (defBody (topS 65)) (defScope (topS 65)) .none kV36 dc36 pm36 an36 cd36 ct36)
    | _ => (PySem.W.fnOf "is_integer" "is_integer" (defArgs (topS 26)) (defBody (topS 26)) (defScope (topS 26)) .none kV0 dc0 pm0 an0 cd0 ct0)
  D_is_integer := fun_mk (st := (topS 26)) l0 c0 k0
  g_is_integer := PySem.W.mg_of X G a0
  D_is_record := fun_mk (st := (topS 27)) l1 c1 k1
  g_is_record := PySem.W.mg_of X G a1
  D_check_table := fun_mk (st := (topS 28)) l2 c2 k2
  g_check_table := PySem.W.mg_of X G a2
  D_count_columns := fun_mk (st := (topS 29)) l3 c3 k3
  g_count_columns := PySem.W.mg_of X G a3
  D_every_place := fun_mk (st := (topS 30)) l4 c4 k4
  g_every_place := PySem.W.mg_of X G a4
  D_records_at := fun_mk (st := (topS 31)) l5 c5 k5
  g_records_at := PySem.W.mg_of X G a5
  D_check_columns_below := fun_mk (st := (topS 32)) l6 c6 k6
  g_check_columns_below := PySem.W.mg_of X G a6
  D_is_word := fun_mk (st := (topS 35)) l7 c7 k7
  g_is_word := PySem.W.mg_of X G a7
  D_is_pair := fun_mk (st := (topS 36)) l8 c8 k8
  g_is_pair := PySem.W.mg_of X G a8
  D_is_sort_column := fun_mk (st := (topS 37)) l9 c9 k9
  g_is_sort_column := PySem.W.mg_of X G a9
  D_is_key := fun_mk (st := (topS 38)) l10 c10 k10
  g_is_key := PySem.W.mg_of X G a10
  D_is_place_part := fun_mk (st := (topS 39)) l11 c11 k11
  g_is_place_part := PySem.W.mg_of X G a11
  D_check_order := fun_mk (st := (topS 40)) l12 c12 k12
  g_check_order := PySem.W.mg_of X G a12
  D_columns_of := fun_mk (st := (topS 41)) l13 c13 k13
  g_columns_of := PySem.W.mg_of X G a13
  D_opposite := fun_mk (st := (topS 42)) l14 c14 k14
  g_opposite := PySem.W.mg_of X G a14
  D_turned := fun_mk (st := (topS 43)) l15 c15 k15
  g_turned := PySem.W.mg_of X G a15
  D_sort_values := fun_mk (st := (topS 44)) l16 c16 k16
  g_sort_values := PySem.W.mg_of X G a16
  D_sorted_places := fun_mk (st := (topS 45)) l17 c17 k17
  g_sorted_places := PySem.W.mg_of X G a17
  D_places_by := fun_mk (st := (topS 46)) l18 c18 k18
  g_places_by := PySem.W.mg_of X G a18
  D_sorted_by := fun_mk (st := (topS 47)) l19 c19 k19
  g_sorted_by := PySem.W.mg_of X G a19
  D__law_cell := fun_mk (st := (topS 49)) l20 c20 k20
  g__law_cell := PySem.W.mg_of X G a20
  D__law_pool := fun_mk (st := (topS 50)) l21 c21 k21
  g__law_pool := PySem.W.mg_of X G a21
  D__law_draw := fun_mk (st := (topS 51)) l22 c22 k22
  g__law_draw := PySem.W.mg_of X G a22
  D__law_table := fun_mk (st := (topS 52)) l23 c23 k23
  g__law_table := PySem.W.mg_of X G a23
  D__law_order := fun_mk (st := (topS 53)) l24 c24 k24
  g__law_order := PySem.W.mg_of X G a24
  D__law_is_record := fun_mk (st := (topS 54)) l25 c25 k25
  g__law_is_record := PySem.W.mg_of X G a25
  D__law_table_fault := fun_mk (st := (topS 55)) l26 c26 k26
  g__law_table_fault := PySem.W.mg_of X G a26
  D__law_bent_table := fun_mk (st := (topS 56)) l27 c27 k27
  g__law_bent_table := PySem.W.mg_of X G a27
  D__law_order_fault := fun_mk (st := (topS 57)) l28 c28 k28
  g__law_order_fault := PySem.W.mg_of X G a28
  D__law_bent_order := fun_mk (st := (topS 58)) l29 c29 k29
  g__law_bent_order := PySem.W.mg_of X G a29
  D__law_kind := fun_mk (st := (topS 59)) l30 c30 k30
  g__law_kind := PySem.W.mg_of X G a30
  D__law_caught := fun_mk (st := (topS 60)) l31 c31 k31
  g__law_caught := PySem.W.mg_of X G a31
  D__law_table_due := fun_mk (st := (topS 61)) l32 c32 k32
  g__law_table_due := PySem.W.mg_of X G a32
  D__law_due := fun_mk (st := (topS 62)) l33 c33 k33
  g__law_due := PySem.W.mg_of X G a33
  D__law_pair_right := fun_mk (st := (topS 63)) l34 c34 k34
  g__law_pair_right := PySem.W.mg_of X G a34
  D__law_right := fun_mk (st := (topS 64)) l35 c35 k35
  g__law_right := PySem.W.mg_of X G a35
  D_law := fun_mk (st := (topS 65)) l36 c36 k36
  g_law := PySem.W.mg_of X G a36
  n_ArithmeticError := PySem.W.mg_none_of X G n_ArithmeticError
  n_LookupError := PySem.W.mg_none_of X G n_LookupError
  n_ValueError := PySem.W.mg_none_of X G n_ValueError
  n_abs := PySem.W.mg_none_of X G n_abs
  n_all := PySem.W.mg_none_of X G n_all
  n_bool := PySem.W.mg_none_of X G n_bool
  n_divmod := PySem.W.mg_none_of X G n_divmod
  n_enumerate := PySem.W.mg_none_of X G n_enumerate
  n_int := PySem.W.mg_none_of X G n_int
  n_isinstance := PySem.W.mg_none_of X G n_isinstance
  n_len := PySem.W.mg_none_of X G n_len
  n_list := PySem.W.mg_none_of X G n_list
  n_max := PySem.W.mg_none_of X G n_max
  n_min := PySem.W.mg_none_of X G n_min
  n_range := PySem.W.mg_none_of X G n_range
  n_repr := PySem.W.mg_none_of X G n_repr
  n_sorted := PySem.W.mg_none_of X G n_sorted
  n_str := PySem.W.mg_none_of X G n_str
  n_tuple := PySem.W.mg_none_of X G n_tuple
  c_MOST_COLUMNS := c_MOST_COLUMNS
  c_MOST_RECORDS := c_MOST_RECORDS
  c_MOST_KEYS := c_MOST_KEYS
  c_DIRECTIONS := c_DIRECTIONS
  xm_InvalidTable := PySem.W.mg_of X G xa_InvalidTable
  xm_MissingColumn := PySem.W.mg_of X G xa_MissingColumn
  xm_InvalidOrder := PySem.W.mg_of X G xa_InvalidOrder
  xm_TableError := PySem.W.mg_of X G xa_TableError
  xm_FindError := PySem.W.mg_of X G xa_FindError
  xm_LimitError := PySem.W.mg_of X G xa_LimitError
  xm_LastRecord := PySem.W.mg_of X G xa_LastRecord
  xm_TooManyEdits := PySem.W.mg_of X G xa_TooManyEdits
  xm_TooManyRecords := PySem.W.mg_of X G xa_TooManyRecords
  xm_NothingToUndo := PySem.W.mg_of X G xa_NothingToUndo
  xm_NoPlace := PySem.W.mg_of X G xa_NoPlace
  xm_InvalidCommand := PySem.W.mg_of X G xa_InvalidCommand
  xm_InvalidEdit := PySem.W.mg_of X G xa_InvalidEdit
  xm_InvalidValue := PySem.W.mg_of X G xa_InvalidValue
  xm_InvalidRecord := PySem.W.mg_of X G xa_InvalidRecord
  xm_InvalidLimit := PySem.W.mg_of X G xa_InvalidLimit
  xm_InvalidText := PySem.W.mg_of X G xa_InvalidText
  xm_InvalidPlaces := PySem.W.mg_of X G xa_InvalidPlaces
  xm_InvalidNumber := PySem.W.mg_of X G xa_InvalidNumber
  xm_InvalidProgram := PySem.W.mg_of X G xa_InvalidProgram
  xm_InvalidColumns := PySem.W.mg_of X G xa_InvalidColumns
  xi_InvalidTable := xi_InvalidTable
  xt_InvalidTable := xt_InvalidTable
  xn_InvalidTable := xn_InvalidTable
  xD_InvalidTable := fun_mk (st := (inS 2 0)) xl_InvalidTable xc_InvalidTable xk_InvalidTable
  x_InvalidTable := x_InvalidTable
  xi_MissingColumn := xi_MissingColumn
  xt_MissingColumn := xt_MissingColumn
  xn_MissingColumn := xn_MissingColumn
  xD_MissingColumn := fun_mk (st := (inS 15 0)) xl_MissingColumn xc_MissingColumn xk_MissingColumn
  x_MissingColumn := x_MissingColumn
  xi_InvalidOrder := xi_InvalidOrder
  xt_InvalidOrder := xt_InvalidOrder
  xn_InvalidOrder := xn_InvalidOrder
  xD_InvalidOrder := fun_mk (st := (inS 4 0)) xl_InvalidOrder xc_InvalidOrder xk_InvalidOrder
  x_InvalidOrder := x_InvalidOrder
  xe_InvalidTable_TableError := xe_InvalidTable_TableError
  xe_MissingColumn_TableError := xe_MissingColumn_TableError
  xe_InvalidOrder_TableError := xe_InvalidOrder_TableError
  xe_InvalidTable_FindError := xe_InvalidTable_FindError
  xe_MissingColumn_FindError := xe_MissingColumn_FindError
  xe_InvalidOrder_FindError := xe_InvalidOrder_FindError
  xe_InvalidTable_LimitError := xe_InvalidTable_LimitError
  xe_MissingColumn_LimitError := xe_MissingColumn_LimitError
  xe_InvalidOrder_LimitError := xe_InvalidOrder_LimitError
  hF_places_by := by rw [hCC]; rfl
  hF_sorted_by := by rw [hCC]; rfl
  hC := hCC.symm
  kx_InvalidTable := kx_InvalidTable
  kx_MissingColumn := kx_MissingColumn
  kx_InvalidOrder := kx_InvalidOrder
  kt_ArithmeticError := kt_ArithmeticError
  kt_LookupError := kt_LookupError
  kt_ValueError := kt_ValueError
  kt_LimitError := kt_LimitError
  kt_FindError := kt_FindError
  kt_TableError := kt_TableError
  kt_LastRecord := kt_LastRecord
  kt_TooManyEdits := kt_TooManyEdits
  kt_TooManyRecords := kt_TooManyRecords
  kt_NothingToUndo := kt_NothingToUndo
  kt_NoPlace := kt_NoPlace
  kt_MissingColumn := kt_MissingColumn
  kt_InvalidCommand := kt_InvalidCommand
  kt_InvalidEdit := kt_InvalidEdit
  kt_InvalidValue := kt_InvalidValue
  kt_InvalidRecord := kt_InvalidRecord
  kt_InvalidLimit := kt_InvalidLimit
  kt_InvalidText := kt_InvalidText
  kt_InvalidPlaces := kt_InvalidPlaces
  kt_InvalidNumber := kt_InvalidNumber
  kt_InvalidProgram := kt_InvalidProgram
  kt_InvalidOrder := kt_InvalidOrder
  kt_InvalidColumns := kt_InvalidColumns
  kt_InvalidTable := kt_InvalidTable
  C := clsOf [("InvalidTable", C_InvalidTable), ("MissingColumn", C_MissingColumn), ("InvalidOrder", C_InvalidOrder), ("TableError", C_TableError), ("FindError", C_FindError), ("LimitError", C_LimitError), ("LastRecord", C_LastRecord), ("TooManyEdits", C_TooManyEdits), ("TooManyRecords", C_TooManyRecords), ("NothingToUndo", C_NothingToUndo), ("NoPlace", C_NoPlace), ("InvalidCommand", C_InvalidCommand), ("InvalidEdit", C_InvalidEdit), ("InvalidValue", C_InvalidValue), ("InvalidRecord", C_InvalidRecord), ("InvalidLimit", C_InvalidLimit), ("InvalidText", C_InvalidText), ("InvalidPlaces", C_InvalidPlaces), ("InvalidNumber", C_InvalidNumber), ("InvalidProgram", C_InvalidProgram), ("InvalidColumns", C_InvalidColumns), ("places_by", f18), ("sorted_by", f19)] 0
  FI := clsOf [("InvalidTable", FI_InvalidTable), ("MissingColumn", FI_MissingColumn), ("InvalidOrder", FI_InvalidOrder)] 0
  FDI := clsOf [("InvalidTable", (PySem.W.fnOf "__init__" "InvalidTable.__init__" (defArgs (inS 2 0)) (defBody (inS 2 0)) (defScope (inS 2 0)) .none xkV_InvalidTable xdc_InvalidTable xpm_InvalidTable xan_InvalidTable xcd_InvalidTable xct_InvalidTable)), ("MissingColumn", (PySem.W.fnOf "__init__" "MissingColumn.__init__" (defArgs (inS 15 0)) (defBody (inS 15 0)) (defScope (inS 15 0)) .none xkV_MissingColumn xdc_MissingColumn xpm_MissingColumn xan_MissingColumn xcd_MissingColumn xct_MissingColumn)), ("InvalidOrder", (PySem.W.fnOf "__init__" "InvalidOrder.__init__" (defArgs (inS 4 0)) (defBody (inS 4 0)) (defScope (inS 4 0)) .none xkV_InvalidOrder xdc_InvalidOrder xpm_InvalidOrder xan_InvalidOrder xcd_InvalidOrder xct_InvalidOrder))] (PySem.W.fnOf "__init__" "InvalidTable.__init__" (defArgs (inS 2 0)) (defBody (inS 2 0)) (defScope (inS 2 0)) .none xkV_InvalidTable xdc_InvalidTable xpm_InvalidTable xan_InvalidTable xcd_InvalidTable xct_InvalidTable)
  cP_sorted_places := (c_sorted_places, P_sorted_places)
  tb_sorted_places := tbx_sorted_places
  cd_sorted_places := (show cd17 = .ref c_sorted_places from cq_sorted_places)
  lb_sorted_places := lbx_sorted_places
  lu_sorted_places := lux_sorted_places
  cP__law_pair_right := (c__law_pair_right, P__law_pair_right)
  tb__law_pair_right := tbx__law_pair_right
  cd__law_pair_right := (show cd34 = .ref c__law_pair_right from cq__law_pair_right)
  lb__law_pair_right := lbx__law_pair_right
  lu__law_pair_right := lux__law_pair_right
theorem all_mk {l : PySem.W.OpenLaw} {w : World} {K : PySem.W.Frag} {h : Heap} {mg : Str → Option Value} {fa : Addr} (X : K.In h) (G : h.Ns mainGlobals mg) (hfa : mg "law" = some (.ref fa))
    {f0 : Addr} {od0 an0 : Option Addr} {sl0 : Array (Option Value)} {oc0 kV0 dc0 pm0 cd0 ct0 : Value}
    {f1 : Addr} {od1 an1 : Option Addr} {sl1 : Array (Option Value)} {oc1 kV1 dc1 pm1 cd1 ct1 : Value}
    {f2 : Addr} {od2 an2 : Option Addr} {sl2 : Array (Option Value)} {oc2 kV2 dc2 pm2 cd2 ct2 : Value}
    {f3 : Addr} {od3 an3 : Option Addr} {sl3 : Array (Option Value)} {oc3 kV3 dc3 pm3 cd3 ct3 : Value}
    {f4 : Addr} {od4 an4 : Option Addr} {sl4 : Array (Option Value)} {oc4 kV4 dc4 pm4 cd4 ct4 : Value}
    {f5 : Addr} {od5 an5 : Option Addr} {sl5 : Array (Option Value)} {oc5 kV5 dc5 pm5 cd5 ct5 : Value}
    {f6 : Addr} {od6 an6 : Option Addr} {sl6 : Array (Option Value)} {oc6 kV6 dc6 pm6 cd6 ct6 : Value}
    {f7 : Addr} {od7 an7 : Option Addr} {sl7 : Array (Option Value)} {oc7 kV7 dc7 pm7 cd7 ct7 : Value}
    {f8 : Addr} {od8 an8 : Option Addr} {sl8 : Array (Option Value)} {oc8 kV8 dc8 pm8 cd8 ct8 : Value}
    {f9 : Addr} {od9 an9 : Option Addr} {sl9 : Array (Option Value)} {oc9 kV9 dc9 pm9 cd9 ct9 : Value}
    {f10 : Addr} {od10 an10 : Option Addr} {sl10 : Array (Option Value)} {oc10 kV10 dc10 pm10 cd10 ct10 : Value}
    {f11 : Addr} {od11 an11 : Option Addr} {sl11 : Array (Option Value)} {oc11 kV11 dc11 pm11 cd11 ct11 : Value}
    {f12 : Addr} {od12 an12 : Option Addr} {sl12 : Array (Option Value)} {oc12 kV12 dc12 pm12 cd12 ct12 : Value}
    {f13 : Addr} {od13 an13 : Option Addr} {sl13 : Array (Option Value)} {oc13 kV13 dc13 pm13 cd13 ct13 : Value}
    {f14 : Addr} {od14 an14 : Option Addr} {sl14 : Array (Option Value)} {oc14 kV14 dc14 pm14 cd14 ct14 : Value}
    {f15 : Addr} {od15 an15 : Option Addr} {sl15 : Array (Option Value)} {oc15 kV15 dc15 pm15 cd15 ct15 : Value}
    {f16 : Addr} {od16 an16 : Option Addr} {sl16 : Array (Option Value)} {oc16 kV16 dc16 pm16 cd16 ct16 : Value}
    {f17 : Addr} {od17 an17 : Option Addr} {sl17 : Array (Option Value)} {oc17 kV17 dc17 pm17 cd17 ct17 : Value}
    {f18 : Addr} {od18 an18 : Option Addr} {sl18 : Array (Option Value)} {oc18 kV18 dc18 pm18 cd18 ct18 : Value}
    {f19 : Addr} {od19 an19 : Option Addr} {sl19 : Array (Option Value)} {oc19 kV19 dc19 pm19 cd19 ct19 : Value}
    {f20 : Addr} {od20 an20 : Option Addr} {sl20 : Array (Option Value)} {oc20 kV20 dc20 pm20 cd20 ct20 : Value}
    {f21 : Addr} {od21 an21 : Option Addr} {sl21 : Array (Option Value)} {oc21 kV21 dc21 pm21 cd21 ct21 : Value}
    {f22 : Addr} {od22 an22 : Option Addr} {sl22 : Array (Option Value)} {oc22 kV22 dc22 pm22 cd22 ct22 : Value}
    {f23 : Addr} {od23 an23 : Option Addr} {sl23 : Array (Option Value)} {oc23 kV23 dc23 pm23 cd23 ct23 : Value}
    {f24 : Addr} {od24 an24 : Option Addr} {sl24 : Array (Option Value)} {oc24 kV24 dc24 pm24 cd24 ct24 : Value}
    {f25 : Addr} {od25 an25 : Option Addr} {sl25 : Array (Option Value)} {oc25 kV25 dc25 pm25 cd25 ct25 : Value}
    {f26 : Addr} {od26 an26 : Option Addr} {sl26 : Array (Option Value)} {oc26 kV26 dc26 pm26 cd26 ct26 : Value}
    {f27 : Addr} {od27 an27 : Option Addr} {sl27 : Array (Option Value)} {oc27 kV27 dc27 pm27 cd27 ct27 : Value}
    {f28 : Addr} {od28 an28 : Option Addr} {sl28 : Array (Option Value)} {oc28 kV28 dc28 pm28 cd28 ct28 : Value}
    {f29 : Addr} {od29 an29 : Option Addr} {sl29 : Array (Option Value)} {oc29 kV29 dc29 pm29 cd29 ct29 : Value}
    {f30 : Addr} {od30 an30 : Option Addr} {sl30 : Array (Option Value)} {oc30 kV30 dc30 pm30 cd30 ct30 : Value}
    {f31 : Addr} {od31 an31 : Option Addr} {sl31 : Array (Option Value)} {oc31 kV31 dc31 pm31 cd31 ct31 : Value}
    {f32 : Addr} {od32 an32 : Option Addr} {sl32 : Array (Option Value)} {oc32 kV32 dc32 pm32 cd32 ct32 : Value}
    {f33 : Addr} {od33 an33 : Option Addr} {sl33 : Array (Option Value)} {oc33 kV33 dc33 pm33 cd33 ct33 : Value}
    {f34 : Addr} {od34 an34 : Option Addr} {sl34 : Array (Option Value)} {oc34 kV34 dc34 pm34 cd34 ct34 : Value}
    {f35 : Addr} {od35 an35 : Option Addr} {sl35 : Array (Option Value)} {oc35 kV35 dc35 pm35 cd35 ct35 : Value}
    {f36 : Addr} {od36 an36 : Option Addr} {sl36 : Array (Option Value)} {oc36 kV36 dc36 pm36 cd36 ct36 : Value}
    {C_InvalidTable : Addr}
    {C_MissingColumn : Addr}
    {C_InvalidOrder : Addr}
    {C_TableError : Addr}
    {C_FindError : Addr}
    {C_LimitError : Addr}
    {C_LastRecord : Addr}
    {C_TooManyEdits : Addr}
    {C_TooManyRecords : Addr}
    {C_NothingToUndo : Addr}
    {C_NoPlace : Addr}
    {C_InvalidCommand : Addr}
    {C_InvalidEdit : Addr}
    {C_InvalidValue : Addr}
    {C_InvalidRecord : Addr}
    {C_InvalidLimit : Addr}
    {C_InvalidText : Addr}
    {C_InvalidPlaces : Addr}
    {C_InvalidNumber : Addr}
    {C_InvalidProgram : Addr}
    {C_InvalidColumns : Addr}
    {FI_InvalidTable : Addr} {xod_InvalidTable xan_InvalidTable : Option Addr} {xsl_InvalidTable : Array (Option Value)} {xoc_InvalidTable xkV_InvalidTable xdc_InvalidTable xpm_InvalidTable xcd_InvalidTable xct_InvalidTable : Value}
    {FI_MissingColumn : Addr} {xod_MissingColumn xan_MissingColumn : Option Addr} {xsl_MissingColumn : Array (Option Value)} {xoc_MissingColumn xkV_MissingColumn xdc_MissingColumn xpm_MissingColumn xcd_MissingColumn xct_MissingColumn : Value}
    {FI_InvalidOrder : Addr} {xod_InvalidOrder xan_InvalidOrder : Option Addr} {xsl_InvalidOrder : Array (Option Value)} {xoc_InvalidOrder xkV_InvalidOrder xdc_InvalidOrder xpm_InvalidOrder xcd_InvalidOrder xct_InvalidOrder : Value}
    {c_sorted_places P_sorted_places : Addr} {moc_sorted_places : Value} {mod_sorted_places : Option Addr} {mvs_sorted_places : Array Value} {msl_sorted_places : Array (Option Value)}
    {c__law_pair_right P__law_pair_right : Addr} {moc__law_pair_right : Value} {mod__law_pair_right : Option Addr} {mvs__law_pair_right : Array Value} {msl__law_pair_right : Array (Option Value)}
    (a0 : PySem.W.nsIn K mainGlobals "is_integer" = some (some (.ref f0))) (l0 : K.lookup f0 = some ⟨oc0, od0, .func (PySem.W.fnOf "is_integer" "is_integer" (defArgs (topS 26)) (defBody (topS 26)) (defScope (topS 26)) .none kV0 dc0 pm0 an0 cd0 ct0), sl0⟩) (c0 : PySem.W.codeIn K cd0 "is_integer" = true) (k0 : PySem.W.keepIn K (.ref f0) = true)
    (a1 : PySem.W.nsIn K mainGlobals "is_record" = some (some (.ref f1))) (l1 : K.lookup f1 = some ⟨oc1, od1, .func (PySem.W.fnOf "is_record" "is_record" (defArgs (topS 27)) (defBody (topS 27)) (defScope (topS 27)) .none kV1 dc1 pm1 an1 cd1 ct1), sl1⟩) (c1 : PySem.W.codeIn K cd1 "is_record" = true) (k1 : PySem.W.keepIn K (.ref f1) = true)
    (a2 : PySem.W.nsIn K mainGlobals "check_table" = some (some (.ref f2))) (l2 : K.lookup f2 = some ⟨oc2, od2, .func (PySem.W.fnOf "check_table" "check_table" (defArgs (topS 28)) (defBody (topS 28)) (defScope (topS 28)) .none kV2 dc2 pm2 an2 cd2 ct2), sl2⟩) (c2 : PySem.W.codeIn K cd2 "check_table" = true) (k2 : PySem.W.keepIn K (.ref f2) = true)
    (a3 : PySem.W.nsIn K mainGlobals "count_columns" = some (some (.ref f3))) (l3 : K.lookup f3 = some ⟨oc3, od3, .func (PySem.W.fnOf "count_columns" "count_columns" (defArgs (topS 29)) (defBody (topS 29)) (defScope (topS 29)) .none kV3 dc3 pm3 an3 cd3 ct3), sl3⟩) (c3 : PySem.W.codeIn K cd3 "count_columns" = true) (k3 : PySem.W.keepIn K (.ref f3) = true)
    (a4 : PySem.W.nsIn K mainGlobals "every_place" = some (some (.ref f4))) (l4 : K.lookup f4 = some ⟨oc4, od4, .func (PySem.W.fnOf "every_place" "every_place" (defArgs (topS 30)) (defBody (topS 30)) (defScope (topS 30)) .none kV4 dc4 pm4 an4 cd4 ct4), sl4⟩) (c4 : PySem.W.codeIn K cd4 "every_place" = true) (k4 : PySem.W.keepIn K (.ref f4) = true)
    (a5 : PySem.W.nsIn K mainGlobals "records_at" = some (some (.ref f5))) (l5 : K.lookup f5 = some ⟨oc5, od5, .func (PySem.W.fnOf "records_at" "records_at" (defArgs (topS 31)) (defBody (topS 31)) (defScope (topS 31)) .none kV5 dc5 pm5 an5 cd5 ct5), sl5⟩) (c5 : PySem.W.codeIn K cd5 "records_at" = true) (k5 : PySem.W.keepIn K (.ref f5) = true)
    (a6 : PySem.W.nsIn K mainGlobals "check_columns_below" = some (some (.ref f6))) (l6 : K.lookup f6 = some ⟨oc6, od6, .func (PySem.W.fnOf "check_columns_below" "check_columns_below" (defArgs (topS 32)) (defBody (topS 32)) (defScope (topS 32)) .none kV6 dc6 pm6 an6 cd6 ct6), sl6⟩) (c6 : PySem.W.codeIn K cd6 "check_columns_below" = true) (k6 : PySem.W.keepIn K (.ref f6) = true)
    (a7 : PySem.W.nsIn K mainGlobals "is_word" = some (some (.ref f7))) (l7 : K.lookup f7 = some ⟨oc7, od7, .func (PySem.W.fnOf "is_word" "is_word" (defArgs (topS 35)) (defBody (topS 35)) (defScope (topS 35)) .none kV7 dc7 pm7 an7 cd7 ct7), sl7⟩) (c7 : PySem.W.codeIn K cd7 "is_word" = true) (k7 : PySem.W.keepIn K (.ref f7) = true)
    (a8 : PySem.W.nsIn K mainGlobals "is_pair" = some (some (.ref f8))) (l8 : K.lookup f8 = some ⟨oc8, od8, .func (PySem.W.fnOf "is_pair" "is_pair" (defArgs (topS 36)) (defBody (topS 36)) (defScope (topS 36)) .none kV8 dc8 pm8 an8 cd8 ct8), sl8⟩) (c8 : PySem.W.codeIn K cd8 "is_pair" = true) (k8 : PySem.W.keepIn K (.ref f8) = true)
    (a9 : PySem.W.nsIn K mainGlobals "is_sort_column" = some (some (.ref f9))) (l9 : K.lookup f9 = some ⟨oc9, od9, .func (PySem.W.fnOf "is_sort_column" "is_sort_column" (defArgs (topS 37)) (defBody (topS 37)) (defScope (topS 37)) .none kV9 dc9 pm9 an9 cd9 ct9), sl9⟩) (c9 : PySem.W.codeIn K cd9 "is_sort_column" = true) (k9 : PySem.W.keepIn K (.ref f9) = true)
    (a10 : PySem.W.nsIn K mainGlobals "is_key" = some (some (.ref f10))) (l10 : K.lookup f10 = some ⟨oc10, od10, .func (PySem.W.fnOf "is_key" "is_key" (defArgs (topS 38)) (defBody (topS 38)) (defScope (topS 38)) .none kV10 dc10 pm10 an10 cd10 ct10), sl10⟩) (c10 : PySem.W.codeIn K cd10 "is_key" = true) (k10 : PySem.W.keepIn K (.ref f10) = true)
    (a11 : PySem.W.nsIn K mainGlobals "is_place_part" = some (some (.ref f11))) (l11 : K.lookup f11 = some ⟨oc11, od11, .func (PySem.W.fnOf "is_place_part" "is_place_part" (defArgs (topS 39)) (defBody (topS 39)) (defScope (topS 39)) .none kV11 dc11 pm11 an11 cd11 ct11), sl11⟩) (c11 : PySem.W.codeIn K cd11 "is_place_part" = true) (k11 : PySem.W.keepIn K (.ref f11) = true)
    (a12 : PySem.W.nsIn K mainGlobals "check_order" = some (some (.ref f12))) (l12 : K.lookup f12 = some ⟨oc12, od12, .func (PySem.W.fnOf "check_order" "check_order" (defArgs (topS 40)) (defBody (topS 40)) (defScope (topS 40)) .none kV12 dc12 pm12 an12 cd12 ct12), sl12⟩) (c12 : PySem.W.codeIn K cd12 "check_order" = true) (k12 : PySem.W.keepIn K (.ref f12) = true)
    (a13 : PySem.W.nsIn K mainGlobals "columns_of" = some (some (.ref f13))) (l13 : K.lookup f13 = some ⟨oc13, od13, .func (PySem.W.fnOf "columns_of" "columns_of" (defArgs (topS 41)) (defBody (topS 41)) (defScope (topS 41)) .none kV13 dc13 pm13 an13 cd13 ct13), sl13⟩) (c13 : PySem.W.codeIn K cd13 "columns_of" = true) (k13 : PySem.W.keepIn K (.ref f13) = true)
    (a14 : PySem.W.nsIn K mainGlobals "opposite" = some (some (.ref f14))) (l14 : K.lookup f14 = some ⟨oc14, od14, .func (PySem.W.fnOf "opposite" "opposite" (defArgs (topS 42)) (defBody (topS 42)) (defScope (topS 42)) .none kV14 dc14 pm14 an14 cd14 ct14), sl14⟩) (c14 : PySem.W.codeIn K cd14 "opposite" = true) (k14 : PySem.W.keepIn K (.ref f14) = true)
    (a15 : PySem.W.nsIn K mainGlobals "turned" = some (some (.ref f15))) (l15 : K.lookup f15 = some ⟨oc15, od15, .func (PySem.W.fnOf "turned" "turned" (defArgs (topS 43)) (defBody (topS 43)) (defScope (topS 43)) .none kV15 dc15 pm15 an15 cd15 ct15), sl15⟩) (c15 : PySem.W.codeIn K cd15 "turned" = true) (k15 : PySem.W.keepIn K (.ref f15) = true)
    (a16 : PySem.W.nsIn K mainGlobals "sort_values" = some (some (.ref f16))) (l16 : K.lookup f16 = some ⟨oc16, od16, .func (PySem.W.fnOf "sort_values" "sort_values" (defArgs (topS 44)) (defBody (topS 44)) (defScope (topS 44)) .none kV16 dc16 pm16 an16 cd16 ct16), sl16⟩) (c16 : PySem.W.codeIn K cd16 "sort_values" = true) (k16 : PySem.W.keepIn K (.ref f16) = true)
    (a17 : PySem.W.nsIn K mainGlobals "sorted_places" = some (some (.ref f17))) (l17 : K.lookup f17 = some ⟨oc17, od17, .func (PySem.W.fnOf "sorted_places" "sorted_places" (defArgs (topS 45)) (defBody (topS 45)) (defScope (topS 45)) .none kV17 dc17 pm17 an17 cd17 ct17), sl17⟩) (c17 : PySem.W.codeIn K cd17 "sorted_places" = true) (k17 : PySem.W.keepIn K (.ref f17) = true)
    (a18 : PySem.W.nsIn K mainGlobals "places_by" = some (some (.ref f18))) (l18 : K.lookup f18 = some ⟨oc18, od18, .func (PySem.W.fnOf "places_by" "places_by" (defArgs (topS 46)) (defBody (topS 46)) (defScope (topS 46)) .none kV18 dc18 pm18 an18 cd18 ct18), sl18⟩) (c18 : PySem.W.codeIn K cd18 "places_by" = true) (k18 : PySem.W.keepIn K (.ref f18) = true)
    (a19 : PySem.W.nsIn K mainGlobals "sorted_by" = some (some (.ref f19))) (l19 : K.lookup f19 = some ⟨oc19, od19, .func (PySem.W.fnOf "sorted_by" "sorted_by" (defArgs (topS 47)) (defBody (topS 47)) (defScope (topS 47)) .none kV19 dc19 pm19 an19 cd19 ct19), sl19⟩) (c19 : PySem.W.codeIn K cd19 "sorted_by" = true) (k19 : PySem.W.keepIn K (.ref f19) = true)
    (a20 : PySem.W.nsIn K mainGlobals "_law_cell" = some (some (.ref f20))) (l20 : K.lookup f20 = some ⟨oc20, od20, .func (PySem.W.fnOf "_law_cell" "_law_cell" (defArgs (topS 49)) (defBody (topS 49)) (defScope (topS 49)) .none kV20 dc20 pm20 an20 cd20 ct20), sl20⟩) (c20 : PySem.W.codeIn K cd20 "_law_cell" = true) (k20 : PySem.W.keepIn K (.ref f20) = true)
    (a21 : PySem.W.nsIn K mainGlobals "_law_pool" = some (some (.ref f21))) (l21 : K.lookup f21 = some ⟨oc21, od21, .func (PySem.W.fnOf "_law_pool" "_law_pool" (defArgs (topS 50)) (defBody (topS 50)) (defScope (topS 50)) .none kV21 dc21 pm21 an21 cd21 ct21), sl21⟩) (c21 : PySem.W.codeIn K cd21 "_law_pool" = true) (k21 : PySem.W.keepIn K (.ref f21) = true)
    (a22 : PySem.W.nsIn K mainGlobals "_law_draw" = some (some (.ref f22))) (l22 : K.lookup f22 = some ⟨oc22, od22, .func (PySem.W.fnOf "_law_draw" "_law_draw" (defArgs (topS 51)) (defBody (topS 51)) (defScope (topS 51)) .none kV22 dc22 pm22 an22 cd22 ct22), sl22⟩) (c22 : PySem.W.codeIn K cd22 "_law_draw" = true) (k22 : PySem.W.keepIn K (.ref f22) = true)
    (a23 : PySem.W.nsIn K mainGlobals "_law_table" = some (some (.ref f23))) (l23 : K.lookup f23 = some ⟨oc23, od23, .func (PySem.W.fnOf "_law_table" "_law_table" (defArgs (topS 52)) (defBody (topS 52)) (defScope (topS 52)) .none kV23 dc23 pm23 an23 cd23 ct23), sl23⟩) (c23 : PySem.W.codeIn K cd23 "_law_table" = true) (k23 : PySem.W.keepIn K (.ref f23) = true)
    (a24 : PySem.W.nsIn K mainGlobals "_law_order" = some (some (.ref f24))) (l24 : K.lookup f24 = some ⟨oc24, od24, .func (PySem.W.fnOf "_law_order" "_law_order" (defArgs (topS 53)) (defBody (topS 53)) (defScope (topS 53)) .none kV24 dc24 pm24 an24 cd24 ct24), sl24⟩) (c24 : PySem.W.codeIn K cd24 "_law_order" = true) (k24 : PySem.W.keepIn K (.ref f24) = true)
    (a25 : PySem.W.nsIn K mainGlobals "_law_is_record" = some (some (.ref f25))) (l25 : K.lookup f25 = some ⟨oc25, od25, .func (PySem.W.fnOf "_law_is_record" "_law_is_record" (defArgs (topS 54)) (defBody (topS 54)) (defScope (topS 54)) .none kV25 dc25 pm25 an25 cd25 ct25), sl25⟩) (c25 : PySem.W.codeIn K cd25 "_law_is_record" = true) (k25 : PySem.W.keepIn K (.ref f25) = true)
    (a26 : PySem.W.nsIn K mainGlobals "_law_table_fault" = some (some (.ref f26))) (l26 : K.lookup f26 = some ⟨oc26, od26, .func (PySem.W.fnOf "_law_table_fault" "_law_table_fault" (defArgs (topS 55)) (defBody (topS 55)) (defScope (topS 55)) .none kV26 dc26 pm26 an26 cd26 ct26), sl26⟩) (c26 : PySem.W.codeIn K cd26 "_law_table_fault" = true) (k26 : PySem.W.keepIn K (.ref f26) = true)
    (a27 : PySem.W.nsIn K mainGlobals "_law_bent_table" = some (some (.ref f27))) (l27 : K.lookup f27 = some ⟨oc27, od27, .func (PySem.W.fnOf "_law_bent_table" "_law_bent_table" (defArgs (topS 56)) (defBody (topS 56)) (defScope (topS 56)) .none kV27 dc27 pm27 an27 cd27 ct27), sl27⟩) (c27 : PySem.W.codeIn K cd27 "_law_bent_table" = true) (k27 : PySem.W.keepIn K (.ref f27) = true)
    (a28 : PySem.W.nsIn K mainGlobals "_law_order_fault" = some (some (.ref f28))) (l28 : K.lookup f28 = some ⟨oc28, od28, .func (PySem.W.fnOf "_law_order_fault" "_law_order_fault" (defArgs (topS 57)) (defBody (topS 57)) (defScope (topS 57)) .none kV28 dc28 pm28 an28 cd28 ct28), sl28⟩) (c28 : PySem.W.codeIn K cd28 "_law_order_fault" = true) (k28 : PySem.W.keepIn K (.ref f28) = true)
    (a29 : PySem.W.nsIn K mainGlobals "_law_bent_order" = some (some (.ref f29))) (l29 : K.lookup f29 = some ⟨oc29, od29, .func (PySem.W.fnOf "_law_bent_order" "_law_bent_order" (defArgs (topS 58)) (defBody (topS 58)) (defScope (topS 58)) .none kV29 dc29 pm29 an29 cd29 ct29), sl29⟩) (c29 : PySem.W.codeIn K cd29 "_law_bent_order" = true) (k29 : PySem.W.keepIn K (.ref f29) = true)
    (a30 : PySem.W.nsIn K mainGlobals "_law_kind" = some (some (.ref f30))) (l30 : K.lookup f30 = some ⟨oc30, od30, .func (PySem.W.fnOf "_law_kind" "_law_kind" (defArgs (topS 59)) (defBody (topS 59)) (defScope (topS 59)) .none kV30 dc30 pm30 an30 cd30 ct30), sl30⟩) (c30 : PySem.W.codeIn K cd30 "_law_kind" = true) (k30 : PySem.W.keepIn K (.ref f30) = true)
    (a31 : PySem.W.nsIn K mainGlobals "_law_caught" = some (some (.ref f31))) (l31 : K.lookup f31 = some ⟨oc31, od31, .func (PySem.W.fnOf "_law_caught" "_law_caught" (defArgs (topS 60)) (defBody (topS 60)) (defScope (topS 60)) .none kV31 dc31 pm31 an31 cd31 ct31), sl31⟩) (c31 : PySem.W.codeIn K cd31 "_law_caught" = true) (k31 : PySem.W.keepIn K (.ref f31) = true)
    (a32 : PySem.W.nsIn K mainGlobals "_law_table_due" = some (some (.ref f32))) (l32 : K.lookup f32 = some ⟨oc32, od32, .func (PySem.W.fnOf "_law_table_due" "_law_table_due" (defArgs (topS 61)) (defBody (topS 61)) (defScope (topS 61)) .none kV32 dc32 pm32 an32 cd32 ct32), sl32⟩) (c32 : PySem.W.codeIn K cd32 "_law_table_due" = true) (k32 : PySem.W.keepIn K (.ref f32) = true)
    (a33 : PySem.W.nsIn K mainGlobals "_law_due" = some (some (.ref f33))) (l33 : K.lookup f33 = some ⟨oc33, od33, .func (PySem.W.fnOf "_law_due" "_law_due" (defArgs (topS 62)) (defBody (topS 62)) (defScope (topS 62)) .none kV33 dc33 pm33 an33 cd33 ct33), sl33⟩) (c33 : PySem.W.codeIn K cd33 "_law_due" = true) (k33 : PySem.W.keepIn K (.ref f33) = true)
    (a34 : PySem.W.nsIn K mainGlobals "_law_pair_right" = some (some (.ref f34))) (l34 : K.lookup f34 = some ⟨oc34, od34, .func (PySem.W.fnOf "_law_pair_right" "_law_pair_right" (defArgs (topS 63)) (defBody (topS 63)) (defScope (topS 63)) .none kV34 dc34 pm34 an34 cd34 ct34), sl34⟩) (c34 : PySem.W.codeIn K cd34 "_law_pair_right" = true) (k34 : PySem.W.keepIn K (.ref f34) = true)
    (a35 : PySem.W.nsIn K mainGlobals "_law_right" = some (some (.ref f35))) (l35 : K.lookup f35 = some ⟨oc35, od35, .func (PySem.W.fnOf "_law_right" "_law_right" (defArgs (topS 64)) (defBody (topS 64)) (defScope (topS 64)) .none kV35 dc35 pm35 an35 cd35 ct35), sl35⟩) (c35 : PySem.W.codeIn K cd35 "_law_right" = true) (k35 : PySem.W.keepIn K (.ref f35) = true)
    (a36 : PySem.W.nsIn K mainGlobals "law" = some (some (.ref f36))) (l36 : K.lookup f36 = some ⟨oc36, od36, .func (PySem.W.fnOf "law" "law" (defArgs (topS 65)) (defBody (topS 65)) (defScope (topS 65)) .none kV36 dc36 pm36 an36 cd36 ct36), sl36⟩) (c36 : PySem.W.codeIn K cd36 "law" = true) (k36 : PySem.W.keepIn K (.ref f36) = true)
    (n_ArithmeticError : PySem.W.nsIn K mainGlobals "ArithmeticError" = some none)
    (n_LookupError : PySem.W.nsIn K mainGlobals "LookupError" = some none)
    (n_ValueError : PySem.W.nsIn K mainGlobals "ValueError" = some none)
    (n_abs : PySem.W.nsIn K mainGlobals "abs" = some none)
    (n_all : PySem.W.nsIn K mainGlobals "all" = some none)
    (n_bool : PySem.W.nsIn K mainGlobals "bool" = some none)
    (n_divmod : PySem.W.nsIn K mainGlobals "divmod" = some none)
    (n_enumerate : PySem.W.nsIn K mainGlobals "enumerate" = some none)
    (n_int : PySem.W.nsIn K mainGlobals "int" = some none)
    (n_isinstance : PySem.W.nsIn K mainGlobals "isinstance" = some none)
    (n_len : PySem.W.nsIn K mainGlobals "len" = some none)
    (n_list : PySem.W.nsIn K mainGlobals "list" = some none)
    (n_max : PySem.W.nsIn K mainGlobals "max" = some none)
    (n_min : PySem.W.nsIn K mainGlobals "min" = some none)
    (n_range : PySem.W.nsIn K mainGlobals "range" = some none)
    (n_repr : PySem.W.nsIn K mainGlobals "repr" = some none)
    (n_sorted : PySem.W.nsIn K mainGlobals "sorted" = some none)
    (n_str : PySem.W.nsIn K mainGlobals "str" = some none)
    (n_tuple : PySem.W.nsIn K mainGlobals "tuple" = some none)
    (c_MOST_COLUMNS : ∀ [LabW], ∃ uv : Value × V, mg "MOST_COLUMNS" = some uv.1 ∧ RelV uv.2 uv.1 ∧ ∀ Z, DD K Z uv.2 cv_MOST_COLUMNS)
    (c_MOST_RECORDS : ∀ [LabW], ∃ uv : Value × V, mg "MOST_RECORDS" = some uv.1 ∧ RelV uv.2 uv.1 ∧ ∀ Z, DD K Z uv.2 cv_MOST_RECORDS)
    (c_MOST_KEYS : ∀ [LabW], ∃ uv : Value × V, mg "MOST_KEYS" = some uv.1 ∧ RelV uv.2 uv.1 ∧ ∀ Z, DD K Z uv.2 cv_MOST_KEYS)
    (c_DIRECTIONS : ∀ [LabW], ∃ uv : Value × V, mg "DIRECTIONS" = some uv.1 ∧ RelV uv.2 uv.1 ∧ ∀ Z, DD K Z uv.2 cv_DIRECTIONS)
    (xa_InvalidTable : PySem.W.nsIn K mainGlobals "InvalidTable" = some (some (.ref C_InvalidTable)))
    (xa_MissingColumn : PySem.W.nsIn K mainGlobals "MissingColumn" = some (some (.ref C_MissingColumn)))
    (xa_InvalidOrder : PySem.W.nsIn K mainGlobals "InvalidOrder" = some (some (.ref C_InvalidOrder)))
    (xa_TableError : PySem.W.nsIn K mainGlobals "TableError" = some (some (.ref C_TableError)))
    (xa_FindError : PySem.W.nsIn K mainGlobals "FindError" = some (some (.ref C_FindError)))
    (xa_LimitError : PySem.W.nsIn K mainGlobals "LimitError" = some (some (.ref C_LimitError)))
    (xa_LastRecord : PySem.W.nsIn K mainGlobals "LastRecord" = some (some (.ref C_LastRecord)))
    (xa_TooManyEdits : PySem.W.nsIn K mainGlobals "TooManyEdits" = some (some (.ref C_TooManyEdits)))
    (xa_TooManyRecords : PySem.W.nsIn K mainGlobals "TooManyRecords" = some (some (.ref C_TooManyRecords)))
    (xa_NothingToUndo : PySem.W.nsIn K mainGlobals "NothingToUndo" = some (some (.ref C_NothingToUndo)))
    (xa_NoPlace : PySem.W.nsIn K mainGlobals "NoPlace" = some (some (.ref C_NoPlace)))
    (xa_InvalidCommand : PySem.W.nsIn K mainGlobals "InvalidCommand" = some (some (.ref C_InvalidCommand)))
    (xa_InvalidEdit : PySem.W.nsIn K mainGlobals "InvalidEdit" = some (some (.ref C_InvalidEdit)))
    (xa_InvalidValue : PySem.W.nsIn K mainGlobals "InvalidValue" = some (some (.ref C_InvalidValue)))
    (xa_InvalidRecord : PySem.W.nsIn K mainGlobals "InvalidRecord" = some (some (.ref C_InvalidRecord)))
    (xa_InvalidLimit : PySem.W.nsIn K mainGlobals "InvalidLimit" = some (some (.ref C_InvalidLimit)))
    (xa_InvalidText : PySem.W.nsIn K mainGlobals "InvalidText" = some (some (.ref C_InvalidText)))
    (xa_InvalidPlaces : PySem.W.nsIn K mainGlobals "InvalidPlaces" = some (some (.ref C_InvalidPlaces)))
    (xa_InvalidNumber : PySem.W.nsIn K mainGlobals "InvalidNumber" = some (some (.ref C_InvalidNumber)))
    (xa_InvalidProgram : PySem.W.nsIn K mainGlobals "InvalidProgram" = some (some (.ref C_InvalidProgram)))
    (xa_InvalidColumns : PySem.W.nsIn K mainGlobals "InvalidColumns" = some (some (.ref C_InvalidColumns)))
    (xi_InvalidTable : PySem.W.findIn K (.ref C_InvalidTable) "__init__" = some (some (.ref FI_InvalidTable))) (xt_InvalidTable : PySem.W.typeIn K (.ref FI_InvalidTable) = some (.type "function")) (xn_InvalidTable : PySem.W.findIn K (.ref C_InvalidTable) "index" = some none) (xl_InvalidTable : K.lookup FI_InvalidTable = some ⟨xoc_InvalidTable, xod_InvalidTable, .func (PySem.W.fnOf "__init__" "InvalidTable.__init__" (defArgs (inS 2 0)) (defBody (inS 2 0)) (defScope (inS 2 0)) .none xkV_InvalidTable xdc_InvalidTable xpm_InvalidTable xan_InvalidTable xcd_InvalidTable xct_InvalidTable), xsl_InvalidTable⟩) (xc_InvalidTable : PySem.W.codeIn K xcd_InvalidTable "InvalidTable.__init__" = true) (xk_InvalidTable : PySem.W.keepIn K (.ref FI_InvalidTable) = true) (x_InvalidTable : OexC K C_InvalidTable)
    (xi_MissingColumn : PySem.W.findIn K (.ref C_MissingColumn) "__init__" = some (some (.ref FI_MissingColumn))) (xt_MissingColumn : PySem.W.typeIn K (.ref FI_MissingColumn) = some (.type "function")) (xn_MissingColumn : PySem.W.findIn K (.ref C_MissingColumn) "column" = some none) (xl_MissingColumn : K.lookup FI_MissingColumn = some ⟨xoc_MissingColumn, xod_MissingColumn, .func (PySem.W.fnOf "__init__" "MissingColumn.__init__" (defArgs (inS 15 0)) (defBody (inS 15 0)) (defScope (inS 15 0)) .none xkV_MissingColumn xdc_MissingColumn xpm_MissingColumn xan_MissingColumn xcd_MissingColumn xct_MissingColumn), xsl_MissingColumn⟩) (xc_MissingColumn : PySem.W.codeIn K xcd_MissingColumn "MissingColumn.__init__" = true) (xk_MissingColumn : PySem.W.keepIn K (.ref FI_MissingColumn) = true) (x_MissingColumn : OexL K C_MissingColumn)
    (xi_InvalidOrder : PySem.W.findIn K (.ref C_InvalidOrder) "__init__" = some (some (.ref FI_InvalidOrder))) (xt_InvalidOrder : PySem.W.typeIn K (.ref FI_InvalidOrder) = some (.type "function")) (xn_InvalidOrder : PySem.W.findIn K (.ref C_InvalidOrder) "index" = some none) (xl_InvalidOrder : K.lookup FI_InvalidOrder = some ⟨xoc_InvalidOrder, xod_InvalidOrder, .func (PySem.W.fnOf "__init__" "InvalidOrder.__init__" (defArgs (inS 4 0)) (defBody (inS 4 0)) (defScope (inS 4 0)) .none xkV_InvalidOrder xdc_InvalidOrder xpm_InvalidOrder xan_InvalidOrder xcd_InvalidOrder xct_InvalidOrder), xsl_InvalidOrder⟩) (xc_InvalidOrder : PySem.W.codeIn K xcd_InvalidOrder "InvalidOrder.__init__" = true) (xk_InvalidOrder : PySem.W.keepIn K (.ref FI_InvalidOrder) = true) (x_InvalidOrder : OexC K C_InvalidOrder)
    (xe_InvalidTable_TableError : PySem.W.exmOne K (.ref C_InvalidTable) (.ref C_TableError) = some true)
    (xe_MissingColumn_TableError : PySem.W.exmOne K (.ref C_MissingColumn) (.ref C_TableError) = some false)
    (xe_InvalidOrder_TableError : PySem.W.exmOne K (.ref C_InvalidOrder) (.ref C_TableError) = some true)
    (xe_InvalidTable_FindError : PySem.W.exmOne K (.ref C_InvalidTable) (.ref C_FindError) = some false)
    (xe_MissingColumn_FindError : PySem.W.exmOne K (.ref C_MissingColumn) (.ref C_FindError) = some true)
    (xe_InvalidOrder_FindError : PySem.W.exmOne K (.ref C_InvalidOrder) (.ref C_FindError) = some false)
    (xe_InvalidTable_LimitError : PySem.W.exmOne K (.ref C_InvalidTable) (.ref C_LimitError) = some false)
    (xe_MissingColumn_LimitError : PySem.W.exmOne K (.ref C_MissingColumn) (.ref C_LimitError) = some false)
    (xe_InvalidOrder_LimitError : PySem.W.exmOne K (.ref C_InvalidOrder) (.ref C_LimitError) = some false)
    (kx_InvalidTable : kexB K C_InvalidTable = true)
    (kx_MissingColumn : kexB K C_MissingColumn = true)
    (kx_InvalidOrder : kexB K C_InvalidOrder = true)
    (kt_ArithmeticError : kitTab K [(C_InvalidTable, .type "ArithmeticError", false), (C_MissingColumn, .type "ArithmeticError", false), (C_InvalidOrder, .type "ArithmeticError", false)] = true)
    (kt_LookupError : kitTab K [(C_InvalidTable, .type "LookupError", false), (C_MissingColumn, .type "LookupError", true), (C_InvalidOrder, .type "LookupError", false)] = true)
    (kt_ValueError : kitTab K [(C_InvalidTable, .type "ValueError", true), (C_MissingColumn, .type "ValueError", false), (C_InvalidOrder, .type "ValueError", true)] = true)
    (kt_LimitError : kitTab K [(C_InvalidTable, .ref C_LimitError, false), (C_MissingColumn, .ref C_LimitError, false), (C_InvalidOrder, .ref C_LimitError, false)] = true)
    (kt_FindError : kitTab K [(C_InvalidTable, .ref C_FindError, false), (C_MissingColumn, .ref C_FindError, true), (C_InvalidOrder, .ref C_FindError, false)] = true)
    (kt_TableError : kitTab K [(C_InvalidTable, .ref C_TableError, true), (C_MissingColumn, .ref C_TableError, false), (C_InvalidOrder, .ref C_TableError, true)] = true)
    (kt_LastRecord : kitTab K [(C_InvalidTable, .ref C_LastRecord, false), (C_MissingColumn, .ref C_LastRecord, false), (C_InvalidOrder, .ref C_LastRecord, false)] = true)
    (kt_TooManyEdits : kitTab K [(C_InvalidTable, .ref C_TooManyEdits, false), (C_MissingColumn, .ref C_TooManyEdits, false), (C_InvalidOrder, .ref C_TooManyEdits, false)] = true)
    (kt_TooManyRecords : kitTab K [(C_InvalidTable, .ref C_TooManyRecords, false), (C_MissingColumn, .ref C_TooManyRecords, false), (C_InvalidOrder, .ref C_TooManyRecords, false)] = true)
    (kt_NothingToUndo : kitTab K [(C_InvalidTable, .ref C_NothingToUndo, false), (C_MissingColumn, .ref C_NothingToUndo, false), (C_InvalidOrder, .ref C_NothingToUndo, false)] = true)
    (kt_NoPlace : kitTab K [(C_InvalidTable, .ref C_NoPlace, false), (C_MissingColumn, .ref C_NoPlace, false), (C_InvalidOrder, .ref C_NoPlace, false)] = true)
    (kt_MissingColumn : kitTab K [(C_InvalidTable, .ref C_MissingColumn, false), (C_MissingColumn, .ref C_MissingColumn, true), (C_InvalidOrder, .ref C_MissingColumn, false)] = true)
    (kt_InvalidCommand : kitTab K [(C_InvalidTable, .ref C_InvalidCommand, false), (C_MissingColumn, .ref C_InvalidCommand, false), (C_InvalidOrder, .ref C_InvalidCommand, false)] = true)
    (kt_InvalidEdit : kitTab K [(C_InvalidTable, .ref C_InvalidEdit, false), (C_MissingColumn, .ref C_InvalidEdit, false), (C_InvalidOrder, .ref C_InvalidEdit, false)] = true)
    (kt_InvalidValue : kitTab K [(C_InvalidTable, .ref C_InvalidValue, false), (C_MissingColumn, .ref C_InvalidValue, false), (C_InvalidOrder, .ref C_InvalidValue, false)] = true)
    (kt_InvalidRecord : kitTab K [(C_InvalidTable, .ref C_InvalidRecord, false), (C_MissingColumn, .ref C_InvalidRecord, false), (C_InvalidOrder, .ref C_InvalidRecord, false)] = true)
    (kt_InvalidLimit : kitTab K [(C_InvalidTable, .ref C_InvalidLimit, false), (C_MissingColumn, .ref C_InvalidLimit, false), (C_InvalidOrder, .ref C_InvalidLimit, false)] = true)
    (kt_InvalidText : kitTab K [(C_InvalidTable, .ref C_InvalidText, false), (C_MissingColumn, .ref C_InvalidText, false), (C_InvalidOrder, .ref C_InvalidText, false)] = true)
    (kt_InvalidPlaces : kitTab K [(C_InvalidTable, .ref C_InvalidPlaces, false), (C_MissingColumn, .ref C_InvalidPlaces, false), (C_InvalidOrder, .ref C_InvalidPlaces, false)] = true)
    (kt_InvalidNumber : kitTab K [(C_InvalidTable, .ref C_InvalidNumber, false), (C_MissingColumn, .ref C_InvalidNumber, false), (C_InvalidOrder, .ref C_InvalidNumber, false)] = true)
    (kt_InvalidProgram : kitTab K [(C_InvalidTable, .ref C_InvalidProgram, false), (C_MissingColumn, .ref C_InvalidProgram, false), (C_InvalidOrder, .ref C_InvalidProgram, false)] = true)
    (kt_InvalidOrder : kitTab K [(C_InvalidTable, .ref C_InvalidOrder, false), (C_MissingColumn, .ref C_InvalidOrder, false), (C_InvalidOrder, .ref C_InvalidOrder, true)] = true)
    (kt_InvalidColumns : kitTab K [(C_InvalidTable, .ref C_InvalidColumns, false), (C_MissingColumn, .ref C_InvalidColumns, false), (C_InvalidOrder, .ref C_InvalidColumns, false)] = true)
    (kt_InvalidTable : kitTab K [(C_InvalidTable, .ref C_InvalidTable, true), (C_MissingColumn, .ref C_InvalidTable, false), (C_InvalidOrder, .ref C_InvalidTable, false)] = true)
    (cq_sorted_places : cd17 = .ref c_sorted_places) (lk_sorted_places : K.lookup c_sorted_places = some ⟨moc_sorted_places, mod_sorted_places, .fields mvs_sorted_places, msl_sorted_places⟩) (pv_sorted_places : mvs_sorted_places[11]? = some (.ref P_sorted_places)) (hd_sorted_places : PySem.W.codeHdIn K c_sorted_places P_sorted_places = true) (kn_sorted_places : K.lookup P_sorted_places = none) (gt_sorted_places : h.get? P_sorted_places = some { cls := .none, data := .fields #[] })
    (cq__law_pair_right : cd34 = .ref c__law_pair_right) (lk__law_pair_right : K.lookup c__law_pair_right = some ⟨moc__law_pair_right, mod__law_pair_right, .fields mvs__law_pair_right, msl__law_pair_right⟩) (pv__law_pair_right : mvs__law_pair_right[11]? = some (.ref P__law_pair_right)) (hd__law_pair_right : PySem.W.codeHdIn K c__law_pair_right P__law_pair_right = true) (kn__law_pair_right : K.lookup P__law_pair_right = none) (gt__law_pair_right : h.get? P__law_pair_right = some { cls := .none, data := .fields #[] })
    (ne_sorted_places__law_pair_right : P_sorted_places ≠ P__law_pair_right)
    (ne__law_pair_right_sorted_places : P__law_pair_right ≠ P_sorted_places) :
    LawG l w K 13 "_law_script" m_law mg fa h := by
  have e := hfa.symm.trans (PySem.W.mg_of X G a36)
  cases e
  refine ⟨(PySem.W.fnOf "law" "law" (defArgs (topS 65)) (defBody (topS 65)) (defScope (topS 65)) .none kV36 dc36 pm36 an36 cd36 ct36), [(c_sorted_places, P_sorted_places), (c__law_pair_right, P__law_pair_right)], { w := some w, T := [(P_sorted_places, ("sorted_places" ++ ".<locals>." : Str) ++ "<lambda>"), (P__law_pair_right, ("_law_pair_right" ++ ".<locals>." : Str) ++ "<lambda>")], gd := True, C := clsOf [("InvalidTable", C_InvalidTable), ("MissingColumn", C_MissingColumn), ("InvalidOrder", C_InvalidOrder), ("TableError", C_TableError), ("FindError", C_FindError), ("LimitError", C_LimitError), ("LastRecord", C_LastRecord), ("TooManyEdits", C_TooManyEdits), ("TooManyRecords", C_TooManyRecords), ("NothingToUndo", C_NothingToUndo), ("NoPlace", C_NoPlace), ("InvalidCommand", C_InvalidCommand), ("InvalidEdit", C_InvalidEdit), ("InvalidValue", C_InvalidValue), ("InvalidRecord", C_InvalidRecord), ("InvalidLimit", C_InvalidLimit), ("InvalidText", C_InvalidText), ("InvalidPlaces", C_InvalidPlaces), ("InvalidNumber", C_InvalidNumber), ("InvalidProgram", C_InvalidProgram), ("InvalidColumns", C_InvalidColumns), ("places_by", f18), ("sorted_by", f19)] 0 }, fun c q hc => ?_, fun q hq => ?_, fun s v => .of_eq rfl, fun base hK hG hT => ?_⟩
  · simp only [List.mem_cons, List.not_mem_nil, or_false, Prod.mk.injEq] at hc
    rcases hc with ⟨rfl, rfl⟩ | ⟨rfl, rfl⟩
    · exact ⟨gt_sorted_places, kn_sorted_places, PySem.W.codeHd_of_K X hd_sorted_places⟩
    · exact ⟨gt__law_pair_right, kn__law_pair_right, PySem.W.codeHd_of_K X hd__law_pair_right⟩
  · simp only [List.mem_cons, List.not_mem_nil, or_false] at hq
    rcases hq with rfl | rfl
    · exact ⟨c_sorted_places, by simp⟩
    · exact ⟨c__law_pair_right, by simp⟩
  · letI : Lab := { w := some w, T := [(P_sorted_places, ("sorted_places" ++ ".<locals>." : Str) ++ "<lambda>"), (P__law_pair_right, ("_law_pair_right" ++ ".<locals>." : Str) ++ "<lambda>")], gd := True, C := clsOf [("InvalidTable", C_InvalidTable), ("MissingColumn", C_MissingColumn), ("InvalidOrder", C_InvalidOrder), ("TableError", C_TableError), ("FindError", C_FindError), ("LimitError", C_LimitError), ("LastRecord", C_LastRecord), ("TooManyEdits", C_TooManyEdits), ("TooManyRecords", C_TooManyRecords), ("NothingToUndo", C_NothingToUndo), ("NoPlace", C_NoPlace), ("InvalidCommand", C_InvalidCommand), ("InvalidEdit", C_InvalidEdit), ("InvalidValue", C_InvalidValue), ("InvalidRecord", C_InvalidRecord), ("InvalidLimit", C_InvalidLimit), ("InvalidText", C_InvalidText), ("InvalidPlaces", C_InvalidPlaces), ("InvalidNumber", C_InvalidNumber), ("InvalidProgram", C_InvalidProgram), ("InvalidColumns", C_InvalidColumns), ("places_by", f18), ("sorted_by", f19)] 0 }
    haveI : LabR := ⟨trivial⟩
    exact ok_law (mkTx rfl X G a0 l0 c0 k0 a1 l1 c1 k1 a2 l2 c2 k2 a3 l3 c3 k3 a4 l4 c4 k4 a5 l5 c5 k5 a6 l6 c6 k6 a7 l7 c7 k7 a8 l8 c8 k8 a9 l9 c9 k9 a10 l10 c10 k10 a11 l11 c11 k11 a12 l12 c12 k12 a13 l13 c13 k13 a14 l14 c14 k14 a15 l15 c15 k15 a16 l16 c16 k16 a17 l17 c17 k17 a18 l18 c18 k18 a19 l19 c19 k19 a20 l20 c20 k20 a21 l21 c21 k21 a22 l22 c22 k22 a23 l23 c23 k23 a24 l24 c24 k24 a25 l25 c25 k25 a26 l26 c26 k26 a27 l27 c27 k27 a28 l28 c28 k28 a29 l29 c29 k29 a30 l30 c30 k30 a31 l31 c31 k31 a32 l32 c32 k32 a33 l33 c33 k33 a34 l34 c34 k34 a35 l35 c35 k35 a36 l36 c36 k36 n_ArithmeticError n_LookupError n_ValueError n_abs n_all n_bool n_divmod n_enumerate n_int n_isinstance n_len n_list n_max n_min n_range n_repr n_sorted n_str n_tuple c_MOST_COLUMNS c_MOST_RECORDS c_MOST_KEYS c_DIRECTIONS xa_InvalidTable xa_MissingColumn xa_InvalidOrder xa_TableError xa_FindError xa_LimitError xa_LastRecord xa_TooManyEdits xa_TooManyRecords xa_NothingToUndo xa_NoPlace xa_InvalidCommand xa_InvalidEdit xa_InvalidValue xa_InvalidRecord xa_InvalidLimit xa_InvalidText xa_InvalidPlaces xa_InvalidNumber xa_InvalidProgram xa_InvalidColumns xi_InvalidTable xt_InvalidTable xn_InvalidTable xl_InvalidTable xc_InvalidTable xk_InvalidTable x_InvalidTable xi_MissingColumn xt_MissingColumn xn_MissingColumn xl_MissingColumn xc_MissingColumn xk_MissingColumn x_MissingColumn xi_InvalidOrder xt_InvalidOrder xn_InvalidOrder xl_InvalidOrder xc_InvalidOrder xk_InvalidOrder x_InvalidOrder xe_InvalidTable_TableError xe_MissingColumn_TableError xe_InvalidOrder_TableError xe_InvalidTable_FindError xe_MissingColumn_FindError xe_InvalidOrder_FindError xe_InvalidTable_LimitError xe_MissingColumn_LimitError xe_InvalidOrder_LimitError kx_InvalidTable kx_MissingColumn kx_InvalidOrder kt_ArithmeticError kt_LookupError kt_ValueError kt_LimitError kt_FindError kt_TableError kt_LastRecord kt_TooManyEdits kt_TooManyRecords kt_NothingToUndo kt_NoPlace kt_MissingColumn kt_InvalidCommand kt_InvalidEdit kt_InvalidValue kt_InvalidRecord kt_InvalidLimit kt_InvalidText kt_InvalidPlaces kt_InvalidNumber kt_InvalidProgram kt_InvalidOrder kt_InvalidColumns kt_InvalidTable cq_sorted_places (hT c_sorted_places P_sorted_places (by simp)) (show (P_sorted_places, ("sorted_places" ++ ".<locals>." : Str) ++ "<lambda>") ∈ ([(P_sorted_places, ("sorted_places" ++ ".<locals>." : Str) ++ "<lambda>"), (P__law_pair_right, ("_law_pair_right" ++ ".<locals>." : Str) ++ "<lambda>")] : List (Addr × Str)) by simp) (fun p hp e => by
      change p ∈ ([(P_sorted_places, ("sorted_places" ++ ".<locals>." : Str) ++ "<lambda>"), (P__law_pair_right, ("_law_pair_right" ++ ".<locals>." : Str) ++ "<lambda>")] : List (Addr × Str)) at hp
      simp only [List.mem_cons, List.not_mem_nil, or_false] at hp
      rcases hp with hp | hp
      · rw [hp]
      · rw [hp] at e; exact absurd e ne__law_pair_right_sorted_places) cq__law_pair_right (hT c__law_pair_right P__law_pair_right (by simp)) (show (P__law_pair_right, ("_law_pair_right" ++ ".<locals>." : Str) ++ "<lambda>") ∈ ([(P_sorted_places, ("sorted_places" ++ ".<locals>." : Str) ++ "<lambda>"), (P__law_pair_right, ("_law_pair_right" ++ ".<locals>." : Str) ++ "<lambda>")] : List (Addr × Str)) by simp) (fun p hp e => by
      change p ∈ ([(P_sorted_places, ("sorted_places" ++ ".<locals>." : Str) ++ "<lambda>"), (P__law_pair_right, ("_law_pair_right" ++ ".<locals>." : Str) ++ "<lambda>")] : List (Addr × Str)) at hp
      simp only [List.mem_cons, List.not_mem_nil, or_false] at hp
      rcases hp with hp | hp
      · rw [hp] at e; exact absurd e ne_sorted_places__law_pair_right
      · rw [hp]) rfl)
end DL
end L2
open PySem PySem.W PyProof.Rows
set_option maxHeartbeats 0 in
theorem PySem.Challenge.cw_sortcuts_k05_tables_and_orders_refused_holds : PySem.Challenge.rw_sortcuts_k05_tables_and_orders_refused.Holds := by
  w_on; o_law; k_head; (case hw => w_witness2)
  k_fill
  refine L2.DL.walk_g (l := PySem.Challenge.rw_sortcuts_k05_tables_and_orders_refused) (n := 63) (k := 13) (x := "_law_script") (m := L2.DL.m_law) rfl (by decide) rfl ⟨rfl, by decide, by decide⟩ (fun w h Y => PySem.W.km_in_of Y) ?F (fun ns _ => L2.DL.law_spec ns)
  case F =>
    intro w mg fa h Y KX G hmg
    refine' L2.DL.all_mk KX G hmg ?a0 ?l0 ?c0 ?k0 ?a1 ?l1 ?c1 ?k1 ?a2 ?l2 ?c2 ?k2 ?a3 ?l3 ?c3 ?k3 ?a4 ?l4 ?c4 ?k4 ?a5 ?l5 ?c5 ?k5 ?a6 ?l6 ?c6 ?k6 ?a7 ?l7 ?c7 ?k7 ?a8 ?l8 ?c8 ?k8 ?a9 ?l9 ?c9 ?k9 ?a10 ?l10 ?c10 ?k10 ?a11 ?l11 ?c11 ?k11 ?a12 ?l12 ?c12 ?k12 ?a13 ?l13 ?c13 ?k13 ?a14 ?l14 ?c14 ?k14 ?a15 ?l15 ?c15 ?k15 ?a16 ?l16 ?c16 ?k16 ?a17 ?l17 ?c17 ?k17 ?a18 ?l18 ?c18 ?k18 ?a19 ?l19 ?c19 ?k19 ?a20 ?l20 ?c20 ?k20 ?a21 ?l21 ?c21 ?k21 ?a22 ?l22 ?c22 ?k22 ?a23 ?l23 ?c23 ?k23 ?a24 ?l24 ?c24 ?k24 ?a25 ?l25 ?c25 ?k25 ?a26 ?l26 ?c26 ?k26 ?a27 ?l27 ?c27 ?k27 ?a28 ?l28 ?c28 ?k28 ?a29 ?l29 ?c29 ?k29 ?a30 ?l30 ?c30 ?k30 ?a31 ?l31 ?c31 ?k31 ?a32 ?l32 ?c32 ?k32 ?a33 ?l33 ?c33 ?k33 ?a34 ?l34 ?c34 ?k34 ?a35 ?l35 ?c35 ?k35 ?a36 ?l36 ?c36 ?k36 ?n_ArithmeticError ?n_LookupError ?n_ValueError ?n_abs ?n_all ?n_bool ?n_divmod ?n_enumerate ?n_int ?n_isinstance ?n_len ?n_list ?n_max ?n_min ?n_range ?n_repr ?n_sorted ?n_str ?n_tuple ?c_MOST_COLUMNS ?c_MOST_RECORDS ?c_MOST_KEYS ?c_DIRECTIONS ?xa_InvalidTable ?xa_MissingColumn ?xa_InvalidOrder ?xa_TableError ?xa_FindError ?xa_LimitError ?xa_LastRecord ?xa_TooManyEdits ?xa_TooManyRecords ?xa_NothingToUndo ?xa_NoPlace ?xa_InvalidCommand ?xa_InvalidEdit ?xa_InvalidValue ?xa_InvalidRecord ?xa_InvalidLimit ?xa_InvalidText ?xa_InvalidPlaces ?xa_InvalidNumber ?xa_InvalidProgram ?xa_InvalidColumns ?xi_InvalidTable ?xt_InvalidTable ?xn_InvalidTable ?xl_InvalidTable ?xc_InvalidTable ?xk_InvalidTable ?x_InvalidTable ?xi_MissingColumn ?xt_MissingColumn ?xn_MissingColumn ?xl_MissingColumn ?xc_MissingColumn ?xk_MissingColumn ?x_MissingColumn ?xi_InvalidOrder ?xt_InvalidOrder ?xn_InvalidOrder ?xl_InvalidOrder ?xc_InvalidOrder ?xk_InvalidOrder ?x_InvalidOrder ?xe_InvalidTable_TableError ?xe_MissingColumn_TableError ?xe_InvalidOrder_TableError ?xe_InvalidTable_FindError ?xe_MissingColumn_FindError ?xe_InvalidOrder_FindError ?xe_InvalidTable_LimitError ?xe_MissingColumn_LimitError ?xe_InvalidOrder_LimitError ?kx_InvalidTable ?kx_MissingColumn ?kx_InvalidOrder ?kt_ArithmeticError ?kt_LookupError ?kt_ValueError ?kt_LimitError ?kt_FindError ?kt_TableError ?kt_LastRecord ?kt_TooManyEdits ?kt_TooManyRecords ?kt_NothingToUndo ?kt_NoPlace ?kt_MissingColumn ?kt_InvalidCommand ?kt_InvalidEdit ?kt_InvalidValue ?kt_InvalidRecord ?kt_InvalidLimit ?kt_InvalidText ?kt_InvalidPlaces ?kt_InvalidNumber ?kt_InvalidProgram ?kt_InvalidOrder ?kt_InvalidColumns ?kt_InvalidTable ?cq_sorted_places ?lk_sorted_places ?pv_sorted_places ?hd_sorted_places ?kn_sorted_places ?gt_sorted_places ?cq__law_pair_right ?lk__law_pair_right ?pv__law_pair_right ?hd__law_pair_right ?kn__law_pair_right ?gt__law_pair_right ?ne_sorted_places__law_pair_right ?ne__law_pair_right_sorted_places
    (case a0 => k_is)
    (case l0 => k_is)
    (case c0 => k_is)
    (case k0 => k_is)
    (case a1 => k_is)
    (case l1 => k_is)
    (case c1 => k_is)
    (case k1 => k_is)
    (case a2 => k_is)
    (case l2 => k_is)
    (case c2 => k_is)
    (case k2 => k_is)
    (case a3 => k_is)
    (case l3 => k_is)
    (case c3 => k_is)
    (case k3 => k_is)
    (case a4 => k_is)
    (case l4 => k_is)
    (case c4 => k_is)
    (case k4 => k_is)
    (case a5 => k_is)
    (case l5 => k_is)
    (case c5 => k_is)
    (case k5 => k_is)
    (case a6 => k_is)
    (case l6 => k_is)
    (case c6 => k_is)
    (case k6 => k_is)
    (case a7 => k_is)
    (case l7 => k_is)
    (case c7 => k_is)
    (case k7 => k_is)
    (case a8 => k_is)
    (case l8 => k_is)
    (case c8 => k_is)
    (case k8 => k_is)
    (case a9 => k_is)
    (case l9 => k_is)
    (case c9 => k_is)
    (case k9 => k_is)
    (case a10 => k_is)
    (case l10 => k_is)
    (case c10 => k_is)
    (case k10 => k_is)
    (case a11 => k_is)
    (case l11 => k_is)
    (case c11 => k_is)
    (case k11 => k_is)
    (case a12 => k_is)
    (case l12 => k_is)
    (case c12 => k_is)
    (case k12 => k_is)
    (case a13 => k_is)
    (case l13 => k_is)
    (case c13 => k_is)
    (case k13 => k_is)
    (case a14 => k_is)
    (case l14 => k_is)
    (case c14 => k_is)
    (case k14 => k_is)
    (case a15 => k_is)
    (case l15 => k_is)
    (case c15 => k_is)
    (case k15 => k_is)
    (case a16 => k_is)
    (case l16 => k_is)
    (case c16 => k_is)
    (case k16 => k_is)
    (case a17 => k_is)
    (case l17 => k_is)
    (case c17 => k_is)
    (case k17 => k_is)
    (case a18 => k_is)
    (case l18 => k_is)
    (case c18 => k_is)
    (case k18 => k_is)
    (case a19 => k_is)
    (case l19 => k_is)
    (case c19 => k_is)
    (case k19 => k_is)
    (case a20 => k_is)
    (case l20 => k_is)
    (case c20 => k_is)
    (case k20 => k_is)
    (case a21 => k_is)
    (case l21 => k_is)
    (case c21 => k_is)
    (case k21 => k_is)
    (case a22 => k_is)
    (case l22 => k_is)
    (case c22 => k_is)
    (case k22 => k_is)
    (case a23 => k_is)
    (case l23 => k_is)
    (case c23 => k_is)
    (case k23 => k_is)
    (case a24 => k_is)
    (case l24 => k_is)
    (case c24 => k_is)
    (case k24 => k_is)
    (case a25 => k_is)
    (case l25 => k_is)
    (case c25 => k_is)
    (case k25 => k_is)
    (case a26 => k_is)
    (case l26 => k_is)
    (case c26 => k_is)
    (case k26 => k_is)
    (case a27 => k_is)
    (case l27 => k_is)
    (case c27 => k_is)
    (case k27 => k_is)
    (case a28 => k_is)
    (case l28 => k_is)
    (case c28 => k_is)
    (case k28 => k_is)
    (case a29 => k_is)
    (case l29 => k_is)
    (case c29 => k_is)
    (case k29 => k_is)
    (case a30 => k_is)
    (case l30 => k_is)
    (case c30 => k_is)
    (case k30 => k_is)
    (case a31 => k_is)
    (case l31 => k_is)
    (case c31 => k_is)
    (case k31 => k_is)
    (case a32 => k_is)
    (case l32 => k_is)
    (case c32 => k_is)
    (case k32 => k_is)
    (case a33 => k_is)
    (case l33 => k_is)
    (case c33 => k_is)
    (case k33 => k_is)
    (case a34 => k_is)
    (case l34 => k_is)
    (case c34 => k_is)
    (case k34 => k_is)
    (case a35 => k_is)
    (case l35 => k_is)
    (case c35 => k_is)
    (case k35 => k_is)
    (case a36 => k_is)
    (case l36 => k_is)
    (case c36 => k_is)
    (case k36 => k_is)
    (case n_ArithmeticError => k_is)
    (case n_LookupError => k_is)
    (case n_ValueError => k_is)
    (case n_abs => k_is)
    (case n_all => k_is)
    (case n_bool => k_is)
    (case n_divmod => k_is)
    (case n_enumerate => k_is)
    (case n_int => k_is)
    (case n_isinstance => k_is)
    (case n_len => k_is)
    (case n_list => k_is)
    (case n_max => k_is)
    (case n_min => k_is)
    (case n_range => k_is)
    (case n_repr => k_is)
    (case n_sorted => k_is)
    (case n_str => k_is)
    (case n_tuple => k_is)
    (case xa_InvalidTable => k_is)
    (case xa_MissingColumn => k_is)
    (case xa_InvalidOrder => k_is)
    (case xa_TableError => k_is)
    (case xa_FindError => k_is)
    (case xa_LimitError => k_is)
    (case xa_LastRecord => k_is)
    (case xa_TooManyEdits => k_is)
    (case xa_TooManyRecords => k_is)
    (case xa_NothingToUndo => k_is)
    (case xa_NoPlace => k_is)
    (case xa_InvalidCommand => k_is)
    (case xa_InvalidEdit => k_is)
    (case xa_InvalidValue => k_is)
    (case xa_InvalidRecord => k_is)
    (case xa_InvalidLimit => k_is)
    (case xa_InvalidText => k_is)
    (case xa_InvalidPlaces => k_is)
    (case xa_InvalidNumber => k_is)
    (case xa_InvalidProgram => k_is)
    (case xa_InvalidColumns => k_is)
    (case xi_InvalidTable => k_is)
    (case xt_InvalidTable => k_is)
    (case xn_InvalidTable => k_is)
    (case xl_InvalidTable => k_is)
    (case xc_InvalidTable => k_is)
    (case xk_InvalidTable => k_is)
    (case xi_MissingColumn => k_is)
    (case xt_MissingColumn => k_is)
    (case xn_MissingColumn => k_is)
    (case xl_MissingColumn => k_is)
    (case xc_MissingColumn => k_is)
    (case xk_MissingColumn => k_is)
    (case xi_InvalidOrder => k_is)
    (case xt_InvalidOrder => k_is)
    (case xn_InvalidOrder => k_is)
    (case xl_InvalidOrder => k_is)
    (case xc_InvalidOrder => k_is)
    (case xk_InvalidOrder => k_is)
    (case c_MOST_COLUMNS => (intro _; refine' L2.DL.cInt KX G ?q1; (case q1 => k_is)))
    (case c_MOST_RECORDS => (intro _; refine' L2.DL.cInt KX G ?q1; (case q1 => k_is)))
    (case c_MOST_KEYS => (intro _; refine' L2.DL.cInt KX G ?q1; (case q1 => k_is)))
    (case c_DIRECTIONS => (intro _; refine' L2.DL.cStrs (ss := ["down", "up"]) KX G ?s1 ?s2 ?s3 ?s4 ?s5; (case s1 => k_is); (case s2 => k_is); (case s3 => rfl); (case s4 => decide); (case s5 => exact .cons ⟨_, rfl⟩ (.cons ⟨_, rfl⟩ .nil))))
    (case kx_InvalidTable => kernel_rfl)
    (case kx_MissingColumn => kernel_rfl)
    (case kx_InvalidOrder => kernel_rfl)
    (case kt_ArithmeticError => kernel_rfl)
    (case kt_LookupError => kernel_rfl)
    (case kt_ValueError => kernel_rfl)
    (case kt_LimitError => kernel_rfl)
    (case kt_FindError => kernel_rfl)
    (case kt_TableError => kernel_rfl)
    (case kt_LastRecord => kernel_rfl)
    (case kt_TooManyEdits => kernel_rfl)
    (case kt_TooManyRecords => kernel_rfl)
    (case kt_NothingToUndo => kernel_rfl)
    (case kt_NoPlace => kernel_rfl)
    (case kt_MissingColumn => kernel_rfl)
    (case kt_InvalidCommand => kernel_rfl)
    (case kt_InvalidEdit => kernel_rfl)
    (case kt_InvalidValue => kernel_rfl)
    (case kt_InvalidRecord => kernel_rfl)
    (case kt_InvalidLimit => kernel_rfl)
    (case kt_InvalidText => kernel_rfl)
    (case kt_InvalidPlaces => kernel_rfl)
    (case kt_InvalidNumber => kernel_rfl)
    (case kt_InvalidProgram => kernel_rfl)
    (case kt_InvalidOrder => kernel_rfl)
    (case kt_InvalidColumns => kernel_rfl)
    (case kt_InvalidTable => kernel_rfl)
    (case x_InvalidTable => (refine' L2.DL.oex_mk ?l1 ?r1 ?s1 ?e1 ?t1 ?k1; (case l1 => k_is); (case r1 => rfl); (case s1 => k_is); (case e1 => k_is); (case t1 => k_is); (case k1 => k_is)))
    (case x_MissingColumn => (refine' L2.DL.oel_mk ?l1 ?r1 ?s1 ?e1 ?t1 ?k1; (case l1 => k_is); (case r1 => rfl); (case s1 => k_is); (case e1 => k_is); (case t1 => k_is); (case k1 => k_is)))
    (case x_InvalidOrder => (refine' L2.DL.oex_mk ?l1 ?r1 ?s1 ?e1 ?t1 ?k1; (case l1 => k_is); (case r1 => rfl); (case s1 => k_is); (case e1 => k_is); (case t1 => k_is); (case k1 => k_is)))
    (case xe_InvalidTable_TableError => kts_exm)
    (case xe_MissingColumn_TableError => kts_exm)
    (case xe_InvalidOrder_TableError => kts_exm)
    (case xe_InvalidTable_FindError => kts_exm)
    (case xe_MissingColumn_FindError => kts_exm)
    (case xe_InvalidOrder_FindError => kts_exm)
    (case xe_InvalidTable_LimitError => kts_exm)
    (case xe_MissingColumn_LimitError => kts_exm)
    (case xe_InvalidOrder_LimitError => kts_exm)
    (case cq_sorted_places => exact rfl)
    (case lk_sorted_places => k_is)
    (case pv_sorted_places => exact rfl)
    (case hd_sorted_places => kernel_rfl)
    (case kn_sorted_places => kernel_rfl)
    (case gt_sorted_places => exact PySem.W.km_tabs_of Y _ (by first | k_mem | decide))
    (case cq__law_pair_right => exact rfl)
    (case lk__law_pair_right => k_is)
    (case pv__law_pair_right => exact rfl)
    (case hd__law_pair_right => kernel_rfl)
    (case kn__law_pair_right => kernel_rfl)
    (case gt__law_pair_right => exact PySem.W.km_tabs_of Y _ (by first | k_mem | decide))
    (case ne_sorted_places__law_pair_right => decide)
    (case ne__law_pair_right_sorted_places => decide)

