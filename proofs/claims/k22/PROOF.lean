import PyProof.Rows.All
import Wide.All
import OpenK.AllK
import Wide.FinOn
import HandS.ForMost
import HandS.Walk
import HandS.IsInst
import HandS.TupAny
import HandS.Deep
import HandS.Lambda
import KE.KExcIs
import HandS.EndTab
import KE.KDictKeyed
import KE.KDictDisplayH
import HandS.Conv
import KE.GoesEnum
import HandS.RevRange
import HandS.Style
import HandS.TupMul
import HandS.Exc
import HandS.ExcOwn
import HandS.WordsExc
import HandS.TryOnly
import HandS.ExcInit
import KE.RegKTryMore
import HandS.SortKw
import KE.SortKeyHeap
import KE.KNestM
import HandS.SortInts
import HandS.TupSets
import KE.DataCmp
import HandS.SetFor
import HandS.Strs
import HandS.WideBits
import HandS.NoneIn
import HandS.SortRule
import HandS.Flt
import HandS.GenList
import HandS.GenYield
import HandS.Zip
import KE.GoesMore
import HandS.Rev
import HandS.More
import HandS.Iter
import KE.KMinBuiltin
import HandS.TupLen
import KE.KDictCopyH
import KE.KRevSl
import PyProof.AutoSeq1
import PyProof.ReprRoads
import KE.KTryMore
import HandS.Text
import HandS.ExcField
import HandS.ExcValue
import HandS.Small
import HandS.FStr
import HandS.StrMore
import HandS.RaiseMore
import PyProof.StrBlock2
import PySem.Challenge.RW_sortcuts_k22_whole_texts_read_back_and_r
set_option linter.all false
set_option Elab.async false
set_option maxRecDepth 100000
set_option maxHeartbeats 4000000
set_option autoImplicit false
namespace L2
namespace DL
open PySem PySem.Spec PyProof.Rows

/-! ### data and heaps -/
/-- the tables of code objects, with the names of what they hold -/
class LabW where
  w : Option World
  /-- the classes of exceptions, by their names -/
  C : Str → Addr := fun _ => 0
class Lab extends LabW where
  T : List (Addr × Str)
  gd : Prop
/-- where a repr may be written, none is under way -/
abbrev GdOk [Lab] (A : Around) : Prop := Lab.gd → A.guards = some []
def TB [Lab] (H : Hp) : Prop := LamX.Tabs Lab.T H
abbrev NT (o : HO) : Prop := ∀ ps, o ≠ .tbl ps
/-- all but the tables stay -/
structure Same (H H' : Hp) : Prop where
  h : ∀ b o, H b = some o → NT o → H' b = some o
  k : ∀ b, H b ≠ none → H' b ≠ none
theorem Same.refl (H : Hp) : Same H H := ⟨fun _ _ e _ => e, fun _ h => h⟩
theorem Same.trans {H H1 H2 : Hp} (a : Same H H1) (b : Same H1 H2) : Same H H2 := ⟨fun q o e n => b.h q o (a.h q o e n) n, fun q h => b.k q (a.k q h)⟩
theorem Same.free {H H' : Hp} {q : Addr} (s : Same H H') (h : H' q = none) : H q = none := Classical.byContradiction fun z => s.k q z h
theorem Same.of {H H' : Hp} (s : L2.Same H H') : Same H H' := ⟨fun b o e _ => s b o e, fun b h z => h (s.free z)⟩
theorem nt_lst {xs : List V} : NT (.lst xs) := fun _ h => nomatch h
theorem nt_tup {xs : List V} : NT (.tup xs) := fun _ h => nomatch h
theorem nt_frz {o : Obj} {u : HO} : NT (.frz o u) := fun _ h => nomatch h
theorem nt_dK {x} : NT (.dK x) := fun _ h => nomatch h
theorem nt_xd {x} : NT (.xd x) := fun _ h => nomatch h
theorem same_new {H : Hp} {p : Addr} (h : H p = none) (o : HO) : L2.Same H (upd H p o) := fun b x e => by rw [upd_ne (ne_of_none e h)]; exact e
theorem TB.ext [Lab] {H H' : Hp} (t : TB H) (s : L2.Same H H') : TB H' := LamX.Tabs.ext t s
theorem TB.ne [Lab] {H : Hp} (t : TB H) {p : Addr} {xs : List V} (h : H p = some (.lst xs)) (o : HO) : TB (upd H p o) := fun q hq => by
  obtain ⟨ps, a, b, c⟩ := t q hq
  refine ⟨ps, ?_, b, fun pos cv e => ?_⟩
  · rw [upd_ne (fun z => by rw [z, h] at a; cases a)]; exact a
  · obtain ⟨c0, e1, e2⟩ := c pos cv e
    exact ⟨c0, e1, by rw [upd_ne (fun z => by rw [z, h] at e2; unfold LamX.CodeO at e2; cases e2)]; exact e2⟩
theorem same_sqT {K : PySem.W.Frag} {H H' : Hp} {a : Addr} {xs : List V} (e : Same H H') (h : SqT K H a xs) : SqT K H' a xs := by
  rcases h with (h | ⟨o, h⟩) | h
  · exact .inl (.inl (e.h _ _ h nt_tup))
  · exact .inl (.inr ⟨o, e.h _ _ h nt_frz⟩)
  · exact .inr h
/-- a list that is read: tracked, frozen, or a plain one of the module's -/
def LsR (K : PySem.W.Frag) (H : Hp) (a : Addr) (xs : List V) : Prop := Rd H a (.lst xs) ∨ ∃ (its : List Value) (n : Nat), K.lookup a = some { cls := .type "list", data := .seq its.toArray n } ∧ xs.length ≤ sizeLine ∧ Vals xs its
theorem LsR.sq {K : PySem.W.Frag} {H : Hp} {a : Addr} {xs : List V} (h : LsR K H a xs) : SqL K H a xs := by
  rcases h with h | ⟨its, n, h, z, r⟩
  · exact .inl h
  · exact .inr ⟨_, its.toArray, n, h, rfl, rfl, rfl, by rw [List.size_toArray, ← r.length]; exact z, by simpa using r⟩
theorem LsR.isL {X : Cx} {pins : List (Addr × Obj)} {σ : St} {H : Hp} {s : Shared} {a : Addr} {xs : List V} (h : LsR X.K H a xs) (I : Inv X pins σ H s) : xs.length ≤ sizeLine ∧ ∃ (its : List Value) (n : Nat), Vals xs its ∧ s.heap.get? a = some { cls := .type "list", data := .seq its.toArray n } := by
  rcases h with h | ⟨its, n, h, z, r⟩
  · exact h.ok I.hok
  · exact ⟨z, its, n, r, I.kIn a _ h⟩
section
variable [LabW]
/-- the dict at a is this object -/
def DnO (a : Addr) (o : Obj) : HO := .ext fun h => h.get? a = some o
/-- its entries: the keys nested tuples, each by its place -/
structure DnF (w : Option World) (a : Addr) (o : Obj) (xs : List (NestedKey × Addr × V)) : Prop where
  hd : (a == sysModules) = false
  nd : (xs.map (·.1)).Nodup
  ex : o.ExactDict
  es : ∃ (w' : World) (es : Array DictEntry) (ep : Nat), w = some w' ∧ o.data = .dict es ep ∧ Paired (fun (x : NestedKey × Addr × V) (e : DictEntry) => e.hash = x.1.hash w' ∧ e.key = .ref x.2.1 ∧ RelV x.2.2 e.val) xs es.toList
  dp : ∀ x ∈ xs, x.1.depth ≤ 8
/-- an exception's object: its class, its dict -/
def ExO (a : Addr) (cls : Value) (d : Option Addr) : HO := .ext fun h => ∃ (oe : Obj) (vs : Array Value), h.get? a = some oe ∧ oe.cls = cls ∧ oe.dict = d ∧ oe.data = .fields vs
/-- what its class must have, so that it can be looked at -/
structure KEx (K : PySem.W.Frag) (C : Addr) : Prop where
  hcl : (PySem.W.clsIn K C).isSome = true
  hga : PySem.W.findIn K (.ref C) "__getattribute__" = some (some (.builtin "BaseException.__getattribute__"))
  hgt : PySem.W.findIn K (.ref C) "__getattr__" = some none
  hsub : PySem.W.subIn K (.ref C) (.type "BaseException") = some true
  hdct : PySem.W.hasDictIn K C = true
  ha : PySem.W.findIn K (.ref C) "__class__" = some (some (.builtin "object.__class__"))
  hn : PySem.W.specialIn K (.builtin "object.__class__") "__get__" = some (some (.builtin "getset_descriptor.__get__"))
  htk : PySem.W.takesIn K (.builtin "object.__class__") = some true
  hm : PySem.W.mroIn K C (.type "object") = some true
  isT : ∀ T ∈ ["bool", "int", "str", "list", "tuple"], PySem.W.kitOne K (.ref C) (.type T) = some false
/-- a key of a dict, as data -/
def kyDt : Key → PyData
  | .inl i => .int i
  | .inr x => .str x
mutual
inductive DD (K : PySem.W.Frag) (H : Hp) : V → PyData → Prop
  | non : DD K H .non .none
  | bl (b : Bool) : DD K H (.bl b) (.bool b)
  | int (i : Int) : DD K H (.int i) (.int i)
  | str (x : Str) : DD K H (.str x) (.str x)
  | lst {a : Addr} {xs : List V} {ds : List PyData} : LsR K H a xs → DDs K H xs ds → DD K H (.ref a) (.list ds)
  | tup {a : Addr} {xs : List V} {ds : List PyData} : SqT K H a xs → DDs K H xs ds → DD K H (.ref a) (.tuple ds)
  | dct {a : Addr} {xs : List (Key × V)} {kvs : List (PyData × PyData)} : H a = some (.dK xs) → DDi K H xs kvs → DD K H (.ref a) (.dict kvs)
  | dcn {a : Addr} {o : Obj} {xs : List (NestedKey × Addr × V)} {kvs : List (PyData × PyData)} : H a = some (DnO a o) → DnF LabW.w a o xs → DDk K H xs kvs → DD K H (.ref a) (.dict kvs)
  | exc {a dx : Addr} {c an : Str} {v : V} {d : PyData} : H a = some (ExO a (.ref (LabW.C c)) (some dx)) → H dx = some (.xd [(an, v)]) → KEx K (LabW.C c) → PySem.W.findIn K (.ref (LabW.C c)) an = some none → DD K H v d → DD K H (.ref a) (.dict [(.dict [], .tuple [.str c, .str an, d])])
  | exn {a : Addr} {c : Str} : H a = some (ExO a (.ref (LabW.C c)) none) → KEx K (LabW.C c) → DD K H (.ref a) (.dict [(.dict [], .tuple [.str c])])
inductive DDs (K : PySem.W.Frag) (H : Hp) : List V → List PyData → Prop
  | nil : DDs K H [] []
  | cons {v : V} {vs : List V} {d : PyData} {ds : List PyData} : DD K H v d → DDs K H vs ds → DDs K H (v :: vs) (d :: ds)
inductive DDk (K : PySem.W.Frag) (H : Hp) : List (NestedKey × Addr × V) → List (PyData × PyData) → Prop
  | nil : DDk K H [] []
  | cons {k : NestedKey} {a : Addr} {v : V} {xs : List (NestedKey × Addr × V)} {kd vd : PyData} {kvs : List (PyData × PyData)} : k.data = kd → DD K H (.ref a) kd → DD K H v vd → DDk K H xs kvs → DDk K H ((k, a, v) :: xs) ((kd, vd) :: kvs)
inductive DDi (K : PySem.W.Frag) (H : Hp) : List (Key × V) → List (PyData × PyData) → Prop
  | nil : DDi K H [] []
  | cons {k : Key} {v : V} {xs : List (Key × V)} {vd : PyData} {kvs : List (PyData × PyData)} : DD K H v vd → DDi K H xs kvs → DDi K H ((k, v) :: xs) ((kyDt k, vd) :: kvs)
end
theorem nt_exo {φ : Heap → Prop} : NT (.ext φ) := fun _ h => nomatch h
theorem same_rd {H H' : Hp} {a : Addr} {u : HO} (e : Same H H') (h : Rd H a u) (n : NT u) : Rd H' a u := by
  rcases h with h | ⟨o, h⟩
  · exact .inl (e.h _ _ h n)
  · exact .inr ⟨o, e.h _ _ h nt_frz⟩
theorem same_ls {K : PySem.W.Frag} {H H' : Hp} {a : Addr} {xs : List V} (e : Same H H') (h : LsR K H a xs) : LsR K H' a xs := h.imp (fun z => same_rd e z nt_lst) id
mutual
theorem DD.dp {K : PySem.W.Frag} {Z : Hp} : ∀ (d : PyData) (v : V), d.hasDict = false → DD K Z v d → Dp K Z v d
  | .none, _, _, h => by cases h; exact .non
  | .bool b, _, _, h => by cases h; exact .bl b
  | .int i, _, _, h => by cases h; exact .int i
  | .str x, _, _, h => by cases h; exact .str x
  | .list ds, _, n, h => by
    cases h with
    | lst hs ha => exact .lst hs.sq (DDs.dp ds _ n ha)
  | .tuple ds, _, n, h => by
    cases h with
    | tup hs ha => exact .tup hs (DDs.dp ds _ n ha)
  | .dict _, _, n, h => by cases n
theorem DDs.dp {K : PySem.W.Frag} {Z : Hp} : ∀ (ds : List PyData) (vs : List V), PyData.hasDictAll ds = false → DDs K Z vs ds → DpAll K Z vs ds
  | [], _, _, h => by cases h; exact .nil
  | d :: ds, _, n, h => by
    rw [PyData.hasDictAll, Bool.or_eq_false_iff] at n
    cases h with
    | cons h1 h2 => exact .cons (DD.dp d _ n.1 h1) (DDs.dp ds _ n.2 h2)
end
mutual
theorem dd_mono {K : PySem.W.Frag} {Z Z' : Hp} (s : Same Z Z') : ∀ (d : PyData) (v : V), DD K Z v d → DD K Z' v d
  | .none, _, h => by cases h; exact .non
  | .bool b, _, h => by cases h; exact .bl b
  | .int i, _, h => by cases h; exact .int i
  | .str x, _, h => by cases h; exact .str x
  | .list ds, _, h => by
    cases h with
    | lst hs ha => exact .lst (same_ls s hs) (dds_mono s ds _ ha)
  | .tuple ds, _, h => by
    cases h with
    | tup hs ha => exact .tup (same_sqT s hs) (dds_mono s ds _ ha)
  | .dict kvs, _, h => by
    cases h with
    | dct e hi => exact .dct (s.h _ _ e nt_dK) (ddi_mono s kvs _ hi)
    | dcn e hf hk => exact .dcn (s.h _ _ e nt_exo) hf (ddk_mono s kvs _ hk)
    | @exc a dx c an v d e1 e2 hk hn hd => exact .exc (s.h _ _ e1 nt_exo) (s.h _ _ e2 nt_xd) hk hn (dd_mono s d v hd)
    | exn e1 hk => exact .exn (s.h _ _ e1 nt_exo) hk
theorem dds_mono {K : PySem.W.Frag} {Z Z' : Hp} (s : Same Z Z') : ∀ (ds : List PyData) (vs : List V), DDs K Z vs ds → DDs K Z' vs ds
  | [], _, h => by cases h; exact .nil
  | d :: ds, _, h => by
    cases h with
    | cons h1 h2 => exact .cons (dd_mono s d _ h1) (dds_mono s ds _ h2)
theorem ddk_mono {K : PySem.W.Frag} {Z Z' : Hp} (s : Same Z Z') : ∀ (kvs : List (PyData × PyData)) (xs : List (NestedKey × Addr × V)), DDk K Z xs kvs → DDk K Z' xs kvs
  | [], _, h => by cases h; exact .nil
  | (kd, vd) :: kvs, _, h => by
    cases h with
    | cons h0 h1 h2 h3 => exact .cons h0 (dd_mono s kd _ h1) (dd_mono s vd _ h2) (ddk_mono s kvs _ h3)
theorem ddi_mono {K : PySem.W.Frag} {Z Z' : Hp} (s : Same Z Z') : ∀ (kvs : List (PyData × PyData)) (xs : List (Key × V)), DDi K Z xs kvs → DDi K Z' xs kvs
  | [], _, h => by cases h; exact .nil
  | (kd, vd) :: kvs, _, h => by
    cases h with
    | cons h1 h2 => exact .cons (dd_mono s vd _ h1) (ddi_mono s kvs _ h2)
end
theorem DDm {K : PySem.W.Frag} {Z Z' : Hp} {v : V} {d : PyData} (h : DD K Z v d) (s : Same Z Z') : DD K Z' v d := dd_mono s d v h
theorem DDsm {K : PySem.W.Frag} {Z Z' : Hp} {vs : List V} {ds : List PyData} (h : DDs K Z vs ds) (s : Same Z Z') : DDs K Z' vs ds := dds_mono s ds vs h
theorem dds_len {K : PySem.W.Frag} {Z : Hp} : ∀ {vs : List V} {ds : List PyData}, DDs K Z vs ds → vs.length = ds.length
  | _, [], h => by cases h; rfl
  | _, d :: ds, h => by
    cases h with
    | cons h1 h2 => rw [List.length_cons, List.length_cons, dds_len h2]
theorem dds_get {K : PySem.W.Frag} {Z : Hp} : ∀ {vs : List V} {ds : List PyData} {i : Nat} {d : PyData}, DDs K Z vs ds → ds[i]? = some d → ∃ v, vs[i]? = some v ∧ DD K Z v d
  | _, [], _, _, h, e => by simp at e
  | _, d :: ds, 0, _, h, e => by
    cases h with
    | cons h1 h2 => simp at e; subst e; exact ⟨_, rfl, h1⟩
  | _, d :: ds, i + 1, _, h, e => by
    cases h with
    | cons h1 h2 =>
      obtain ⟨v, e1, e2⟩ := dds_get (i := i) h2 (by simpa using e)
      exact ⟨v, by simpa using e1, e2⟩
theorem dds_get' {K : PySem.W.Frag} {Z : Hp} {vs : List V} {ds : List PyData} {i : Nat} {v : V} (h : DDs K Z vs ds) (e : vs[i]? = some v) : ∃ d, ds[i]? = some d ∧ DD K Z v d := by
  have hl := dds_len h
  obtain ⟨hi, _⟩ := List.getElem?_eq_some_iff.mp e
  obtain ⟨w, e1, e2⟩ := dds_get h (List.getElem?_eq_getElem (show i < ds.length by omega))
  rw [e] at e1
  cases e1
  exact ⟨_, List.getElem?_eq_getElem (show i < ds.length by omega), e2⟩
theorem dds_app {K : PySem.W.Frag} {Z : Hp} : ∀ {vs : List V} {ds : List PyData} {ws : List V} {es : List PyData}, DDs K Z vs ds → DDs K Z ws es → DDs K Z (vs ++ ws) (ds ++ es)
  | _, [], _, _, h, g => by cases h; exact g
  | _, d :: ds, _, _, h, g => by
    cases h with
    | cons h1 h2 => exact .cons h1 (dds_app h2 g)
theorem dds_take {K : PySem.W.Frag} {Z : Hp} : ∀ (n : Nat) {vs : List V} {ds : List PyData}, DDs K Z vs ds → DDs K Z (vs.take n) (ds.take n)
  | 0, _, _, _ => .nil
  | n + 1, _, [], h => by cases h; exact .nil
  | n + 1, _, d :: ds, h => by
    cases h with
    | cons h1 h2 => exact .cons h1 (dds_take n h2)
theorem dds_drop {K : PySem.W.Frag} {Z : Hp} : ∀ (n : Nat) {vs : List V} {ds : List PyData}, DDs K Z vs ds → DDs K Z (vs.drop n) (ds.drop n)
  | 0, _, _, h => h
  | n + 1, _, [], h => by cases h; exact .nil
  | n + 1, _, d :: ds, h => by
    cases h with
    | cons h1 h2 => exact dds_drop n h2
theorem dds_set {K : PySem.W.Frag} {Z : Hp} {v : V} {d : PyData} (hv : DD K Z v d) : ∀ (n : Nat) {vs : List V} {ds : List PyData}, DDs K Z vs ds → DDs K Z (vs.set n v) (ds.set n d)
  | _, _, [], h => by cases h; exact .nil
  | 0, _, _ :: ds, h => by
    cases h with
    | cons h1 h2 => exact .cons hv h2
  | n + 1, _, _ :: ds, h => by
    cases h with
    | cons h1 h2 => exact .cons h1 (dds_set hv n h2)

end
variable [Lab]
/-! ### slots as data -/
inductive DV where
  | fr (d : PyData) | ow (ds : List PyData) | rf (ds : List PyData) | dk (kvs : List (PyData × PyData)) | fn (n : Str)
abbrev DEnv := List (Option DV)
def ownish : DV → Bool
  | .fr _ => false
  | .fn _ => false
  | _ => true
structure Fm where
  Z0 : Hp
  G : Hp
  P : Addr → Prop
  W : Str → Option Addr → St → Hp → Prop
abbrev W0 : Str → Option Addr → St → Hp → Prop := fun _ _ _ _ => False
def SlotOk (K : PySem.W.Frag) (F : Fm) (Z H : Hp) (σ : St) (i : Nat) : DV → Prop
  | .fr d => ∃ v, σ[i]? = some (some v) ∧ DD K Z v d
  | .ow ds => ∃ p xs, σ[i]? = some (some (.ref p)) ∧ ¬ F.P p ∧ F.G p = none ∧ Z p = none ∧ H p = some (.lst xs) ∧ DDs K Z xs ds
  | .rf ds => ∃ p xs, σ[i]? = some (some (.ref p)) ∧ F.P p ∧ H p = some (.lst xs) ∧ DDs K Z xs ds
  | .fn n => σ[i]? = some (some (.ref (LabW.C n)))
  | .dk kvs => ∃ p o xs, σ[i]? = some (some (.ref p)) ∧ ¬ F.P p ∧ F.G p = none ∧ Z p = none ∧ H p = some (DnO p o) ∧ DnF LabW.w p o xs ∧ DDk K Z xs kvs
structure Rel (K : PySem.W.Frag) (F : Fm) (Z H : Hp) (σ : St) (env : DEnv) : Prop where
  z0 : Same F.Z0 Z
  zh : Same Z H
  gh : Same F.G H
  nw : ∀ q, Z q ≠ none → F.Z0 q ≠ none ∨ (F.G q = none ∧ ¬ F.P q)
  pp : ∀ q, F.P q → H q ≠ none ∧ Z q = none ∧ F.G q = none
  len : env.length = σ.length
  sl : ∀ (i : Nat) (dv : DV), env[i]? = some (some dv) → SlotOk K F Z H σ i dv
  inj : ∀ (i j : Nat) (di dj : DV) (p : Addr), env[i]? = some (some di) → env[j]? = some (some dj) → ownish di = true → ownish dj = true → σ[i]? = some (some (.ref p)) → σ[j]? = some (some (.ref p)) → i = j
  tb : TB H
/-- q is no owned slot's list -/
def Fre (σ : St) (env : DEnv) (q : Addr) : Prop := ∀ (i : Nat) (dv : DV), env[i]? = some (some dv) → ownish dv = true → σ[i]? ≠ some (some (V.ref q))
/-- one step of an expression: only owned slots' lists may change -/
structure Stp (σ : St) (env : DEnv) (Z H : Hp) (env' : DEnv) (Z' H' : Hp) : Prop where
  z : Same Z Z'
  h : ∀ q o, H q = some o → NT o → Fre σ env q → H' q = some o
  n : ∀ q, Z' q ≠ none → Z q = none → H q ≠ none → ¬ Fre σ env q
  o : ∀ (i : Nat) (dv : DV), env'[i]? = some (some dv) → ownish dv = true → ∃ dv0, env[i]? = some (some dv0) ∧ ownish dv0 = true
  k : ∀ q, H q ≠ none → H' q ≠ none
theorem Stp.new {σ : St} {env env' : DEnv} {Z H Z' H' : Hp} (s : Stp σ env Z H env' Z' H') {q : Addr} (h : H' q = none) : H q = none :=
  Classical.byContradiction fun z => s.k q z h
theorem Stp.refl {σ : St} {env : DEnv} {Z H : Hp} : Stp σ env Z H env Z H :=
  ⟨Same.refl Z, fun _ _ e _ _ => e, fun _ a b => absurd b a, fun _ dv e o => ⟨dv, e, o⟩, fun _ h => h⟩
theorem Stp.fre {σ : St} {env env' : DEnv} {Z H Z' H' : Hp} (s : Stp σ env Z H env' Z' H') {q : Addr} (f : Fre σ env q) : Fre σ env' q := fun i dv e o => by
  obtain ⟨dv0, e0, o0⟩ := s.o i dv e o
  exact f i dv0 e0 o0
theorem Stp.trans {σ : St} {e0 e1 e2 : DEnv} {Z0 H0 Z1 H1 Z2 H2 : Hp} (a : Stp σ e0 Z0 H0 e1 Z1 H1) (b : Stp σ e1 Z1 H1 e2 Z2 H2) : Stp σ e0 Z0 H0 e2 Z2 H2 := by
  refine ⟨a.z.trans b.z, fun q o e n f => b.h q o (a.h q o e n f) n (a.fre f), fun q h2 h0 hh f => ?_, fun i dv e o => ?_, fun q h => b.k q (a.k q h)⟩
  · by_cases hz : Z1 q = none
    · have h1 : H1 q ≠ none := a.k q hh
      exact b.n q h2 hz h1 (a.fre f)
    · exact a.n q hz h0 hh f
  · obtain ⟨d1, x, y⟩ := b.o i dv e o
    exact a.o i d1 x y
/-- what only lays new things -/
structure Grow (Z H Z' H' : Hp) : Prop where
  z : Same Z Z'
  zh : Same Z' H'
  h : Same H H'
  t : TB H → TB H'
  n : ∀ q, Z' q ≠ none → Z q ≠ none ∨ H q = none
theorem Grow.refl {Z H : Hp} (s : Same Z H) : Grow Z H Z H := ⟨Same.refl Z, s, Same.refl H, id, fun _ h => .inl h⟩
theorem Grow.trans {Z H Z1 H1 Z2 H2 : Hp} (a : Grow Z H Z1 H1) (b : Grow Z1 H1 Z2 H2) : Grow Z H Z2 H2 := by
  refine ⟨a.z.trans b.z, b.zh, a.h.trans b.h, fun t => b.t (a.t t), fun q h => ?_⟩
  rcases b.n q h with h | h
  · exact a.n q h
  · exact .inr (a.h.free h)
theorem Grow.stp {σ : St} {env : DEnv} {Z H Z' H' : Hp} (g : Grow Z H Z' H') : Stp σ env Z H env Z' H' := by
  refine ⟨g.z, fun q o e n _ => g.h.h q o e n, fun q h1 h2 h3 _ => ?_, fun _ dv e o => ⟨dv, e, o⟩, fun q hq hz => hq (g.h.free hz)⟩
  rcases g.n q h1 with h | h
  · exact h h2
  · exact h3 h
theorem Rel.grow {K : PySem.W.Frag} {F : Fm} {Z H Z' H' : Hp} {σ : St} {env : DEnv} (r : Rel K F Z H σ env) (g : Grow Z H Z' H') : Rel K F Z' H' σ env := by
  have keepn : ∀ p, Z p = none → H p ≠ none → Z' p = none := fun p hz hp => by
    cases hq : Z' p with
    | none => rfl
    | some o =>
      rcases g.n p (by rw [hq]; simp) with h | h
      · exact absurd hz h
      · exact absurd h hp
  refine ⟨r.z0.trans g.z, g.zh, r.gh.trans g.h, fun q h => ?_, fun q hq => ?_, r.len, fun i dv e => ?_, r.inj, g.t r.tb⟩
  · rcases g.n q h with h | h
    · exact r.nw q h
    · refine .inr ⟨r.gh.free h, fun hp => (r.pp q hp).1 h⟩
  · obtain ⟨a, b, c⟩ := r.pp q hq
    exact ⟨g.h.k q a, keepn q b a, c⟩
  · have s := r.sl i dv e
    cases dv with
    | fr d =>
      obtain ⟨v, e1, e2⟩ := s
      exact ⟨v, e1, DDm e2 g.z⟩
    | ow ds =>
      obtain ⟨p, xs, e1, e2, e3, e4, e5, e6⟩ := s
      exact ⟨p, xs, e1, e2, e3, keepn p e4 (by rw [e5]; simp), g.h.h _ _ e5 nt_lst, DDsm e6 g.z⟩
    | rf ds =>
      obtain ⟨p, xs, e1, e2, e5, e6⟩ := s
      exact ⟨p, xs, e1, e2, g.h.h _ _ e5 nt_lst, DDsm e6 g.z⟩
    | fn n => exact s
    | dk kvs =>
      obtain ⟨p, o, xs, e1, e2, e3, e4, e5, e6, e7⟩ := s
      exact ⟨p, o, xs, e1, e2, e3, keepn p e4 (by rw [e5]; simp), g.h.h _ _ e5 nt_exo, e6, ddk_mono g.z _ _ e7⟩
theorem same_upd2 {Z H : Hp} (s : Same Z H) (p : Addr) (o : HO) : Same (upd Z p o) (upd H p o) := by
  refine ⟨fun b x e n => ?_, fun b e => ?_⟩
  · by_cases hb : b = p
    · subst hb; rw [upd_same] at e ⊢; exact e
    · rw [upd_ne hb] at e ⊢; exact s.h b x e n
  · by_cases hb : b = p
    · subst hb; rw [upd_same]; simp
    · rw [upd_ne hb] at e ⊢; exact s.k b e
/-- a new frozen object -/
theorem grow_new {Z H : Hp} (s : Same Z H) {p : Addr} (h : H p = none) (o : HO) : Grow Z H (upd Z p o) (upd H p o) := by
  have hz : Z p = none := s.free h
  refine ⟨.of (same_new hz o), same_upd2 s p o, .of (same_new h o), fun t => t.ext (same_new h o), fun q hq => ?_⟩
  by_cases hb : q = p
  · subst hb; exact .inr h
  · rw [upd_ne hb] at hq; exact .inl hq
/-- what a callee may do to the list at p -/
structure Pok (Z H : Hp) (p : Addr) (Z' H' : Hp) : Prop where
  z : Same Z Z'
  zh : Same Z' H'
  h : ∀ q o, q ≠ p → H q = some o → NT o → H' q = some o
  k : ∀ q, q ≠ p → H q ≠ none → H' q ≠ none
  t : TB H → TB H'
  n : ∀ q, Z' q ≠ none → Z q ≠ none ∨ H q = none
theorem new_tup {K : PySem.W.Frag} {Z H : Hp} (s : Same Z H) {p : Addr} (h : H p = none) {xs : List V} {ds : List PyData} (a : DDs K Z xs ds) : DD K (upd Z p (.tup xs)) (.ref p) (.tuple ds) :=
  .tup (SqT.of upd_same) (DDsm a (grow_new s h (.tup xs)).z)
theorem new_lst {K : PySem.W.Frag} {Z H : Hp} (s : Same Z H) {p : Addr} (h : H p = none) {xs : List V} {ds : List PyData} (a : DDs K Z xs ds) : DD K (upd Z p (.lst xs)) (.ref p) (.list ds) :=
  .lst (.inl (Rd.of upd_same)) (DDsm a (grow_new s h (.lst xs)).z)

/-! ### reading a slot -/
def rdF (i : Nat) (env : DEnv) : Option (PyData × DEnv) := match env[i]? with
  | some (some (.fr d)) => some (d, env)
  | some (some (.ow ds)) => some (.list ds, env.set i (some (.fr (.list ds))))
  | some (some (.dk kvs)) => some (.dict kvs, env.set i (some (.fr (.dict kvs))))
  | _ => none
/-- the data that stands in a slot, whatever its kind -/
def rdB (i : Nat) (env : DEnv) : Option PyData := match env[i]? with
  | some (some (.fr d)) => some d
  | some (some (.ow ds)) => some (.list ds)
  | some (some (.rf ds)) => some (.list ds)
  | some (some (.dk kvs)) => some (.dict kvs)
  | _ => none
theorem get_set_some {env : DEnv} {i j : Nat} {x : Option DV} {dv : DV} (h : (env.set i x)[j]? = some (some dv)) : (j = i ∧ x = some dv) ∨ (j ≠ i ∧ env[j]? = some (some dv)) := by
  by_cases e : i = j
  · subst e
    by_cases hl : i < env.length
    · rw [List.getElem?_set_self hl] at h
      exact .inl ⟨rfl, Option.some.inj h⟩
    · rw [List.getElem?_eq_none (by rw [List.length_set]; omega)] at h
      cases h
  · rw [List.getElem?_set_ne e] at h
    exact .inr ⟨fun z => e z.symm, h⟩
theorem Rel.freezeG {K : PySem.W.Frag} {F : Fm} {Z H : Hp} {σ : St} {env : DEnv} {i : Nat} {dv0 : DV} {p : Addr} {u : HO} {d : PyData} (r : Rel K F Z H σ env) (e : env[i]? = some (some dv0)) (hown : ownish dv0 = true) (e1 : σ[i]? = some (some (.ref p))) (e2 : ¬ F.P p) (e3 : F.G p = none) (e4 : Z p = none) (e5 : H p = some u) (hd : DD K (upd Z p u) (.ref p) d) :
    ∃ Z' v, Rel K F Z' H σ (env.set i (some (.fr d))) ∧ Stp σ env Z H (env.set i (some (.fr d))) Z' H ∧ σ[i]? = some (some v) ∧ DD K Z' v d := by
  have hZ : Same Z (upd Z p u) := .of (same_new e4 _)
  refine ⟨upd Z p u, .ref p, ⟨r.z0.trans hZ, ⟨fun b x q n => ?_, fun b q => ?_⟩, r.gh, fun q hq => ?_, fun q hq => ?_, by rw [List.length_set]; exact r.len, fun j dv ej => ?_, fun j k dj dk q ej ek oj ok sj sk => ?_, r.tb⟩, ⟨hZ, fun _ _ q _ _ => q, fun q h1 h2 _ f => ?_, fun j dv ej oj => ?_, fun _ h => h⟩, e1, hd⟩
  · by_cases hb : b = p
    · subst hb; rw [upd_same] at q; cases q; exact e5
    · rw [upd_ne hb] at q; exact r.zh.h b x q n
  · by_cases hb : b = p
    · subst hb; rw [e5]; simp
    · rw [upd_ne hb] at q; exact r.zh.k b q
  · by_cases hb : q = p
    · subst hb; exact .inr ⟨e3, e2⟩
    · rw [upd_ne hb] at hq; exact r.nw q hq
  · obtain ⟨a, b, c⟩ := r.pp q hq
    refine ⟨a, ?_, c⟩
    rw [upd_ne (show q ≠ p from fun z => e2 (by rw [← z]; exact hq))]; exact b
  · rcases get_set_some ej with ⟨rfl, ex⟩ | ⟨hne, ex⟩
    · cases ex
      exact ⟨.ref p, e1, hd⟩
    · have s := r.sl j dv ex
      cases dv with
      | fr d => obtain ⟨v, a, b⟩ := s; exact ⟨v, a, DDm b hZ⟩
      | ow es =>
        obtain ⟨p', xs', a1, a2, a3, a4, a5, a6⟩ := s
        have hp : p' ≠ p := fun z => hne (r.inj j i _ _ p ex e rfl hown (z ▸ a1) e1)
        exact ⟨p', xs', a1, a2, a3, by rw [upd_ne hp]; exact a4, a5, DDsm a6 hZ⟩
      | rf es =>
        obtain ⟨p', xs', a1, a2, a5, a6⟩ := s
        exact ⟨p', xs', a1, a2, a5, DDsm a6 hZ⟩
      | fn n => exact s
      | dk es =>
        obtain ⟨p', o', xs', a1, a2, a3, a4, a5, a6, a7⟩ := s
        have hp : p' ≠ p := fun z => hne (r.inj j i _ _ p ex e rfl hown (z ▸ a1) e1)
        exact ⟨p', o', xs', a1, a2, a3, by rw [upd_ne hp]; exact a4, a5, a6, ddk_mono hZ _ _ a7⟩
  · rcases get_set_some ej with ⟨rfl, ex⟩ | ⟨_, ex⟩
    · cases ex; cases oj
    · rcases get_set_some ek with ⟨rfl, ey⟩ | ⟨_, ey⟩
      · cases ey; cases ok
      · exact r.inj j k dj dk q ex ey oj ok sj sk
  · by_cases hb : q = p
    · subst hb; exact f i _ e hown e1
    · rw [upd_ne hb] at h1; exact h1 h2
  · rcases get_set_some ej with ⟨rfl, ex⟩ | ⟨_, ex⟩
    · cases ex; cases oj
    · exact ⟨dv, ex, oj⟩
theorem Rel.freeze {K : PySem.W.Frag} {F : Fm} {Z H : Hp} {σ : St} {env : DEnv} {i : Nat} {ds : List PyData} (r : Rel K F Z H σ env) (e : env[i]? = some (some (.ow ds))) :
    ∃ Z' v, Rel K F Z' H σ (env.set i (some (.fr (.list ds)))) ∧ Stp σ env Z H (env.set i (some (.fr (.list ds)))) Z' H ∧ σ[i]? = some (some v) ∧ DD K Z' v (.list ds) := by
  obtain ⟨p, xs, e1, e2, e3, e4, e5, e6⟩ := r.sl i _ e
  exact r.freezeG e rfl e1 e2 e3 e4 e5 (.lst (.inl (Rd.of upd_same)) (DDsm e6 (.of (same_new e4 _))))
theorem Rel.freezeK {K : PySem.W.Frag} {F : Fm} {Z H : Hp} {σ : St} {env : DEnv} {i : Nat} {kvs : List (PyData × PyData)} (r : Rel K F Z H σ env) (e : env[i]? = some (some (.dk kvs))) :
    ∃ Z' v, Rel K F Z' H σ (env.set i (some (.fr (.dict kvs)))) ∧ Stp σ env Z H (env.set i (some (.fr (.dict kvs)))) Z' H ∧ σ[i]? = some (some v) ∧ DD K Z' v (.dict kvs) := by
  obtain ⟨p, o, xs, e1, e2, e3, e4, e5, e6, e7⟩ := r.sl i _ e
  exact r.freezeG e rfl e1 e2 e3 e4 e5 (.dcn upd_same e6 (ddk_mono (.of (same_new e4 _)) _ _ e7))
theorem Rel.rdF {K : PySem.W.Frag} {F : Fm} {Z H : Hp} {σ : St} {env env' : DEnv} {i : Nat} {d : PyData} (r : Rel K F Z H σ env) (h : DL.rdF i env = some (d, env')) :
    ∃ Z' v, Rel K F Z' H σ env' ∧ Stp σ env Z H env' Z' H ∧ σ[i]? = some (some v) ∧ DD K Z' v d := by
  unfold DL.rdF at h
  split at h
  · rename_i d' e
    cases h
    obtain ⟨v, e1, e2⟩ := r.sl i _ e
    exact ⟨Z, v, r, Stp.refl, e1, e2⟩
  · rename_i ds e
    cases h
    exact r.freeze e
  · rename_i kvs e
    cases h
    exact r.freezeK e
  · cases h
/-- what a slot's list is at this moment -/
theorem Rel.rdB {K : PySem.W.Frag} {F : Fm} {Z H : Hp} {σ : St} {env : DEnv} {i : Nat} {d : PyData} (r : Rel K F Z H σ env) (h : DL.rdB i env = some d) : ∃ v, σ[i]? = some (some v) ∧ DD K H v d := by
  unfold DL.rdB at h
  split at h
  · rename_i d' e
    cases h
    obtain ⟨v, e1, e2⟩ := r.sl i _ e
    exact ⟨v, e1, DDm e2 r.zh⟩
  · rename_i ds e
    cases h
    obtain ⟨p, xs, e1, e2, e3, e4, e5, e6⟩ := r.sl i _ e
    exact ⟨.ref p, e1, .lst (.inl (Rd.of e5)) (DDsm e6 r.zh)⟩
  · rename_i ds e
    cases h
    obtain ⟨p, xs, e1, e2, e5, e6⟩ := r.sl i _ e
    exact ⟨.ref p, e1, .lst (.inl (Rd.of e5)) (DDsm e6 r.zh)⟩
  · rename_i kvs e
    cases h
    obtain ⟨p, o, xs, e1, e2, e3, e4, e5, e6, e7⟩ := r.sl i _ e
    exact ⟨.ref p, e1, .dcn e5 e6 (ddk_mono r.zh _ _ e7)⟩
  · cases h
end DL
end L2


set_option Elab.async false
set_option maxRecDepth 100000
set_option maxHeartbeats 4000000
set_option autoImplicit false
namespace L2
namespace DL
open PySem PySem.Spec PyProof.Rows
variable [Lab]
abbrev lim : Nat := 100000
theorem lim_le : lim ≤ sizeLine := by decide
/-! ### readings -/
def tD (K : PySem.W.Frag) (F : Fm) (f : DEnv → Option (PyData × DEnv)) : TE := fun σ H Q => ∃ Z env d env', Rel K F Z H σ env ∧ f env = some (d, env') ∧ ∀ v Z' H', Rel K F Z' H' σ env' → Stp σ env Z H env' Z' H' → DD K Z' v d → Q v H'
def tDT (K : PySem.W.Frag) (F : Fm) (f : DEnv → Option (Bool × DEnv)) : TT := fun σ H Q => ∃ Z env d env', Rel K F Z H σ env ∧ f env = some (d, env') ∧ ∀ Z' H', Rel K F Z' H' σ env' → Stp σ env Z H env' Z' H' → Q d H'
def tDA (K : PySem.W.Frag) (F : Fm) (f : DEnv → Option (List PyData × DEnv)) : TA := fun σ H Q => ∃ Z env ds env', Rel K F Z H σ env ∧ f env = some (ds, env') ∧ ∀ vs Z' H', Rel K F Z' H' σ env' → Stp σ env Z H env' Z' H' → DDs K Z' vs ds → Q vs H'
def tDN (K : PySem.W.Frag) (F : Fm) (f : DEnv → Option (List PyData × DEnv)) : TE := fun σ H Q => ∃ Z env ds env', Rel K F Z H σ env ∧ f env = some (ds, env') ∧ ∀ p xs Z' H', Rel K F Z' H' σ env' → Stp σ env Z H env' Z' H' → H p = none → Z' p = none → H' p = some (.lst xs) → DDs K Z' xs ds → Q (.ref p) H'
def PD (X : Cx) (F : Fm) (e : Expr) (f : DEnv → Option (PyData × DEnv)) : Prop := PE X e (tD X.K F f)
def PN (X : Cx) (F : Fm) (e : Expr) (f : DEnv → Option (List PyData × DEnv)) : Prop := PE X e (tDN X.K F f)
def PDT (X : Cx) (F : Fm) (e : Expr) (f : DEnv → Option (Bool × DEnv)) : Prop := PT X e (tDT X.K F f)
def PDW (X : Cx) (F : Fm) (e : Expr) (f : DEnv → Option (Bool × DEnv)) : Prop := PW X e (tDT X.K F f)
def PDA (X : Cx) (F : Fm) (es : List Expr) (f : DEnv → Option (List PyData × DEnv)) : Prop := PA X es (tDA X.K F f)
theorem pe_imp {X : Cx} {e : Expr} {t t' : TE} (h : PE X e t) (w : ∀ σ H Q, t' σ H Q → t σ H Q) : PE X e t' := ⟨fun pins s σ H Q I q => h.run pins s σ H Q I (w σ H Q q)⟩
theorem pt_imp {X : Cx} {e : Expr} {t t' : TT} (h : PT X e t) (w : ∀ σ H Q, t' σ H Q → t σ H Q) : PT X e t' := ⟨fun pins s σ H Q I q => h.run pins s σ H Q I (w σ H Q q)⟩
theorem pw_imp {X : Cx} {e : Expr} {t t' : TT} (h : PW X e t) (w : ∀ σ H Q, t' σ H Q → t σ H Q) : PW X e t' := ⟨fun wh pins s σ H Q I q => h.run wh pins s σ H Q I (w σ H Q q)⟩
theorem pa_imp {X : Cx} {es : List Expr} {t t' : TA} (h : PA X es t) (w : ∀ σ H Q, t' σ H Q → t σ H Q) : PA X es t' := ⟨fun pos pins s σ H Q I q => h.run pos pins s σ H Q I (w σ H Q q)⟩
theorem ps_imp {X : Cx} {e : Stmt} {t t' : TS} (h : PS X e t) (w : ∀ D σ H, t' D σ H → t D σ H) : PS X e t' := ⟨fun pins s σ H D I q => h.run pins s σ H D I (w D σ H q)⟩
theorem pss_imp {X : Cx} {e : List Stmt} {t t' : TS} (h : PSs X e t) (w : ∀ D σ H, t' D σ H → t D σ H) : PSs X e t' := ⟨fun pins s σ H D I q => h.run pins s σ H D I (w D σ H q)⟩
theorem bnd {α β : Type} {o : Option α} {f : α → Option β} {b : β} (h : o.bind f = some b) : ∃ a, o = some a ∧ f a = some b := Option.bind_eq_some_iff.mp h
theorem mpd {α β : Type} {o : Option α} {f : α → β} {b : β} (h : o.map f = some b) : ∃ a, o = some a ∧ f a = b := Option.map_eq_some_iff.mp h

/-- a temporary list is frozen -/
theorem Rel.frzT {K : PySem.W.Frag} {F : Fm} {Z H H0 Z0 : Hp} {σ : St} {env env0 : DEnv} {p : Addr} {xs : List V} {ds : List PyData} (r0 : Rel K F Z0 H0 σ env0) (r : Rel K F Z H σ env) (s : Stp σ env0 Z0 H0 env Z H) (h0 : H0 p = none) (hz : Z p = none) (hp : H p = some (.lst xs)) (hd : DDs K Z xs ds) :
    Rel K F (upd Z p (.lst xs)) H σ env ∧ Stp σ env0 Z0 H0 env (upd Z p (.lst xs)) H ∧ DD K (upd Z p (.lst xs)) (.ref p) (.list ds) := by
  have hZ : Same Z (upd Z p (.lst xs)) := .of (same_new hz _)
  have fr0 : Fre σ env0 p := fun i dv e o hh => by
    have sl := r0.sl i dv e
    cases dv with
    | fr d => cases o
    | ow es => obtain ⟨p', xs', a1, _, _, _, a5, _⟩ := sl; rw [hh] at a1; cases a1; rw [h0] at a5; cases a5
    | rf es => obtain ⟨p', xs', a1, _, a5, _⟩ := sl; rw [hh] at a1; cases a1; rw [h0] at a5; cases a5
    | fn n => cases o
    | dk es => obtain ⟨p', o', xs', a1, _, _, _, a5, _⟩ := sl; rw [hh] at a1; cases a1; rw [h0] at a5; cases a5
  have fr := s.fre fr0
  have np : ¬ F.P p := fun z => (r0.pp p z).1 h0
  have ng : F.G p = none := r0.gh.free h0
  refine ⟨⟨r.z0.trans hZ, ⟨fun b x q n => ?_, fun b q => ?_⟩, r.gh, fun q hq => ?_, fun q hq => ?_, r.len, fun i dv e => ?_, r.inj, r.tb⟩, ⟨s.z.trans hZ, s.h, fun q h1 h2 h3 f => ?_, s.o, s.k⟩, .lst (.inl (Rd.of upd_same)) (DDsm hd hZ)⟩
  · by_cases hb : b = p
    · subst hb; rw [upd_same] at q; cases q; exact hp
    · rw [upd_ne hb] at q; exact r.zh.h b x q n
  · by_cases hb : b = p
    · subst hb; rw [hp]; simp
    · rw [upd_ne hb] at q; exact r.zh.k b q
  · by_cases hb : q = p
    · subst hb; exact .inr ⟨ng, np⟩
    · rw [upd_ne hb] at hq; exact r.nw q hq
  · obtain ⟨a, b, c⟩ := r.pp q hq
    refine ⟨a, ?_, c⟩
    rw [upd_ne (show q ≠ p from fun z => np (by rw [← z]; exact hq))]; exact b
  · have sl := r.sl i dv e
    cases dv with
    | fr d => obtain ⟨v, a, b⟩ := sl; exact ⟨v, a, DDm b hZ⟩
    | ow es =>
      obtain ⟨p', xs', a1, a2, a3, a4, a5, a6⟩ := sl
      have hpp : p' ≠ p := fun z => fr i _ e rfl (z ▸ a1)
      exact ⟨p', xs', a1, a2, a3, by rw [upd_ne hpp]; exact a4, a5, DDsm a6 hZ⟩
    | rf es =>
      obtain ⟨p', xs', a1, a2, a5, a6⟩ := sl
      exact ⟨p', xs', a1, a2, a5, DDsm a6 hZ⟩
    | fn n => exact sl
    | dk es =>
      obtain ⟨p', o', xs', a1, a2, a3, a4, a5, a6, a7⟩ := sl
      have hpp : p' ≠ p := fun z => fr i _ e rfl (z ▸ a1)
      exact ⟨p', o', xs', a1, a2, a3, by rw [upd_ne hpp]; exact a4, a5, a6, ddk_mono hZ _ _ a7⟩
  · by_cases hb : q = p
    · subst hb; exact h3 h0
    · rw [upd_ne hb] at h1; exact s.n q h1 h2 h3 f

section
variable {X : Cx} {F : Fm} {a b c e : Expr} {es : List Expr} {pos p : Pos} {f g k : DEnv → Option (PyData × DEnv)} {fa : DEnv → Option (List PyData × DEnv)} {ft gt : DEnv → Option (Bool × DEnv)}

/-! ### names and constants -/
theorem pd_name (i : Nat) {x : Str} (hN : X.N[i]? = some x := by rfl) (hv : Vis X.env.scope x := by first | exact Or.inl rfl | exact Or.inr (Or.inl rfl) | exact Or.inr (Or.inr rfl)) (hd : (x == ("__debug__" : Str)) = false := by decide)
    (hcd : (x == ("__classdict__" : Str)) = false := by decide) : PD X F (.Name x pos) (rdF i) :=
  pe_imp (pe_var hN hv hd hcd) fun σ H Q ⟨Z, env, d, env', r, e, q⟩ => by
    obtain ⟨Z', v, r', s', e1, e2⟩ := r.rdF e
    exact ⟨v, e1, q v Z' H r' s' e2⟩
def fC (d : PyData) (env : DEnv) : Option (PyData × DEnv) := some (d, env)
theorem pd_const {v : V} {d : PyData} (h : PE X e (tC v)) (hd : ∀ Z, DD X.K Z v d) : PD X F e (fC d) :=
  pe_imp h fun σ H Q ⟨Z, env, d', env', r, e, q⟩ => by
    cases e
    exact q v Z H r Stp.refl (hd Z)
theorem pd_int {i j} : PD X F (.Constant (.int i) j pos) (fC (.int i)) := pd_const pe_int fun _ => .int i
theorem pd_bl {i j} : PD X F (.Constant (.bool i) j pos) (fC (.bool i)) := pd_const pe_bl fun _ => .bl i
theorem pd_non {j} : PD X F (.Constant .none j pos) (fC .none) := pd_const pe_non fun _ => .non
theorem pd_str {i j} : PD X F (.Constant (.str i) j pos) (fC (.str i)) := pd_const pe_str fun _ => .str i
/-- a global constant -/
theorem pd_glob {x : Str} {v : V} {u : Value} {d : PyData} (hm : X.mg x = some u) (r : RelV v u) (hd : ∀ Z, DD X.K Z v d) (hg : Gl X x := by rfl) (hdb : (x == ("__debug__" : Str)) = false := by decide) : PD X F (.Name x pos) (fC d) :=
  pd_const (pe_glob hg hm r hdb) hd

/-! ### binary operators, comparisons -/
def r2D (K : PySem.W.Frag) (o : PyData → PyData → Option PyData) : R2 := fun x y H Q => ∃ Z a b d, Same Z H ∧ DD K Z x a ∧ DD K Z y b ∧ o a b = some d ∧ ∀ v Z' H', Grow Z H Z' H' → DD K Z' v d → Q v H'
def OpD (X : Cx) (op : Value → Value → Sem Value) (o : PyData → PyData → Option PyData) : Prop := OpR X op (r2D X.K o)
def fBin (o : PyData → PyData → Option PyData) (f g : DEnv → Option (PyData × DEnv)) (env : DEnv) : Option (PyData × DEnv) := (f env).bind fun x => (g x.2).bind fun y => (o x.1 y.1).map fun d => (d, y.2)
theorem bin_read {K : PySem.W.Frag} {o : PyData → PyData → Option PyData} {σ : St} {H : Hp} {Q : VK} (h : tD K F (fBin o f g) σ H Q) : tOp (r2D K o) (tD K F f) (tD K F g) σ H Q := by
  obtain ⟨Z, env, d, env', r, e, q⟩ := h
  obtain ⟨⟨x, e1⟩, h1, h⟩ := bnd e
  obtain ⟨⟨y, e2⟩, h2, h⟩ := bnd h
  obtain ⟨d', h3, h⟩ := mpd h
  cases h
  refine ⟨Z, env, x, e1, r, h1, fun v1 Z1 H1 r1 s1 d1 => ⟨Z1, e1, y, e2, r1, h2, fun v2 Z2 H2 r2 s2 d2 => ?_⟩⟩
  refine ⟨Z2, x, y, d, r2.zh, DDm d1 s2.z, d2, h3, fun v Z' H' gr dd => ?_⟩
  exact q v Z' H' (r2.grow gr) ((s1.trans s2).trans gr.stp) dd
theorem pd_bin {op : Operator} {o : PyData → PyData → Option PyData} (ho : OpD X (binaryOp op) o) (ha : PD X F a f) (hb : PD X F b g) : PD X F (.BinOp a op b pos) (fBin o f g) :=
  pe_imp (pe_op ho ha hb) fun _ _ _ h => bin_read h
theorem pd_cmp {op : CmpOp} {o : PyData → PyData → Option PyData} (ho : OpD X (compareOp op) o) (ha : PD X F a f) (hb : PD X F b g) (hm : behindInMarks op b = false := by first | exact nomark _ | rfl) : PD X F (.Compare a [op] [b] pos) (fBin o f g) :=
  pe_imp (pe_cmpR ho ha hb hm) fun _ _ _ h => bin_read h
/-- the right one a name: its list as it stands -/
def fCmpN (o : PyData → PyData → Option PyData) (f : DEnv → Option (PyData × DEnv)) (i : Nat) (env : DEnv) : Option (PyData × DEnv) := (f env).bind fun x => (rdB i x.2).bind fun y => (o x.1 y).map fun d => (d, x.2)
def scalD : PyData → Bool
  | .none => true
  | .bool _ => true
  | .int _ => true
  | .str _ => true
  | _ => false
theorem DD.scal {K : PySem.W.Frag} {Z Z' : Hp} {v : V} {d : PyData} (h : DD K Z v d) (s : scalD d = true) : DD K Z' v d := by
  cases h with
  | non => exact .non
  | bl b => exact .bl b
  | int i => exact .int i
  | str x => exact .str x
  | lst _ _ => cases s
  | tup _ _ => cases s
  | dct _ _ => cases s
  | dcn _ _ _ => cases s
  | exc _ _ _ _ _ => cases s
  | exn _ _ => cases s
theorem pd_cmpN {op : CmpOp} {o : PyData → PyData → Option PyData} (ho : OpD X (compareOp op) o) (hs : ∀ a b d, o a b = some d → scalD d = true) (ha : PD X F a f) (i : Nat) {x : Str} (hm : behindInMarks op (.Name x p) = false := by first | exact nomark _ | rfl)
    (hN : X.N[i]? = some x := by rfl) (hv : Vis X.env.scope x := by first | exact Or.inl rfl | exact Or.inr (Or.inl rfl) | exact Or.inr (Or.inr rfl)) (hd : (x == ("__debug__" : Str)) = false := by decide)
    (hcd : (x == ("__classdict__" : Str)) = false := by decide) : PD X F (.Compare a [op] [.Name x p] pos) (fCmpN o f i) :=
  pe_imp (pe_cmpR ho ha (pe_var hN hv hd hcd) hm) fun σ H Q h => by
    obtain ⟨Z, env, d, env', r, e, q⟩ := h
    obtain ⟨⟨x, e1⟩, h1, h⟩ := bnd e
    obtain ⟨y, h2, h⟩ := bnd h
    obtain ⟨d', h3, h⟩ := mpd h
    cases h
    refine ⟨Z, env, x, e1, r, h1, fun v1 Z1 H1 r1 s1 d1 => ?_⟩
    obtain ⟨v, ev, dv⟩ := r1.rdB h2
    refine ⟨v, ev, H1, x, y, d, Same.refl H1, DDm d1 r1.zh, dv, h3, fun v' Z' H' gr dd => ?_⟩
    have gr' : Grow Z1 H1 Z1 H' := ⟨Same.refl _, r1.zh.trans gr.h, gr.h, gr.t, fun _ z => .inl z⟩
    exact q v' Z1 H' (r1.grow gr') (s1.trans gr'.stp) (dd.scal (hs _ _ _ h3))

/-! ### tests -/
def truthD : PyData → Option Bool
  | .none => some false
  | .bool b => some b
  | .int i => some (i != 0)
  | .str x => if x.length ≤ lim then some (x.length != 0) else none
  | .list xs => some (!xs.isEmpty)
  | .tuple xs => some (!xs.isEmpty)
  | _ => none
theorem truth_ok {K : PySem.W.Frag} {H : Hp} {v : V} {d : PyData} {k : Bool} (h : DD K H v d) (e : truthD d = some k) : TruV K v H k := by
  cases h with
  | non => cases e; exact rfl
  | bl b => cases e; exact rfl
  | int i => cases e; exact rfl
  | str x =>
    change (if x.length ≤ lim then some (x.length != 0) else none) = some k at e
    by_cases hx : x.length ≤ lim
    · rw [if_pos hx] at e
      cases e
      refine ⟨Nat.le_trans hx lim_le, ?_⟩
      by_cases h0 : x.length = 0
      · rw [h0]; rfl
      · have h1 : (x.length != 0) = true := by simpa using h0
        have h2 : (((x.length : Nat) : Int) != 0) = true := by simpa using h0
        rw [h1, h2]
    · rw [if_neg hx] at e
      cases e
  | @lst a xs ds hr ha =>
    cases e
    refine .inl ⟨xs, hr.sq, ?_⟩
    have := dds_len ha
    cases xs <;> cases ds <;> simp_all
  | @tup a xs ds hr ha =>
    cases e
    refine .inr (.inl ⟨xs, hr, ?_⟩)
    have := dds_len ha
    cases xs <;> cases ds <;> simp_all
  | dct _ _ => cases e
  | dcn _ _ _ => cases e
  | exc _ _ _ _ _ => cases e
  | exn _ _ => cases e
def fTst (f : DEnv → Option (PyData × DEnv)) (env : DEnv) : Option (Bool × DEnv) := (f env).bind fun x => (truthD x.1).map fun k => (k, x.2)
theorem pdt_val (ha : PD X F a f) (he : ∀ whole, isTrue a X.env whole = (do let v ← whole; standAt a.pos; holding [v] (truthy v)) := by intro _; rfl) : PDT X F a (fTst f) :=
  pt_imp (pt_truth ha he) fun σ H Q h => by
    obtain ⟨Z, env, d, env', r, e, q⟩ := h
    obtain ⟨⟨x, e1⟩, h1, h⟩ := bnd e
    obtain ⟨k, h2, h⟩ := mpd h
    cases h
    exact ⟨Z, env, x, e1, r, h1, fun v Z1 H1 r1 s1 d1 => ⟨d, truth_ok (DDm d1 r1.zh) h2, q Z1 H1 r1 s1⟩⟩
def fAnd (f g : DEnv → Option (Bool × DEnv)) (env : DEnv) : Option (Bool × DEnv) := (f env).bind fun x => if x.1 then g x.2 else some (false, x.2)
def fOr (f g : DEnv → Option (Bool × DEnv)) (env : DEnv) : Option (Bool × DEnv) := (f env).bind fun x => if x.1 then some (true, x.2) else g x.2
def fNot (f : DEnv → Option (Bool × DEnv)) (env : DEnv) : Option (Bool × DEnv) := (f env).map fun x => (!x.1, x.2)
variable {rest : List Expr}
theorem pdw_and1 (ha : PDT X F a ft) : PDW X F (.BoolOp .And [a] pos) ft := pw_and1 ha
theorem pdw_or1 (ha : PDT X F a ft) : PDW X F (.BoolOp .Or [a] pos) ft := pw_or1 ha
theorem and_read {K : PySem.W.Frag} {σ : St} {H : Hp} {Q : Bool → Hp → Prop} (h : tDT K F (fAnd ft gt) σ H Q) : tAnd (tDT K F ft) (tDT K F gt) σ H Q := by
  obtain ⟨Z, env, d, env', r, e, q⟩ := h
  obtain ⟨⟨x, e1⟩, h1, h⟩ := bnd e
  refine ⟨Z, env, x, e1, r, h1, fun Z1 H1 r1 s1 => ?_⟩
  cases x with
  | true => exact iteT ⟨Z1, e1, d, env', r1, h, fun Z2 H2 r2 s2 => q Z2 H2 r2 (s1.trans s2)⟩
  | false =>
    cases h
    exact iteF (q Z1 H1 r1 s1)
theorem or_read {K : PySem.W.Frag} {σ : St} {H : Hp} {Q : Bool → Hp → Prop} (h : tDT K F (fOr ft gt) σ H Q) : tOr (tDT K F ft) (tDT K F gt) σ H Q := by
  obtain ⟨Z, env, d, env', r, e, q⟩ := h
  obtain ⟨⟨x, e1⟩, h1, h⟩ := bnd e
  refine ⟨Z, env, x, e1, r, h1, fun Z1 H1 r1 s1 => ?_⟩
  cases x with
  | false => exact iteF ⟨Z1, e1, d, env', r1, h, fun Z2 H2 r2 s2 => q Z2 H2 r2 (s1.trans s2)⟩
  | true =>
    cases h
    exact iteT (q Z1 H1 r1 s1)
theorem pdw_and (ha : PDT X F a ft) (hb : PDW X F (.BoolOp .And (b :: rest) pos) gt) : PDW X F (.BoolOp .And (a :: b :: rest) pos) (fAnd ft gt) := pw_imp (pw_and ha hb) fun _ _ _ h => and_read h
theorem pdw_or (ha : PDT X F a ft) (hb : PDW X F (.BoolOp .Or (b :: rest) pos) gt) : PDW X F (.BoolOp .Or (a :: b :: rest) pos) (fOr ft gt) := pw_imp (pw_or ha hb) fun _ _ _ h => or_read h
theorem pdt_w (h : PDW X F a ft) : PDT X F a ft := h.pt
theorem pdt_not (ha : PDT X F a ft) : PDT X F (.UnaryOp .Not a pos) (fNot ft) := pt_imp (pt_not ha) fun σ H Q h => by
  obtain ⟨Z, env, d, env', r, e, q⟩ := h
  obtain ⟨⟨x, e1⟩, h1, h⟩ := mpd e
  cases h
  exact ⟨Z, env, x, e1, r, h1, fun Z1 H1 r1 s1 => q Z1 H1 r1 s1⟩
/-! ### and, or, not as values of bools; conditional expressions -/
def fAndV (f g : DEnv → Option (PyData × DEnv)) (env : DEnv) : Option (PyData × DEnv) := (f env).bind fun x => match x.1 with
  | .bool true => g x.2
  | .bool false => some (.bool false, x.2)
  | _ => none
def fNotV (f : DEnv → Option (PyData × DEnv)) (env : DEnv) : Option (PyData × DEnv) := (f env).bind fun x => match x.1 with
  | .bool b => some (.bool (!b), x.2)
  | _ => none
theorem pd_one {op} (h : PD X F a f) : PD X F (.BoolOp op [a] pos) f := pe_one h
theorem DD.bool_inv {K : PySem.W.Frag} {Z : Hp} {v : V} {k : Bool} (h : DD K Z v (.bool k)) : v = .bl k := by cases h; rfl
theorem DD.int_inv {K : PySem.W.Frag} {Z : Hp} {v : V} {k : Int} (h : DD K Z v (.int k)) : v = .int k := by cases h; rfl
theorem DD.str_inv {K : PySem.W.Frag} {Z : Hp} {v : V} {k : Str} (h : DD K Z v (.str k)) : v = .str k := by cases h; rfl
theorem pd_and (ha : PD X F a f) (hb : PD X F (.BoolOp .And (b :: rest) pos) g) : PD X F (.BoolOp .And (a :: b :: rest) pos) (fAndV f g) := pe_imp (pe_and ha hb) fun σ H Q h => by
  obtain ⟨Z, env, d, env', r, e, q⟩ := h
  obtain ⟨⟨x, e1⟩, h1, h⟩ := bnd e
  refine ⟨Z, env, x, e1, r, h1, fun v Z1 H1 r1 s1 d1 => ?_⟩
  dsimp only at h
  split at h
  · cases d1.bool_inv
    exact ⟨true, rfl, iteT ⟨Z1, e1, d, env', r1, h, fun v2 Z2 H2 r2 s2 d2 => q v2 Z2 H2 r2 (s1.trans s2) d2⟩⟩
  · cases d1.bool_inv
    cases h
    exact ⟨false, rfl, iteF (q _ Z1 H1 r1 s1 (.bl false))⟩
  · cases h
theorem pd_not (ha : PD X F a f) : PD X F (.UnaryOp .Not a pos) (fNotV f) := pe_imp (pe_not ha) fun σ H Q h => by
  obtain ⟨Z, env, d, env', r, e, q⟩ := h
  obtain ⟨⟨x, e1⟩, h1, h⟩ := bnd e
  refine ⟨Z, env, x, e1, r, h1, fun v Z1 H1 r1 s1 d1 => ?_⟩
  dsimp only at h
  split at h
  · rename_i k
    cases d1.bool_inv
    cases h
    exact ⟨k, rfl, q _ Z1 H1 r1 s1 (.bl _)⟩
  · cases h
def fIf (ft : DEnv → Option (Bool × DEnv)) (f g : DEnv → Option (PyData × DEnv)) (env : DEnv) : Option (PyData × DEnv) := (ft env).bind fun x => if x.1 then f x.2 else g x.2
theorem pd_if (hc : PDT X F c ft) (ha : PD X F a f) (hb : PD X F b g) : PD X F (.IfExp c a b pos) (fIf ft f g) := pe_imp (pe_ifExp hc ha hb) fun σ H Q h => by
  obtain ⟨Z, env, d, env', r, e, q⟩ := h
  obtain ⟨⟨x, e1⟩, h1, h⟩ := bnd e
  refine ⟨Z, env, x, e1, r, h1, fun Z1 H1 r1 s1 => ?_⟩
  cases x with
  | true => exact iteT ⟨Z1, e1, d, env', r1, h, fun v Z2 H2 r2 s2 d2 => q v Z2 H2 r2 (s1.trans s2) d2⟩
  | false => exact iteF ⟨Z1, e1, d, env', r1, h, fun v Z2 H2 r2 s2 d2 => q v Z2 H2 r2 (s1.trans s2) d2⟩

/-! ### argument lists, displays -/
def fNil (env : DEnv) : Option (List PyData × DEnv) := some ([], env)
def fCons (f : DEnv → Option (PyData × DEnv)) (fa : DEnv → Option (List PyData × DEnv)) (env : DEnv) : Option (List PyData × DEnv) := (f env).bind fun x => (fa x.2).map fun y => (x.1 :: y.1, y.2)
theorem pda_nil : PDA X F [] fNil := pa_imp pa_nil fun σ H Q h => by
  obtain ⟨Z, env, d, env', r, e, q⟩ := h
  cases e
  exact q [] Z H r Stp.refl .nil
theorem pda_cons (ha : PD X F e f) (hr : PDA X F es fa) (hs : starEach (e :: es) X.env = (false, eval e X.env) :: starEach es X.env := by rfl) : PDA X F (e :: es) (fCons f fa) := pa_imp (pa_cons ha hr hs) fun σ H Q h => by
  obtain ⟨Z, env, d, env', r, e, q⟩ := h
  obtain ⟨⟨x, e1⟩, h1, h⟩ := bnd e
  obtain ⟨⟨y, e2⟩, h2, h⟩ := mpd h
  cases h
  exact ⟨Z, env, x, e1, r, h1, fun v Z1 H1 r1 s1 d1 => ⟨Z1, e1, y, e2, r1, h2, fun vs Z2 H2 r2 s2 d2 => q (v :: vs) Z2 H2 r2 (s1.trans s2) (.cons (DDm d1 s2.z) d2)⟩⟩
def fTup (fa : DEnv → Option (List PyData × DEnv)) (env : DEnv) : Option (PyData × DEnv) := (fa env).bind fun x => if x.1.length ≤ lim then some (.tuple x.1, x.2) else none
theorem pd_tup {x1} (h : PDA X F es fa) : PD X F (.Tuple es x1 pos) (fTup fa) := pe_imp (pe_tup h) fun σ H Q h => by
  obtain ⟨Z, env, d, env', r, e, q⟩ := h
  obtain ⟨⟨x, e1⟩, h1, h⟩ := bnd e
  dsimp only at h
  split at h
  · rename_i hx
    cases h
    refine ⟨Z, env, x, env', r, h1, fun vs Z1 H1 r1 s1 d1 => ⟨?_, fun p hp => ?_⟩⟩
    · rw [dds_len d1]; exact Nat.le_trans hx lim_le
    · have gr := grow_new r1.zh hp (.tup vs)
      exact q (.ref p) _ _ (r1.grow gr) (s1.trans gr.stp) (new_tup r1.zh hp d1)
  · cases h
def fLst (fa : DEnv → Option (List PyData × DEnv)) (env : DEnv) : Option (List PyData × DEnv) := (fa env).bind fun x => if x.1.length ≤ lim then some x else none
/-- a list laid anew, not frozen -/
theorem grow_own {Z H : Hp} (s : Same Z H) {p : Addr} (h : H p = none) (o : HO) : Grow Z H Z (upd H p o) :=
  ⟨Same.refl Z, s.trans (.of (same_new h o)), .of (same_new h o), fun t => t.ext (same_new h o), fun _ z => .inl z⟩
theorem pn_lst (h : PDA X F es fa) : PN X F (.List es pos) (fLst fa) := pe_imp (pe_lst h) fun σ H Q h => by
  obtain ⟨Z, env, d, env', r, e, q⟩ := h
  obtain ⟨⟨x, e1⟩, h1, h⟩ := bnd e
  dsimp only at h
  split at h
  · rename_i hx
    cases h
    refine ⟨Z, env, d, env', r, h1, fun vs Z1 H1 r1 s1 d1 => ⟨?_, fun p hp => ?_⟩⟩
    · rw [dds_len d1]; exact Nat.le_trans hx lim_le
    · have gr := grow_own r1.zh hp (.lst vs)
      exact q p vs _ _ (r1.grow gr) (s1.trans gr.stp) (s1.new hp) (r1.zh.free hp) upd_same d1
  · cases h
def fFrz (fa : DEnv → Option (List PyData × DEnv)) (env : DEnv) : Option (PyData × DEnv) := (fa env).map fun x => (.list x.1, x.2)
theorem pn_pd (h : PN X F e fa) : PD X F e (fFrz fa) := pe_imp h fun σ H Q h => by
  obtain ⟨Z, env, d, env', r, e, q⟩ := h
  obtain ⟨⟨x, e1⟩, h1, h⟩ := mpd e
  simp only [Prod.mk.injEq] at h
  obtain ⟨rfl, rfl⟩ := h
  refine ⟨Z, env, x, e1, r, h1, fun p xs Z1 H1 r1 s1 hp hz hh dd => ?_⟩
  obtain ⟨a, b, c⟩ := Rel.frzT r r1 s1 hp hz hh dd
  exact q _ _ _ a b c

/-! ### built-in functions -/
def rCD (K : PySem.W.Frag) (o : List PyData → Option PyData) : List V → Hp → VK → Prop := fun vs H Q => ∃ Z ds d, Same Z H ∧ DDs K Z vs ds ∧ o ds = some d ∧ ∀ v Z' H', Grow Z H Z' H' → DD K Z' v d → Q v H'
def CallD (X : Cx) (fn : Value) (o : List PyData → Option PyData) : Prop := CallR X fn (rCD X.K o)
def fCB (o : List PyData → Option PyData) (fa : DEnv → Option (List PyData × DEnv)) (env : DEnv) : Option (PyData × DEnv) := (fa env).bind fun x => (o x.1).map fun d => (d, x.2)
theorem cb_read {K : PySem.W.Frag} {o : List PyData → Option PyData} {σ : St} {H : Hp} {Q : VK} (h : tD K F (fCB o fa) σ H Q) : tCB (rCD K o) (tDA K F fa) σ H Q := by
  obtain ⟨Z, env, d, env', r, e, q⟩ := h
  obtain ⟨⟨x, e1⟩, h1, h⟩ := bnd e
  obtain ⟨d', h2, h⟩ := mpd h
  cases h
  exact ⟨Z, env, x, e1, r, h1, fun vs Z1 H1 r1 s1 d1 => ⟨Z1, x, d, r1.zh, d1, h2, fun v Z' H' gr dd => q v Z' H' (r1.grow gr) (s1.trans gr.stp) dd⟩⟩
variable {x : Str} {id T : String}
theorem pd_callB {o : List PyData → Option PyData} (hc : CallD X (.builtin id) o) (hm : X.mg x = none) (hv : bootBuiltins x = some (.builtin id)) (ha : PDA X F (e :: es) fa) (hg : Gl X x := by rfl) (hn : x ≠ "__name__" := by decide) (hdb : (x == ("__debug__" : Str)) = false := by decide)
    (he : starEach (e :: es) X.env = (false, eval e X.env) :: starEach es X.env := by rfl) (hpl : (backTo pos (starEach es X.env)).any (·.1) = false := by rfl) : PD X F (.Call (.Name x p) (e :: es) [] pos) (fCB o fa) :=
  pe_imp (pe_callB hc hg hm hv ha hn hdb he hpl) fun _ _ _ h => cb_read h
theorem pd_callTy {o : List PyData → Option PyData} (hc : CallD X (.type T) o) (hm : X.mg x = none) (hv : bootBuiltins x = some (.type T)) (ha : PDA X F (e :: es) fa) (hg : Gl X x := by rfl) (hn : x ≠ "__name__" := by decide) (hdb : (x == ("__debug__" : Str)) = false := by decide)
    (he : starEach (e :: es) X.env = (false, eval e X.env) :: starEach es X.env := by rfl) (hpl : (backTo pos (starEach es X.env)).any (·.1) = false := by rfl) : PD X F (.Call (.Name x p) (e :: es) [] pos) (fCB o fa) :=
  pe_imp (pe_callTy hc hg hm hv ha hn hdb he hpl) fun _ _ _ h => cb_read h
end
end DL
end L2


set_option Elab.async false
set_option maxRecDepth 100000
set_option maxHeartbeats 4000000
set_option autoImplicit false
namespace L2
namespace DL
open PySem PySem.Spec PyProof.Rows
variable [Lab]
/-! ### defs, called where no repr is under way -/
structure FnG (P : Program) (w : World) (K : PySem.W.Frag) (mg : Str → Option Value) (base : Heap) (k : Nat) (f : Addr) (fd : FuncData) (ps : List Str) (sp : Sp) : Prop where
  len : ∀ vs H Q E, sp vs H Q E → vs.length = ps.length
  run : ∀ (A : Around) (outer : List Env) (s : Shared) (H : Hp) (args : Args) (us : List Value) (vs : List V) (Q : VK) (E : XK),
    GdOk A → Room k A → Env0 P w K mg base A outer s H → BindsTo s fd args (ps.zip us) → Vals vs us → sp vs H Q E →
    codeAny (model P w) A (.call (.ref f) args) (CR CX0 outer P w H s Q E) s
theorem FnG.mono {P : Program} {w : World} {K : PySem.W.Frag} {mg : Str → Option Value} {base : Heap} {j k : Nat} {f : Addr} {fd : FuncData} {ps : List Str} {sp : Sp}
    (G : FnG P w K mg base j f fd ps sp) (h : j ≤ k) : FnG P w K mg base k f fd ps sp :=
  ⟨G.len, fun A outer s H args us vs Q E hg hr => G.run A outer s H args us vs Q E hg (hr.mono h)⟩
section
variable {P : Program} {w : World} {K : PySem.W.Frag} {mg : Str → Option Value} {base : Heap}
theorem fng_of {x qual : Str} {st : Stmt} {f : Addr} {fd : FuncData} {N ps : List Str} {k : Nat} {sp : Sp} (D : Fun K x qual st f fd) (S : FnScope N ps (defScope st)) (len : ∀ vs H Q E, sp vs H Q E → vs.length = ps.length)
    (hbody : ∀ (cdv : Value) (A : Around) (outer : List Env) (s : Shared) (H : Hp) (vs : List V) (Q : VK) (E : XK), cdv = fd.code → GdOk A →
      Room k (A.deeper (envOfC qual (defScope st) s.heap.objs.size f cdv)) → sp vs H Q E →
      ∃ t, PSs (cxOf CX0 P w K mg base N qual (defScope st) f cdv A outer s H E).nox (defBody st) t ∧ t { nx := fun _ H' => Q .non H', rt := Q } (start N vs) H) :
    FnG P w K mg base (k + 1) f fd ps sp := by
  obtain ⟨oc, od, kV, doc, pm, an, cdv, ct, osl, rfl, lk, hcd⟩ := D.ex
  refine ⟨len, fun A outer s H args us vs Q E hgd hr e0 hb rv hsp => ?_⟩
  have sl := len vs H Q E hsp
  have kin : K.In s.heap := e0.mod.kin.keeps fun b o q => (e0.bs b o q).1
  have nol : s.heap.NoLimit := e0.mod.nolimit.keeps fun b o q => (e0.bs b o q).1
  have kinds : ∀ y ∈ ps.zip us, (defScope st).names.lookup y.1 = some .local ∨
      ((defScope st).names.lookup y.1 = some .cell ∧ ((cellsFrom (s.heap.objs.size + 1) (defScope st).names []).lookup y.1).isSome = true) := by
    rintro ⟨n, z⟩ hy
    rcases S.par n (List.of_mem_zip hy).1 with e | e
    · exact .inl e
    · exact .inr ⟨e, PySem.W.cellsFrom_some _ _ _ (.inl e)⟩
  refine codeAny_call_function hr.depth (kin _ _ lk) rfl S.co S.gen rfl (PySem.W.codeRec_of kin hcd) (hb _ _ _ _ (wpAny_newFunctionEnv_cells S.kind kinds fun env he s1 x1 => ?_))
  subst he
  obtain ⟨t, ht, hq⟩ := hbody cdv A outer s H vs Q E rfl hgd (hr.deeper _) hsp
  have J0 : Inv (cxOf CX0 P w K mg base N qual (defScope st) f cdv A outer s H E) [] (start N vs) H s1 := inv_start S hr.hd e0 sl rv x1
  refine ⟨nol.keeps x1.toInCall.keep, codeAny_func (wpAny_mono (ht.nox.run [] s1 (start N vs) H _ J0 hq) (fun fl s' hs => ?_) fun e s' hs => hs)⟩
  cases fl with
  | ret u => obtain ⟨v, s2, H', J, r1, q⟩ := hs; exact ⟨v, H', J.os, J.bare, J.base, J.hok, r1, q⟩
  | next => obtain ⟨s2, H', J, q⟩ := hs; exact ⟨V.non, H', J.os, J.bare, J.base, J.hok, rfl, q⟩
  | brk => obtain ⟨_, _, _, q⟩ := hs; cases q
  | cont => obtain ⟨_, _, _, q⟩ := hs; cases q
end
section
variable {X : Cx} {F : Fm} {k : Nat} {f : Addr} {fd : FuncData} {ps ks : List Str} {sp : Sp} {x : Str} {p pos : Pos} {e : Expr} {es : List Expr} {t tk : TA} {kws : List Keyword}
theorem run_g {pins : List (Addr × Obj)} {σ : St} {H : Hp} {s : Shared} {Q : VK} {args : Args} {us : List Value} {vs : List V} (G : FnG X.prog X.w X.K X.mg X.base k f fd ps sp) (hg : GdOk X.A) (hr : Room k X.A)
    (hb : BindsTo s fd args (ps.zip us)) (I : Inv X pins σ H s) (rv : Vals vs us) (h : sp vs H Q E0) : wpAny (model X.prog X.w) X.A (call (.ref f) args.pos args.kw) (EP X pins σ Q) X.xe s := by
  refine wpAny_call (codeAny_mono (G.run X.A X.stack s H args us vs Q E0 hg hr I.env0 hb rv h) fun r s' hq => ?_)
  cases r with
  | error z => exact False.elim hq
  | ok fl =>
    cases fl with
    | ret u => exact I.after hq
    | next => cases hq
    | brk => cases hq
    | cont => cases hq
theorem pe_gcall (G : FnG X.prog X.w X.K X.mg X.base k f fd ps sp) (hgd : GdOk X.A) (hr : Room k X.A) (hm : X.mg x = some (.ref f)) (hk : PySem.W.keepIn X.K (.ref f) = true) (hb : Binds X.K fd ps [])
    (ha : PA X (e :: es) t) (hg : Gl X x := by rfl) (hdb : (x == ("__debug__" : Str)) = false := by decide)
    (he : starEach (e :: es) X.env = (false, eval e X.env) :: starEach es X.env := by rfl) (hpl : (backTo pos (starEach es X.env)).any (·.1) = false := by rfl) :
    PE X (.Call (.Name x p) (e :: es) [] pos) (fun σ H Q => t σ H fun vs H1 => sp vs H1 Q E0) := by
  refine ⟨fun pins s σ H Q I h => wpAny_Call_Name_kw (ld_glob I hg hm (PySem.W.callWith_K (h₀ := X.base) I.ok.mod.kin hk (thn (ha.run pos pins s σ H _ I h) ?_) he hpl) hdb)⟩
  rintro us s1 ⟨vs, H1, I1, rv, q⟩
  have hl : us.length = ps.length := by rw [← rv.length]; exact G.len _ _ _ _ q
  refine ⟨I1.kIn, run_g (args := ⟨us, []⟩) (us := us) G hgd hr ?_ I1 rv q⟩
  have := hb s1 us I1.kIn (by rw [List.append_nil]; exact hl)
  rw [List.append_nil] at this
  exact this
variable {g : List Value → List Value → List Value} {gV : List V → List V → List V}
variable {gU : List Value → List Value} {gW : List V → List V}
end

/-! ### the promises -/
def spF (K : PySem.W.Frag) (n : Nat) (m : List PyData → Option PyData) : Sp := fun vs H Q _ => vs.length = n ∧ ∃ Z ds r, Same Z H ∧ TB H ∧ DDs K Z vs ds ∧ m ds = some r ∧ ∀ v Z' H', Grow Z H Z' H' → DD K Z' v r → Q v H'
def spN (K : PySem.W.Frag) (n : Nat) (m : List PyData → Option (List PyData)) : Sp := fun vs H Q _ => vs.length = n ∧ ∃ Z ds r, Same Z H ∧ TB H ∧ DDs K Z vs ds ∧ m ds = some r ∧ ∀ p xs Z' H', Grow Z H Z' H' → H p = none → Z' p = none → H' p = some (.lst xs) → DDs K Z' xs r → Q (.ref p) H'
def spR (K : PySem.W.Frag) (n : Nat) (m : List PyData → List PyData → Option (PyData × List PyData)) : Sp := fun vs H Q _ => vs.length = n ∧ ∃ Z p ws xs es ds r es', vs = .ref p :: ws ∧ Same Z H ∧ TB H ∧ Z p = none ∧ H p = some (.lst xs) ∧ DDs K Z xs es ∧ DDs K Z ws ds ∧ m es ds = some (r, es') ∧
  ∀ v xs' Z' H', Pok Z H p Z' H' → H' p = some (.lst xs') → DDs K Z' xs' es' → DD K Z' v r → Q v H'
section
variable {X : Cx} {F : Fm} {k n : Nat} {f : Addr} {fd : FuncData} {ps ks : List Str} {x : Str} {p pos : Pos} {e : Expr} {es : List Expr} {kws : List Keyword} {fa fk : DEnv → Option (List PyData × DEnv)}
theorem f_read {m : List PyData → Option PyData} {K : PySem.W.Frag} {σ : St} {H : Hp} {Q : VK} (hn : ∀ ds r, m ds = some r → ds.length = n) (h : tD K F (fCB m fa) σ H Q) : tDA K F fa σ H fun vs H1 => spF K n m vs H1 Q E0 := by
  obtain ⟨Z, env, d, env', r, e, q⟩ := h
  obtain ⟨⟨x, e1⟩, h1, h⟩ := bnd e
  obtain ⟨d', h2, h⟩ := mpd h
  cases h
  exact ⟨Z, env, x, e1, r, h1, fun vs Z1 H1 r1 s1 d1 => ⟨(dds_len d1).trans (hn _ _ h2), Z1, x, d, r1.zh, r1.tb, d1, h2, fun v Z' H' gr dd => q v Z' H' (r1.grow gr) (s1.trans gr.stp) dd⟩⟩
theorem pd_call {m : List PyData → Option PyData} (G : FnG X.prog X.w X.K X.mg X.base k f fd ps (spF X.K n m)) (hn : ∀ ds r, m ds = some r → ds.length = n) (hgd : GdOk X.A) (hr : Room k X.A) (hm : X.mg x = some (.ref f)) (hk : PySem.W.keepIn X.K (.ref f) = true) (hb : Binds X.K fd ps [])
    (ha : PDA X F (e :: es) fa) (hg : Gl X x := by rfl) (hdb : (x == ("__debug__" : Str)) = false := by decide)
    (he : starEach (e :: es) X.env = (false, eval e X.env) :: starEach es X.env := by rfl) (hpl : (backTo pos (starEach es X.env)).any (·.1) = false := by rfl) :
    PD X F (.Call (.Name x p) (e :: es) [] pos) (fCB m fa) :=
  pe_imp (pe_gcall G hgd hr hm hk hb ha hg hdb he hpl) fun _ _ _ h => f_read hn h
/-- a def that hands back a new list -/
def fCN (m : List PyData → Option (List PyData)) (fa : DEnv → Option (List PyData × DEnv)) (env : DEnv) : Option (List PyData × DEnv) := (fa env).bind fun x => (m x.1).map fun d => (d, x.2)
theorem pn_call {m : List PyData → Option (List PyData)} (G : FnG X.prog X.w X.K X.mg X.base k f fd ps (spN X.K n m)) (hn : ∀ ds r, m ds = some r → ds.length = n) (hgd : GdOk X.A) (hr : Room k X.A) (hm : X.mg x = some (.ref f)) (hk : PySem.W.keepIn X.K (.ref f) = true) (hb : Binds X.K fd ps [])
    (ha : PDA X F (e :: es) fa) (hg : Gl X x := by rfl) (hdb : (x == ("__debug__" : Str)) = false := by decide)
    (he : starEach (e :: es) X.env = (false, eval e X.env) :: starEach es X.env := by rfl) (hpl : (backTo pos (starEach es X.env)).any (·.1) = false := by rfl) :
    PN X F (.Call (.Name x p) (e :: es) [] pos) (fCN m fa) := pe_imp (pe_gcall G hgd hr hm hk hb ha hg hdb he hpl) fun σ H Q h => by
  obtain ⟨Z, env, d, env', r, e, q⟩ := h
  obtain ⟨⟨x, e1⟩, h1, h⟩ := bnd e
  obtain ⟨d', h2, h⟩ := mpd h
  cases h
  refine ⟨Z, env, x, e1, r, h1, fun vs Z1 H1 r1 s1 d1 => ⟨(dds_len d1).trans (hn _ _ h2), Z1, x, d, r1.zh, r1.tb, d1, h2, fun p xs Z' H' gr hp hz hh dd => ?_⟩⟩
  exact q p xs Z' H' (r1.grow gr) (s1.trans gr.stp) (s1.new hp) hz hh dd
end
end DL
end L2


set_option Elab.async false
set_option maxRecDepth 100000
set_option maxHeartbeats 4000000
set_option autoImplicit false
namespace L2
namespace DL
open PySem PySem.Spec PyProof.Rows
variable [Lab]
/-! ### an owned list changes -/
def rdO (j : Nat) (env : DEnv) : Option (List PyData) := match env[j]? with
  | some (some (.ow ds)) => some ds
  | some (some (.rf ds)) => some ds
  | _ => none
def wrO (j : Nat) (ds : List PyData) (env : DEnv) : DEnv := match env[j]? with
  | some (some (.ow _)) => env.set j (some (.ow ds))
  | some (some (.rf _)) => env.set j (some (.rf ds))
  | _ => env
theorem Pok.keepn {Z H Z' H' : Hp} {p : Addr} (g : Pok Z H p Z' H') {q : Addr} (hz : Z q = none) (hq : H q ≠ none) : Z' q = none := by
  cases hh : Z' q with
  | none => rfl
  | some o =>
    rcases g.n q (by rw [hh]; simp) with h | h
    · exact absurd hz h
    · exact absurd h hq
theorem Pok.keep {Z H Z' H' : Hp} {p : Addr} (g : Pok Z H p Z' H') (hp : H' p ≠ none) {q : Addr} (hq : H q ≠ none) : H' q ≠ none := by
  by_cases e : q = p
  · subst e; exact hp
  · exact g.k q e hq
theorem Pok.grow {Z H Z' H' Z2 H2 : Hp} {p : Addr} (g : Pok Z H p Z' H') (hp : H' p ≠ none) (r : Grow Z' H' Z2 H2) : Pok Z H p Z2 H2 := by
  refine ⟨g.z.trans r.z, r.zh, fun q o e h n => r.h.h q o (g.h q o e h n) n, fun q e h => r.h.k q (g.k q e h), fun t => r.t (g.t t), fun q h => ?_⟩
  rcases r.n q h with h | h
  · exact g.n q h
  · exact .inr (Classical.byContradiction fun z => g.keep hp z h)
theorem Rel.poke0 {K : PySem.W.Frag} {F : Fm} {Z H Z' H' : Hp} {σ : St} {env : DEnv} {p : Addr} (r : Rel K F Z H σ env) (f : Fre σ env p) (ng : F.G p = none) (np : ¬ F.P p) (g : Pok Z H p Z' H') (hp : H' p ≠ none) : Rel K F Z' H' σ env := by
  refine ⟨r.z0.trans g.z, g.zh, ⟨fun q o e n => g.h q o (fun z => by subst z; rw [ng] at e; cases e) (r.gh.h q o e n) n, fun q e => g.keep hp (r.gh.k q e)⟩, fun q h => ?_, fun q hq => ?_, r.len, fun i dv e => ?_, r.inj, g.t r.tb⟩
  · rcases g.n q h with h | h
    · exact r.nw q h
    · exact .inr ⟨r.gh.free h, fun z => (r.pp q z).1 h⟩
  · obtain ⟨a, b, c⟩ := r.pp q hq
    exact ⟨g.keep hp a, g.keepn b a, c⟩
  · have s := r.sl i dv e
    cases dv with
    | fr d => obtain ⟨v, a, b⟩ := s; exact ⟨v, a, DDm b g.z⟩
    | ow ds =>
      obtain ⟨p', xs, e1, e2, e3, e4, e5, e6⟩ := s
      have hne : p' ≠ p := fun z => f i _ e rfl (z ▸ e1)
      exact ⟨p', xs, e1, e2, e3, g.keepn e4 (by rw [e5]; simp), g.h _ _ hne e5 nt_lst, DDsm e6 g.z⟩
    | rf ds =>
      obtain ⟨p', xs, e1, e2, e5, e6⟩ := s
      have hne : p' ≠ p := fun z => f i _ e rfl (z ▸ e1)
      exact ⟨p', xs, e1, e2, g.h _ _ hne e5 nt_lst, DDsm e6 g.z⟩
    | fn n => exact s
    | dk ds =>
      obtain ⟨p', o', xs, e1, e2, e3, e4, e5, e6, e7⟩ := s
      have hne : p' ≠ p := fun z => f i _ e rfl (z ▸ e1)
      exact ⟨p', o', xs, e1, e2, e3, g.keepn e4 (by rw [e5]; simp), g.h _ _ hne e5 nt_exo, e6, ddk_mono g.z _ _ e7⟩
theorem Rel.poke {K : PySem.W.Frag} {F : Fm} {Z H : Hp} {σ : St} {env : DEnv} {j : Nat} {es : List PyData} (r : Rel K F Z H σ env) (e : rdO j env = some es) :
    ∃ p xs, σ[j]? = some (some (V.ref p)) ∧ Z p = none ∧ H p = some (.lst xs) ∧ DDs K Z xs es ∧
      ∀ Z' H' xs' es', Pok Z H p Z' H' → H' p = some (.lst xs') → DDs K Z' xs' es' → Rel K F Z' H' σ (wrO j es' env) ∧ Stp σ env Z H (wrO j es' env) Z' H' := by
  have key : ∀ (c : List PyData → DV), (∀ ds, ownish (c ds) = true) → env[j]? = some (some (c es)) → (∀ ds, wrO j ds env = env.set j (some (c ds))) →
      ∀ p xs, σ[j]? = some (some (V.ref p)) → Z p = none → F.G p = none → H p = some (.lst xs) →
      (∀ Z' H' xs' es', Pok Z H p Z' H' → H' p = some (.lst xs') → DDs K Z' xs' es' → SlotOk K F Z' H' σ j (c es')) →
      ∀ Z' H' xs' es', Pok Z H p Z' H' → H' p = some (.lst xs') → DDs K Z' xs' es' → Rel K F Z' H' σ (wrO j es' env) ∧ Stp σ env Z H (wrO j es' env) Z' H' := by
    intro c hc ej hw p xs sj zp gp hp slot Z' H' xs' es' g hp' hd
    have hpn : H' p ≠ none := by rw [hp']; simp
    rw [hw]
    refine ⟨⟨r.z0.trans g.z, g.zh, ⟨fun q o e n => g.h q o (fun z => by subst z; rw [gp] at e; cases e) (r.gh.h q o e n) n, fun q e => g.keep hpn (r.gh.k q e)⟩, fun q h => ?_, fun q hq => ?_, by rw [List.length_set]; exact r.len, fun i dv ei => ?_, fun i k di dk q ei ek oi ok si sk => ?_, g.t r.tb⟩, ⟨g.z, fun q o hq n f => ?_, fun q h1 h2 h3 f => ?_, fun i dv ei oi => ?_, fun q hq => g.keep hpn hq⟩⟩
    · rcases g.n q h with h | h
      · exact r.nw q h
      · exact .inr ⟨r.gh.free h, fun z => (r.pp q z).1 h⟩
    · obtain ⟨a, b, d⟩ := r.pp q hq
      exact ⟨g.keep hpn a, g.keepn b a, d⟩
    · rcases get_set_some ei with ⟨rfl, ex⟩ | ⟨hne, ex⟩
      · cases ex
        exact slot Z' H' xs' es' g hp' hd
      · have s := r.sl i dv ex
        cases dv with
        | fr d => obtain ⟨v, a, b⟩ := s; exact ⟨v, a, DDm b g.z⟩
        | ow ds =>
          obtain ⟨p', ys, e1, e2, e3, e4, e5, e6⟩ := s
          have hn2 : p' ≠ p := fun z => hne (r.inj i j _ _ p ex ej rfl (hc _) (z ▸ e1) sj)
          exact ⟨p', ys, e1, e2, e3, g.keepn e4 (by rw [e5]; simp), g.h _ _ hn2 e5 nt_lst, DDsm e6 g.z⟩
        | rf ds =>
          obtain ⟨p', ys, e1, e2, e5, e6⟩ := s
          have hn2 : p' ≠ p := fun z => hne (r.inj i j _ _ p ex ej rfl (hc _) (z ▸ e1) sj)
          exact ⟨p', ys, e1, e2, g.h _ _ hn2 e5 nt_lst, DDsm e6 g.z⟩
        | fn n => exact s
        | dk ds =>
          obtain ⟨p', o', ys, e1, e2, e3, e4, e5, e6, e7⟩ := s
          have hn2 : p' ≠ p := fun z => hne (r.inj i j _ _ p ex ej rfl (hc _) (z ▸ e1) sj)
          exact ⟨p', o', ys, e1, e2, e3, g.keepn e4 (by rw [e5]; simp), g.h _ _ hn2 e5 nt_exo, e6, ddk_mono g.z _ _ e7⟩
    · have old : ∀ (i : Nat) (dv : DV), (env.set j (some (c es')))[i]? = some (some dv) → ownish dv = true → ∃ d0, env[i]? = some (some d0) ∧ ownish d0 = true := fun i dv ei oi => by
        rcases get_set_some ei with ⟨rfl, ex⟩ | ⟨hne, ex⟩
        · exact ⟨_, ej, hc _⟩
        · exact ⟨dv, ex, oi⟩
      obtain ⟨d1, a1, b1⟩ := old i di ei oi
      obtain ⟨d2, a2, b2⟩ := old k dk ek ok
      exact r.inj i k d1 d2 q a1 a2 b1 b2 si sk
    · exact g.h q o (fun z => f j _ ej (hc _) (by rw [z]; exact sj)) hq n
    · rcases g.n q h1 with h | h
      · exact h h2
      · exact h3 h
    · rcases get_set_some ei with ⟨rfl, ex⟩ | ⟨hne, ex⟩
      · exact ⟨_, ej, hc _⟩
      · exact ⟨dv, ex, oi⟩
  unfold rdO at e
  split at e
  · rename_i ds ej
    cases e
    obtain ⟨p, xs, e1, e2, e3, e4, e5, e6⟩ := r.sl j _ ej
    exact ⟨p, xs, e1, e4, e5, e6, key .ow (fun _ => rfl) ej (fun ds => by unfold wrO; rw [ej]) p xs e1 e4 e3 e5 fun Z' H' xs' es' g hp' hd => ⟨p, xs', e1, e2, e3, g.keepn e4 (by rw [e5]; simp), hp', hd⟩⟩
  · rename_i ds ej
    cases e
    obtain ⟨p, xs, e1, e2, e5, e6⟩ := r.sl j _ ej
    obtain ⟨a, b, d⟩ := r.pp p e2
    exact ⟨p, xs, e1, b, e5, e6, key .rf (fun _ => rfl) ej (fun ds => by unfold wrO; rw [ej]) p xs e1 b d e5 fun Z' H' xs' es' g hp' hd => ⟨p, xs', e1, e2, hp', hd⟩⟩
  · cases e
/-- a plain write -/
theorem pok_upd {Z H : Hp} (s : Same Z H) {p : Addr} (hz : Z p = none) {xs : List V} (hp : H p = some (.lst xs)) (o : HO) : Pok Z H p Z (upd H p o) :=
  ⟨Same.refl Z, ⟨fun b x e n => by rw [upd_ne (ne_of_none e hz)]; exact s.h b x e n, fun b e => by
    by_cases hb : b = p
    · subst hb; rw [upd_same]; simp
    · rw [upd_ne hb]; exact s.k b e⟩, fun q o' hq e _ => by rw [upd_ne hq]; exact e, fun q hq e => by rw [upd_ne hq]; exact e, fun t => t.ne hp o, fun _ h => .inl h⟩
section
variable {X : Cx} {F : Fm} {k n j : Nat} {f : Addr} {fd : FuncData} {ps ks : List Str} {x y : Str} {p pos pn : Pos} {e : Expr} {es : List Expr} {fa : DEnv → Option (List PyData × DEnv)}
def fCR (j : Nat) (m : List PyData → List PyData → Option (PyData × List PyData)) (fa : DEnv → Option (List PyData × DEnv)) (env : DEnv) : Option (PyData × DEnv) :=
  (rdO j env).bind fun _ => (fa env).bind fun x => (rdO j x.2).bind fun es => (m es x.1).map fun r => (r.1, wrO j r.2 x.2)
theorem pd_callR (j : Nat) {m : List PyData → List PyData → Option (PyData × List PyData)} (G : FnG X.prog X.w X.K X.mg X.base k f fd ps (spR X.K n m)) (hn : ∀ es ds r, m es ds = some r → ds.length + 1 = n) (hgd : GdOk X.A) (hr : Room k X.A) (hm : X.mg x = some (.ref f)) (hk : PySem.W.keepIn X.K (.ref f) = true) (hb : Binds X.K fd ps [])
    (ha : PDA X F es fa) (hN : X.N[j]? = some y := by rfl) (hv : Vis X.env.scope y := by first | exact Or.inl rfl | exact Or.inr (Or.inl rfl) | exact Or.inr (Or.inr rfl)) (hd : (y == ("__debug__" : Str)) = false := by decide)
    (hcd : (y == ("__classdict__" : Str)) = false := by decide) (hg : Gl X x := by rfl) (hdb : (x == ("__debug__" : Str)) = false := by decide)
    (he : starEach (.Name y pn :: es) X.env = (false, eval (.Name y pn) X.env) :: starEach es X.env := by rfl) (hpl : (backTo pos (starEach es X.env)).any (·.1) = false := by rfl) :
    PD X F (.Call (.Name x p) (.Name y pn :: es) [] pos) (fCR j m fa) :=
  pe_imp (pe_gcall G hgd hr hm hk hb (pa_cons (pe_var hN hv hd hcd) ha he) hg hdb he hpl) fun σ H Q h => by
    obtain ⟨Z, env, d, env', r, e, q⟩ := h
    obtain ⟨z0, h0, e⟩ := bnd e
    obtain ⟨⟨x, e1⟩, h1, h⟩ := bnd e
    obtain ⟨zs, h2, h⟩ := bnd h
    obtain ⟨⟨r0, r1⟩, h3, h⟩ := mpd h
    cases h
    obtain ⟨p, xs, sj, _, _, _, _⟩ := r.poke h0
    refine ⟨.ref p, sj, Z, env, x, e1, r, h1, fun vs Z1 H1 r1 s1 d1 => ?_⟩
    obtain ⟨p', xs', sj', zp, hp, dp, fin⟩ := r1.poke h2
    rw [sj] at sj'
    cases sj'
    refine ⟨?_, Z1, p, vs, xs', zs, x, _, _, rfl, r1.zh, r1.tb, zp, hp, dp, d1, h3, fun v ys Z' H' pk a5 a6 a7 => ?_⟩
    · rw [List.length_cons, dds_len d1]; exact hn _ _ _ h3
    · obtain ⟨b1, b2⟩ := fin Z' H' ys _ pk a5 a6
      exact q v Z' H' b1 (s1.trans b2) a7
/-- the argument a list made for the call -/
def fCRT (m : List PyData → List PyData → Option (PyData × List PyData)) (fa : DEnv → Option (List PyData × DEnv)) (env : DEnv) : Option (PyData × DEnv) :=
  (fa env).bind fun x => (m x.1 []).map fun r => (r.1, x.2)
theorem pd_callRT {m : List PyData → List PyData → Option (PyData × List PyData)} (G : FnG X.prog X.w X.K X.mg X.base k f fd ps (spR X.K n m)) (hn : ∀ es ds r, m es ds = some r → ds.length + 1 = n) (hgd : GdOk X.A) (hr : Room k X.A) (hm : X.mg x = some (.ref f)) (hk : PySem.W.keepIn X.K (.ref f) = true) (hb : Binds X.K fd ps [])
    (ha : PN X F e fa) (hg : Gl X x := by rfl) (hdb : (x == ("__debug__" : Str)) = false := by decide)
    (he : starEach [e] X.env = (false, eval e X.env) :: starEach [] X.env := by rfl) (hpl : (backTo pos (starEach [] X.env)).any (·.1) = false := by rfl) :
    PD X F (.Call (.Name x p) [e] [] pos) (fCRT m fa) :=
  pe_imp (pe_gcall G hgd hr hm hk hb (pa_cons ha pa_nil he) hg hdb he hpl) fun σ H Q h => by
    obtain ⟨Z, env, d, env', r, e, q⟩ := h
    obtain ⟨⟨x, e1⟩, h1, h⟩ := bnd e
    obtain ⟨⟨r0, r1⟩, h3, h⟩ := mpd h
    cases h
    refine ⟨Z, env, x, e1, r, h1, fun p xs Z1 H1 r1 s1 h0 hz hp dp => ⟨?_, Z1, p, [], xs, x, [], _, _, rfl, r1.zh, r1.tb, hz, hp, dp, .nil, h3, fun v ys Z' H' g a5 a6 a7 => ?_⟩⟩
    · exact hn _ _ _ h3
    · have hpn : H' p ≠ none := by rw [a5]; simp
      have fr0 : Fre σ env p := fun i dv e o hh => by
        have sl := r.sl i dv e
        cases dv with
        | fr d => cases o
        | ow es => obtain ⟨p', xs', a1, _, _, _, a5, _⟩ := sl; rw [hh] at a1; cases a1; rw [h0] at a5; cases a5
        | rf es => obtain ⟨p', xs', a1, _, a5, _⟩ := sl; rw [hh] at a1; cases a1; rw [h0] at a5; cases a5
        | fn n => cases o
        | dk es => obtain ⟨p', o', xs', a1, _, _, _, a5, _⟩ := sl; rw [hh] at a1; cases a1; rw [h0] at a5; cases a5
      have rr := r1.poke0 (s1.fre fr0) (r.gh.free h0) (fun z => (r.pp p z).1 h0) g hpn
      refine q v Z' H' rr ⟨s1.z.trans g.z, fun q o hq n f => g.h q o (fun z => by subst z; rw [h0] at hq; cases hq) (s1.h q o hq n f) n, fun q b1 b2 b3 f => ?_, s1.o, fun q hq => g.keep hpn (s1.k q hq)⟩ a7
      rcases g.n q b1 with z | z
      · exact s1.n q z b2 b3 f
      · exact s1.k q b3 z

variable {g : DEnv → Option (PyData × DEnv)}
theorem own_ty {K : PySem.W.Frag} {H : Hp} {p : Addr} {xs : List V} (h : H p = some (.lst xs)) : tyV K "list" (.ref p) H := .inl ⟨rfl, _, SqL.of h⟩
end
end DL
end L2


set_option Elab.async false
set_option maxRecDepth 100000
set_option maxHeartbeats 4000000
set_option autoImplicit false
namespace L2
namespace DL
open PySem PySem.Spec PyProof.Rows
variable [Lab]
/-! ### stores -/
theorem set_get_some {σ : St} {i j : Nat} {x : Option V} {v : V} (h : (σ.set i x)[j]? = some (some v)) : (j = i ∧ x = some v) ∨ (j ≠ i ∧ σ[j]? = some (some v)) := by
  by_cases e : i = j
  · subst e
    by_cases hl : i < σ.length
    · rw [List.getElem?_set_self hl] at h
      exact .inl ⟨rfl, Option.some.inj h⟩
    · rw [List.getElem?_eq_none (by rw [List.length_set]; omega)] at h
      cases h
  · rw [List.getElem?_set_ne e] at h
    exact .inr ⟨fun z => e z.symm, h⟩
/-- the slot i is told anew: x and o fit -/
theorem Rel.put {K : PySem.W.Frag} {F : Fm} {Z H : Hp} {σ : St} {env : DEnv} (r : Rel K F Z H σ env) (i : Nat) (x : Option V) (o : Option DV)
    (ok : ∀ dv, o = some dv → i < σ.length → SlotOk K F Z H (σ.set i x) i dv) (fr : ∀ dv p, o = some dv → ownish dv = true → x = some (V.ref p) → Fre σ env p) : Rel K F Z H (σ.set i x) (env.set i o) := by
  have other : ∀ (j : Nat) (dv : DV), j ≠ i → env[j]? = some (some dv) → SlotOk K F Z H (σ.set i x) j dv := fun j dv hne e => by
    have s := r.sl j dv e
    have eq : (σ.set i x)[j]? = σ[j]? := List.getElem?_set_ne (fun z => hne z.symm)
    cases dv with
    | fr d => obtain ⟨v, a, b⟩ := s; exact ⟨v, eq.trans a, b⟩
    | ow ds => obtain ⟨p, xs, a, b⟩ := s; exact ⟨p, xs, eq.trans a, b⟩
    | rf ds => obtain ⟨p, xs, a, b⟩ := s; exact ⟨p, xs, eq.trans a, b⟩
    | fn n => exact eq.trans s
    | dk ds => obtain ⟨p, o, xs, a, b⟩ := s; exact ⟨p, o, xs, eq.trans a, b⟩
  refine ⟨r.z0, r.zh, r.gh, r.nw, r.pp, by rw [List.length_set, List.length_set]; exact r.len, fun j dv e => ?_, fun j k dj dk p ej ek oj ok' sj sk => ?_, r.tb⟩
  · by_cases hl : i < σ.length
    · rcases get_set_some e with ⟨rfl, ex⟩ | ⟨hne, ex⟩
      · exact ok dv ex hl
      · exact other j dv hne ex
    · rcases get_set_some e with ⟨rfl, ex⟩ | ⟨hne, ex⟩
      · exfalso
        rw [List.getElem?_eq_none (by rw [List.length_set, r.len]; omega)] at e
        cases e
      · exact other j dv hne ex
  · rcases get_set_some ej with ⟨rfl, ex⟩ | ⟨hne, ex⟩
    · rcases get_set_some ek with ⟨rfl, ey⟩ | ⟨hne2, ey⟩
      · rfl
      · exfalso
        rcases set_get_some sj with ⟨_, sx⟩ | ⟨hh, _⟩
        · rcases set_get_some sk with ⟨hh, _⟩ | ⟨_, sy⟩
          · exact hne2 hh
          · exact fr dj p ex oj sx k dk ey ok' sy
        · exact hh rfl
    · rcases get_set_some ek with ⟨rfl, ey⟩ | ⟨hne2, ey⟩
      · exfalso
        rcases set_get_some sk with ⟨_, sx⟩ | ⟨hh, _⟩
        · rcases set_get_some sj with ⟨hh, _⟩ | ⟨_, sy⟩
          · exact hne hh
          · exact fr dk p ey ok' sx j dj ex oj sy
        · exact hh rfl
      · rw [List.getElem?_set_ne (fun z => hne z.symm)] at sj
        rw [List.getElem?_set_ne (fun z => hne2 z.symm)] at sk
        exact r.inj j k dj dk p ex ey oj ok' sj sk
theorem Rel.store {K : PySem.W.Frag} {F : Fm} {Z H : Hp} {σ : St} {env : DEnv} {v : V} {d : PyData} (r : Rel K F Z H σ env) (i : Nat) (hd : DD K Z v d) : Rel K F Z H (σ.set i (some v)) (env.set i (some (.fr d))) :=
  r.put i _ _ (fun dv e hl => by cases e; exact ⟨v, List.getElem?_set_self hl, hd⟩) (fun dv p e o _ => by cases e; cases o)
theorem Rel.drop {K : PySem.W.Frag} {F : Fm} {Z H : Hp} {σ : St} {env : DEnv} (r : Rel K F Z H σ env) (i : Nat) : Rel K F Z H (σ.set i none) (env.set i none) :=
  r.put i _ _ (fun dv e => by cases e) (fun dv p e => by cases e)
theorem Rel.storeN {K : PySem.W.Frag} {F : Fm} {Z H : Hp} {σ : St} {env : DEnv} {p : Addr} {xs : List V} {ds : List PyData} (r : Rel K F Z H σ env) (i : Nat) (f : Fre σ env p) (np : ¬ F.P p) (ng : F.G p = none) (hz : Z p = none) (hp : H p = some (.lst xs)) (hd : DDs K Z xs ds) :
    Rel K F Z H (σ.set i (some (.ref p))) (env.set i (some (.ow ds))) :=
  r.put i _ _ (fun dv e hl => by cases e; exact ⟨p, xs, List.getElem?_set_self hl, np, ng, hz, hp, hd⟩) (fun dv q e o ex => by cases ex; exact f)
/-- a list new since the start of an expression is no slot's -/
theorem fre_new {K : PySem.W.Frag} {F : Fm} {Z H : Hp} {σ : St} {env : DEnv} (r : Rel K F Z H σ env) {p : Addr} (h0 : H p = none) : Fre σ env p := fun i dv e o hh => by
  have sl := r.sl i dv e
  cases dv with
  | fr d => cases o
  | ow es => obtain ⟨p', xs', a1, _, _, _, a5, _⟩ := sl; rw [hh] at a1; cases a1; rw [h0] at a5; cases a5
  | rf es => obtain ⟨p', xs', a1, _, a5, _⟩ := sl; rw [hh] at a1; cases a1; rw [h0] at a5; cases a5
  | fn n => cases o
  | dk es => obtain ⟨p', o', xs', a1, _, _, _, a5, _⟩ := sl; rw [hh] at a1; cases a1; rw [h0] at a5; cases a5

/-! ### statements -/
inductive DFlow where
  | nx (env : DEnv) | rt (d : PyData) (env : DEnv) | rn (ds : List PyData) (env : DEnv) | bk (env : DEnv) | ct (env : DEnv) | ex (c a : Str) (d : PyData) (env : DEnv)
def Fini (K : PySem.W.Frag) (F : Fm) (Z : Hp) (D : Ends) : DFlow → Prop
  | .nx e => ∀ σ' Z' H', Rel K F Z' H' σ' e → Same Z Z' → D.nx σ' H'
  | .rt d e => ∀ v σ' Z' H', Rel K F Z' H' σ' e → Same Z Z' → DD K Z' v d → D.rt v H'
  | .rn ds e => ∀ p xs σ' Z' H', Rel K F Z' H' σ' e → Same Z Z' → Z' p = none → F.G p = none → ¬ F.P p → H' p = some (.lst xs) → DDs K Z' xs ds → D.rt (.ref p) H'
  | .bk e => ∀ σ' Z' H', Rel K F Z' H' σ' e → Same Z Z' → D.bk σ' H'
  | .ct e => ∀ σ' Z' H', Rel K F Z' H' σ' e → Same Z Z' → D.ct σ' H'
  | .ex c a d e => ∀ v p σ' Z' H', Rel K F Z' H' σ' e → Same Z Z' → Z' p = none → F.G p = none → ¬ F.P p → H' p = some (.xd [(a, v)]) → DD K Z' v d → F.W c (some p) σ' H'
theorem Fini.mono {K : PySem.W.Frag} {F : Fm} {Z Z1 : Hp} {D : Ends} {fl : DFlow} (h : Fini K F Z D fl) (s : Same Z Z1) : Fini K F Z1 D fl := by
  cases fl with
  | nx e => exact fun σ' Z' H' r z => h σ' Z' H' r (s.trans z)
  | rt d e => exact fun v σ' Z' H' r z => h v σ' Z' H' r (s.trans z)
  | rn d e => exact fun p xs σ' Z' H' r z => h p xs σ' Z' H' r (s.trans z)
  | bk e => exact fun σ' Z' H' r z => h σ' Z' H' r (s.trans z)
  | ct e => exact fun σ' Z' H' r z => h σ' Z' H' r (s.trans z)
  | ex c a d e => exact fun v p σ' Z' H' r z => h v p σ' Z' H' r (s.trans z)
def tDS (K : PySem.W.Frag) (F : Fm) (f : DEnv → Option DFlow) : TS := fun D σ H => ∃ Z env fl, Rel K F Z H σ env ∧ f env = some fl ∧ Fini K F Z D fl
def PDS (X : Cx) (F : Fm) (s : Stmt) (f : DEnv → Option DFlow) : Prop := PS X s (tDS X.K F f)
def PDSs (X : Cx) (F : Fm) (s : List Stmt) (f : DEnv → Option DFlow) : Prop := PSs X s (tDS X.K F f)
section
variable {X : Cx} {F : Fm} {a b c e tg iter : Expr} {es : List Expr} {s : Stmt} {ss s2 : List Stmt} {pos p pn : Pos} {x y : Str} {f g : DEnv → Option (PyData × DEnv)} {fa fn : DEnv → Option (List PyData × DEnv)} {ft : DEnv → Option (Bool × DEnv)} {h1 h2 : DEnv → Option DFlow}
def sNil (env : DEnv) : Option DFlow := some (.nx env)
def sSeq (f g : DEnv → Option DFlow) (env : DEnv) : Option DFlow := (f env).bind fun fl => match fl with
  | .nx e => g e
  | fl => some fl
theorem dss_nil : PDSs X F [] sNil := pss_imp pss_nil fun D σ H h => by
  obtain ⟨Z, env, fl, r, e, q⟩ := h
  cases e
  exact q σ Z H r (Same.refl Z)
theorem dss_cons (ha : PDS X F s h1) (hb : PDSs X F ss h2) : PDSs X F (s :: ss) (sSeq h1 h2) := pss_imp (pss_cons ha hb) fun D σ H h => by
  obtain ⟨Z, env, fl, r, e, q⟩ := h
  obtain ⟨f1, e1, e⟩ := bnd e
  refine ⟨Z, env, f1, r, e1, ?_⟩
  cases f1 with
  | nx e0 => exact fun σ' Z' H' r' s' => ⟨Z', e0, fl, r', e, q.mono s'⟩
  | rt d e0 => cases e; exact q
  | rn d e0 => cases e; exact q
  | bk e0 => cases e; exact q
  | ct e0 => cases e; exact q
  | ex c a d e0 => cases e; exact q
theorem dss_one (ha : PDS X F s h1) : PDSs X F [s] h1 := pss_one ha
def sNone (_ : DEnv) : Option DFlow := none
theorem ds_never : PDS X F s sNone := ps_imp ps_never fun D σ H h => by
  obtain ⟨Z, env, fl, r, e, q⟩ := h
  cases e
def sExpr (f : DEnv → Option (PyData × DEnv)) (env : DEnv) : Option DFlow := (f env).map fun x => .nx x.2
theorem ds_expr (ha : PD X F e f) (hs : swapsWith e none pos.line X.env = pure false := by rfl) : PDS X F (.Expr e pos) (sExpr f) := ps_imp (ps_expr ha hs) fun D σ H h => by
  obtain ⟨Z, env, fl, r, e, q⟩ := h
  obtain ⟨⟨d, e1⟩, h1, h⟩ := mpd e
  subst h
  exact ⟨Z, env, d, e1, r, h1, fun v Z' H' r' s' _ => q σ Z' H' r' s'.z⟩
def sRet (f : DEnv → Option (PyData × DEnv)) (env : DEnv) : Option DFlow := (f env).map fun x => .rt x.1 x.2
theorem ds_ret (ha : PD X F e f) : PDS X F (.Return (some e) pos) (sRet f) := ps_imp (ps_ret ha) fun D σ H h => by
  obtain ⟨Z, env, fl, r, e, q⟩ := h
  obtain ⟨⟨d, e1⟩, h1, h⟩ := mpd e
  subst h
  exact ⟨Z, env, d, e1, r, h1, fun v Z' H' r' s' dd => q v σ Z' H' r' s'.z dd⟩
def sRetN (f : DEnv → Option (List PyData × DEnv)) (env : DEnv) : Option DFlow := (f env).map fun x => .rn x.1 x.2
theorem ds_retN (ha : PN X F e fn) : PDS X F (.Return (some e) pos) (sRetN fn) := ps_imp (ps_ret ha) fun D σ H h => by
  obtain ⟨Z, env, fl, r, e, q⟩ := h
  obtain ⟨⟨d, e1⟩, h1, h⟩ := mpd e
  subst h
  exact ⟨Z, env, d, e1, r, h1, fun p xs Z' H' r' s' h0 hz hp dd => q p xs σ Z' H' r' s'.z hz (r.gh.free h0) (fun z => (r.pp p z).1 h0) hp dd⟩
def sIf (ft : DEnv → Option (Bool × DEnv)) (h1 h2 : DEnv → Option DFlow) (env : DEnv) : Option DFlow := (ft env).bind fun x => if x.1 then h1 x.2 else h2 x.2
theorem ds_if (hc : PDT X F c ft) (ha : PDSs X F ss h1) (hb : PDSs X F s2 h2) : PDS X F (.If c ss s2 pos) (sIf ft h1 h2) := ps_imp (ps_if hc ha hb) fun D σ H h => by
  obtain ⟨Z, env, fl, r, e, q⟩ := h
  obtain ⟨⟨k, e1⟩, h1, h⟩ := bnd e
  refine ⟨Z, env, k, e1, r, h1, fun Z1 H1 r1 s1 => ?_⟩
  cases k with
  | true => exact iteT ⟨Z1, e1, fl, r1, h, q.mono s1.z⟩
  | false => exact iteF ⟨Z1, e1, fl, r1, h, q.mono s1.z⟩
def sSet (i : Nat) (f : DEnv → Option (PyData × DEnv)) (env : DEnv) : Option DFlow := (f env).map fun x => .nx (x.2.set i (some (.fr x.1)))
theorem ds_set (i : Nat) {pos' : Pos} (ha : PD X F e f) (hN : X.N.Nodup) (hi : X.N[i]? = some x := by rfl) (hx : Loc X.env.scope x := by first | exact Or.inl rfl | exact Or.inr rfl) (hs : swapsWith e (some (.Name x pos')) pos.line X.env = pure false := by rfl)
    (hf : X.fn x = true ∨ X.env.scope.names.lookup x = some .local := by first | exact .inl rfl | exact .inr rfl | assumption) : PDS X F (.Assign [.Name x pos'] e pos) (sSet i f) := ps_imp (ps_set hN hi hx ha hs hf) fun D σ H h => by
  obtain ⟨Z, env, fl, r, e, q⟩ := h
  obtain ⟨⟨d, e1⟩, h1, h⟩ := mpd e
  subst h
  exact ⟨Z, env, d, e1, r, h1, fun v Z' H' r' s' dd => q _ Z' H' (r'.store i dd) s'.z⟩
def sSetN (i : Nat) (f : DEnv → Option (List PyData × DEnv)) (env : DEnv) : Option DFlow := (f env).map fun x => .nx (x.2.set i (some (.ow x.1)))
theorem ds_setN (i : Nat) {pos' : Pos} (ha : PN X F e fn) (hN : X.N.Nodup) (hi : X.N[i]? = some x := by rfl) (hx : Loc X.env.scope x := by first | exact Or.inl rfl | exact Or.inr rfl) (hs : swapsWith e (some (.Name x pos')) pos.line X.env = pure false := by rfl)
    (hf : X.fn x = true ∨ X.env.scope.names.lookup x = some .local := by first | exact .inl rfl | exact .inr rfl | assumption) : PDS X F (.Assign [.Name x pos'] e pos) (sSetN i fn) := ps_imp (ps_set hN hi hx ha hs hf) fun D σ H h => by
  obtain ⟨Z, env, fl, r, e, q⟩ := h
  obtain ⟨⟨d, e1⟩, h1, h⟩ := mpd e
  subst h
  exact ⟨Z, env, d, e1, r, h1, fun p xs Z' H' r' s' h0 hz hp dd => q _ Z' H' (r'.storeN i (s'.fre (fre_new r h0)) (fun z => (r.pp p z).1 h0) (r.gh.free h0) hz hp dd) s'.z⟩
/-- a, b = two new lists; a new list and data .. -/
def sPar (i j : Nat) (fa : DEnv → Option (List PyData × DEnv)) (env : DEnv) : Option DFlow := (fa env).bind fun x => match x.1 with
  | [u, v] => some (.nx ((x.2.set i (some (.fr u))).set j (some (.fr v))))
  | _ => none
theorem ds_par (i j : Nat) (ha : PS X s (tPar i j (tDA X.K F fa))) : PDS X F s (sPar i j fa) := ps_imp ha fun D σ H h => by
  obtain ⟨Z, env, fl, r, e, q⟩ := h
  obtain ⟨⟨d, e1⟩, h1, h⟩ := bnd e
  match d, h, h1 with
  | [u, v], h, h1 =>
    cases h
    refine ⟨Z, env, [u, v], e1, r, h1, fun vs Z' H' r' s' dd => ?_⟩
    cases dd with
    | cons d1 dr =>
      cases dr with
      | cons d2 dn =>
        cases dn
        exact ⟨_, _, rfl, q _ Z' H' ((r'.store i d1).store j d2) s'.z⟩
/-- xs.append(e) -/
def sApp (j : Nat) (f : DEnv → Option (PyData × DEnv)) (env : DEnv) : Option DFlow :=
  (rdO j env).bind fun _ => (f env).bind fun x => (rdO j x.2).bind fun es => if es.length < lim then some (.nx (wrO j (es ++ [x.1]) x.2)) else none
theorem ds_append (j : Nat) (ha : PD X F e f) (hN : X.N[j]? = some y := by rfl) (hv : Vis X.env.scope y := by first | exact Or.inl rfl | exact Or.inr (Or.inl rfl) | exact Or.inr (Or.inr rfl)) (hd : (y == ("__debug__" : Str)) = false := by decide)
    (hcd : (y == ("__classdict__" : Str)) = false := by decide) {cpos : Pos}
    (hfew : ((backTo cpos (starEach [e] X.env)).all (fun x => !x.1) && (backToKw cpos (keywordEach [] X.env)).all (fun x => x.1.isSome)
      && decide ([e].length + ([] : List Keyword).length + (if ([] : List Keyword).isEmpty then 0 else 1) < 30)) = true := by rfl)
    (hline : (p.endLine == cpos.line) = true := by rfl) (hs : starEach [e] X.env = (false, eval e X.env) :: starEach [] X.env := by rfl) (hplain : (backTo cpos (starEach [] X.env)).any (·.1) = false := by rfl)
    (hsw : swapsWith (.Call (.Attribute (.Name y pn) "append" p) [e] [] cpos) none pos.line X.env = pure false := by rfl) :
    PDS X F (.Expr (.Call (.Attribute (.Name y pn) "append" p) [e] [] cpos) pos) (sApp j f) :=
  ps_imp (ps_expr (pe_bm PySem.F.plainAttrs_list PySem.F.slot_list_append PySem.F.type_list_append mt_append (pe_var hN hv hd hcd) (pa_cons ha pa_nil hs) rfl hfew hline hs hplain) hsw) fun D σ H h => by
  obtain ⟨Z, env, fl, r, e, q⟩ := h
  obtain ⟨z0, h0, e⟩ := bnd e
  obtain ⟨⟨d, e1⟩, h1, h⟩ := bnd e
  obtain ⟨zs, h2, h⟩ := bnd h
  dsimp only at h
  split at h
  case isFalse => cases h
  rename_i hz
  cases h
  obtain ⟨p, xs, sj, _, hp0, _, _⟩ := r.poke h0
  refine ⟨.ref p, sj, own_ty hp0, Z, env, d, e1, r, h1, fun v Z1 H1 r1 s1 d1 => ?_⟩
  obtain ⟨p', xs', sj', zp, hp, dp, fin⟩ := r1.poke h2
  rw [sj] at sj'
  cases sj'
  refine ⟨p, xs', v, rfl, rfl, hp, by rw [dds_len dp]; exact Nat.lt_of_lt_of_le hz lim_le, ?_⟩
  obtain ⟨b1, b2⟩ := fin Z1 (upd H1 p (.lst (xs' ++ [v]))) _ (zs ++ [d]) (pok_upd r1.zh zp hp _) upd_same (dds_app dp (.cons d1 .nil))
  exact q σ Z1 _ b1 (s1.trans b2).z

/-! ### targets -/
def tDG (K : PySem.W.Frag) (F : Fm) (g : PyData → DEnv → Option DEnv) : TG := fun v σ H Q => ∃ Z env d env', Rel K F Z H σ env ∧ DD K Z v d ∧ g d env = some env' ∧ ∀ σ' Z' H', Rel K F Z' H' σ' env' → Same Z Z' → Q σ' H'
def tDGs (K : PySem.W.Frag) (F : Fm) (g : List PyData → DEnv → Option DEnv) : TGs := fun vs σ H Q => ∃ Z env ds env', Rel K F Z H σ env ∧ DDs K Z vs ds ∧ g ds env = some env' ∧ ∀ σ' Z' H', Rel K F Z' H' σ' env' → Same Z Z' → Q σ' H'
def PDG (X : Cx) (F : Fm) (e : Expr) (g : PyData → DEnv → Option DEnv) : Prop := PG X e (tDG X.K F g)
def PDGs (X : Cx) (F : Fm) (es : List Expr) (g : List PyData → DEnv → Option DEnv) : Prop := PGs X es (tDGs X.K F g)
theorem pg_imp {X : Cx} {e : Expr} {t t' : TG} (h : PG X e t) (w : ∀ v σ H Q, t' v σ H Q → t v σ H Q) : PG X e t' := ⟨fun pins s σ H v u Q I r q => h.run pins s σ H v u Q I r (w v σ H Q q)⟩
theorem pgs_imp {X : Cx} {e : List Expr} {t t' : TGs} (h : PGs X e t) (w : ∀ v σ H Q, t' v σ H Q → t v σ H Q) : PGs X e t' := ⟨fun pins s σ H v u Q I r q => h.run pins s σ H v u Q I r (w v σ H Q q)⟩
def gSet (i : Nat) (d : PyData) (env : DEnv) : Option DEnv := some (env.set i (some (.fr d)))
theorem dg_name (i : Nat) (hN : X.N.Nodup) (hi : X.N[i]? = some x := by rfl) (hx : Loc X.env.scope x := by first | exact Or.inl rfl | exact Or.inr rfl) (hf : X.fn x = true ∨ X.env.scope.names.lookup x = some .local := by first | exact .inl rfl | exact .inr rfl | assumption) : PDG X F (.Name x pos) (gSet i) :=
  pg_imp (pg_name hN hi hx hf) fun v σ H Q h => by
    obtain ⟨Z, env, d, env', r, hd, e, q⟩ := h
    cases e
    exact q _ Z H (r.store i hd) (Same.refl Z)
def gSubD (j : Nat) (f : DEnv → Option (PyData × DEnv)) (d : PyData) (env : DEnv) : Option DEnv :=
  (rdO j env).bind fun _ => (f env).bind fun x => (rdO j x.2).bind fun es => match x.1 with
    | .int i => (ixN es.length i).map fun k => wrO j (es.set k d) x.2
    | _ => none
theorem dg_sub (j : Nat) {i : Expr} (ha : PD X F i f) (hN : X.N[j]? = some y := by rfl) (hv : Vis X.env.scope y := by first | exact Or.inl rfl | exact Or.inr (Or.inl rfl) | exact Or.inr (Or.inr rfl)) (hd : (y == ("__debug__" : Str)) = false := by decide)
    (hcd : (y == ("__classdict__" : Str)) = false := by decide)
    (hsub : ∀ v, assign (.Subscript (.Name y pn) i pos) X.env v = (do
      let ov ← holding [v] (eval (.Name y pn) X.env)
      let iv ← holding [v, ov] (eval i X.env)
      standAt pos
      holding [v, ov, iv] (setItem ov iv v)
      release [v, ov, iv] []) := by intro _; rfl) : PDG X F (.Subscript (.Name y pn) i pos) (gSubD j f) :=
  pg_imp (pg_sub (pe_var hN hv hd hcd) ha set_list hsub) fun v σ H Q h => by
    obtain ⟨Z, env, d, env', r, hd, e, q⟩ := h
    obtain ⟨z0, h0, e⟩ := bnd e
    obtain ⟨⟨u, e1⟩, h1, h⟩ := bnd e
    obtain ⟨zs, h2, h⟩ := bnd h
    cases u with
    | int i =>
      obtain ⟨k, h3, h⟩ := mpd h
      subst h
      obtain ⟨p, xs, sj, _, hp0, _, _⟩ := r.poke h0
      refine ⟨.ref p, sj, Z, env, .int i, e1, r, h1, fun w Z1 H1 r1 s1 d1 => ?_⟩
      obtain ⟨p', xs', sj', zp, hp, dp, fin⟩ := r1.poke h2
      rw [sj] at sj'
      cases sj'
      cases d1.int_inv
      refine ⟨p, xs', i, k, rfl, rfl, hp, by rw [dds_len dp]; exact h3, ?_⟩
      obtain ⟨b1, b2⟩ := fin Z1 (upd H1 p (.lst (xs'.set k v))) _ (zs.set k d) (pok_upd r1.zh zp hp _) upd_same (dds_set (DDm hd s1.z) k dp)
      exact q σ Z1 _ b1 (s1.trans b2).z
    | _ => cases h
def gsNil (ds : List PyData) (env : DEnv) : Option DEnv := if ds.isEmpty then some env else none
def gsCons (g : PyData → DEnv → Option DEnv) (gs : List PyData → DEnv → Option DEnv) (ds : List PyData) (env : DEnv) : Option DEnv := match ds with
  | d :: r => (g d env).bind fun e => gs r e
  | _ => none
theorem dgs_nil : PDGs X F [] gsNil := pgs_imp pgs_nil fun v σ H Q h => by
  obtain ⟨Z, env, d, env', r, hd, e, q⟩ := h
  cases hd with
  | nil => cases e; exact ⟨rfl, q σ Z H r (Same.refl Z)⟩
  | cons _ _ => cases e
theorem dgs_cons {g : PyData → DEnv → Option DEnv} {gs : List PyData → DEnv → Option DEnv} (ha : PDG X F e g) (hb : PDGs X F es gs) (hs : (assignEach (e :: es) X.env).map (·.2) = assign e X.env :: (assignEach es X.env).map (·.2) := by rfl) : PDGs X F (e :: es) (gsCons g gs) :=
  pgs_imp (pgs_cons ha hb hs) fun v σ H Q h => by
    obtain ⟨Z, env, d, env', r, hd, e, q⟩ := h
    cases hd with
    | nil => cases e
    | cons d1 dr =>
      obtain ⟨e1, h1, h⟩ := bnd e
      exact ⟨_, _, rfl, Z, env, _, e1, r, d1, h1, fun σ' Z' H' r' s' => ⟨Z', e1, _, env', r', DDsm dr s', h, fun σ2 Z2 H2 r2 s2 => q σ2 Z2 H2 r2 (s'.trans s2)⟩⟩
def gTupD (n : Nat) (gs : List PyData → DEnv → Option DEnv) (d : PyData) (env : DEnv) : Option DEnv := match d with
  | .tuple ds => if ds.length = n then gs ds env else none
  | _ => none
theorem dg_tup {n kk : Nat} {gs : List PyData → DEnv → Option DEnv} (h : PDGs X F es gs) (hc : X.calm = true := by rfl) (hn : (assignEach es X.env).length = n := by rfl) (hst : (assignEach es X.env).findIdx? (·.1) = none := by rfl) : PDG X F (.Tuple es kk pos) (gTupD n gs) :=
  pg_imp (pg_tup hc h hn hst) fun v σ H Q h => by
    obtain ⟨Z, env, d, env', r, hd, e, q⟩ := h
    cases hd with
    | @tup a xs ds hs ha =>
      change (if ds.length = n then gs ds env else none) = some env' at e
      by_cases hl : ds.length = n
      · rw [if_pos hl] at e
        exact ⟨a, xs, rfl, same_sqT r.zh hs, (dds_len ha).trans hl, Z, env, ds, env', r, ha, e, q⟩
      · rw [if_neg hl] at e; cases e
    | _ => cases e
def sAsg (f : DEnv → Option (PyData × DEnv)) (g : PyData → DEnv → Option DEnv) (env : DEnv) : Option DFlow := (f env).bind fun x => (g x.1 x.2).map .nx
theorem ds_asg {g : PyData → DEnv → Option DEnv} (ha : PD X F e f) (hg : PDG X F tg g) (hs : swapsWithSole [tg] e pos.line X.env = pure false := by rfl) (hw : swappedStores [tg] e X.env = pure none := by rfl)
    (h1 : (assignEach [tg] X.env).map (·.2) = [assign tg X.env] := by rfl) : PDS X F (.Assign [tg] e pos) (sAsg f g) := ps_imp (ps_asg ha hg hs hw h1) fun D σ H h => by
  obtain ⟨Z, env, fl, r, e, q⟩ := h
  obtain ⟨⟨d, e1⟩, h1, h⟩ := bnd e
  obtain ⟨e2, h2, h⟩ := mpd h
  subst h
  exact ⟨Z, env, d, e1, r, h1, fun v Z1 H1 r1 s1 d1 => ⟨Z1, e1, d, e2, r1, d1, h2, fun σ' Z' H' r' s' => q σ' Z' H' r' (s1.z.trans s')⟩⟩
end
end DL
end L2


set_option Elab.async false
set_option maxRecDepth 100000
set_option maxHeartbeats 4000000
set_option autoImplicit false
namespace L2
namespace DL
open PySem PySem.Spec PyProof.Rows
variable [Lab]
/-! ### what is walked, as data -/
def WalkD (K : PySem.W.Frag) (J : It) (Z : Hp) (ds : List PyData) : Prop := ∃ (G : Hp → Prop) (Y : Nat → Hp → V → Hp → Prop), Walk J ds.length G Y ∧ (∀ H, Same Z H → G H) ∧
  ∀ (i : Nat) (H : Hp) (x : V) (H' Zc : Hp), i < ds.length → Y i H x H' → Same Z Zc → Same Zc H → ∃ Zn d, Grow Zc H Zn H' ∧ ds[i]? = some d ∧ DD K Zn x d
theorem WalkD.mono {K : PySem.W.Frag} {J : It} {Z Z' : Hp} {ds : List PyData} (w : WalkD K J Z ds) (s : Same Z Z') : WalkD K J Z' ds := by
  obtain ⟨G, Y, a, b, c⟩ := w
  exact ⟨G, Y, a, fun H h => b H (s.trans h), fun i H x H' Zc hi y s1 s2 => c i H x H' Zc hi y (s.trans s1) s2⟩
theorem wd_list {K : PySem.W.Frag} {Z : Hp} {a : Addr} {xs : List V} {ds : List PyData} (h : LsR K Z a xs) (hd : DDs K Z xs ds) : WalkD K (Itl K a) Z ds := by
  refine ⟨_, _, (dds_len hd) ▸ walk_list (K := K) (a := a) (xs := xs), fun H s => (same_ls s h).sq, fun i H x H' Zc hi y s1 s2 => ?_⟩
  obtain ⟨rfl, y⟩ := y
  obtain ⟨d, e1, e2⟩ := dds_get' hd y
  exact ⟨Zc, d, Grow.refl s2, e1, DDm e2 s1⟩
theorem wd_tup {K : PySem.W.Frag} {Z : Hp} {a : Addr} {xs : List V} {ds : List PyData} (h : SqT K Z a xs) (hd : DDs K Z xs ds) : WalkD K (Itt K a) Z ds := by
  refine ⟨_, _, (dds_len hd) ▸ walk_tup (K := K) (a := a) (xs := xs), fun H s => same_sqT s h, fun i H x H' Zc hi y s1 s2 => ?_⟩
  obtain ⟨rfl, y⟩ := y
  obtain ⟨d, e1, e2⟩ := dds_get' hd y
  exact ⟨Zc, d, Grow.refl s2, e1, DDm e2 s1⟩
def rangeD (lo : Int) (n : Nat) : List PyData := (List.range n).map fun i => .int (lo + (i : Nat))
theorem rangeD_len (lo : Int) (n : Nat) : (rangeD lo n).length = n := by unfold rangeD; rw [List.length_map, List.length_range]
theorem rangeD_get (lo : Int) {n i : Nat} (h : i < n) : (rangeD lo n)[i]? = some (.int (lo + (i : Nat))) := by
  unfold rangeD
  rw [List.getElem?_map, List.getElem?_range h]
  rfl
theorem wd_range {K : PySem.W.Frag} {Z : Hp} (lo : Int) (n : Nat) : WalkD K (Itr lo n) Z (rangeD lo n) := by
  refine ⟨fun _ => True, YFn fun i => .int (lo + (i : Nat)), by rw [rangeD_len]; exact walk_range, fun _ _ => trivial, fun i H x H' Zc hi y s1 s2 => ?_⟩
  rw [rangeD_len] at hi
  obtain ⟨rfl, rfl⟩ := y
  exact ⟨Zc, _, Grow.refl s2, rangeD_get lo hi, .int _⟩
def enumD (ds : List PyData) : List PyData := (rangeD 0 ds.length).zipWith (fun a b => .tuple [a, b]) ds
theorem enumD_len (ds : List PyData) : (enumD ds).length = ds.length := by unfold enumD; rw [List.length_zipWith, rangeD_len]; omega
theorem enumD_get {ds : List PyData} {i : Nat} {d : PyData} (h : ds[i]? = some d) : (enumD ds)[i]? = some (.tuple [.int (i : Nat), d]) := by
  obtain ⟨hl, _⟩ := List.getElem?_eq_some_iff.mp h
  unfold enumD
  rw [List.getElem?_zipWith, rangeD_get 0 hl, h]
  simp
theorem wd_enum {K : PySem.W.Frag} {Z : Hp} {a : Addr} {xs : List V} {ds : List PyData} (h : LsR K Z a xs) (hd : DDs K Z xs ds) : WalkD K (Ite K a) Z (enumD ds) := by
  refine ⟨_, _, ((enumD_len ds).trans (dds_len hd).symm) ▸ walk_enum (K := K) (a := a) (xs := xs), fun H s => (same_ls s h).sq, fun i H x H' Zc hi y s1 s2 => ?_⟩
  obtain ⟨T, u, v, rfl, nT, rfl, e1, e2⟩ := y
  cases e1
  obtain ⟨d, e3, e4⟩ := dds_get' hd e2
  exact ⟨_, _, grow_new s2 nT _, enumD_get e3, new_tup s2 nT (.cons (.int _) (.cons (DDm e4 s1) .nil))⟩
def tDI (K : PySem.W.Frag) (F : Fm) (f : DEnv → Option (List PyData × DEnv)) : TI := fun σ H R => ∃ Z env ds env', Rel K F Z H σ env ∧ f env = some (ds, env') ∧ ∀ J Z' H', Rel K F Z' H' σ env' → Stp σ env Z H env' Z' H' → WalkD K J Z' ds → R J H'
def PDI (X : Cx) (F : Fm) (tg iter : Expr) (f : DEnv → Option (List PyData × DEnv)) : Prop := PI X tg iter (tDI X.K F f)
theorem pi_imp {X : Cx} {tg iter : Expr} {t t' : TI} (h : PI X tg iter t) (w : ∀ σ H Q, t' σ H Q → t σ H Q) : PI X tg iter t' := ⟨fun pins s σ H R I q => h.run pins s σ H R I (w σ H R q)⟩
theorem pi_orr {X : Cx} {tg iter : Expr} {t t' : TI} (h : PI X tg iter t) (h' : PI X tg iter t') : PI X tg iter (fun σ H R => t σ H R ∨ t' σ H R) := ⟨fun pins s σ H R I q => q.elim (h.run pins s σ H R I) (h'.run pins s σ H R I)⟩
section
variable {X : Cx} {F : Fm} {a b c e tg iter : Expr} {es : List Expr} {ss : List Stmt} {pos p pn : Pos} {x y : Str} {f : DEnv → Option (PyData × DEnv)} {fa fi : DEnv → Option (List PyData × DEnv)} {ft : DEnv → Option (Bool × DEnv)}
def seqD : PyData → Option (List PyData)
  | .list ds => some ds
  | .tuple ds => some ds
  | _ => none
def iSeq (f : DEnv → Option (PyData × DEnv)) (env : DEnv) : Option (List PyData × DEnv) := (f env).bind fun x => (seqD x.1).map fun ds => (ds, x.2)
theorem tD_choose {K : PySem.W.Frag} {σ : St} {H : Hp} {Z : Hp} {env : DEnv} {d : PyData} {env' : DEnv} {R : V → Hp → Prop} (r : Rel K F Z H σ env) (h : f env = some (d, env')) (q : ∀ v Z' H', Rel K F Z' H' σ env' → Stp σ env Z H env' Z' H' → DD K Z' v d → R v H') : tD K F f σ H R := ⟨Z, env, d, env', r, h, q⟩
theorem di_seq (ha : PD X F e f) : PDI X F tg e (iSeq f) := pi_imp (pi_orr (pi_list ha) (pi_tup ha)) fun σ H Q h => by
  obtain ⟨Z, env, ds, env', r, e, q⟩ := h
  obtain ⟨⟨d, e1⟩, h1, h⟩ := bnd e
  obtain ⟨ds', h2, h⟩ := mpd h
  cases h
  cases d with
  | list ds =>
    cases h2
    refine .inl (tD_choose r h1 fun v Z1 H1 r1 s1 d1 => ?_)
    cases d1 with
    | @lst a xs _ hr hd => exact ⟨a, rfl, ⟨xs, (same_ls r1.zh hr).sq⟩, q _ Z1 H1 r1 s1 (wd_list hr hd)⟩
  | tuple ds =>
    cases h2
    refine .inr (tD_choose r h1 fun v Z1 H1 r1 s1 d1 => ?_)
    cases d1 with
    | @tup a xs _ hr hd => exact ⟨a, rfl, ⟨xs, same_sqT r1.zh hr⟩, q _ Z1 H1 r1 s1 (wd_tup hr hd)⟩
  | _ => cases h2
def rng1 : List PyData → Option (List PyData)
  | [.int j] => if j ≤ 1000000 ∧ -1000000 ≤ j then some (rangeD 0 j.toNat) else none
  | _ => none
def iArg (o : List PyData → Option (List PyData)) (fa : DEnv → Option (List PyData × DEnv)) (env : DEnv) : Option (List PyData × DEnv) := (fa env).bind fun x => (o x.1).map fun ds => (ds, x.2)
theorem di_range1 (hm : X.mg "range" = none) (ha : PDA X F [a] fa) (hg : Gl X "range" := by rfl) (hs : starEach [a] X.env = [(false, eval a X.env)] := by rfl) : PDI X F tg (.Call (.Name "range" p) [a] [] pos) (iArg rng1 fa) := pi_imp (pi_range1 hg hm ha hs) fun σ H Q h => by
  obtain ⟨Z, env, ds, env', r, e, q⟩ := h
  obtain ⟨⟨d, e1⟩, h1, h⟩ := bnd e
  obtain ⟨ds', h2, h⟩ := mpd h
  cases h
  match d, h1, h2 with
  | [.int j], h1, h2 =>
    change (if j ≤ 1000000 ∧ -1000000 ≤ j then some (rangeD 0 j.toNat) else none) = some ds at h2
    split at h2
    case isFalse => cases h2
    rename_i hj
    cases h2
    refine ⟨Z, env, _, e1, r, h1, fun vs Z1 H1 r1 s1 d1 => ?_⟩
    cases d1 with
    | cons d1 dn =>
      cases dn
      cases d1.int_inv
      exact ⟨j, rfl, by omega, by omega, q _ Z1 H1 r1 s1 (wd_range 0 _)⟩
/-! ### for -/
def forD (g : PyData → DEnv → Option DEnv) (b : DEnv → Option DFlow) : List PyData → DEnv → Option DFlow
  | [], env => some (.nx env)
  | d :: ds, env => (g d env).bind fun e1 => (b e1).bind fun fl => match fl with
    | .nx e2 => forD g b ds e2
    | .ct e2 => forD g b ds e2
    | .bk e2 => some (.nx e2)
    | fl => some fl
def sFor (fi : DEnv → Option (List PyData × DEnv)) (g : PyData → DEnv → Option DEnv) (b : DEnv → Option DFlow) (env : DEnv) : Option DFlow := (fi env).bind fun x => forD g b x.1 x.2
theorem ds_for {g : PyData → DEnv → Option DEnv} {h1 : DEnv → Option DFlow} (hi : PDI X F tg iter fi) (hg : PDG X F tg g) (hb : PDSs X F ss h1) (hp : PassesOwn (model X.prog X.w) X.A X.env X.xe := by exact PassesOwn.never) (hc : X.calm = true := by rfl) (hs : ∀ x, foldedSetIterable iter X.env x = pure x := by intro _; rfl) :
    PDS X F (.For tg iter ss [] pos) (sFor fi g h1) := ps_imp (ps_for hp hc hi hg hb hs) fun D σ H h => by
  obtain ⟨Z, env, fl, r, e, q⟩ := h
  obtain ⟨⟨ds, e1⟩, e0, e⟩ := bnd e
  refine ⟨Z, env, ds, e1, r, e0, fun J Z1 H1 r1 s1 w => ?_⟩
  obtain ⟨G, Y, wk, hG, hY⟩ := w
  refine for_it wk (fun i σ' H' => ∃ Z' env', Same Z1 Z' ∧ Rel X.K F Z' H' σ' env' ∧ forD g h1 (ds.drop i) env' = some fl) ⟨Z1, e1, Same.refl _, r1, e⟩ ?_ ?_ ?_
  · rintro i σ' H' hi ⟨Z', env', s', r', _⟩
    exact hG H' (s'.trans r'.zh)
  · rintro i x σ' H' H2 hi ⟨Z', env', s', r', e'⟩ y
    obtain ⟨Zn, d, gr, hd, dd⟩ := hY i H' x H2 Z' hi y s' r'.zh
    have ed : ds.drop i = d :: ds.drop (i + 1) := by
      obtain ⟨hl, hx⟩ := List.getElem?_eq_some_iff.mp hd
      rw [← hx]
      exact List.drop_eq_getElem_cons hl
    rw [ed] at e'
    obtain ⟨e2, g2, e'⟩ := bnd e'
    obtain ⟨f2, b2, e'⟩ := bnd e'
    refine ⟨Zn, env', d, e2, r'.grow gr, dd, g2, fun σ2 Z2 H2 r2 s2 => ⟨Z2, e2, f2, r2, b2, ?_⟩⟩
    have sa : Same Z1 Z2 := (s'.trans gr.z).trans s2
    cases f2 with
    | nx e3 => exact fun σ3 Z3 H3 r3 s3 => ⟨Z3, e3, sa.trans s3, r3, e'⟩
    | ct e3 => exact fun σ3 Z3 H3 r3 s3 => ⟨Z3, e3, sa.trans s3, r3, e'⟩
    | bk e3 =>
      cases e'
      exact fun σ3 Z3 H3 r3 s3 => q σ3 Z3 H3 r3 ((s1.z.trans sa).trans s3)
    | rt d3 e3 =>
      cases e'
      exact fun v σ3 Z3 H3 r3 s3 => q v σ3 Z3 H3 r3 ((s1.z.trans sa).trans s3)
    | rn d3 e3 =>
      cases e'
      exact fun p xs σ3 Z3 H3 r3 s3 => q p xs σ3 Z3 H3 r3 ((s1.z.trans sa).trans s3)
    | ex c3 a3 d3 e3 =>
      cases e'
      exact fun v p σ3 Z3 H3 r3 s3 => q v p σ3 Z3 H3 r3 ((s1.z.trans sa).trans s3)
  · rintro σ' H' ⟨Z', env', s', r', e'⟩
    rw [List.drop_length] at e'
    cases e'
    exact q σ' Z' H' r' (s1.z.trans s')

/-! ### list comprehensions -/
def wipeE (env : DEnv) : List Nat → DEnv
  | [] => env
  | v :: vs => (wipeE env vs).set v none
theorem Rel.wipe {K : PySem.W.Frag} {Z H : Hp} {σ : St} {env : DEnv} (r : Rel K F Z H σ env) : ∀ vs : List Nat, Rel K F Z H (wipe σ vs) (wipeE env vs)
  | [] => r
  | v :: vs => (Rel.wipe r vs).drop v
theorem wipe_get (σ : St) : ∀ (vs : List Nat) (i : Nat), i ∉ vs → (wipe σ vs)[i]? = σ[i]?
  | [], _, _ => rfl
  | v :: vs, i, h => by
    rw [List.mem_cons, not_or] at h
    show ((L2.wipe σ vs).set v none)[i]? = σ[i]?
    rw [List.getElem?_set_ne (fun z => h.1 z.symm), wipe_get σ vs i h.2]
theorem wipe_in (σ : St) : ∀ (vs : List Nat) (i : Nat), i ∈ vs → i < σ.length → (wipe σ vs)[i]? = some none
  | v :: vs, i, h, hl => by
    show ((L2.wipe σ vs).set v none)[i]? = some none
    by_cases e : v = i
    · subst e
      exact List.getElem?_set_self (by rw [wipe_length]; exact hl)
    · rw [List.getElem?_set_ne e]
      rcases List.mem_cons.mp h with z | z
      · exact absurd z.symm e
      · exact wipe_in σ vs i z hl
theorem wipeE_in (env : DEnv) : ∀ (vs : List Nat) (i : Nat) (dv : DV), (wipeE env vs)[i]? = some (some dv) → i ∉ vs ∧ env[i]? = some (some dv)
  | [], i, dv, h => ⟨by simp, h⟩
  | v :: vs, i, dv, h => by
    rcases get_set_some h with ⟨_, z⟩ | ⟨hne, z⟩
    · cases z
    · obtain ⟨a, b⟩ := wipeE_in env vs i dv z
      exact ⟨by rw [List.mem_cons, not_or]; exact ⟨hne, a⟩, b⟩
theorem wipe_eq {σ τ : St} {vs : List Nat} (hl : τ.length = σ.length) (h : ∀ i, i ∉ vs → τ[i]? = σ[i]?) : wipe τ vs = wipe σ vs := by
  refine List.ext_getElem? fun i => ?_
  by_cases hi : i ∈ vs
  · by_cases hlt : i < σ.length
    · rw [wipe_in _ _ _ hi hlt, wipe_in _ _ _ hi (by omega)]
    · rw [List.getElem?_eq_none (by rw [wipe_length]; omega), List.getElem?_eq_none (by rw [wipe_length]; omega)]
  · rw [wipe_get _ _ _ hi, wipe_get _ _ _ hi, h i hi]
/-- back to the slots ahead of the wipe -/
theorem Rel.unwipe {K : PySem.W.Frag} {Z H : Hp} {σ : St} {env : DEnv} {vs : List Nat} (r : Rel K F Z H (L2.wipe σ vs) env) (h : ∀ (i : Nat) (dv : DV), env[i]? = some (some dv) → i ∉ vs) : Rel K F Z H σ env := by
  have eq : ∀ (i : Nat) (dv : DV), env[i]? = some (some dv) → (L2.wipe σ vs)[i]? = σ[i]? := fun i dv e => wipe_get σ vs i (h i dv e)
  refine ⟨r.z0, r.zh, r.gh, r.nw, r.pp, by rw [r.len, wipe_length], fun i dv e => ?_, fun i j di dj p ei ej oi oj si sj => r.inj i j di dj p ei ej oi oj ((eq i di ei).trans si) ((eq j dj ej).trans sj), r.tb⟩
  have s := r.sl i dv e
  have q := eq i dv e
  cases dv with
  | fr d => obtain ⟨v, a, b⟩ := s; exact ⟨v, q.symm.trans a, b⟩
  | ow ds => obtain ⟨p, xs, a, b⟩ := s; exact ⟨p, xs, q.symm.trans a, b⟩
  | rf ds => obtain ⟨p, xs, a, b⟩ := s; exact ⟨p, xs, q.symm.trans a, b⟩
  | fn n => exact q.symm.trans s
  | dk ds => obtain ⟨p, o, xs, a, b⟩ := s; exact ⟨p, o, xs, q.symm.trans a, b⟩
/-- targets that are names: the slots ts alone change -/
structure TgOk (ts : List Nat) (σ : St) (env : DEnv) (σ' : St) (env' : DEnv) : Prop where
  s : ∀ i : Nat, i ∉ ts → σ'[i]? = σ[i]?
  l : σ'.length = σ.length
  o : ∀ (i : Nat) (dv : DV), env'[i]? = some (some dv) → ownish dv = true → i ∉ ts ∧ env[i]? = some (some dv)
def tGN (K : PySem.W.Frag) (F : Fm) (ts : List Nat) (g : PyData → DEnv → Option DEnv) : TG := fun v σ H Q => ∃ Z env d env', Rel K F Z H σ env ∧ DD K Z v d ∧ g d env = some env' ∧ ∀ σ', Rel K F Z H σ' env' → TgOk ts σ env σ' env' → Q σ' H
def tGNs (K : PySem.W.Frag) (F : Fm) (ts : List Nat) (g : List PyData → DEnv → Option DEnv) : TGs := fun vs σ H Q => ∃ Z env ds env', Rel K F Z H σ env ∧ DDs K Z vs ds ∧ g ds env = some env' ∧ ∀ σ', Rel K F Z H σ' env' → TgOk ts σ env σ' env' → Q σ' H
def PGN (X : Cx) (F : Fm) (e : Expr) (ts : List Nat) (g : PyData → DEnv → Option DEnv) : Prop := PG X e (tGN X.K F ts g)
def PGNs (X : Cx) (F : Fm) (e : List Expr) (ts : List Nat) (g : List PyData → DEnv → Option DEnv) : Prop := PGs X e (tGNs X.K F ts g)
theorem gn_name (i : Nat) (hN : X.N.Nodup) (hi : X.N[i]? = some x := by rfl) (hx : Loc X.env.scope x := by first | exact Or.inl rfl | exact Or.inr rfl) (hf : X.fn x = true ∨ X.env.scope.names.lookup x = some .local := by first | exact .inl rfl | exact .inr rfl | assumption) : PGN X F (.Name x pos) [i] (gSet i) :=
  pg_imp (pg_name hN hi hx hf) fun v σ H Q h => by
    obtain ⟨Z, env, d, env', r, hd, e, q⟩ := h
    cases e
    refine q _ (r.store i hd) ⟨fun j hj => List.getElem?_set_ne (fun z => hj (by rw [z]; simp)), List.length_set .., fun j dv e o => ?_⟩
    rcases get_set_some e with ⟨_, z⟩ | ⟨hne, z⟩
    · cases z; cases o
    · exact ⟨by simpa using hne, z⟩
theorem gns_nil : PGNs X F [] [] gsNil := pgs_imp pgs_nil fun v σ H Q h => by
  obtain ⟨Z, env, d, env', r, hd, e, q⟩ := h
  cases hd with
  | nil => cases e; exact ⟨rfl, q σ r ⟨fun _ _ => rfl, rfl, fun i dv e _ => ⟨by simp, e⟩⟩⟩
  | cons _ _ => cases e
theorem gns_cons {t1 t2 : List Nat} {g : PyData → DEnv → Option DEnv} {gs : List PyData → DEnv → Option DEnv} (ha : PGN X F e t1 g) (hb : PGNs X F es t2 gs) (hs : (assignEach (e :: es) X.env).map (·.2) = assign e X.env :: (assignEach es X.env).map (·.2) := by rfl) : PGNs X F (e :: es) (t1 ++ t2) (gsCons g gs) :=
  pgs_imp (pgs_cons ha hb hs) fun v σ H Q h => by
    obtain ⟨Z, env, d, env', r, hd, e, q⟩ := h
    cases hd with
    | nil => cases e
    | cons d1 dr =>
      obtain ⟨e1, h1, h⟩ := bnd e
      refine ⟨_, _, rfl, Z, env, _, e1, r, d1, h1, fun σ' r' k1 => ⟨Z, e1, _, env', r', dr, h, fun σ2 r2 k2 => q σ2 r2 ⟨fun i hi => ?_, k2.l.trans k1.l, fun i dv e o => ?_⟩⟩⟩
      · rw [List.mem_append, not_or] at hi
        rw [k2.s i hi.2, k1.s i hi.1]
      · obtain ⟨a1, b1⟩ := k2.o i dv e o
        obtain ⟨a2, b2⟩ := k1.o i dv b1 o
        exact ⟨by rw [List.mem_append, not_or]; exact ⟨a2, a1⟩, b2⟩
theorem gn_tup {n kk : Nat} {ts : List Nat} {gs : List PyData → DEnv → Option DEnv} (h : PGNs X F es ts gs) (hc : X.calm = true := by rfl) (hn : (assignEach es X.env).length = n := by rfl) (hst : (assignEach es X.env).findIdx? (·.1) = none := by rfl) : PGN X F (.Tuple es kk pos) ts (gTupD n gs) :=
  pg_imp (pg_tup hc h hn hst) fun v σ H Q h => by
    obtain ⟨Z, env, d, env', r, hd, e, q⟩ := h
    cases hd with
    | @tup a xs ds hs ha =>
      change (if ds.length = n then gs ds env else none) = some env' at e
      by_cases hl : ds.length = n
      · rw [if_pos hl] at e
        exact ⟨a, xs, rfl, same_sqT r.zh hs, (dds_len ha).trans hl, Z, env, ds, env', r, ha, e, q⟩
      · rw [if_neg hl] at e; cases e
    | _ => cases e
def lcD (g : PyData → DEnv → Option DEnv) (ft : DEnv → Option (Bool × DEnv)) (fe : DEnv → Option (PyData × DEnv)) (vs : List Nat) : List PyData → DEnv → Option (List PyData × DEnv)
  | [], env => some ([], env)
  | d :: ds, env => (g d env).bind fun e1 => (ft e1).bind fun t => if t.1 then (fe t.2).bind fun y => (lcD g ft fe vs ds (wipeE y.2 vs)).map fun r => (y.1 :: r.1, r.2) else lcD g ft fe vs ds (wipeE t.2 vs)
def nLc (fi : DEnv → Option (List PyData × DEnv)) (g : PyData → DEnv → Option DEnv) (ft : DEnv → Option (Bool × DEnv)) (fe : DEnv → Option (PyData × DEnv)) (vs : List Nat) (env : DEnv) : Option (List PyData × DEnv) :=
  (fi env).bind fun x => if x.1.length ≤ lim then lcD g ft fe vs x.1 (wipeE x.2 vs) else none
def fYes (env : DEnv) : Option (Bool × DEnv) := some (true, env)
def PDTs (X : Cx) (F : Fm) (ifs : List Expr) (ft : DEnv → Option (Bool × DEnv)) : Prop := PTs X ifs (tDT X.K F ft)
theorem dts_nil : PDTs X F [] fYes := ⟨fun pins s σ H Q I h => pts_nil.run pins s σ H Q I (by
  obtain ⟨Z, env, d, env', r, e, q⟩ := h
  cases e
  exact q Z H r Stp.refl)⟩
theorem dts_one (h : PDT X F c ft) : PDTs X F [c] ft := pts_one h
theorem lc_read {K : PySem.W.Frag} {ts vs : List Nat} {g : PyData → DEnv → Option DEnv} {fe : DEnv → Option (PyData × DEnv)} (hts : ∀ i ∈ ts, i ∈ vs) {σ : St} {H : Hp} {Q : VK} (h : tDN K F (nLc fi g ft fe vs) σ H Q) :
    tLc (tDI K F fi) (tGN K F ts g) (tDT K F ft) (tD K F fe) vs σ H Q := by
  obtain ⟨Z, env, rs, env', r, e, q⟩ := h
  obtain ⟨⟨ds, e1⟩, e0, e⟩ := bnd e
  dsimp only at e
  split at e
  case isFalse => cases e
  rename_i hlim
  refine ⟨Z, env, ds, e1, r, e0, fun J Z1 H1 r1 s1 w D hD => ?_⟩
  obtain ⟨G, Y, wk, hG, hY⟩ := w
  have hD0 : H D = none := s1.new hD
  have zD1 : Z1 D = none := r1.zh.free hD
  have g1 : Grow Z1 H1 Z1 (upd H1 D (.lst [])) := grow_own r1.zh hD _
  have frD : Fre σ env D := fre_new r hD0
  -- the turn
  refine lc_it wk (fun i Hc => ∃ Zc ec acc ad rest, Same Z1 Zc ∧ Rel K F Zc Hc (wipe σ vs) ec ∧ (∀ (j : Nat) (dv : DV), ec[j]? = some (some dv) → j ∉ vs) ∧ Stp σ env Z H ec Zc Hc ∧ Hc D = some (.lst acc) ∧ Zc D = none ∧ acc.length ≤ i ∧ DDs K Zc acc ad ∧
      lcD g ft fe vs (ds.drop i) ec = some (rest, env') ∧ rs = ad ++ rest) ?_ ?_ ?_ ?_
  · refine ⟨Z1, wipeE e1 vs, [], [], rs, Same.refl _, (r1.grow g1).wipe vs, fun j dv e => (wipeE_in _ _ _ _ e).1, ?_, upd_same, zD1, Nat.le_refl _, .nil, e, rfl⟩
    have s2 := s1.trans g1.stp
    exact ⟨s2.z, s2.h, s2.n, fun i dv e o => s2.o i dv (wipeE_in _ _ _ _ e).2 o, s2.k⟩
  · rintro i Hc hi ⟨Zc, ec, acc, ad, rest, sz, rc, _⟩
    exact hG Hc (sz.trans rc.zh)
  · rintro i x Hc H2 hi ⟨Zc, ec, acc, ad, rest, sz, rc, nv, st, hDc, zDc, hla, dacc, el, eq⟩ y
    obtain ⟨Zn, d, gr, hd, dd⟩ := hY i Hc x H2 Zc hi y sz rc.zh
    have ed : ds.drop i = d :: ds.drop (i + 1) := by
      obtain ⟨hl, hx⟩ := List.getElem?_eq_some_iff.mp hd
      rw [← hx]
      exact List.drop_eq_getElem_cons hl
    rw [ed] at el
    obtain ⟨e2, g2, el⟩ := bnd el
    obtain ⟨⟨tb, e3⟩, t2, el⟩ := bnd el
    have stn : Stp σ env Z H ec Zn H2 := by
      have b := gr.stp (σ := σ) (env := ec)
      exact st.trans b
    have zDn : Zn D = none := by
      cases hh : Zn D with
      | none => rfl
      | some o =>
        rcases gr.n D (by rw [hh]; simp) with z | z
        · exact absurd zDc z
        · rw [hDc] at z; cases z
    have hDn : H2 D = some (.lst acc) := gr.h.h D _ hDc nt_lst
    refine ⟨Zn, ec, d, e2, rc.grow gr, dd, g2, fun σ2 r2 k2 => ⟨?_, ?_⟩⟩
    · rw [wipe_eq (σ := wipe σ vs) (τ := σ2) k2.l (fun j hj => k2.s j fun z => hj (hts j z))]
      exact wipe_eq (wipe_length σ vs) fun j hj => wipe_get σ vs j hj
    have wst : wipe σ2 vs = wipe σ vs := by
      rw [wipe_eq (σ := wipe σ vs) (τ := σ2) k2.l (fun j hj => k2.s j fun z => hj (hts j z))]
      exact wipe_eq (wipe_length σ vs) fun j hj => wipe_get σ vs j hj
    -- an address that is free of owned slots at the start is so in the turn
    have free2 : ∀ q, Fre σ env q → Fre σ2 e2 q := fun q f j dv ej oj sj => by
      obtain ⟨a1, b1⟩ := k2.o j dv ej oj
      obtain ⟨dv0, b2, o2⟩ := st.o j dv b1 oj
      refine f j dv0 b2 o2 ?_
      rw [← wipe_get σ vs j (nv j dv b1), ← k2.s j a1]
      exact sj
    have own2 : ∀ (j : Nat) (dv : DV), e2[j]? = some (some dv) → ownish dv = true → ∃ dv0, env[j]? = some (some dv0) ∧ ownish dv0 = true := fun j dv ej oj => by
      obtain ⟨a1, b1⟩ := k2.o j dv ej oj
      exact st.o j dv b1 oj
    -- a step in the turn, seen from the start
    have lift : ∀ {e4 : DEnv} {Z4 H4 : Hp}, Stp σ2 e2 Zn H2 e4 Z4 H4 → Stp σ env Z H (wipeE e4 vs) Z4 H4 := fun {e4 Z4 H4} b => by
      refine ⟨stn.z.trans b.z, fun q o hq n f => b.h q o (stn.h q o hq n f) n (free2 q f), fun q h4 h0 hh f => ?_, fun j dv ej oj => ?_, fun q hq => b.k q (stn.k q hq)⟩
      · by_cases hz : Zn q = none
        · have h1 : H2 q ≠ none := stn.k q hh
          exact b.n q h4 hz h1 (free2 q f)
        · exact stn.n q hz h0 hh f
      · obtain ⟨a1, b1⟩ := b.o j dv (wipeE_in _ _ _ _ ej).2 oj
        exact own2 j a1 b1.1 b1.2
    refine ⟨Zn, e2, tb, e3, r2, t2, fun Z3 H3 r3 s3 => ?_⟩
    have hD3 : H3 D = some (.lst acc) := s3.h D _ hDn nt_lst (free2 D frD)
    have zD3 : Z3 D = none := by
      cases hh : Z3 D with
      | none => rfl
      | some o => exact absurd (free2 D frD) (s3.n D (by rw [hh]; simp) zDn (by rw [hDn]; simp))
    cases tb with
    | false =>
      refine iteF ⟨Z3, wipeE e3 vs, acc, ad, rest, (sz.trans gr.z).trans s3.z, ?_, fun j dv e => (wipeE_in _ _ _ _ e).1, lift s3, hD3, zD3, Nat.le_succ_of_le hla, DDsm dacc (gr.z.trans s3.z), el, eq⟩
      have := r3.wipe vs
      rw [wst] at this
      exact this
    | true =>
      obtain ⟨⟨yv, e4⟩, y2, el⟩ := bnd el
      obtain ⟨⟨rr, e5⟩, l2, el⟩ := mpd el
      cases el
      refine iteT ⟨Z3, e3, yv, e4, r3, y2, fun v Z4 H4 r4 s4 d4 => ?_⟩
      have s34 := s3.trans s4
      have hD4 : H4 D = some (.lst acc) := s34.h D _ hDn nt_lst (free2 D frD)
      have zD4 : Z4 D = none := by
        cases hh : Z4 D with
        | none => rfl
        | some o => exact absurd (free2 D frD) (s34.n D (by rw [hh]; simp) zDn (by rw [hDn]; simp))
      have hlt : acc.length < sizeLine := Nat.lt_of_lt_of_le (Nat.lt_of_le_of_lt hla hi) (Nat.le_trans hlim lim_le)
      refine ⟨acc, hD4, hlt, Z4, wipeE e4 vs, acc ++ [v], ad ++ [yv], rr, (sz.trans gr.z).trans s34.z, ?_, fun j dv e => (wipeE_in _ _ _ _ e).1, ?_, upd_same, zD4, ?_, dds_app (DDsm dacc (gr.z.trans s34.z)) (.cons d4 .nil), l2, ?_⟩
      · have pk := pok_upd r4.zh zD4 hD4 (.lst (acc ++ [v]))
        have rp := r4.poke0 (s34.fre (free2 D frD)) (r.gh.free hD0) (fun z => (r.pp D z).1 hD0) pk (by rw [upd_same]; simp)
        have := rp.wipe vs
        rw [wst] at this
        exact this
      · have b := lift s34
        refine ⟨b.z, fun q o hq n f => ?_, b.n, b.o, fun q hq => ?_⟩
        · rw [upd_ne (fun z => by rw [z, hD0] at hq; cases hq)]
          exact b.h q o hq n f
        · by_cases hqD : q = D
          · subst hqD; rw [upd_same]; simp
          · rw [upd_ne hqD]; exact b.k q hq
      · rw [List.length_append]; exact Nat.succ_le_succ hla
      · rw [eq, List.append_assoc]; rfl
  · rintro Hc ⟨Zc, ec, acc, ad, rest, sz, rc, nv, st, hDc, zDc, hla, dacc, el, eq⟩
    rw [List.drop_length] at el
    cases el
    rw [List.append_nil] at eq
    subst eq
    exact q D acc Zc Hc (rc.unwipe nv) st hD0 zDc hDc dacc
end
end DL
end L2


set_option Elab.async false
set_option maxRecDepth 100000
set_option maxHeartbeats 4000000
set_option autoImplicit false
namespace L2
namespace DL
open PySem PySem.Spec PyProof.Rows
variable [Lab]
section
variable {X : Cx} {F : Fm} {a b c e tg iter elt : Expr} {es ifs : List Expr} {pos p pn : Pos} {x y : Str} {f fe : DEnv → Option (PyData × DEnv)} {fa fi : DEnv → Option (List PyData × DEnv)} {ft : DEnv → Option (Bool × DEnv)} {scope : Scope} {ts : List Nat} {g : PyData → DEnv → Option DEnv}
theorem pn_lc (own : List (Str × Nat)) (hN : X.N.Nodup) (hi : PDI X F tg iter fi) (ok : BlkOk X.N X.env.scope scope own)
    (hg : ∀ (s : Shared) (H : Hp) (C : Addr) (cl : List (Str × Addr)) (fp : List Addr), PGN (X.blk s H scope (compEnvC scope cl C X.env) fp) F tg ts g) (ht : ∀ (s : Shared) (H : Hp) (C : Addr) (cl : List (Str × Addr)) (fp : List Addr), PDTs (X.blk s H scope (compEnvC scope cl C X.env) fp) F ifs ft)
    (he : ∀ (s : Shared) (H : Hp) (C : Addr) (cl : List (Str × Addr)) (fp : List Addr), PD (X.blk s H scope (compEnvC scope cl C X.env) fp) F elt fe) (hts : ∀ i ∈ ts, i ∈ own.map (·.2) := by decide) (hc : X.calm = true := by rfl) (hs : ∀ x, foldedSetIterable iter X.env x = pure x := by intro _; rfl) :
    PN X F (.ListComp elt [⟨tg, iter, ifs, 0⟩] scope pos) (nLc fi g ft fe (own.map (·.2))) :=
  pe_imp (pe_lc (g := tGN X.K F ts g) (tt := tDT X.K F ft) (te := tD X.K F fe) hc hN hi ok hg ht he hs) fun _ _ _ h => lc_read hts h
theorem ds_setLc (i : Nat) {py spos : Pos} (own : List (Str × Nat)) (hN : X.N.Nodup) (hi : PDI X F tg iter fi) (ok : BlkOk X.N X.env.scope scope own)
    (hg : ∀ (s : Shared) (H : Hp) (C : Addr) (cl : List (Str × Addr)) (fp : List Addr), PGN (X.blk s H scope (compEnvC scope cl C X.env) fp) F tg ts g) (ht : ∀ (s : Shared) (H : Hp) (C : Addr) (cl : List (Str × Addr)) (fp : List Addr), PDTs (X.blk s H scope (compEnvC scope cl C X.env) fp) F ifs ft)
    (he : ∀ (s : Shared) (H : Hp) (C : Addr) (cl : List (Str × Addr)) (fp : List Addr), PD (X.blk s H scope (compEnvC scope cl C X.env) fp) F elt fe) (hsw : swapsWith (.ListComp elt [⟨tg, iter, ifs, 0⟩] scope pos) (some (.Name y py)) spos.line X.env = pure true)
    (hy : X.N[i]? = some y := by rfl) (hyl : X.env.scope.names.lookup y = some .local := by rfl) (hts : ∀ i ∈ ts, i ∈ own.map (·.2) := by decide) (hc : X.calm = true := by rfl) (hs : ∀ x, foldedSetIterable iter X.env x = pure x := by intro _; rfl) :
    PDS X F (.Assign [.Name y py] (.ListComp elt [⟨tg, iter, ifs, 0⟩] scope pos) spos) (sSetN i (nLc fi g ft fe (own.map (·.2)))) :=
  ps_imp (ps_setLc (g := tGN X.K F ts g) (tt := tDT X.K F ft) (te := tD X.K F fe) hc hN hy hyl hsw hi ok hg ht he hs) fun D σ H h => by
    obtain ⟨Z, env, fl, r, e, q⟩ := h
    obtain ⟨⟨d, e1⟩, h1, h⟩ := mpd e
    subst h
    exact lc_read hts ⟨Z, env, d, e1, r, h1, fun p xs Z' H' r' s' h0 hz hp dd => q _ Z' H' (r'.storeN i (s'.fre (fre_new r h0)) (fun z => (r.pp p z).1 h0) (r.gh.free h0) hz hp dd) s'.z⟩
end

/-! ### defs by their bodies -/
def startE (n : Nat) (ds : List PyData) : DEnv := ds.map (fun d => some (.fr d)) ++ List.replicate (n - ds.length) none
def runF (n N : Nat) (g : DEnv → Option DFlow) (ds : List PyData) : Option PyData := if ds.length = n then (match g (startE N ds) with
  | some (.rt d _) => some d
  | some (.nx _) => some .none
  | _ => none) else none
theorem runF_len {n N : Nat} {g : DEnv → Option DFlow} (ds : List PyData) (r : PyData) (h : runF n N g ds = some r) : ds.length = n := by
  unfold runF at h
  split at h
  · assumption
  · cases h
def runN (n N : Nat) (g : DEnv → Option DFlow) (ds : List PyData) : Option (List PyData) := if ds.length = n then (match g (startE N ds) with
  | some (.rn d _) => some d
  | _ => none) else none
theorem runN_len {n N : Nat} {g : DEnv → Option DFlow} (ds : List PyData) (r : List PyData) (h : runN n N g ds = some r) : ds.length = n := by
  unfold runN at h
  split at h
  · assumption
  · cases h
def rf0 (env : DEnv) : Option (List PyData) := match env with
  | some (.rf es) :: _ => some es
  | _ => none
def runR (n N : Nat) (g : DEnv → Option DFlow) (es ds : List PyData) : Option (PyData × List PyData) := if ds.length + 1 = n then (match g (some (.rf es) :: startE (N - 1) ds) with
  | some (.rt d env) => (rf0 env).map fun x => (d, x)
  | some (.nx env) => (rf0 env).map fun x => (.none, x)
  | _ => none) else none
theorem runR_len {n N : Nat} {g : DEnv → Option DFlow} (es ds : List PyData) (r : PyData × List PyData) (h : runR n N g es ds = some r) : ds.length + 1 = n := by
  unfold runR at h
  split at h
  · assumption
  · cases h
theorem startE_len {N : Nat} {ds : List PyData} (h : ds.length ≤ N) : (startE N ds).length = N := by
  unfold startE
  rw [List.length_append, List.length_map, List.length_replicate]
  omega
theorem start_len {N : List Str} {vs : List V} (h : vs.length ≤ N.length) : (start N vs).length = N.length := by
  unfold start
  rw [List.length_append, List.length_map, List.length_replicate]
  omega
theorem startE_get {n i : Nat} {ds : List PyData} {dv : DV} (h : (startE n ds)[i]? = some (some dv)) : ∃ d, ds[i]? = some d ∧ dv = .fr d := by
  unfold startE at h
  by_cases hi : i < ds.length
  · rw [List.getElem?_append_left (by rw [List.length_map]; exact hi), List.getElem?_map, List.getElem?_eq_getElem hi] at h
    cases h
    exact ⟨_, List.getElem?_eq_getElem hi, rfl⟩
  · rw [List.getElem?_append_right (by rw [List.length_map]; omega), List.getElem?_replicate] at h
    split at h <;> cases h
theorem start_get {N : List Str} {vs : List V} {i : Nat} {v : V} (h : vs[i]? = some v) : (start N vs)[i]? = some (some v) := by
  obtain ⟨hl, hx⟩ := List.getElem?_eq_some_iff.mp h
  unfold start
  rw [List.getElem?_append_left (by rw [List.length_map]; exact hl), List.getElem?_map, h]
  rfl
section
variable {P : Program} {w : World} {K : PySem.W.Frag} {mg : Str → Option Value} {base : Heap} {x qual : Str} {st : Stmt} {f : Addr} {fd : FuncData} {N ps : List Str} {k : Nat} {g : DEnv → Option DFlow}
/-- what a body's derivation is asked for -/
abbrev BodyOk (P : Program) (w : World) (K : PySem.W.Frag) (mg : Str → Option Value) (base : Heap) (N : List Str) (qual : Str) (st : Stmt) (f : Addr) (cv : Value) (k : Nat) (g : DEnv → Option DFlow) : Prop :=
  ∀ (cdv : Value) (A : Around) (outer : List Env) (s : Shared) (H : Hp) (E : XK) (F : Fm), cdv = cv → F.W = W0 → GdOk (A.deeper (envOfC qual (defScope st) s.heap.objs.size f cdv)) → Room k (A.deeper (envOfC qual (defScope st) s.heap.objs.size f cdv)) →
    PDSs (cxOf CX0 P w K mg base N qual (defScope st) f cdv A outer s H E).nox F (defBody st) g
theorem pure_start {Z H : Hp} {vs : List V} {ds : List PyData} (sz : Same Z H) (tb : TB H) (hd : DDs K Z vs ds) (hl : vs.length ≤ N.length) : Rel K ⟨Z, H, fun _ => False, W0⟩ Z H (start N vs) (startE N.length ds) := by
  have hvd := dds_len hd
  refine ⟨Same.refl Z, sz, Same.refl H, fun q h => .inl h, fun q h => h.elim, by rw [start_len hl, startE_len (by omega)], fun i dv e => ?_, fun i j di dj q ei ej oi => ?_, tb⟩
  · obtain ⟨d, e1, rfl⟩ := startE_get e
    obtain ⟨v, e2, e3⟩ := dds_get hd e1
    exact ⟨v, start_get e2, e3⟩
  · obtain ⟨d, e1, rfl⟩ := startE_get ei
    cases oi
theorem fn_pure (D : Fun K x qual st f fd) (S : FnScope N ps (defScope st)) (hb : BodyOk P w K mg base N qual st f fd.code k g) : FnG P w K mg base (k + 1) f fd ps (spF K ps.length (runF ps.length N.length g)) := by
  refine fng_of D S (fun vs H Q E h => h.1) fun cdv A outer s H vs Q E hcv hg hr h => ?_
  obtain ⟨hl, Z, ds, r, sz, tb, hd, e, q⟩ := h
  have hN : ps.length ≤ N.length := by
    have := congrArg List.length S.pre
    rw [List.length_take] at this
    omega
  refine ⟨_, hb cdv A outer s H E ⟨Z, H, fun _ => False, W0⟩ hcv rfl hg hr, Z, startE N.length ds, ?_⟩
  have r0 := pure_start (K := K) (N := N) sz tb hd (by omega)
  have fin : ∀ {Z' H' : Hp} {σ' : St} {e' : DEnv}, Rel K ⟨Z, H, fun _ => False, W0⟩ Z' H' σ' e' → Grow Z H Z' H' := fun {Z' H' σ' e'} r' => ⟨r'.z0, r'.zh, r'.gh, fun _ => r'.tb, fun q hq => (r'.nw q hq).imp id (·.1)⟩
  unfold runF at e
  split at e
  case isFalse => cases e
  generalize hh : g (startE N.length ds) = o at e
  match o, e with
  | some (.rt d e'), e =>
    cases e
    exact ⟨_, r0, rfl, fun v σ' Z' H' r' s' dd => q v Z' H' (fin r') dd⟩
  | some (.nx e'), e =>
    cases e
    exact ⟨_, r0, rfl, fun σ' Z' H' r' s' => q .non Z' H' (fin r') .non⟩
theorem fn_new (D : Fun K x qual st f fd) (S : FnScope N ps (defScope st)) (hb : BodyOk P w K mg base N qual st f fd.code k g) : FnG P w K mg base (k + 1) f fd ps (spN K ps.length (runN ps.length N.length g)) := by
  refine fng_of D S (fun vs H Q E h => h.1) fun cdv A outer s H vs Q E hcv hg hr h => ?_
  obtain ⟨hl, Z, ds, r, sz, tb, hd, e, q⟩ := h
  have hN : ps.length ≤ N.length := by
    have := congrArg List.length S.pre
    rw [List.length_take] at this
    omega
  refine ⟨_, hb cdv A outer s H E ⟨Z, H, fun _ => False, W0⟩ hcv rfl hg hr, Z, startE N.length ds, ?_⟩
  have r0 := pure_start (K := K) (N := N) sz tb hd (by omega)
  unfold runN at e
  split at e
  case isFalse => cases e
  generalize hh : g (startE N.length ds) = o at e
  match o, e with
  | some (.rn d e'), e =>
    cases e
    exact ⟨_, r0, rfl, fun p xs σ' Z' H' r' s' hz hg' hp hh' dd => q p xs Z' H' ⟨r'.z0, r'.zh, r'.gh, fun _ => r'.tb, fun q hq => (r'.nw q hq).imp id (·.1)⟩ hg' hz hh' dd⟩
theorem fn_ref (D : Fun K x qual st f fd) (S : FnScope N ps (defScope st)) (hb : BodyOk P w K mg base N qual st f fd.code k g) : FnG P w K mg base (k + 1) f fd ps (spR K ps.length (runR ps.length N.length g)) := by
  refine fng_of D S (fun vs H Q E h => h.1) fun cdv A outer s H vs Q E hcv hg hr h => ?_
  obtain ⟨hl, Z, p, ws, xs, es, ds, r, es', rfl, sz, tb, zp, hp, hx, hd, e, q⟩ := h
  have hN : ps.length ≤ N.length := by
    have := congrArg List.length S.pre
    rw [List.length_take] at this
    omega
  have hwd := dds_len hd
  rw [List.length_cons] at hl
  refine ⟨_, hb cdv A outer s H E ⟨Z, fun q => if q = p then none else H q, fun q => q = p, W0⟩ hcv rfl hg hr, Z, some (.rf es) :: startE (N.length - 1) ds, ?_⟩
  have r0 : Rel K ⟨Z, fun q => if q = p then none else H q, fun q => q = p, W0⟩ Z H (start N (.ref p :: ws)) (some (.rf es) :: startE (N.length - 1) ds) := by
    refine ⟨Same.refl Z, sz, ⟨fun q o h _ => ?_, fun q h => ?_⟩, fun q h => .inl h, fun q h => ?_, ?_, fun i dv e => ?_, fun i j di dj q ei ej oi oj si sj => ?_, tb⟩
    · dsimp only at h
      split at h
      · cases h
      · exact h
    · dsimp only at h
      split at h
      · exact absurd rfl h
      · exact h
    · dsimp only at h
      subst h
      exact ⟨by rw [hp]; simp, zp, if_pos rfl⟩
    · rw [List.length_cons, startE_len (by omega), start_len (by rw [List.length_cons]; omega)]
      omega
    · cases i with
      | zero =>
        cases e
        exact ⟨p, xs, start_get rfl, rfl, hp, hx⟩
      | succ i =>
        rw [List.getElem?_cons_succ] at e
        obtain ⟨d, e1, rfl⟩ := startE_get e
        obtain ⟨v, e2, e3⟩ := dds_get hd e1
        exact ⟨v, start_get (by rw [List.getElem?_cons_succ]; exact e2), e3⟩
    · have z : ∀ (i : Nat) (dv : DV), (some (.rf es) :: startE (N.length - 1) ds)[i]? = some (some dv) → ownish dv = true → i = 0 := fun i dv e o => by
        cases i with
        | zero => rfl
        | succ i =>
          rw [List.getElem?_cons_succ] at e
          obtain ⟨d, e1, rfl⟩ := startE_get e
          cases o
      rw [z i di ei oi, z j dj ej oj]
  have fin : ∀ {Z' H' : Hp} {σ' : St} {e' : DEnv} {v : V}, Rel K ⟨Z, fun q => if q = p then none else H q, fun q => q = p, W0⟩ Z' H' σ' e' → rf0 e' = some es' → DD K Z' v r → Q v H' := fun {Z' H' σ' e' v} r' h0 dd => by
    match e', h0, r' with
    | some (.rf es2) :: rest, h0, r' =>
      cases h0
      obtain ⟨p', xs', a1, a2, a3, a4⟩ := r'.sl 0 _ rfl
      have a2 : p' = p := a2
      subst a2
      refine q v xs' Z' H' ⟨r'.z0, r'.zh, fun b o hb h n => r'.gh.h b o ?_ n, fun b hb h => r'.gh.k b ?_, fun _ => r'.tb, fun b hb => ?_⟩ a3 a4 dd
      · show (if b = p' then none else H b) = some o
        rw [if_neg hb]; exact h
      · show (if b = p' then none else H b) ≠ none
        rw [if_neg hb]; exact h
      · rcases r'.nw b hb with h | ⟨h, h2⟩
        · exact .inl h
        · have h : (if b = p' then none else H b) = none := h
          rw [if_neg h2] at h
          exact .inr h
  unfold runR at e
  split at e
  case isFalse => cases e
  generalize hh : g (some (.rf es) :: startE (N.length - 1) ds) = o at e
  match o, e with
  | some (.rt d e'), e =>
    obtain ⟨x0, h0, h⟩ := mpd e
    cases h
    exact ⟨_, r0, rfl, fun v σ' Z' H' r' s' dd => fin r' h0 dd⟩
  | some (.nx e'), e =>
    obtain ⟨x0, h0, h⟩ := mpd e
    cases h
    exact ⟨_, r0, rfl, fun σ' Z' H' r' s' => fin (v := .non) r' h0 .non⟩
theorem fn_F {n n' : Nat} (D : Fun K x qual st f fd) (S : FnScope N ps (defScope st)) (h1 : ps.length = n) (h2 : N.length = n') (hb : BodyOk P w K mg base N qual st f fd.code k g) : FnG P w K mg base (k + 1) f fd ps (spF K n (runF n n' g)) := by
  subst h1 h2
  exact fn_pure D S hb
theorem fn_N {n n' : Nat} (D : Fun K x qual st f fd) (S : FnScope N ps (defScope st)) (h1 : ps.length = n) (h2 : N.length = n') (hb : BodyOk P w K mg base N qual st f fd.code k g) : FnG P w K mg base (k + 1) f fd ps (spN K n (runN n n' g)) := by
  subst h1 h2
  exact fn_new D S hb
theorem fn_R {n n' : Nat} (D : Fun K x qual st f fd) (S : FnScope N ps (defScope st)) (h1 : ps.length = n) (h2 : N.length = n') (hb : BodyOk P w K mg base N qual st f fd.code k g) : FnG P w K mg base (k + 1) f fd ps (spR K n (runR n n' g)) := by
  subst h1 h2
  exact fn_ref D S hb
end
end DL
end L2


set_option Elab.async false
set_option maxRecDepth 100000
set_option maxHeartbeats 4000000
set_option autoImplicit false
namespace L2
namespace DL
open PySem PySem.Spec PyProof.Rows
variable [Lab]
section
variable {X : Cx}
/-! ### operators on data -/
def addD : PyData → PyData → Option PyData
  | .int i, .int j => some (.int (i + j))
  | .str a, .str b => if a.length + b.length ≤ lim then some (.str (a ++ b)) else none
  | .tuple a, .tuple b => if a.length + b.length ≤ lim then some (.tuple (a ++ b)) else none
  | .list a, .list b => if a.length + b.length ≤ lim then some (.list (a ++ b)) else none
  | _, _ => none
theorem od_add : OpD X (binaryOp .Add) addD := by
  intro pins s σ H x y v u Q I rx ry h
  obtain ⟨Z, a, b, d, sz, ha, hb, e, q⟩ := h
  have hlim : lim = 100000 := rfl
  have hsl := sizeLine_eq
  match a, b, ha, hb, e with
  | .int i, .int j, ha, hb, e =>
    cases e; cases ha.int_inv; cases hb.int_inv
    exact op_add pins s σ H _ _ v u Q I rx ry ⟨i, j, rfl, rfl, q _ Z H (Grow.refl sz) (.int _)⟩
  | .str i, .str j, ha, hb, e =>
    change (if i.length + j.length ≤ lim then some (PyData.str (i ++ j)) else none) = some d at e
    split at e
    case isFalse => cases e
    cases e; cases ha.str_inv; cases hb.str_inv
    exact op_add_str pins s σ H _ _ v u Q I rx ry ⟨i, j, rfl, rfl, by omega, q _ Z H (Grow.refl sz) (.str _)⟩
  | .tuple i, .tuple j, ha, hb, e =>
    change (if i.length + j.length ≤ lim then some (PyData.tuple (i ++ j)) else none) = some d at e
    split at e
    case isFalse => cases e
    cases e
    cases ha with
    | @tup p xs _ hx dx =>
      cases hb with
      | @tup p' ys _ hy dy =>
        have l1 := dds_len dx
        have l2 := dds_len dy
        refine op_catA pins s σ H _ _ v u Q I rx ry ⟨p, p', xs, ys, rfl, rfl, same_sqT sz hx, same_sqT sz hy, by omega, fun e0 => ?_, fun n0 e0 => ?_, fun n0 n1 p hp => ?_⟩
        · have : i = [] := by cases i with | nil => rfl | cons _ _ => rw [e0] at l1; cases l1
          rw [this] at q
          exact q _ Z H (Grow.refl sz) (.tup hy dy)
        · have : j = [] := by cases j with | nil => rfl | cons _ _ => rw [e0] at l2; cases l2
          rw [this, List.append_nil] at q
          exact q _ Z H (Grow.refl sz) (.tup hx dx)
        · exact q _ _ _ (grow_new sz hp _) (new_tup sz hp (dds_app dx dy))
  | .list i, .list j, ha, hb, e =>
    change (if i.length + j.length ≤ lim then some (PyData.list (i ++ j)) else none) = some d at e
    split at e
    case isFalse => cases e
    cases e
    cases ha with
    | @lst p xs _ hx dx =>
      cases hb with
      | @lst p' ys _ hy dy =>
        have l1 := dds_len dx
        have l2 := dds_len dy
        cases rx
        cases ry
        obtain ⟨z, its, n, r, e1⟩ := (same_ls sz hx).isL I
        obtain ⟨z2, its2, n2, r2, e2⟩ := (same_ls sz hy).isL I
        have k1 := r.length
        have k2 := r2.length
        refine PySem.P.add_list e1 e2 ?_ (by rw [List.size_toArray, List.size_toArray]; omega)
        have ea : its.toArray ++ its2.toArray = (its ++ its2).toArray := by simp
        rw [ea]
        exact ⟨.ref _, _, I.lnew (t' := s.toks) (r.append r2) (by rw [List.length_append]; omega), rfl, q _ _ _ (grow_new sz I.fresh _) (new_lst sz I.fresh (dds_app dx dy))⟩
def intD (c : Int → Int → Bool) (o : Int → Int → PyData) : PyData → PyData → Option PyData
  | .int i, .int j => if c i j then some (o i j) else none
  | _, _ => none
theorem od_int {f : Value → Value → Sem Value} {C : Int → Int → Prop} {g : Int → Int → V} {c : Int → Int → Bool} {o : Int → Int → PyData} (h : OpR X f (rI C g)) (hc : ∀ i j, c i j = true → C i j) (hd : ∀ K Z i j, DD K Z (g i j) (o i j)) : OpD X f (intD c o) := by
  intro pins s σ H x y v u Q I rx ry h0
  obtain ⟨Z, a, b, d, sz, ha, hb, e, q⟩ := h0
  match a, b, ha, hb, e with
  | .int i, .int j, ha, hb, e =>
    change (if c i j then some (o i j) else none) = some d at e
    split at e
    case isFalse => cases e
    rename_i hcc
    cases e; cases ha.int_inv; cases hb.int_inv
    exact h pins s σ H _ _ v u Q I rx ry ⟨i, j, rfl, rfl, hc i j hcc, q _ Z H (Grow.refl sz) (hd _ _ _ _)⟩
theorem op_rI0 {f : Value → Value → Sem Value} {g : Int → Int → V} (h : OpR X f (rI0 g)) : OpR X f (rI (fun _ _ => True) g) := fun pins s σ H x y v u Q I rx ry ⟨i, j, a, b, _, q⟩ => h pins s σ H x y v u Q I rx ry ⟨i, j, a, b, q⟩
abbrev cTrue (_ _ : Int) : Bool := true
abbrev cMul (i j : Int) : Bool := decide (i.natAbs < 18446744073709551616) || decide (j.natAbs < 18446744073709551616)
abbrev cDiv (_ j : Int) : Bool := decide (0 < j) && decide (j < 1073741824)
abbrev cMod (_ j : Int) : Bool := decide (0 < j)
abbrev cPow (i j : Int) : Bool := decide (0 ≤ j) && decide (j ≤ 1000) && decide (i.natAbs < 1000)
abbrev subD := intD cTrue fun i j => .int (i - j)
abbrev mulD := intD cMul fun i j => .int (i * j)
abbrev fdivD := intD cDiv fun i j => .int (i / j)
abbrev modD := intD cMod fun i j => .int (i % j)
abbrev powD := intD cPow fun i j => .int (i ^ j.toNat)
abbrev ltD := intD cTrue fun i j => .bool (decide (i < j))
abbrev leD := intD cTrue fun i j => .bool (decide (i ≤ j))
abbrev gtD := intD cTrue fun i j => .bool (decide (j < i))
abbrev geD := intD cTrue fun i j => .bool (decide (j ≤ i))
theorem od_sub : OpD X (binaryOp .Sub) subD := od_int (op_rI0 op_sub) (fun _ _ _ => trivial) fun _ _ _ _ => .int _
theorem od_mul : OpD X (binaryOp .Mult) mulD := od_int op_mul (fun i j h => by
  rw [cMul, Bool.or_eq_true, decide_eq_true_eq, decide_eq_true_eq] at h
  unfold CMul
  rcases h with h | h
  · left; omega
  · right; omega) fun _ _ _ _ => .int _
theorem od_fdiv : OpD X (binaryOp .FloorDiv) fdivD := od_int op_fdiv (fun i j h => by
  rw [cDiv, Bool.and_eq_true, decide_eq_true_eq, decide_eq_true_eq] at h
  exact h) fun _ _ _ _ => .int _
theorem od_mod : OpD X (binaryOp .Mod) modD := od_int op_mod (fun i j h => of_decide_eq_true h) fun _ _ _ _ => .int _
theorem od_pow : OpD X (binaryOp .Pow) powD := od_int op_pow (fun i j h => by
  rw [cPow, Bool.and_eq_true, Bool.and_eq_true, decide_eq_true_eq, decide_eq_true_eq, decide_eq_true_eq] at h
  unfold CPow
  omega) fun _ _ _ _ => .int _
theorem od_lt : OpD X (compareOp .Lt) ltD := od_int (op_rI0 op_lt) (fun _ _ _ => trivial) fun _ _ _ _ => .bl _
theorem od_le : OpD X (compareOp .LtE) leD := od_int (op_rI0 op_le) (fun _ _ _ => trivial) fun _ _ _ _ => .bl _
theorem od_gt : OpD X (compareOp .Gt) gtD := od_int (op_rI0 op_gt) (fun _ _ _ => trivial) fun _ _ _ _ => .bl _
theorem od_ge : OpD X (compareOp .GtE) geD := od_int (op_rI0 op_ge) (fun _ _ _ => trivial) fun _ _ _ _ => .bl _
/-- what may be compared -/
def shD (d : PyData) : Bool := SeqAt.shaped d && !d.hasDict
theorem shD_sh {d : PyData} (h : shD d = true) : SeqAt.shaped d = true := (Bool.and_eq_true_iff.mp h).1
theorem shD_nd {d : PyData} (h : shD d = true) : d.hasDict = false := by
  have := (Bool.and_eq_true_iff.mp h).2
  rwa [Bool.not_eq_true'] at this
/-- are they equal? -/
def eqB : PyData → PyData → Option Bool
  | .int i, .int j => some (decide (i = j))
  | .str i, .str j => some (decide (i = j))
  | a, b => if shD a && shD b then some (PyData.eqv a b) else none
def eqD (a b : PyData) : Option PyData := (eqB a b).map .bool
def neD (a b : PyData) : Option PyData := (eqB a b).map fun k => .bool (!k)
theorem eq_run {op : CmpOp} {neg : Bool → Bool} (h1 : OpR X (compareOp op) (fun x y H Q => scal x y = true ∧ Q (.bl (neg (decide (x = y)))) H)) (h2 : OpR X (compareOp op) (fun x y H Q => ∃ d e, Dp X.K H x d ∧ Dp X.K H y e ∧ SeqAt.shaped d = true ∧ SeqAt.shaped e = true ∧ Q (.bl (neg (PyData.eqv d e))) H)) :
    OpD X (compareOp op) (fun a b => (eqB a b).map fun k => .bool (neg k)) := by
  intro pins s σ H x y v u Q I rx ry h
  obtain ⟨Z, a, b, d, sz, ha, hb, e, q⟩ := h
  obtain ⟨k, ek, rfl⟩ := mpd e
  have deep : (if shD a && shD b then some (PyData.eqv a b) else none) = some k → wpAny (model X.prog X.w) X.A (compareOp op v u) (EP X pins σ Q) X.xe s := fun e => by
    split at e
    case isFalse => cases e
    rename_i hs
    rw [Bool.and_eq_true] at hs
    cases e
    exact h2 pins s σ H x y v u Q I rx ry ⟨a, b, DD.dp _ _ (shD_nd hs.1) (DDm ha sz), DD.dp _ _ (shD_nd hs.2) (DDm hb sz), shD_sh hs.1, shD_sh hs.2, q _ Z H (Grow.refl sz) (.bl _)⟩
  unfold eqB at ek
  split at ek
  · cases ek; cases ha.int_inv; cases hb.int_inv
    refine h1 pins s σ H _ _ v u Q I rx ry ⟨rfl, ?_⟩
    rename_i i j
    have : decide (V.int i = V.int j) = decide (i = j) := by
      by_cases z : i = j
      · subst z; simp
      · rw [decide_eq_false z, decide_eq_false (fun w => z (V.int.inj w))]
    rw [this]
    exact q _ Z H (Grow.refl sz) (.bl _)
  · cases ek; cases ha.str_inv; cases hb.str_inv
    refine h1 pins s σ H _ _ v u Q I rx ry ⟨rfl, ?_⟩
    rename_i i j
    have : decide (V.str i = V.str j) = decide (i = j) := by
      by_cases z : i = j
      · subst z; simp
      · rw [decide_eq_false z, decide_eq_false (fun w => z (V.str.inj w))]
    rw [this]
    exact q _ Z H (Grow.refl sz) (.bl _)
  · exact deep ek
theorem od_eq {k : Nat} (hr : Room k X.A) : OpD X (compareOp .Eq) eqD := eq_run (neg := id) op_eq (op_eqD hr.units)
theorem od_ne {k : Nat} (hr : Room k X.A) : OpD X (compareOp .NotEq) neD := eq_run (neg := fun k => !k) op_ne (op_neD hr.units)
def inB (d c : PyData) : Option Bool := (seqD c).bind fun ds => if shD d && shD c then some (ds.any fun z => PyData.eqv z d) else none
def inD (d c : PyData) : Option PyData := (inB d c).map .bool
theorem room_in {k : Nat} {A : Around} (hr : Room k A) {d : PyData} {ds : List PyData} (h : SeqAt.shaped d = true) : A.units + 1 + min (PyData.depthAll ds) d.depth < cLine := by
  have h1 := SeqAt.depth_of_shaped h
  have h2 : min (PyData.depthAll ds) d.depth ≤ d.depth := Nat.min_le_right _ _
  have := hr.un
  omega
theorem od_in {k : Nat} (hr : Room k X.A) : OpD X (compareOp .In) inD := by
  intro pins s σ H x y v u Q I rx ry h
  obtain ⟨Z, a, b, d, sz, ha, hb, e, q⟩ := h
  obtain ⟨kk, ek, rfl⟩ := mpd e
  obtain ⟨ds, e1, ek⟩ := bnd ek
  split at ek
  case isFalse => cases ek
  rename_i hs
  rw [Bool.and_eq_true] at hs
  cases ek
  obtain ⟨as, r1⟩ := Dp.reads I a x v (DD.dp _ _ (shD_nd hs.1) (DDm ha sz)) rx
  obtain ⟨bs, r2⟩ := Dp.reads I b y u (DD.dp _ _ (shD_nd hs.2) (DDm hb sz)) ry
  have qq := q _ Z H (Grow.refl sz) (.bl _)
  match b, e1, r2, hs with
  | .list es, e1, r2, hs =>
    cases e1
    exact SeqAt.in_list_reads r2 r1 (SeqAt.canLay_of_shaped (shD_sh hs.2)) (SeqAt.canLay_of_shaped (shD_sh hs.1)) (room_in hr (shD_sh hs.1)) ⟨.bl _, H, I, rfl, qq⟩
  | .tuple es, e1, r2, hs =>
    cases e1
    exact SeqAt.in_tuple_reads r2 r1 (SeqAt.canLay_of_shaped (shD_sh hs.2)) (SeqAt.canLay_of_shaped (shD_sh hs.1)) (room_in hr (shD_sh hs.1)) ⟨.bl _, H, I, rfl, qq⟩
theorem inD_scal (a b d : PyData) (h : inD a b = some d) : scalD d = true := by obtain ⟨k, _, rfl⟩ := mpd h; rfl
theorem neD_scal (a b d : PyData) (h : neD a b = some d) : scalD d = true := by obtain ⟨k, _, rfl⟩ := mpd h; rfl

/-! ### chains a < b < c -/
variable {F : Fm} {a b c e : Expr} {es : List Expr} {pos p pn p2 : Pos} {f g k : DEnv → Option (PyData × DEnv)} {fa : DEnv → Option (List PyData × DEnv)} {x y : Str}
def fChain (o o' : PyData → PyData → Option PyData) (f g k : DEnv → Option (PyData × DEnv)) (env : DEnv) : Option (PyData × DEnv) :=
  (f env).bind fun x => (g x.2).bind fun y => (o x.1 y.1).bind fun z => match z with
    | .bool true => (k y.2).bind fun w => (o' y.1 w.1).map fun d => (d, w.2)
    | .bool false => some (.bool false, y.2)
    | _ => none
theorem pd_chain {op op' : CmpOp} {o o' : PyData → PyData → Option PyData} (ho : OpD X (compareOp op) o) (ho' : OpD X (compareOp op') o') (ha : PD X F a f) (hb : PD X F b g) (hc : PD X F c k) (hm : lastMarks [op, op'] [b, c] = false := by with_unfolding_all rfl) :
    PD X F (.Compare a [op, op'] [b, c] pos) (fChain o o' f g k) := pe_imp (pe_chain ho ho' ha hb hc hm) fun σ H Q h => by
  obtain ⟨Z, env, d, env', r, e, q⟩ := h
  obtain ⟨⟨x, e1⟩, h1, h⟩ := bnd e
  obtain ⟨⟨y, e2⟩, h2, h⟩ := bnd h
  obtain ⟨z, h3, h⟩ := bnd h
  refine ⟨Z, env, x, e1, r, h1, fun v1 Z1 H1 r1 s1 d1 => ⟨Z1, e1, y, e2, r1, h2, fun v2 Z2 H2 r2 s2 d2 => ⟨Z2, x, y, z, r2.zh, DDm d1 s2.z, d2, h3, fun vz Z3 H3 gr dz => ?_⟩⟩⟩
  have s12 := s1.trans s2
  match z, h, dz with
  | .bool true, h, dz =>
    obtain ⟨⟨w, e3⟩, h4, h⟩ := bnd h
    obtain ⟨d', h5, h⟩ := mpd h
    cases h
    cases dz.bool_inv
    refine ⟨true, rfl, iteT ⟨Z3, e2, w, e3, r2.grow gr, h4, fun v3 Z4 H4 r4 s4 d4 => ⟨Z4, y, w, d, r4.zh, DDm (DDm d2 gr.z) s4.z, d4, h5, fun v5 Z5 H5 g5 d5 => ?_⟩⟩⟩
    exact q v5 Z5 H5 (r4.grow g5) (((s12.trans gr.stp).trans s4).trans g5.stp) d5
  | .bool false, h, dz =>
    cases h
    cases dz.bool_inv
    exact ⟨false, rfl, iteF (q _ Z3 H3 (r2.grow gr) (s12.trans gr.stp) (.bl false))⟩
/-! ### built-in functions on data -/
theorem dds1 {K : PySem.W.Frag} {Z : Hp} {vs : List V} {d : PyData} (h : DDs K Z vs [d]) : ∃ v, vs = [v] ∧ DD K Z v d := by
  cases h with
  | cons h1 h2 => cases h2; exact ⟨_, rfl, h1⟩
theorem dds2 {K : PySem.W.Frag} {Z : Hp} {vs : List V} {d e : PyData} (h : DDs K Z vs [d, e]) : ∃ v w, vs = [v, w] ∧ DD K Z v d ∧ DD K Z w e := by
  cases h with
  | cons h1 h2 =>
    obtain ⟨w, rfl, h3⟩ := dds1 h2
    exact ⟨_, w, rfl, h1, h3⟩
def lenD : List PyData → Option PyData
  | [.list ds] => some (.int ds.length)
  | [.tuple ds] => some (.int ds.length)
  | [.str x] => if x.length ≤ lim then some (.int x.length) else none
  | _ => none
theorem cd_len : CallD X (.builtin "len") lenD := by
  intro pins s σ H xs us Q I r h
  obtain ⟨Z, ds, d, sz, hd, e, q⟩ := h
  match ds, hd, e with
  | [.list ds], hd, e =>
    cases e
    obtain ⟨v, rfl, h1⟩ := dds1 hd
    cases h1 with
    | @lst a ys _ hr ha => exact call_len_seq pins s σ H _ us Q I r ⟨a, ys, rfl, .inl (same_ls sz hr).sq, by rw [dds_len ha]; exact q _ Z H (Grow.refl sz) (.int _)⟩
  | [.tuple ds], hd, e =>
    cases e
    obtain ⟨v, rfl, h1⟩ := dds1 hd
    cases h1 with
    | @tup a ys _ hr ha => exact call_len_seq pins s σ H _ us Q I r ⟨a, ys, rfl, .inr (same_sqT sz hr), by rw [dds_len ha]; exact q _ Z H (Grow.refl sz) (.int _)⟩
  | [.str x], hd, e =>
    change (if x.length ≤ lim then some (PyData.int x.length) else none) = some d at e
    split at e
    case isFalse => cases e
    rename_i hx
    cases e
    obtain ⟨v, rfl, h1⟩ := dds1 hd
    cases h1.str_inv
    exact call_len_str pins s σ H _ us Q I r ⟨x, rfl, Nat.le_trans hx lim_le, q _ Z H (Grow.refl sz) (.int _)⟩
/-- len(name): the list as it stands -/
def fLenN (j : Nat) (env : DEnv) : Option (PyData × DEnv) := (rdB j env).bind fun d => (lenD [d]).map fun n => (n, env)
theorem pd_lenN (j : Nat) (hm : X.mg "len" = none) (hN : X.N[j]? = some y := by rfl) (hv : Vis X.env.scope y := by first | exact Or.inl rfl | exact Or.inr (Or.inl rfl) | exact Or.inr (Or.inr rfl)) (hd : (y == ("__debug__" : Str)) = false := by decide)
    (hcd : (y == ("__classdict__" : Str)) = false := by decide) (hg : Gl X "len" := by rfl) (he : starEach [.Name y pn] X.env = (false, eval (.Name y pn) X.env) :: starEach [] X.env := by rfl) (hpl : (backTo pos (starEach [] X.env)).any (·.1) = false := by rfl) :
    PD X F (.Call (.Name "len" p) [.Name y pn] [] pos) (fLenN j) :=
  pe_imp (pe_callB cd_len hg hm PySem.boot_len (pa_cons (pe_var hN hv hd hcd) pa_nil he) (by decide) (by decide) he hpl) fun σ H Q h => by
    obtain ⟨Z, env, d, env', r, e, q⟩ := h
    obtain ⟨d0, h1, e⟩ := bnd e
    obtain ⟨n, h2, e⟩ := mpd e
    cases e
    obtain ⟨v, sv, dv⟩ := r.rdB h1
    refine ⟨v, sv, H, [d0], d, Same.refl H, .cons dv .nil, h2, fun w Z' H' gr dd => ?_⟩
    have gr' : Grow Z H Z H' := ⟨Same.refl _, r.zh.trans gr.h, gr.h, gr.t, fun _ z => .inl z⟩
    refine q w Z H' (r.grow gr') gr'.stp (dd.scal ?_)
    match d0, h2 with
    | .list _, h2 => cases h2; rfl
    | .tuple _, h2 => cases h2; rfl
    | .str x, h2 =>
      change (if x.length ≤ lim then some (PyData.int x.length) else none) = some d at h2
      split at h2 <;> cases h2
      rfl
def absD : List PyData → Option PyData
  | [.int i] => some (.int (if i < 0 then -i else i))
  | _ => none
theorem cd_abs : CallD X (.builtin "abs") absD := by
  intro pins s σ H xs us Q I r h
  obtain ⟨Z, ds, d, sz, hd, e, q⟩ := h
  match ds, hd, e with
  | [.int i], hd, e =>
    cases e
    obtain ⟨v, rfl, h1⟩ := dds1 hd
    cases h1.int_inv
    exact call_abs pins s σ H _ us Q I r ⟨i, rfl, q _ Z H (Grow.refl sz) (.int _)⟩
def maxD : List PyData → Option PyData
  | [.int i, .int j] => some (.int (if j > i then j else i))
  | _ => none
def minD : List PyData → Option PyData
  | [.int i, .int j] => some (.int (if j < i then j else i))
  | _ => none
theorem cd_max (hc : X.calm = true) : CallD X (.builtin "max") maxD := by
  intro pins s σ H xs us Q I r h
  obtain ⟨Z, ds, d, sz, hd, e, q⟩ := h
  match ds, hd, e with
  | [.int i, .int j], hd, e =>
    cases e
    obtain ⟨v, w, rfl, h1, h2⟩ := dds2 hd
    cases h1.int_inv
    cases h2.int_inv
    exact call_max2 hc pins s σ H _ us Q I r ⟨i, j, rfl, q _ Z H (Grow.refl sz) (.int _)⟩
theorem cd_min (hc : X.calm = true) : CallD X (.builtin "min") minD := by
  intro pins s σ H xs us Q I r h
  obtain ⟨Z, ds, d, sz, hd, e, q⟩ := h
  match ds, hd, e with
  | [.int i, .int j], hd, e =>
    cases e
    obtain ⟨v, w, rfl, h1, h2⟩ := dds2 hd
    cases h1.int_inv
    cases h2.int_inv
    exact call_min2 hc pins s σ H _ us Q I r ⟨i, j, rfl, q _ Z H (Grow.refl sz) (.int _)⟩
def tupleD : List PyData → Option PyData
  | [.list ds] => some (.tuple ds)
  | [.tuple ds] => some (.tuple ds)
  | _ => none
theorem cd_tuple : CallD X (.type "tuple") tupleD := by
  intro pins s σ H xs us Q I r h
  obtain ⟨Z, ds, d, sz, hd, e, q⟩ := h
  match ds, hd, e with
  | [.list ds], hd, e =>
    cases e
    obtain ⟨v, rfl, h1⟩ := dds1 hd
    cases h1 with
    | @lst a ys _ hr ha => exact call_tuple_of pins s σ H _ us Q I r ⟨a, ys, rfl, .inl ⟨(same_ls sz hr).sq, fun l hl => q _ _ _ (grow_new sz hl _) (new_tup sz hl ha)⟩⟩
  | [.tuple ds], hd, e =>
    cases e
    obtain ⟨v, rfl, h1⟩ := dds1 hd
    cases h1 with
    | @tup a ys _ hr ha => exact call_tuple_of pins s σ H _ us Q I r ⟨a, ys, rfl, .inr ⟨same_sqT sz hr, q _ Z H (Grow.refl sz) (.tup hr ha)⟩⟩
def boolsD : List PyData → Option (List Bool)
  | [] => some []
  | .bool b :: r => (boolsD r).map (b :: ·)
  | _ => none
theorem bools_of {K : PySem.W.Frag} {Z : Hp} : ∀ {vs : List V} {ds : List PyData} {bs : List Bool}, DDs K Z vs ds → boolsD ds = some bs → vs = bs.map V.bl
  | _, [], bs, h, e => by cases e; cases h; rfl
  | _, .bool b :: r, bs, h, e => by
    obtain ⟨cs, e1, rfl⟩ := mpd e
    cases h with
    | cons h1 h2 =>
      cases h1.bool_inv
      rw [bools_of h2 e1]
      rfl
  | _, .none :: _, _, _, e => by cases e
  | _, .int _ :: _, _, _, e => by cases e
  | _, .str _ :: _, _, _, e => by cases e
  | _, .list _ :: _, _, _, e => by cases e
  | _, .tuple _ :: _, _, _, e => by cases e
  | _, .dict _ :: _, _, _, e => by cases e
def allD : List PyData → Option PyData
  | [.list ds] => (boolsD ds).map fun bs => .bool (bs.all id)
  | _ => none
def anyD : List PyData → Option PyData
  | [.list ds] => (boolsD ds).map fun bs => .bool (bs.any id)
  | _ => none
theorem cd_all (hc : X.calm = true) : CallD X (.builtin "all") allD := by
  intro pins s σ H xs us Q I r h
  obtain ⟨Z, ds, d, sz, hd, e, q⟩ := h
  match ds, hd, e with
  | [.list ds], hd, e =>
    obtain ⟨bs, e1, rfl⟩ := mpd e
    obtain ⟨v, rfl, h1⟩ := dds1 hd
    cases h1 with
    | @lst a ys _ hr ha =>
      have := bools_of ha e1
      subst this
      exact cr_all hc pins s σ H _ us Q I r ⟨a, bs, rfl, (same_ls sz hr).sq, q _ Z H (Grow.refl sz) (.bl _)⟩
theorem cd_any (hc : X.calm = true) : CallD X (.builtin "any") anyD := by
  intro pins s σ H xs us Q I r h
  obtain ⟨Z, ds, d, sz, hd, e, q⟩ := h
  match ds, hd, e with
  | [.list ds], hd, e =>
    obtain ⟨bs, e1, rfl⟩ := mpd e
    obtain ⟨v, rfl, h1⟩ := dds1 hd
    cases h1 with
    | @lst a ys _ hr ha =>
      have := bools_of ha e1
      subst this
      exact cr_any hc pins s σ H _ us Q I r ⟨a, bs, rfl, (same_ls sz hr).sq, q _ Z H (Grow.refl sz) (.bl _)⟩
/-! repr -/
abbrev reprOk (d : PyData) : Bool := d.showable && !d.hasDict && decide (d.shown.length ≤ sizeLine) && decide (d.depth ≤ 64)
/-! ### subscripts -/
def ixD : PyData → PyData → Option PyData
  | .list ds, .int i => atI ds i
  | .tuple ds, .int i => atI ds i
  | _, _ => none
theorem dds_at {K : PySem.W.Frag} {Z : Hp} {vs : List V} {ds : List PyData} {i : Int} {d : PyData} (h : DDs K Z vs ds) (e : atI ds i = some d) : ∃ v, atI vs i = some v ∧ DD K Z v d := by
  unfold atI at e ⊢
  rw [dds_len h]
  obtain ⟨j, e1, e2⟩ := bnd e
  obtain ⟨v, e3, e4⟩ := dds_get h e2
  exact ⟨v, by rw [e1]; exact e3, e4⟩
theorem id_ix : IxR X (r2D X.K ixD) := by
  intro value slice pins s σ H x y v u Q I rx ry h hs
  obtain ⟨Z, a, b, d, sz, ha, hb, e, q⟩ := h
  match a, b, ha, hb, e with
  | .list ds, .int i, ha, hb, e =>
    cases hb.int_inv
    cases ha with
    | @lst p xs _ hr hd =>
      obtain ⟨w, e1, e2⟩ := dds_at hd e
      exact ix_list value slice pins s σ H _ _ v u Q I rx ry ⟨p, xs, i, w, rfl, rfl, (same_ls sz hr).sq, e1, q w Z H (Grow.refl sz) e2⟩ hs
  | .tuple ds, .int i, ha, hb, e =>
    cases hb.int_inv
    cases ha with
    | @tup p xs _ hr hd =>
      obtain ⟨w, e1, e2⟩ := dds_at hd e
      exact ix_tup value slice pins s σ H _ _ v u Q I rx ry ⟨p, xs, i, w, rfl, rfl, same_sqT sz hr, e1, q w Z H (Grow.refl sz) e2⟩ hs
theorem pd_ix (ha : PD X F a f) (hb : PD X F b g) (hs : PlainIx b := by exact fun _ _ => rfl) : PD X F (.Subscript a b pos) (fBin ixD f g) := pe_imp (pe_ix id_ix ha hb hs) fun _ _ _ h => bin_read h
/-- name[i]: the list as it stands -/
def fIxN (j : Nat) (f : DEnv → Option (PyData × DEnv)) (env : DEnv) : Option (PyData × DEnv) := (rdB j env).bind fun _ => (f env).bind fun x => (rdB j x.2).bind fun d => (ixD d x.1).map fun z => (z, x.2)
theorem pd_ixN (j : Nat) (hb : PD X F b f) (hN : X.N[j]? = some y := by rfl) (hv : Vis X.env.scope y := by first | exact Or.inl rfl | exact Or.inr (Or.inl rfl) | exact Or.inr (Or.inr rfl)) (hd : (y == ("__debug__" : Str)) = false := by decide)
    (hcd : (y == ("__classdict__" : Str)) = false := by decide) (hs : PlainIx b := by exact fun _ _ => rfl) : PD X F (.Subscript (.Name y pn) b pos) (fIxN j f) :=
  pe_imp (pe_ix (ix_list.or ix_tup) (pe_var hN hv hd hcd) hb hs) fun σ H Q h => by
    obtain ⟨Z, env, d, env', r, e, q⟩ := h
    obtain ⟨d0, h0, e⟩ := bnd e
    obtain ⟨⟨i, e1⟩, h1, e⟩ := bnd e
    obtain ⟨d1, h2, e⟩ := bnd e
    obtain ⟨z, h3, e⟩ := mpd e
    cases e
    obtain ⟨v, sv, _⟩ := r.rdB h0
    refine ⟨v, sv, Z, env, i, e1, r, h1, fun w Z1 H1 r1 s1 dw => ?_⟩
    unfold rdB at h2
    split at h2
    · rename_i dd ee
      cases h2
      obtain ⟨v', sv', dv⟩ := r1.sl j _ ee
      rw [sv] at sv'
      cases sv'
      match d1, i, dv, dw, h3 with
      | .list ds, .int i, dv, dw, h3 =>
        cases dw.int_inv
        cases dv with
        | @lst p xs _ hr hd =>
          obtain ⟨w, e1, e2⟩ := dds_at hd h3
          exact .inl ⟨p, xs, i, w, rfl, rfl, (same_ls r1.zh hr).sq, e1, q w Z1 H1 r1 s1 e2⟩
      | .tuple ds, .int i, dv, dw, h3 =>
        cases dw.int_inv
        cases dv with
        | @tup p xs _ hr hd =>
          obtain ⟨w, e1, e2⟩ := dds_at hd h3
          exact .inr ⟨p, xs, i, w, rfl, rfl, same_sqT r1.zh hr, e1, q w Z1 H1 r1 s1 e2⟩
    · rename_i ds ee
      cases h2
      obtain ⟨p, xs, sv', _, _, _, hp, hd⟩ := r1.sl j _ ee
      rw [sv] at sv'
      cases sv'
      match i, dw, h3 with
      | .int i, dw, h3 =>
        cases dw.int_inv
        obtain ⟨w, e1, e2⟩ := dds_at hd h3
        exact .inl ⟨p, xs, i, w, rfl, rfl, SqL.of hp, e1, q w Z1 H1 r1 s1 e2⟩
    · rename_i ds ee
      cases h2
      obtain ⟨p, xs, sv', _, hp, hd⟩ := r1.sl j _ ee
      rw [sv] at sv'
      cases sv'
      match i, dw, h3 with
      | .int i, dw, h3 =>
        cases dw.int_inv
        obtain ⟨w, e1, e2⟩ := dds_at hd h3
        exact .inl ⟨p, xs, i, w, rfl, rfl, SqL.of hp, e1, q w Z1 H1 r1 s1 e2⟩
    · cases h2; cases h3
    · cases h2

/-! ### slices -/
def cutD (ds : List PyData) (lo hi : Option Int) : List PyData := (ds.drop (HT.sIx ds.length 0 lo)).take (HT.sIx ds.length ds.length hi - HT.sIx ds.length 0 lo)
theorem dds_cut {K : PySem.W.Frag} {Z : Hp} {vs : List V} {ds : List PyData} (h : DDs K Z vs ds) (lo hi : Option Int) : DDs K Z (cutV vs lo hi) (cutD ds lo hi) := by
  unfold cutV cutD
  rw [dds_len h]
  exact dds_take _ (dds_drop _ h)
def slD (d : PyData) (lo hi : Option Int) : Option PyData := match d with
  | .list ds => some (.list (cutD ds lo hi))
  | .tuple ds => some (.tuple (cutD ds lo hi))
  | _ => none
def rSlD (K : PySem.W.Frag) : V → Option Int → Option Int → Hp → VK → Prop := fun x lo hi H Q => ∃ Z a d, Same Z H ∧ DD K Z x a ∧ slD a lo hi = some d ∧ ∀ v Z' H', Grow Z H Z' H' → DD K Z' v d → Q v H'
theorem sl_data : SlR X (rSlD X.K) := by
  intro pins s σ H x v vl vu lo hi sl Q I rx hs pl pu h
  obtain ⟨Z, a, d, sz, ha, e, q⟩ := h
  match a, ha, e with
  | .list ds, ha, e =>
    cases e
    cases ha with
    | @lst p xs _ hr hd => exact sl_list pins s σ H _ v vl vu lo hi sl Q I rx hs pl pu ⟨p, xs, rfl, (same_ls sz hr).sq, fun p hp => q _ _ _ (grow_new sz hp _) (new_lst sz hp (dds_cut hd lo hi))⟩
  | .tuple ds, ha, e =>
    cases e
    cases ha with
    | @tup p xs _ hr hd =>
      refine sl_tupA pins s σ H _ v vl vu lo hi sl Q I rx hs pl pu ⟨p, xs, rfl, same_sqT sz hr, fun w => ?_, fun _ p hp => q _ _ _ (grow_new sz hp _) (new_tup sz hp (dds_cut hd lo hi))⟩
      have hl := dds_len hd
      have : cutD ds lo hi = ds := by
        unfold cutD
        rw [← hl, w.1, w.2, hl]
        simp
      rw [this] at q
      exact q _ Z H (Grow.refl sz) (.tup hr hd)
def tDO (K : PySem.W.Frag) (F : Fm) (f : DEnv → Option (Option Int × DEnv)) : TO := fun σ H Q => ∃ Z env d env', Rel K F Z H σ env ∧ f env = some (d, env') ∧ ∀ Z' H', Rel K F Z' H' σ env' → Stp σ env Z H env' Z' H' → Q d H'
def PDO (X : Cx) (F : Fm) (e : Option Expr) (f : DEnv → Option (Option Int × DEnv)) : Prop := PO X e (tDO X.K F f)
theorem po_imp {X : Cx} {e : Option Expr} {t t' : TO} (h : PO X e t) (w : ∀ σ H Q, t' σ H Q → t σ H Q) : PO X e t' := ⟨fun pins s σ H Q I q => h.run pins s σ H Q I (w σ H Q q)⟩
def oNone (env : DEnv) : Option (Option Int × DEnv) := some (none, env)
def oSome (f : DEnv → Option (PyData × DEnv)) (env : DEnv) : Option (Option Int × DEnv) := (f env).bind fun x => match x.1 with
  | .int i => some (some i, x.2)
  | _ => none
theorem do_none : PDO X F none oNone := po_imp po_none fun σ H Q h => by
  obtain ⟨Z, env, d, env', r, e, q⟩ := h
  cases e
  exact q Z H r Stp.refl
theorem do_some (ha : PD X F e f) : PDO X F (some e) (oSome f) := po_imp (po_some ha) fun σ H Q h => by
  obtain ⟨Z, env, d, env', r, e, q⟩ := h
  obtain ⟨⟨i, e1⟩, h1, e⟩ := bnd e
  match i, h1, e with
  | .int i, h1, e =>
    cases e
    refine ⟨Z, env, .int i, e1, r, h1, fun v Z1 H1 r1 s1 d1 => ?_⟩
    cases d1.int_inv
    exact ⟨i, rfl, q Z1 H1 r1 s1⟩
def fSl (f : DEnv → Option (PyData × DEnv)) (fl fh : DEnv → Option (Option Int × DEnv)) (env : DEnv) : Option (PyData × DEnv) := (f env).bind fun x => (fl x.2).bind fun l => (fh l.2).bind fun h => (slD x.1 l.1 h.1).map fun d => (d, h.2)
theorem pd_slice {lo hi : Option Expr} {fl fh : DEnv → Option (Option Int × DEnv)} (ha : PD X F e f) (hl : PDO X F lo fl) (hh : PDO X F hi fh) : PD X F (.Subscript e (.Slice lo hi none p2) pos) (fSl f fl fh) := pe_imp (pe_slice sl_data ha hl hh) fun σ H Q h => by
  obtain ⟨Z, env, d, env', r, e, q⟩ := h
  obtain ⟨⟨a, e1⟩, h1, e⟩ := bnd e
  obtain ⟨⟨l, e2⟩, h2, e⟩ := bnd e
  obtain ⟨⟨u, e3⟩, h3, e⟩ := bnd e
  obtain ⟨z, h4, e⟩ := mpd e
  cases e
  refine ⟨Z, env, a, e1, r, h1, fun v Z1 H1 r1 s1 d1 => ⟨Z1, e1, l, e2, r1, h2, fun Z2 H2 r2 s2 => ⟨Z2, e2, u, e3, r2, h3, fun Z3 H3 r3 s3 => ⟨Z3, a, d, r3.zh, DDm (DDm d1 s2.z) s3.z, h4, fun w Z' H' gr dd => ?_⟩⟩⟩⟩
  exact q w Z' H' (r3.grow gr) (((s1.trans s2).trans s3).trans gr.stp) dd

theorem dds_ints {K : PySem.W.Frag} {Z : Hp} : ∀ ns : List Int, DDs K Z (ns.map V.int) (ns.map PyData.int)
  | [] => .nil
  | n :: ns => .cons (.int n) (dds_ints ns)
theorem dds_range {K : PySem.W.Frag} {Z : Hp} (n : Int) : DDs K Z (rgV 0 n) (rangeD 0 n.toNat) := by
  unfold rgV rangeD
  have := dds_ints (K := K) (Z := Z) ((List.range n.toNat).map fun i => (0 : Int) + (i : Nat))
  rw [List.map_map, List.map_map] at this
  rw [show n - 0 = n by omega]
  exact this
/-! ### isinstance(e, T), T a built-in type -/
def tyN : PyData → String
  | .none => "NoneType"
  | .bool _ => "bool"
  | .int _ => "int"
  | .str _ => "str"
  | .list _ => "list"
  | .tuple _ => "tuple"
  | .dict _ => "dict"
def isiT (T t : String) : Bool := t == T || (t == "bool" && T == "int")
/-- the types of values, those of my own dicts too -/
def TyY (K : PySem.W.Frag) (H : Hp) (x : V) (t : Value) : Prop := TyX K H x t ∨ (∃ (a : Addr) (o : Obj), x = .ref a ∧ t = .type "dict" ∧ H a = some (DnO a o) ∧ o.cls = .type "dict") ∨ ∃ (a C : Addr), x = .ref a ∧ t = .ref C ∧ KEx K C ∧ (H a = some (ExO a (.ref C) none) ∨ ∃ dx fs, H a = some (ExO a (.ref C) (some dx)) ∧ H dx = some (.xd fs))
theorem exo_inst {X : Cx} {pins : List (Addr × Obj)} {σ : St} {H : Hp} {s : Shared} {a C : Addr} (I : Inv X pins σ H s) (h : H a = some (ExO a (.ref C) none) ∨ ∃ dx fs, H a = some (ExO a (.ref C) (some dx)) ∧ H dx = some (.xd fs)) : ∃ (oe : Obj) (od : Option Obj), PySem.W.InstAt s.heap a oe C od := by
  rcases h with h | ⟨dx, fs, h, h2⟩
  · obtain ⟨⟨oe, vs, e1, e2, e3, e4⟩, _, _⟩ := (show ObjOk X.prog X.w H s.heap a (ExO a (.ref C) none) from I.hok a _ h)
    exact ⟨oe, none, e1, e2, by unfold PySem.W.notCls; rw [e4] <;> rfl, by rw [e3]; trivial⟩
  · obtain ⟨⟨oe, vs, e1, e2, e3, e4⟩, _, _⟩ := (show ObjOk X.prog X.w H s.heap a (ExO a (.ref C) (some dx)) from I.hok a _ h)
    obtain ⟨mA, hns, _⟩ := (show ObjOk X.prog X.w H s.heap dx (.xd fs) from I.hok dx _ h2)
    obtain ⟨od, ho, _⟩ := lookIn_ns hns
    exact ⟨oe, some od, e1, e2, by unfold PySem.W.notCls; rw [e4] <;> rfl, by rw [e3]; exact ho⟩
theorem kit_ofY {X : Cx} {pins : List (Addr × Obj)} {σ : St} {H : Hp} {s : Shared} {x : V} {u t : Value} (I : Inv X pins σ H s) (rx : RelV x u) (ty : TyY X.K H x t) : ∃ P : Heap → Prop, PySem.W.KitX X.K u t P ∧ P s.heap ∧ u ≠ .builtin "__main__.__loader__#opaque" := by
  rcases ty with ty | ⟨a, o, rfl, rfl, ea, hc⟩ | ⟨a, C, rfl, rfl, k, ea⟩
  · exact kit_of I rx ty
  · cases (show u = Value.ref a from rx)
    obtain ⟨h1, _⟩ := (show ObjOk X.prog X.w H s.heap a (DnO a o) from I.hok a _ ea)
    exact ⟨_, PySem.W.kitx_dict, ⟨o, h1, hc⟩, fun z => nomatch z⟩
  · cases (show u = Value.ref a from rx)
    obtain ⟨oe, od, J⟩ := exo_inst I ea
    exact ⟨_, PySem.W.kitx_exc (ox := oe) (od := od) k.hcl k.hga k.hgt k.hsub k.ha k.hn k.htk k.hm, J, fun z => nomatch z⟩
def rIsiY (K : PySem.W.Frag) : List V → Hp → VK → Prop := fun xs H Q => ∃ (x c : V) (t u : Value) (b : Bool), xs = [x, c] ∧ ClsV c u ∧ TyY K H x t ∧ PySem.W.kitOne K t u = some b ∧ Q (.bl b) H
theorem call_isiY {X : Cx} : CallR X (.builtin "isinstance") (rIsiY X.K) := by
  intro pins s σ H xs us Q I r h
  obtain ⟨x, c, t, u, b, rfl, k, ty, e, q⟩ := h
  obtain ⟨u1, u2, rfl, r1, r2⟩ := vals2 r
  have e2 := k.eq r2
  subst e2
  obtain ⟨P, Z, p, hx⟩ := kit_ofY I r1 ty
  exact PySem.W.kia_one Z I.kIn p e hx fun tk => ⟨.bl b, H, I.tok tk, rfl, q⟩
abbrev fiveT : List String := ["bool", "int", "str", "list", "tuple"]
abbrev KitOk (K : PySem.W.Frag) (T : String) : Prop := ∀ t ∈ ["NoneType", "bool", "int", "str", "list", "tuple", "dict"], PySem.W.kitOne K (.type t) (.type T) = some (isiT T t)
theorem dd_ty {K : PySem.W.Frag} {H : Hp} {v : V} {d : PyData} {T : String} (kit : KitOk K T) (hT : T ∈ fiveT) (h : DD K H v d) : ∃ t, TyY K H v t ∧ PySem.W.kitOne K t (.type T) = some (isiT T (tyN d)) := by
  have nod : isiT T "dict" = false := by
    simp only [fiveT, List.mem_cons, List.not_mem_nil, or_false] at hT
    rcases hT with rfl | rfl | rfl | rfl | rfl <;> rfl
  cases h with
  | non => exact ⟨_, .inl <| .base .non, kit _ (by simp [tyN])⟩
  | bl b => exact ⟨_, .inl <| .base (.bl b), kit _ (by simp [tyN])⟩
  | int i => exact ⟨_, .inl <| .base (.int i), kit _ (by simp [tyN])⟩
  | str x => exact ⟨_, .inl <| .base (.str x), kit _ (by simp [tyN])⟩
  | lst hr _ =>
    rcases hr with (h | ⟨o, h⟩) | ⟨its, n, h, _⟩
    · exact ⟨_, .inl <| .base (.lst h), kit _ (by simp [tyN])⟩
    · exact ⟨_, .inl <| .base (.frz h), kit _ (by simp [tyN])⟩
    · exact ⟨_, .inl <| .kList h rfl, kit _ (by simp [tyN])⟩
  | tup hr _ =>
    rcases hr with (h | ⟨o, h⟩) | ⟨o, its, n, h, c, _⟩
    · exact ⟨_, .inl <| .base (.tup h), kit _ (by simp [tyN])⟩
    · exact ⟨_, .inl <| .fTuple h, kit _ (by simp [tyN])⟩
    · exact ⟨_, .inl <| .kTuple h c, kit _ (by simp [tyN])⟩
  | dct e _ => exact ⟨_, .inl <| .base (.dK e), kit _ (by simp [tyN])⟩
  | dcn e hf _ => exact ⟨_, .inr <| .inl ⟨_, _, rfl, rfl, e, hf.ex.1⟩, kit _ (by simp [tyN])⟩
  | exc e1 e2 k _ _ => exact ⟨_, .inr <| .inr ⟨_, _, rfl, rfl, k, .inr ⟨_, _, e1, e2⟩⟩, (k.isT T hT).trans (congrArg some nod.symm)⟩
  | exn e1 k => exact ⟨_, .inr <| .inr ⟨_, _, rfl, rfl, k, .inl e1⟩, (k.isT T hT).trans (congrArg some nod.symm)⟩
def fIsi (T : String) (f : DEnv → Option (PyData × DEnv)) (env : DEnv) : Option (PyData × DEnv) := (f env).map fun x => (.bool (isiT T (tyN x.1)), x.2)
theorem pd_isi {T : String} {tn : Str} (kit : KitOk X.K T) (hm : X.mg "isinstance" = none) (hmT : X.mg tn = none) (hvT : bootBuiltins tn = some (.type T)) (ha : PD X F e f) (hg : Gl X "isinstance" := by rfl) (hgT : Gl X tn := by rfl) (hnT : tn ≠ "__name__" := by decide) (hdT : (tn == ("__debug__" : Str)) = false := by decide) (h5 : T ∈ fiveT := by decide)
    (he : starEach [e, .Name tn pn] X.env = (false, eval e X.env) :: starEach [.Name tn pn] X.env := by rfl) (he2 : starEach [.Name tn pn] X.env = (false, eval (.Name tn pn) X.env) :: starEach [] X.env := by rfl) (hpl : (backTo pos (starEach [.Name tn pn] X.env)).any (·.1) = false := by rfl) :
    PD X F (.Call (.Name "isinstance" p) [e, .Name tn pn] [] pos) (fIsi T f) :=
  pe_imp (pe_callB call_isiY hg hm (by decide +kernel) (pa_cons ha (pa_cons (pe_bltn (v := .ty T) hgT hmT hvT rfl hnT hdT) pa_nil he2) he) (by decide) (by decide) he hpl) fun σ H Q h => by
    obtain ⟨Z, env, d, env', r, e, q⟩ := h
    obtain ⟨⟨i, e1⟩, h1, e⟩ := mpd e
    cases e
    refine ⟨Z, env, i, e1, r, h1, fun v Z1 H1 r1 s1 d1 => ?_⟩
    obtain ⟨t, ty, kt⟩ := dd_ty kit h5 (DDm d1 r1.zh)
    exact ⟨v, .ty T, _, _, _, rfl, .ty T, ty, kt, q _ Z1 H1 r1 s1 (.bl _)⟩
end

/-! ### the end: the law's call -/
/-- tracked at the start: the script, and the tables cs.2 -/
structure St0 (K : PySem.W.Frag) (h : Heap) (cs : List (Addr × Addr)) (a : Addr) (vs : List Value) (ns : List Int) (H : Hp) : Prop where
  at_a : H a = some (.frz { cls := .type "list", data := .seq vs.toArray } (.lst (ns.map V.int))) ∧ K.lookup a = none ∨ H a = none
  at_t : ∀ q, (∃ c, (c, q) ∈ cs) → H q = some (.tbl #[])
  els : ∀ b, b ≠ a → (¬ ∃ c, (c, b) ∈ cs) → H b = none
  ls : LsR K H a (ns.map V.int)
theorem law_callG {P : Program} {w : World} {K : PySem.W.Frag} {mg mb : Str → Option Value} {k : Nat} {fa a : Addr} {fd : FuncData} {x : Str} {m : List PyData → Option PyData} {s1 : Shared} {vs : List Value} {ns : List Int} {cs : List (Addr × Addr)}
    (KX : K.In s1.heap) (hns : s1.heap.Ns mainGlobals mg) (hb : s1.heap.Ns builtinsNs mb) (hbb : ∀ y : Str, y ≠ "__name__" → mb y = bootBuiltins y) (hlim : s1.heap.NoLimit) (hg : s1.gens = #[])
    (tbs : ∀ c q, (c, q) ∈ cs → s1.heap.get? q = some { cls := .none, data := .fields #[] } ∧ K.lookup q = none ∧ PySem.W.CodeHd s1.heap c q)
    (hbm : ∃ (bm : Addr) (ob : Obj), mg "__builtins__" = some (.ref bm) ∧ bm ≠ builtinsNs ∧ s1.heap.get? bm = some ob ∧ ob.cls = .type "module" ∧ ob.dict = some builtinsNs ∧ ob.data = .plain)
    (ha : s1.heap.get? a = some { cls := .type "list", data := .seq vs.toArray }) (hi : IntsAre vs ns) (hl : ns.length ≤ sizeLine) (hr : Room k callerA) (hlab : ∀ q ∈ Lab.T, ∃ c, (c, q.1) ∈ cs)
    (G : ∀ base : Heap, K.In base → base.Ns mainGlobals mg → (∀ c q, (c, q) ∈ cs → LamX.TabB base mg c q) → FnG P w K mg base k fa fd [x] (spF K 1 m)) (hbind : ∀ (s : Shared) (u : Value), BindsTo s fd ⟨[u], []⟩ [(x, u)])
    (hm : m [.list (ns.map PyData.int)] = some (.bool true)) :
    codeAny (model P w) callerA (.call (.ref fa) ⟨[.ref a], []⟩) (fun r s' => r = .ok (.ret (.bool true)) ∧ OldK s1.heap s'.heap ∧ s'.os = s1.os ∧ AllBare s'.gens) s1 := by
  classical
  have rv := vals_ints hi
  have aT : ¬ ∃ c, (c, a) ∈ cs := fun ⟨c, hc⟩ => by
    have q := (tbs c a hc).1
    rw [ha] at q
    have z' : Data.seq vs.toArray _ = Data.fields #[] := congrArg Obj.data (Option.some.inj q)
    cases z'
  have core : ∀ H : Hp, St0 K s1.heap cs a vs ns H → HOk P w H s1.heap →
      codeAny (model P w) callerA (.call (.ref fa) ⟨[.ref a], []⟩) (fun r s' => r = .ok (.ret (.bool true)) ∧ OldK s1.heap s'.heap ∧ s'.os = s1.os ∧ AllBare s'.gens) s1 := by
   intro H S0 hok
   -- an object that is neither the script nor a table
   have und : ∀ {b : Addr} {o : Obj}, s1.heap.get? b = some o → (∀ us n, o.data ≠ .seq us n) → o.data ≠ .fields #[] → (hidT s1.heap H).get? b = some o := fun {b o} e h1 h2 => by
     refine hidT_get e (S0.els b (fun z => ?_) fun ⟨c, hc⟩ => ?_)
     · rw [z, ha] at e
       cases e
       exact h1 _ _ rfl
     · rw [(tbs c b hc).1] at e
       cases e
       exact h2 rfl
   have nsK : ∀ {b : Addr} {m' : Str → Option Value}, s1.heap.Ns b m' → (hidT s1.heap H).Ns b m' := fun {b m'} ⟨o, es, ep, e, d, r⟩ => ⟨o, es, ep, und e (fun _ _ z => by rw [d] at z; cases z) (fun z => by rw [d] at z; cases z), d, r⟩
   have hKb : K.In (hidT s1.heap H) := fun b o e => hidT_get (KX b o e) (by
      by_cases z : b = a
      · subst z
        rcases S0.at_a with ⟨_, Ha⟩ | Ha
        · rw [Ha] at e; cases e
        · exact Ha
      · exact S0.els b z fun ⟨c, hc⟩ => by rw [(tbs c b hc).2.1] at e; cases e)
   have hM : Mod K mg (hidT s1.heap H) := by
     refine ⟨hKb, nsK hns, ⟨mb, nsK hb, hbb⟩, ?_⟩
     obtain ⟨mc, h1, h2⟩ := hlim
     exact ⟨mc, nsK h1, h2⟩
   have gT : ∀ c q, (c, q) ∈ cs → LamX.TabB (hidT s1.heap H) mg c q := fun c q hc => by
     obtain ⟨t1, _, o, us, fl, x1, x2, x3, x4, x5, x6, e1, r1, r2, r3⟩ := tbs c q hc
     refine ⟨⟨o, us, fl, x1, x2, x3, x4, x5, x6, und e1 (fun _ _ z => by rw [r2] at z; cases z) (fun z => ?_), r1, r2, r3⟩, ?_, fun z => ?_⟩
     · rw [r2] at z
       cases z
       have := r3.1
       simp at this
     · obtain ⟨bm, ob, b1, b2, b3, b4, b5, b6⟩ := hbm
       refine ⟨bm, ob, b1, b2, fun z => ?_, fun z => ?_, und b3 (fun _ _ z => by rw [b6] at z; cases z) (fun z => by rw [b6] at z; cases z), b4, b5, b6⟩
       · obtain ⟨og, es, ep, e, hd, _⟩ := hns
         rw [z, e] at b3
         cases b3
         rw [hd] at b6
         cases b6
       · rw [z, t1] at b3
         cases b3
         cases b6
     · obtain ⟨og, es, ep, e, hd, _⟩ := hns
       rw [z, t1] at e
       cases e
       cases hd
   have e0 : Env0 P w K mg (hidT s1.heap H) callerA [] s1 H := by
     refine ⟨rfl, hM, fun b o e => of_hidT e, Nat.le_of_eq (hidT_size _ _), trivial, fun b hb => ?_, hok, .of_eq hg⟩
     cases (show b ∈ ([] : List Addr) from hb)
   have tb : TB H := fun q hq => LamX.TabS.nil (S0.at_t q.1 (hlab q hq))
   refine codeAny_mono ((G _ hKb (nsK hns) gT).run callerA [] s1 H ⟨[.ref a], []⟩ [.ref a] [.ref a] (fun v _ => v = .bl true) E0 (fun _ => rfl) hr e0 (hbind s1 (.ref a)) (.cons rfl .nil) ⟨rfl, H, _, _, Same.refl H, tb, .cons (.lst S0.ls (dds_ints ns)) .nil, hm, fun v Z' H' gr dd => dd.bool_inv⟩) fun r s' h => ?_
   cases r with
   | error e => cases h
   | ok fl =>
     cases fl with
     | next => cases h
     | brk => cases h
     | cont => cases h
     | ret u =>
       obtain ⟨v, H', os, bare, un, hok', r', q⟩ := h
       cases (show v = .bl true from q)
       cases (show u = Value.bool true from r')
       have kept : ∀ b o, (¬ ∃ c, (c, b) ∈ cs) → s1.heap.get? b = some o → s'.heap.get? b = some o := fun b o nb e => by
         have plain : H b = none → s'.heap.get? b = some o := fun hn => by
           refine un.keep b o e hn (fun z => ?_) (fun z => by cases z)
           cases (show b ∈ ([] : List Addr) from z)
         by_cases hba : b = a
         · subst hba
           rcases S0.at_a with ⟨Ha, _⟩ | Ha
           · obtain ⟨e1, _⟩ := hok b _ Ha
             obtain ⟨e2, _⟩ := hok' b _ (un.frzs b _ _ Ha)
             rw [e] at e1; cases e1
             exact e2
           · exact plain Ha
         · exact plain (S0.els b hba nb)
       have tabs : ∀ b, (∃ c, (c, b) ∈ cs) → ∃ more : Array Value, s'.heap.get? b = some { cls := .none, data := .fields more } := fun b hb => by
         obtain ⟨more, z⟩ := un.tbls b #[] (S0.at_t b hb)
         exact ⟨_, hok' b _ z⟩
       refine ⟨rfl, ⟨fun b o e => ?_, fun b o e => ?_⟩, os, bare⟩
       · by_cases hb : ∃ c, (c, b) ∈ cs
         · obtain ⟨more, hmore⟩ := tabs b hb
           obtain ⟨c, hc⟩ := hb
           obtain ⟨t1, _, hd⟩ := tbs c b hc
           have e' := e.symm.trans t1
           cases e'
           refine .inr (.inl ⟨(hd.tab t1).isCodeTable, rfl, #[], more, rfl, ?_⟩)
           rw [Array.empty_append]
           exact hmore
         · exact .inl (kept b o hb e)
       · by_cases hb : ∃ c, (c, b) ∈ cs
         · obtain ⟨more, hmore⟩ := tabs b hb
           exact ⟨_, hmore⟩
         · exact ⟨o, kept b o hb e⟩
  cases hk : K.lookup a with
  | some o =>
    have e := KX a o hk
    rw [ha] at e
    cases e
    refine core (fun b => if ∃ c, (c, b) ∈ cs then some (.tbl #[]) else none) ⟨.inr (if_neg aT), fun q h => if_pos h, fun b _ h => if_neg h, .inr ⟨vs, _, hk, by rw [List.length_map]; exact hl, rv⟩⟩ fun b u z => ?_
    by_cases h : ∃ c, (c, b) ∈ cs
    · have z' := (if_pos h).symm.trans z
      cases z'
      obtain ⟨c, hc⟩ := h
      exact (tbs c b hc).1
    · have z' := (if_neg h).symm.trans z
      cases z'
  | none =>
    refine core (fun b => if b = a then some (.frz { cls := .type "list", data := .seq vs.toArray } (.lst (ns.map V.int))) else if ∃ c, (c, b) ∈ cs then some (.tbl #[]) else none) ⟨.inl ⟨if_pos rfl, hk⟩, fun q h => ?_, fun b hb h => (if_neg hb).trans (if_neg h), .inl (.inr ⟨_, if_pos rfl⟩)⟩ fun b u z => ?_
    · have : q ≠ a := fun z => aT (z ▸ h)
      exact (if_neg this).trans (if_pos h)
    · by_cases e : b = a
      · subst e
        have z' := (if_pos rfl).symm.trans z
        cases z'
        exact ⟨ha, by rw [List.length_map]; exact hl, vs, _, rv, ha⟩
      · have z1 := (if_neg e).symm.trans z
        by_cases h : ∃ c, (c, b) ∈ cs
        · have z' := (if_pos h).symm.trans z1
          cases z'
          obtain ⟨c, hc⟩ := h
          exact (tbs c b hc).1
        · have z' := (if_neg h).symm.trans z1
          cases z'
end DL
end L2


set_option Elab.async false
set_option maxRecDepth 100000
set_option maxHeartbeats 4000000
set_option autoImplicit false
namespace L2
namespace DL
open PySem PySem.Spec PyProof.Rows
variable [Lab]
/-! ### enumerate over a tuple -/
theorem meets_enum1 {v : Value} {o : Obj} {B : Heap → Prop} (b : PySem.Begins v o B) :
    Meets (Builtin.«enumerate.__new__» ⟨[.type "enumerate", v], []⟩) (fun _ R s => B s.heap ∧
      R (.ok (.ret (.ref (s.heap.push o).objs.size))) { s with heap := (s.heap.push o).push { cls := .type "enumerate", data := .fields #[.none, .bool false, .ref s.heap.objs.size, rawInt 0, .none, .none] } }) :=
  .of_wp fun prog w A R s h => by
    obtain ⟨hp, g, d, tk, os⟩ := s
    obtain ⟨h1, h⟩ := h
    have hsub := sub_enumerate
    have q1 : ∀ {A' : Around} {E : Value → Shared → Prop} {Q : Value → Shared → Prop}, Q (.ref hp.objs.size) ⟨hp.push o, g, d, tk, os⟩ → wpAny (model prog w) A' (pyIter v) Q E ⟨hp, g, d, tk, os⟩ :=
      fun q => b.iter prog w _ _ ⟨hp, g, d, tk, os⟩ _ h1 q
    wp_walk using q1
    refine wpAny_stack_any fun st => wpAny_pure ?_
    split
    · rename_i c _ _ _ _ _
      cases (c == Value.type "enumerate") <;> (wp_walk using q1; exact ⟨_, rfl, h⟩)
    · wp_walk using q1
      exact ⟨_, rfl, h⟩
theorem call_enumT {prog : Program} {w : World} {A : Around} {E : Value → Shared → Prop} {s : Shared} {t : Addr} {items : Array Value} {Q : Value → Shared → Prop} (ht : s.heap.IsTuple t items)
    (h : ∀ h', IsEnum h' (s.heap.objs.size + 1) s.heap.objs.size 0 .none → h'.IsTupleIter s.heap.objs.size t 0 → (∀ b o, s.heap.get? b = some o → h'.get? b = some o) → Q (.ref (s.heap.objs.size + 1)) { s with heap := h' }) :
    wpAny (model prog w) A (call (.type "enumerate") [.ref t]) Q E s := by
  refine callType_new F.called_enumerate (by decide) (F.typeCall_enumerate_1 _) (F.newCall_enumerate_1 _) (fun obj => F.args_object_init_2 obj _) F.entry_enumerate_new (meets_enum1 (begins_tuple t items)) ⟨ht, ?_⟩
  have z : (s.heap.push { cls := .type "tuple_iterator", data := .fields #[.ref t, .int 0 0] }).objs.size = s.heap.objs.size + 1 := Heap.size_push ..
  show _ ∧ _
  rw [z]
  have e : IsEnum ((s.heap.push { cls := .type "tuple_iterator", data := .fields #[.ref t, .int 0 0] }).push { cls := .type "enumerate", data := .fields #[.none, .bool false, .ref s.heap.objs.size, rawInt 0, .none, .none] }) (s.heap.objs.size + 1) s.heap.objs.size 0 .none := by
    have q := Heap.get?_push_size (s.heap.push { cls := .type "tuple_iterator", data := .fields #[.ref t, .int 0 0] }) (o := { cls := .type "enumerate", data := .fields #[.none, .bool false, .ref s.heap.objs.size, rawInt 0, .none, .none] }) rfl
    rw [z] at q
    exact q
  exact ⟨⟨_, e, rfl⟩, h _ e ⟨_, Heap.get?_push_of_some _ (Heap.get?_push_size _ rfl), rfl, rfl⟩ fun b o x => Heap.get?_push_of_some _ (Heap.get?_push_of_some _ x)⟩
def Iet (K : PySem.W.Frag) (a : Addr) : It :=
  ⟨fun i H => ∃ (xs : List V) (x : V), SqT K H a xs ∧ xs[i]? = some x, fun i H v H' => ∃ T x, v = .ref T ∧ H T = none ∧ H' = upd H T (.tup [.int (i : Nat), x]) ∧ ∀ xs, SqT K H a xs → xs[i]? = some x, fun i H => ∃ xs : List V, SqT K H a xs ∧ xs.length = i⟩
theorem turn_enumT {P : Program} {w : World} {K : PySem.W.Frag} {elts : List Expr} {kk : Nat} {tpos : Pos} (a e it : Addr) :
    Turn P w K (.Tuple elts kk tpos) (Iet K a) [e, it] e (fun i h => (∃ old, IsEnum h e it ((i : Nat) : Int) old) ∧ h.IsTupleIter it a i ∧ e ≠ it) where
  mem := by simp
  obj := fun i h st b hb => by
    obtain ⟨⟨old, he⟩, ⟨o, ho, _, hd⟩, _⟩ := st
    rcases (show b = e ∨ b = it by simpa using hb) with z | z
    · rw [z]; exact ⟨_, he, fun v q => nomatch q⟩
    · rw [z]; exact ⟨o, ho, fun v q => by rw [hd] at q; cases q⟩
  keep := fun i h h' st k => by
    obtain ⟨⟨old, he⟩, hi, hne⟩ := st
    exact ⟨⟨old, k e (by simp) _ he⟩, hi.at fun o q => k it (by simp) o q, hne⟩
  item := by
    intro X hP hw hK hc i pins s σ H E I hf st hg
    subst hP hw hK
    obtain ⟨⟨old, he⟩, hit, hne⟩ := st
    obtain ⟨xs, x, hq, hx⟩ := hg
    obtain ⟨its, rv, p, hz⟩ := I.tuple hq
    obtain ⟨u, hu, ru⟩ := rv.get hx
    have hel : e < s.heap.objs.size := Heap.lt_size he
    have hil : it < s.heap.objs.size := by obtain ⟨_, q, _⟩ := hit; exact Heap.lt_size q
    have hae : e ≠ a := fun z => by
      obtain ⟨o, h1, h2, _⟩ := p
      rw [← z] at h1
      have he' : s.heap.get? e = some _ := he
      rw [he'] at h1
      cases h1
      exact absurd (Value.type.inj h2) (by decide)
    have hai : a ≠ it := fun z => by
      obtain ⟨o, h1, h2, _⟩ := p
      obtain ⟨o', h3, h4, _⟩ := hit
      rw [z, h3] at h1
      cases h1
      rw [h4] at h2
      exact absurd (Value.type.inj h2) (by decide)
    have hlt : i < its.toArray.size := by
      obtain ⟨hl, _⟩ := List.getElem?_eq_some_iff.mp hu
      simpa using hl
    refine wpAny_pyNext_enum_itemD (Draws.tuple (A := X.A.in1) (I.ok.hd hc) it a hai its.toArray) he ⟨hit, p⟩ hlt hne (by simp; exact ⟨hne, hae⟩) fun y h' tk hy ho hst hT hsz hk => ?_
    have ey : y = u := by
      have : its.toArray[i]? = some u := by simpa using hu
      rw [this] at hy
      exact (Option.some.inj hy).symm
    subst ey
    refine ⟨_, rfl, wpAny_letOwnedTupleGo_enum (s := { s with heap := h', toks := tk + 1 }) ho fun h'' he' sb => ?_⟩
    have hT2 : h''.get? s.heap.objs.size = some { cls := .type "tuple", data := .seq #[.int i tk, y] } := (sb.2 _ (Nat.ne_of_gt hel)).trans hT
    have new : ObjOk X.prog X.w (upd H s.heap.objs.size (.tup [.int (i : Nat), x])) h'' s.heap.objs.size (.tup [.int (i : Nat), x]) := by
      refine ⟨by show 2 ≤ sizeLine; decide, [.int i tk, y], .cons ⟨_, rfl⟩ (.cons ru .nil), ⟨_, hT2, rfl, _, rfl⟩⟩
    have I1 : Inv X pins σ (upd H s.heap.objs.size (.tup [.int (i : Nat), x])) { s with heap := h'', toks := tk + 1 } := by
      refine I.turnedNew (ch := [e, it]) (fun b ob hb q => ?_) hf (Nat.le_refl _) new
      have nbe : b ≠ e := fun z => hb (by simp [z])
      have nbi : b ≠ it := fun z => hb (by simp [z])
      exact (sb.2 b nbe).trans (hk b ob nbe nbi q)
    refine ⟨.ref s.heap.objs.size, _, I1, rfl, ⟨_, x, rfl, I.hok.fresh (Nat.le_refl _), rfl, fun ys hy => by rw [I.tuple_inj hy hq]; exact hx⟩, ⟨⟨y, ?_⟩, hst.1.at fun o q => (sb.2 it (Ne.symm hne)).trans q, hne⟩, fun b hb => ?_⟩
    · rw [show ((i + 1 : Nat) : Int) = (i : Int) + 1 by omega]
      exact he'
    · have hb' : b < s.heap.objs.size := by
        rcases (show b = e ∨ b = it by simpa using hb) with z | z
        · rw [z]; exact hel
        · rw [z]; exact hil
      rw [upd_ne (Nat.ne_of_lt hb')]
      exact (hf b hb).1
  done := by
    intro X hP hw hK hc i pins s σ H E I hf st hg
    subst hP hw hK
    obtain ⟨⟨old, he⟩, hit, hne⟩ := st
    obtain ⟨xs, hq, hx⟩ := hg
    obtain ⟨its, rv, p, hz⟩ := I.tuple hq
    obtain ⟨f0, f1, f2, f3, f4, f5⟩ := hf it (by simp)
    have hl := rv.length
    have hai : a ≠ it := fun z => by
      obtain ⟨o, h1, h2, _⟩ := p
      obtain ⟨o', h3, h4, _⟩ := hit
      rw [z, h3] at h1
      cases h1
      rw [h4] at h2
      exact absurd (Value.type.inj h2) (by decide)
    have hsz : its.toArray.size = i := by rw [List.size_toArray]; omega
    refine wpAny_pyNext_enum_endD (Draws.tuple (A := X.A.in1) (I.ok.hd hc) it a hai its.toArray) he ⟨by rw [hsz]; exact hit, p⟩ fun h' eb => ?_
    exact ⟨rfl, I.turned (t' := s.toks) (fun b o hb q => eb b o hb q) f0 f1 f3 f4 f5⟩
  self := fun A i s Q E st h => by
    obtain ⟨⟨_, he⟩, _⟩ := st
    exact wpAny_pyIter_enum he h
def iEnumT (K : PySem.W.Frag) (ta : TA) : TI := fun σ H R => ta σ H fun vs H1 => ∃ a xs, vs = [.ref a] ∧ SqT K H1 a xs ∧ R (Iet K a) H1
theorem pi_enumT {X : Cx} {e : Expr} {ta : TA} {p pos tpos : Pos} {elts : List Expr} {kk : Nat} (hg : Gl X "enumerate") (hm : X.mg "enumerate" = none) (ha : PA X [e] ta) (hs : starEach [e] X.env = [(false, eval e X.env)] := by rfl) :
    PI X (.Tuple elts kk tpos) (.Call (.Name "enumerate" p) [e] [] pos) (iEnumT X.K ta) := by
  refine ⟨fun pins s σ H R I h => Call_ (ld_blt I hg hm boot_enumerate (PyProof.Rows.callWith_type1 (thn (ha.run pos pins s σ H _ I h) ?_) hs rfl))⟩
  rintro us s1 ⟨vs, H1, I1, r1, a, xs, rfl, hq, q⟩
  cases r1 with
  | cons r rr =>
    cases rr
    cases r
    obtain ⟨its, rv, p', hz⟩ := I1.tuple hq
    refine call_enumT p' fun h' he hit hk => wpAny_pyIter_enum he ?_
    have I2 : Inv X pins σ H1 { s1 with heap := h' } := I1.kept (t' := s1.toks) hk
    refine ⟨s1.heap.objs.size + 1, [s1.heap.objs.size + 1, s1.heap.objs.size], _, _, H1, rfl, I2, turn_enumT a (s1.heap.objs.size + 1) s1.heap.objs.size, ⟨⟨.none, he⟩, hit, Nat.succ_ne_self _⟩, fun b hb => ?_, q⟩
    have hle : s1.heap.objs.size ≤ b := by
      rcases (show b = s1.heap.objs.size + 1 ∨ b = s1.heap.objs.size by simpa using hb) with z | z <;> rw [z]
      · exact Nat.le_add_right _ _
      · exact Nat.le_refl _
    exact I1.fpOk hle (I1.hok.fresh hle)
theorem walk_enumT {K : PySem.W.Frag} {a : Addr} {xs : List V} : Walk (Iet K a) xs.length (fun H => SqT K H a xs) (YPair (fun i => some (.int (i : Nat))) (fun i => xs[i]?)) := by
  refine ⟨fun i _ hi q => ⟨xs, xs[i], q, by simp [hi]⟩, fun _ q => ⟨xs, q, rfl⟩, fun i H v H' _ q y => ?_⟩
  obtain ⟨T, x, h1, h2, h3, h4⟩ := y
  exact ⟨T, .int (i : Nat), x, h1, h2, h3, rfl, h4 xs q⟩
theorem wd_enumT {K : PySem.W.Frag} {Z : Hp} {a : Addr} {xs : List V} {ds : List PyData} (h : SqT K Z a xs) (hd : DDs K Z xs ds) : WalkD K (Iet K a) Z (enumD ds) := by
  refine ⟨_, _, ((enumD_len ds).trans (dds_len hd).symm) ▸ walk_enumT (K := K) (a := a) (xs := xs), fun H s => same_sqT s h, fun i H x H' Zc hi y s1 s2 => ?_⟩
  obtain ⟨T, u, v, rfl, nT, rfl, e1, e2⟩ := y
  cases e1
  obtain ⟨d, e3, e4⟩ := dds_get' hd e2
  exact ⟨_, _, grow_new s2 nT _, enumD_get e3, new_tup s2 nT (.cons (.int _) (.cons (DDm e4 s1) .nil))⟩
def enumTA : List PyData → Option (List PyData)
  | [.list ds] => some (enumD ds)
  | [.tuple ds] => some (enumD ds)
  | _ => none
theorem di_enumA {X : Cx} {F : Fm} {e : Expr} {fa : DEnv → Option (List PyData × DEnv)} {p pos : Pos} {elts : List Expr} {kk : Nat} {tpos : Pos} (hm : X.mg "enumerate" = none) (ha : PDA X F [e] fa) (hg : Gl X "enumerate" := by rfl) (hs : starEach [e] X.env = [(false, eval e X.env)] := by rfl) :
    PDI X F (.Tuple elts kk tpos) (.Call (.Name "enumerate" p) [e] [] pos) (iArg enumTA fa) := pi_imp (pi_orr (pi_enum hg hm ha hs) (pi_enumT hg hm ha hs)) fun σ H Q h => by
  obtain ⟨Z, env, ds, env', r, e, q⟩ := h
  obtain ⟨⟨d, e1⟩, h1, h⟩ := bnd e
  obtain ⟨ds', h2, h⟩ := mpd h
  cases h
  match d, h1, h2 with
  | [.list js], h1, h2 =>
    cases h2
    refine .inl ⟨Z, env, _, e1, r, h1, fun vs Z1 H1 r1 s1 d1 => ?_⟩
    obtain ⟨v, rfl, d2⟩ := dds1 d1
    cases d2 with
    | @lst a xs _ hr hd => exact ⟨a, xs, rfl, (same_ls r1.zh hr).sq, q _ Z1 H1 r1 s1 (wd_enum hr hd)⟩
  | [.tuple js], h1, h2 =>
    cases h2
    refine .inr ⟨Z, env, _, e1, r, h1, fun vs Z1 H1 r1 s1 d1 => ?_⟩
    obtain ⟨v, rfl, d2⟩ := dds1 d1
    cases d2 with
    | @tup a xs _ hr hd => exact ⟨a, xs, rfl, same_sqT r1.zh hr, q _ Z1 H1 r1 s1 (wd_enumT hr hd)⟩
/-! ### isinstance over written types -/
theorem kit_int (K : PySem.W.Frag) : KitOk K "int" := by
  intro t ht
  simp only [List.mem_cons, List.not_mem_nil, or_false] at ht
  rcases ht with rfl | rfl | rfl | rfl | rfl | rfl | rfl <;> rfl
theorem kit_bool (K : PySem.W.Frag) : KitOk K "bool" := by
  intro t ht
  simp only [List.mem_cons, List.not_mem_nil, or_false] at ht
  rcases ht with rfl | rfl | rfl | rfl | rfl | rfl | rfl <;> rfl
theorem kit_str (K : PySem.W.Frag) : KitOk K "str" := by
  intro t ht
  simp only [List.mem_cons, List.not_mem_nil, or_false] at ht
  rcases ht with rfl | rfl | rfl | rfl | rfl | rfl | rfl <;> rfl
theorem kit_tuple (K : PySem.W.Frag) : KitOk K "tuple" := by
  intro t ht
  simp only [List.mem_cons, List.not_mem_nil, or_false] at ht
  rcases ht with rfl | rfl | rfl | rfl | rfl | rfl | rfl <;> rfl
/-! ### tests that compare -/
section
variable {X : Cx} {F : Fm} {a b c e : Expr} {pos p : Pos} {f g k : DEnv → Option (PyData × DEnv)}
def IsB (o : PyData → PyData → Option PyData) : Prop := ∀ a b d, o a b = some d → ∃ k, d = .bool k
theorem tst_read {K : PySem.W.Frag} {t : TE} {f : DEnv → Option (PyData × DEnv)} (hb : ∀ env d e, f env = some (d, e) → ∃ k, d = .bool k) (ht : ∀ σ H Q, tD K F f σ H Q → t σ H Q) {σ : St} {H : Hp} {Q : Bool → Hp → Prop} (h : tDT K F (fTst f) σ H Q) : tTest t σ H Q := by
  obtain ⟨Z, env, d, env', r, e, q⟩ := h
  obtain ⟨⟨x, e1⟩, h1, h⟩ := bnd e
  obtain ⟨k, h2, h⟩ := mpd h
  cases h
  obtain ⟨k', rfl⟩ := hb _ _ _ h1
  cases h2
  exact ht σ H _ ⟨Z, env, _, e1, r, h1, fun v Z1 H1 r1 s1 d1 => ⟨_, d1.bool_inv, q Z1 H1 r1 s1⟩⟩
theorem fBin_b {o : PyData → PyData → Option PyData} (hb : IsB o) (env : DEnv) (d : PyData) (e : DEnv) (h : fBin o f g env = some (d, e)) : ∃ k, d = .bool k := by
  obtain ⟨x, _, h⟩ := bnd h
  obtain ⟨y, _, h⟩ := bnd h
  obtain ⟨z, h1, h⟩ := mpd h
  cases h
  exact hb _ _ _ h1
theorem pdt_cmp {op : CmpOp} {o : PyData → PyData → Option PyData} (ho : OpD X (compareOp op) o) (hb : IsB o) (ha : PD X F a f) (hc : PD X F b g) (hm : behindInMarks op b = false := by first | exact nomark _ | rfl) : PDT X F (.Compare a [op] [b] pos) (fTst (fBin o f g)) :=
  pt_imp (pt_cmpR ho ha hc hm) fun _ _ _ h => tst_read (fBin_b hb) (fun _ _ _ h => bin_read h) h
theorem cmpN_read {K : PySem.W.Frag} {o : PyData → PyData → Option PyData} {i : Nat} (hs : ∀ a b d, o a b = some d → scalD d = true) {σ : St} {H : Hp} {Q : VK} (h : tD K F (fCmpN o f i) σ H Q) : tOp (r2D K o) (tD K F f) (tVar i) σ H Q := by
  obtain ⟨Z, env, d, env', r, e, q⟩ := h
  obtain ⟨⟨x, e1⟩, h1, h⟩ := bnd e
  obtain ⟨y, h2, h⟩ := bnd h
  obtain ⟨d', h3, h⟩ := mpd h
  cases h
  refine ⟨Z, env, x, e1, r, h1, fun v1 Z1 H1 r1 s1 d1 => ?_⟩
  obtain ⟨v, ev, dv⟩ := r1.rdB h2
  refine ⟨v, ev, H1, x, y, d, Same.refl H1, DDm d1 r1.zh, dv, h3, fun v' Z' H' gr dd => ?_⟩
  have gr' : Grow Z1 H1 Z1 H' := ⟨Same.refl _, r1.zh.trans gr.h, gr.h, gr.t, fun _ z => .inl z⟩
  exact q v' Z1 H' (r1.grow gr') (s1.trans gr'.stp) (dd.scal (hs _ _ _ h3))
theorem pdt_cmpN {op : CmpOp} {o : PyData → PyData → Option PyData} (ho : OpD X (compareOp op) o) (hs : ∀ a b d, o a b = some d → scalD d = true) (hb : IsB o) (ha : PD X F a f) (i : Nat) {x : Str} (hm : behindInMarks op (.Name x p) = false := by first | exact nomark _ | rfl)
    (hN : X.N[i]? = some x := by rfl) (hv : Vis X.env.scope x := by first | exact Or.inl rfl | exact Or.inr (Or.inl rfl) | exact Or.inr (Or.inr rfl)) (hd : (x == ("__debug__" : Str)) = false := by decide)
    (hcd : (x == ("__classdict__" : Str)) = false := by decide) : PDT X F (.Compare a [op] [.Name x p] pos) (fTst (fCmpN o f i)) :=
  pt_imp (pt_cmpR ho ha (pe_var hN hv hd hcd) hm) fun _ _ _ h => tst_read (fun env d e h => by
    obtain ⟨x, _, h⟩ := bnd h
    obtain ⟨y, _, h⟩ := bnd h
    obtain ⟨z, h1, h⟩ := mpd h
    cases h
    exact hb _ _ _ h1) (fun _ _ _ h => cmpN_read hs h) h
theorem chain_read {K : PySem.W.Frag} {o o' : PyData → PyData → Option PyData} {σ : St} {H : Hp} {Q : VK} (h : tD K F (fChain o o' f g k) σ H Q) : tChain (r2D K o) (r2D K o') (tD K F f) (tD K F g) (tD K F k) σ H Q := by
  obtain ⟨Z, env, d, env', r, e, q⟩ := h
  obtain ⟨⟨x, e1⟩, h1, h⟩ := bnd e
  obtain ⟨⟨y, e2⟩, h2, h⟩ := bnd h
  obtain ⟨z, h3, h⟩ := bnd h
  refine ⟨Z, env, x, e1, r, h1, fun v1 Z1 H1 r1 s1 d1 => ⟨Z1, e1, y, e2, r1, h2, fun v2 Z2 H2 r2 s2 d2 => ⟨Z2, x, y, z, r2.zh, DDm d1 s2.z, d2, h3, fun vz Z3 H3 gr dz => ?_⟩⟩⟩
  have s12 := s1.trans s2
  match z, h, dz with
  | .bool true, h, dz =>
    obtain ⟨⟨w, e3⟩, h4, h⟩ := bnd h
    obtain ⟨d', h5, h⟩ := mpd h
    cases h
    cases dz.bool_inv
    refine ⟨true, rfl, iteT ⟨Z3, e2, w, e3, r2.grow gr, h4, fun v3 Z4 H4 r4 s4 d4 => ⟨Z4, y, w, d, r4.zh, DDm (DDm d2 gr.z) s4.z, d4, h5, fun v5 Z5 H5 g5 d5 => ?_⟩⟩⟩
    exact q v5 Z5 H5 (r4.grow g5) (((s12.trans gr.stp).trans s4).trans g5.stp) d5
  | .bool false, h, dz =>
    cases h
    cases dz.bool_inv
    exact ⟨false, rfl, iteF (q _ Z3 H3 (r2.grow gr) (s12.trans gr.stp) (.bl false))⟩
theorem pdt_chain {op op' : CmpOp} {o o' : PyData → PyData → Option PyData} (ho : OpD X (compareOp op) o) (ho' : OpD X (compareOp op') o') (hb' : IsB o') (ha : PD X F a f) (hb : PD X F b g) (hc : PD X F c k) (hm : lastMarks [op, op'] [b, c] = false := by with_unfolding_all rfl) :
    PDT X F (.Compare a [op, op'] [b, c] pos) (fTst (fChain o o' f g k)) := pt_imp (pt_chain ho ho' ha hb hc hm) fun _ _ _ h => tst_read (fun env d e h => by
  obtain ⟨x, _, h⟩ := bnd h
  obtain ⟨y, _, h⟩ := bnd h
  obtain ⟨z, _, h⟩ := bnd h
  match z, h with
  | .bool true, h =>
    obtain ⟨w, _, h⟩ := bnd h
    obtain ⟨z, h1, h⟩ := mpd h
    cases h
    exact hb' _ _ _ h1
  | .bool false, h => cases h; exact ⟨_, rfl⟩) (fun _ _ _ h => chain_read h) h
theorem eqD_b : IsB eqD := fun a b d h => by obtain ⟨k, _, rfl⟩ := mpd h; exact ⟨_, rfl⟩
theorem neD_b : IsB neD := fun a b d h => by obtain ⟨k, _, rfl⟩ := mpd h; exact ⟨_, rfl⟩
theorem inD_b : IsB inD := fun a b d h => by obtain ⟨k, _, rfl⟩ := mpd h; exact ⟨_, rfl⟩
theorem intD_b {c : Int → Int → Bool} {o : Int → Int → Bool} : IsB (intD c fun i j => .bool (o i j)) := fun a b d h => by
  match a, b, h with
  | .int i, .int j, h =>
    change (if c i j then some (PyData.bool (o i j)) else none) = some d at h
    split at h <;> cases h
    exact ⟨_, rfl⟩
def fNeg (f : DEnv → Option (PyData × DEnv)) (env : DEnv) : Option (PyData × DEnv) := (f env).bind fun x => match x.1 with
  | .int i => some (.int (-i), x.2)
  | _ => none
theorem pd_neg (ha : PD X F a f) : PD X F (.UnaryOp .USub a pos) (fNeg f) := pe_imp (pe_un un_neg ha) fun σ H Q h => by
  obtain ⟨Z, env, d, env', r, e, q⟩ := h
  obtain ⟨⟨x, e1⟩, h1, h⟩ := bnd e
  match x, h1, h with
  | .int i, h1, h =>
    cases h
    refine ⟨Z, env, .int i, e1, r, h1, fun v Z1 H1 r1 s1 d1 => ?_⟩
    cases d1.int_inv
    exact ⟨i, rfl, q _ Z1 H1 r1 s1 (.int _)⟩
end
end DL
end L2


set_option Elab.async false
set_option maxRecDepth 100000
set_option maxHeartbeats 4000000
set_option autoImplicit false
namespace L2
namespace DL
open PySem PySem.Spec PyProof.Rows
variable [Lab]
section
variable {X : Cx} {F : Fm} {a b c e tg iter : Expr} {es : List Expr} {s : Stmt} {ss s2 : List Stmt} {pos p pn : Pos} {x y : Str} {f g : DEnv → Option (PyData × DEnv)} {fa fn : DEnv → Option (List PyData × DEnv)} {ft : DEnv → Option (Bool × DEnv)} {h1 h2 : DEnv → Option DFlow}
def intsD : List PyData → Option (List Int)
  | [] => some []
  | .int b :: r => (intsD r).map (b :: ·)
  | _ => none
theorem ints_of {K : PySem.W.Frag} {Z : Hp} : ∀ {vs : List V} {ds : List PyData} {bs : List Int}, DDs K Z vs ds → intsD ds = some bs → vs = bs.map V.int
  | _, [], bs, h, e => by cases e; cases h; rfl
  | _, .int b :: r, bs, h, e => by
    obtain ⟨cs, e1, rfl⟩ := mpd e
    cases h with
    | cons h1 h2 =>
      cases h1.int_inv
      rw [ints_of h2 e1]
      rfl
  | _, .none :: _, _, _, e => by cases e
  | _, .bool _ :: _, _, _, e => by cases e
  | _, .str _ :: _, _, _, e => by cases e
  | _, .list _ :: _, _, _, e => by cases e
  | _, .tuple _ :: _, _, _, e => by cases e
  | _, .dict _ :: _, _, _, e => by cases e
def sumD : List PyData → Option PyData
  | [.list ds] => (intsD ds).map fun bs => .int bs.sum
  | _ => none
theorem cd_sum (hc : X.calm = true) : CallD X (.builtin "sum") sumD := by
  intro pins s σ H xs us Q I r h
  obtain ⟨Z, ds, d, sz, hd, e, q⟩ := h
  match ds, hd, e with
  | [.list ds], hd, e =>
    obtain ⟨bs, e1, rfl⟩ := mpd e
    obtain ⟨v, rfl, h1⟩ := dds1 hd
    cases h1 with
    | @lst a ys _ hr ha =>
      have := ints_of ha e1
      subst this
      exact cr_sum hc pins s σ H _ us Q I r ⟨a, bs, rfl, (same_ls sz hr).sq, q _ Z H (Grow.refl sz) (.int _)⟩
end
/-! ### small data -/
structure Sm (k w : Nat) (d : PyData) : Prop where
  lay : d.canLay0 = true
  sh : d.showable = true
  nd : d.hasDict = false
  sho : d.intsShort 13 = true
  dp : d.depth ≤ k
  wt : d.weight ≤ w
theorem Sm.mono {k w k' w' : Nat} {d : PyData} (h : Sm k w d) (hk : k ≤ k') (hw : w ≤ w') : Sm k' w' d := ⟨h.lay, h.sh, h.nd, h.sho, Nat.le_trans h.dp hk, Nat.le_trans h.wt hw⟩
theorem sm_all {k w : Nat} : ∀ (ds : List PyData), (∀ d ∈ ds, Sm k w d) → PyData.canLayAll0 ds = true ∧ PyData.showableAll ds = true ∧ PyData.hasDictAll ds = false ∧ PyData.intsShortAll 13 ds = true ∧ PyData.depthAll ds ≤ k ∧ PyData.weightAll ds ≤ ds.length * (w + 1)
  | [], _ => ⟨rfl, rfl, rfl, rfl, Nat.zero_le _, by simp [PyData.weightAll]⟩
  | d :: ds, h => by
    obtain ⟨a, b, c, e, f, g⟩ := sm_all ds fun x hx => h x (List.mem_cons_of_mem _ hx)
    have hd := h d List.mem_cons_self
    refine ⟨by simp [PyData.canLayAll0, hd.lay, a], by simp [PyData.showableAll, hd.sh, b], by simp [PyData.hasDictAll, hd.nd, c], by simp [PyData.intsShortAll, hd.sho, e], ?_, ?_⟩
    · simp only [PyData.depthAll]
      exact Nat.max_le.mpr ⟨hd.dp, f⟩
    · simp only [PyData.weightAll, List.length_cons, Nat.succ_mul]
      have := hd.wt
      omega
theorem Sm.tuple {k w n : Nat} {ds : List PyData} (h : ∀ d ∈ ds, Sm k w d) (hn : ds.length ≤ n) : Sm (k + 1) (n * (w + 1)) (.tuple ds) := by
  obtain ⟨a, b, c, e, f, g⟩ := sm_all ds h
  exact ⟨a, b, c, e, Nat.succ_le_succ f, Nat.le_trans g (Nat.mul_le_mul_right _ hn)⟩
theorem Sm.list {k w n : Nat} {ds : List PyData} (h : ∀ d ∈ ds, Sm k w d) (hn : ds.length ≤ n) : Sm (k + 1) (n * (w + 1)) (.list ds) := by
  obtain ⟨a, b, c, e, f, g⟩ := sm_all ds h
  exact ⟨a, b, c, e, Nat.succ_le_succ f, Nat.le_trans g (Nat.mul_le_mul_right _ hn)⟩
theorem Sm.shaped {k w : Nat} {d : PyData} (h : Sm k w d) (hk : k ≤ 64) : SeqAt.shaped d = true := by
  unfold SeqAt.shaped
  rw [h.lay, decide_eq_true (Nat.le_trans h.dp hk)]
  rfl
theorem Sm.repr {k w : Nat} {d : PyData} (h : Sm k w d) (hk : k ≤ 64) (hw : w ≤ 1048576) : reprOk d = true := by
  have hl : PyData.layable0 d = true := by
    unfold PyData.layable0
    rw [h.lay, decide_eq_true (Nat.le_trans h.dp hk), decide_eq_true (Nat.le_trans h.wt hw)]
    rfl
  have h1 := PyProof.Rows.shown_le13 hl h.sho
  have h2 : d.shown.length ≤ sizeLine := Nat.le_trans h1 (by decide)
  rw [reprOk, h.sh, h.nd, decide_eq_true h2, decide_eq_true (Nat.le_trans h.dp hk)]
  rfl
theorem Sm.shD {k w : Nat} {d : PyData} (h : Sm k w d) (hk : k ≤ 64) : DL.shD d = true := by
  unfold DL.shD
  rw [h.shaped hk, h.nd]
  rfl
/-! ### evaluating a mirror step by step -/
theorem ev_cb {o : List PyData → Option PyData} {fa : DEnv → Option (List PyData × DEnv)} {env e1 : DEnv} {ds : List PyData} {d : PyData} (h : fa env = some (ds, e1)) (h2 : o ds = some d) : fCB o fa env = some (d, e1) := by
  unfold fCB; rw [h]; show (o ds).map _ = _; rw [h2]; rfl
theorem ev_frz {fa : DEnv → Option (List PyData × DEnv)} {env e1 : DEnv} {ds : List PyData} (h : fa env = some (ds, e1)) : fFrz fa env = some (.list ds, e1) := by
  unfold fFrz; rw [h]; rfl
theorem ev_cons {f : DEnv → Option (PyData × DEnv)} {fa : DEnv → Option (List PyData × DEnv)} {env e1 e2 : DEnv} {d : PyData} {ds : List PyData} (h : f env = some (d, e1)) (h2 : fa e1 = some (ds, e2)) : fCons f fa env = some (d :: ds, e2) := by
  unfold fCons; rw [h]; show (fa e1).map _ = _; rw [h2]; rfl
theorem ev_nil {env : DEnv} : fNil env = some ([], env) := rfl
theorem ev_seq {f g : DEnv → Option DFlow} {env e1 : DEnv} {fl : DFlow} (h : f env = some (.nx e1)) (h2 : g e1 = some fl) : sSeq f g env = some fl := by
  unfold sSeq; rw [h]; exact h2
theorem ev_for {fi : DEnv → Option (List PyData × DEnv)} {g : PyData → DEnv → Option DEnv} {b : DEnv → Option DFlow} {env e1 : DEnv} {ds : List PyData} {fl : DFlow} (h : fi env = some (ds, e1)) (h2 : forD g b ds e1 = some fl) : sFor fi g b env = some fl := by
  unfold sFor; rw [h]; exact h2
theorem ev_ret {f : DEnv → Option (PyData × DEnv)} {env e1 : DEnv} {d : PyData} (h : f env = some (d, e1)) : sRet f env = some (.rt d e1) := by
  unfold sRet; rw [h]; rfl
theorem ev_ifT {ft : DEnv → Option (Bool × DEnv)} {h1 h2 : DEnv → Option DFlow} {env e1 : DEnv} {fl : DFlow} (h : ft env = some (true, e1)) (h' : h1 e1 = some fl) : sIf ft h1 h2 env = some fl := by
  unfold sIf; rw [h]; exact h'
theorem ev_ifF {ft : DEnv → Option (Bool × DEnv)} {h1 h2 : DEnv → Option DFlow} {env e1 : DEnv} {fl : DFlow} (h : ft env = some (false, e1)) (h' : h2 e1 = some fl) : sIf ft h1 h2 env = some fl := by
  unfold sIf; rw [h]; exact h'
theorem ev_tst {f : DEnv → Option (PyData × DEnv)} {env e1 : DEnv} {d : PyData} {k : Bool} (h : f env = some (d, e1)) (h2 : truthD d = some k) : fTst f env = some (k, e1) := by
  unfold fTst; rw [h]; show (truthD d).map _ = _; rw [h2]; rfl
theorem ev_bin {o : PyData → PyData → Option PyData} {f g : DEnv → Option (PyData × DEnv)} {env e1 e2 : DEnv} {a b d : PyData} (h : f env = some (a, e1)) (h2 : g e1 = some (b, e2)) (h3 : o a b = some d) : fBin o f g env = some (d, e2) := by
  unfold fBin; rw [h]; show (g e1).bind _ = _; rw [h2]; show (o a b).map _ = _; rw [h3]; rfl
theorem ev_cmpN {o : PyData → PyData → Option PyData} {f : DEnv → Option (PyData × DEnv)} {i : Nat} {env e1 : DEnv} {a b d : PyData} (h : f env = some (a, e1)) (h2 : rdB i e1 = some b) (h3 : o a b = some d) : fCmpN o f i env = some (d, e1) := by
  unfold fCmpN; rw [h]; show (rdB i e1).bind _ = _; rw [h2]; show (o a b).map _ = _; rw [h3]; rfl
theorem ev_seqI {f : DEnv → Option (PyData × DEnv)} {env e1 : DEnv} {d : PyData} {ds : List PyData} (h : f env = some (d, e1)) (h2 : seqD d = some ds) : iSeq f env = some (ds, e1) := by
  unfold iSeq; rw [h]; show (seqD d).map _ = _; rw [h2]; rfl
theorem ev_lst {fa : DEnv → Option (List PyData × DEnv)} {env e1 : DEnv} {ds : List PyData} (h : fa env = some (ds, e1)) (h2 : ds.length ≤ lim) : fLst fa env = some (ds, e1) := by
  unfold fLst; rw [h]; exact if_pos h2
theorem ev_forN {g : PyData → DEnv → Option DEnv} {b : DEnv → Option DFlow} {d : PyData} {ds : List PyData} {env e1 e2 : DEnv} {fl : DFlow} (hg : g d env = some e1) (hb : b e1 = some (.nx e2)) (h : forD g b ds e2 = some fl) : forD g b (d :: ds) env = some fl := by
  rw [forD, hg]; show (b e1).bind _ = _; rw [hb]; exact h
/-- what is known of the law's def at the head's heap -/
def LawG (l : PySem.W.OpenLaw) (w : World) (K : PySem.W.Frag) (k : Nat) (x : Str) (m : List PyData → Option PyData) (mg : Str → Option Value) (fa : Addr) (h : Heap) : Prop :=
  ∃ (fd : FuncData) (cs : List (Addr × Addr)) (L : Lab), (∀ c q, (c, q) ∈ cs → h.get? q = some { cls := .none, data := .fields #[] } ∧ K.lookup q = none ∧ PySem.W.CodeHd h c q) ∧ (∀ q ∈ L.T, ∃ c, (c, q.1) ∈ cs) ∧
    (∀ (s : Shared) (u : Value), BindsTo s fd ⟨[u], []⟩ [(x, u)]) ∧ ∀ base : Heap, K.In base → base.Ns mainGlobals mg → (∀ c q, (c, q) ∈ cs → LamX.TabB base mg c q) → FnG l.prog w K mg base k fa fd [x] (spF K 1 m)
omit [Lab] in
theorem walk_g {l : PySem.W.OpenLaw} {n k : Nat} {q : Program} {loose : List Str} {XP : (Str → Option Value) → Heap → Prop} {YP : World → Heap → Prop} {d : DefRec} {K : Params → PySem.W.Frag} {m : List PyData → Option PyData} {x : Str}
    (hn : l.most = some n) (hn2 : n ≤ sizeLine) (hdf : d.params.defaults = []) (hr : Room k callerA) (hY : ∀ (w : World) (h : Heap), YP w h → (K w.params).In h)
    (G : ∀ (w : World) (mg : Str → Option Value) (fa : Addr) (h : Heap), YP w h → (K w.params).In h → h.Ns mainGlobals mg → mg d.name = some (.ref fa) → LawG l w (K w.params) k x m mg fa h)
    (hm : ∀ ns : List Int, ns.length ≤ n → m [.list (ns.map PyData.int)] = some (.bool true)) :
    PySem.W.WalkO q loose XP YP l.row.toRowW d [] (fun f vs => PySem.call f vs) := by
  refine Att.attach_call hn hdf fun w s0 s1 mg mb fa o pm cd doc a vs ns Gr Y ho hd hcd hmg hobj hints hlen hg => ?_
  have KX := hY w _ Y
  obtain ⟨fd, cs, L, h1, h2, hb, hF⟩ := G w mg fa _ Y KX Gr.T.g hmg
  letI := L
  exact law_callG KX Gr.T.g Gr.T.b Gr.T.builtins Gr.T.nolimit hg h1 Gr.T.bmain hobj hints (Nat.le_trans hlen hn2) hr h2 hF hb (hm ns hlen)
omit [Lab] in
theorem cInt [LabW] {K : PySem.W.Frag} {h : Heap} {mg : Str → Option Value} (X : K.In h) (G : h.Ns mainGlobals mg) {x : Str} {i : Int} {t : Tok} (a : PySem.W.nsIn K mainGlobals x = some (some (.int i t))) : ∃ uv : Value × V, mg x = some uv.1 ∧ RelV uv.2 uv.1 ∧ ∀ Z, DD K Z uv.2 (.int i) :=
  ⟨(.int i t, .int i), PySem.W.mg_of X G a, ⟨t, rfl⟩, fun _ => .int i⟩
omit [Lab] in
theorem cStrs [LabW] {K : PySem.W.Frag} {h : Heap} {mg : Str → Option Value} (X : K.In h) (G : h.Ns mainGlobals mg) {x : Str} {p : Addr} {oc : Value} {od : Option Addr} {its : Array Value} {n : Nat} {sl : Array (Option Value)} {ss : List Str} (a : PySem.W.nsIn K mainGlobals x = some (some (.ref p)))
    (l : K.lookup p = some ⟨oc, od, .seq its n, sl⟩) (hc : oc = .type "tuple") (hz : its.size ≤ sizeLine) (hv : Vals (ss.map V.str) its.toList) : ∃ uv : Value × V, mg x = some uv.1 ∧ RelV uv.2 uv.1 ∧ ∀ Z, DD K Z uv.2 (.tuple (ss.map PyData.str)) := by
  refine ⟨(.ref p, .ref p), PySem.W.mg_of X G a, rfl, fun Z => .tup (.inr ⟨_, its, n, l, hc, rfl, hz, hv⟩) ?_⟩
  clear hv
  induction ss with
  | nil => exact .nil
  | cons s ss ih => exact .cons (.str s) ih
end DL
end L2


set_option Elab.async false
set_option maxRecDepth 100000
set_option maxHeartbeats 4000000
set_option autoImplicit false
namespace L2
namespace DL
open PySem PySem.Spec PyProof.Rows
variable [Lab]
/-! ### exceptions: what a def may let out -/
inductive XR where
  | ok (d : PyData) | ex (c a : Str) (d : PyData)
inductive DX where
  | ok (d : PyData) (env : DEnv) | ex (c a : Str) (d : PyData) (env : DEnv)
/-- a wish by the classes' names, as one by their addresses -/
def wx (C : Str → Addr) (W : Str → Option Addr → St → Hp → Prop) : WX := fun cls d σ H => ∃ c, cls = .ref (C c) ∧ W c d σ H
structure FnX (P : Program) (w : World) (K : PySem.W.Frag) (mg : Str → Option Value) (base : Heap) (k : Nat) (f : Addr) (fd : FuncData) (ps : List Str) (sp : Sp) : Prop where
  len : ∀ vs H Q E, sp vs H Q E → vs.length = ps.length
  run : ∀ (A : Around) (outer : List Env) (s : Shared) (H : Hp) (args : Args) (us : List Value) (vs : List V) (Q : VK) (E : XK),
    GdOk A → Room k A → Env0 P w K mg base A outer s H → BindsTo s fd args (ps.zip us) → Vals vs us → sp vs H Q E →
    codeAny (model P w) A (.call (.ref f) args) (CR (L2.CX P w) outer P w H s Q E) s
theorem FnX.mono {P : Program} {w : World} {K : PySem.W.Frag} {mg : Str → Option Value} {base : Heap} {j k : Nat} {f : Addr} {fd : FuncData} {ps : List Str} {sp : Sp}
    (G : FnX P w K mg base j f fd ps sp) (h : j ≤ k) : FnX P w K mg base k f fd ps sp :=
  ⟨G.len, fun A outer s H args us vs Q E hg hr => G.run A outer s H args us vs Q E hg (hr.mono h)⟩
section
variable {P : Program} {w : World} {K : PySem.W.Frag} {mg : Str → Option Value} {base : Heap}
theorem fnx_of {x qual : Str} {st : Stmt} {f : Addr} {fd : FuncData} {N ps : List Str} {k : Nat} {sp : Sp} (D : Fun K x qual st f fd) (S : FnScope N ps (defScope st)) (len : ∀ vs H Q E, sp vs H Q E → vs.length = ps.length)
    (hbody : ∀ (cdv : Value) (A : Around) (outer : List Env) (s : Shared) (H : Hp) (vs : List V) (Q : VK) (E : XK), cdv = fd.code → GdOk A →
      Room k (A.deeper (envOfC qual (defScope st) s.heap.objs.size f cdv)) → sp vs H Q E →
      ∃ t, PSs (cxOf (L2.CX P w) P w K mg base N qual (defScope st) f cdv A outer s H E) (defBody st) t ∧ t { nx := fun _ H' => Q .non H', rt := Q } (start N vs) H) :
    FnX P w K mg base (k + 1) f fd ps sp := by
  obtain ⟨oc, od, kV, doc, pm, an, cdv, ct, osl, rfl, lk, hcd⟩ := D.ex
  refine ⟨len, fun A outer s H args us vs Q E hgd hr e0 hb rv hsp => ?_⟩
  have sl := len vs H Q E hsp
  have kin : K.In s.heap := e0.mod.kin.keeps fun b o q => (e0.bs b o q).1
  have nol : s.heap.NoLimit := e0.mod.nolimit.keeps fun b o q => (e0.bs b o q).1
  have kinds : ∀ y ∈ ps.zip us, (defScope st).names.lookup y.1 = some .local ∨
      ((defScope st).names.lookup y.1 = some .cell ∧ ((cellsFrom (s.heap.objs.size + 1) (defScope st).names []).lookup y.1).isSome = true) := by
    rintro ⟨n, z⟩ hy
    rcases S.par n (List.of_mem_zip hy).1 with e | e
    · exact .inl e
    · exact .inr ⟨e, PySem.W.cellsFrom_some _ _ _ (.inl e)⟩
  refine codeAny_call_function hr.depth (kin _ _ lk) rfl S.co S.gen rfl (PySem.W.codeRec_of kin hcd) (hb _ _ _ _ (wpAny_newFunctionEnv_cells S.kind kinds fun env he s1 x1 => ?_))
  subst he
  obtain ⟨t, ht, hq⟩ := hbody cdv A outer s H vs Q E rfl hgd (hr.deeper _) hsp
  have J0 : Inv (cxOf (L2.CX P w) P w K mg base N qual (defScope st) f cdv A outer s H E) [] (start N vs) H s1 := inv_start S hr.hd e0 sl rv x1
  refine ⟨nol.keeps x1.toInCall.keep, codeAny_func (wpAny_mono (ht.run [] s1 (start N vs) H _ J0 hq) (fun fl s' hs => ?_) fun e s' hs => hs)⟩
  cases fl with
  | ret u => obtain ⟨v, s2, H', J, r1, q⟩ := hs; exact ⟨v, H', J.os, J.bare, J.base, J.hok, r1, q⟩
  | next => obtain ⟨s2, H', J, q⟩ := hs; exact ⟨V.non, H', J.os, J.bare, J.base, J.hok, rfl, q⟩
  | brk => obtain ⟨_, _, _, q⟩ := hs; cases q
  | cont => obtain ⟨_, _, _, q⟩ := hs; cases q
end
section
variable {X : Cx} {F : Fm} {W : WX} {k : Nat} {f : Addr} {fd : FuncData} {ps ks : List Str} {sp : Sp} {x : Str} {p pos : Pos} {e : Expr} {es : List Expr} {t tk : TA} {kws : List Keyword}
theorem run_x {pins : List (Addr × Obj)} {σ : St} {H : Hp} {s : Shared} {Q : VK} {args : Args} {us : List Value} {vs : List V} (tk : Takes X W) (G : FnX X.prog X.w X.K X.mg X.base k f fd ps sp) (hg : GdOk X.A) (hr : Room k X.A)
    (hb : BindsTo s fd args (ps.zip us)) (I : Inv X pins σ H s) (rv : Vals vs us) (h : sp vs H Q fun cls d H' => W cls d σ H') : wpAny (model X.prog X.w) X.A (call (.ref f) args.pos args.kw) (EP X pins σ Q) X.xe s := by
  refine wpAny_call (codeAny_mono (G.run X.A X.stack s H args us vs Q _ hg hr I.env0 hb rv h) fun r s' hq => ?_)
  cases r with
  | error z => exact tk _ _ (XE.of_call I (fun _ _ _ h => h) hq)
  | ok fl =>
    cases fl with
    | ret u => exact I.after hq
    | next => cases hq
    | brk => cases hq
    | cont => cases hq
theorem pe_xcall (tk : Takes X W) (G : FnX X.prog X.w X.K X.mg X.base k f fd ps sp) (hgd : GdOk X.A) (hr : Room k X.A) (hm : X.mg x = some (.ref f)) (hk : PySem.W.keepIn X.K (.ref f) = true) (hb : Binds X.K fd ps [])
    (ha : PA X (e :: es) t) (hg : Gl X x := by rfl) (hdb : (x == ("__debug__" : Str)) = false := by decide)
    (he : starEach (e :: es) X.env = (false, eval e X.env) :: starEach es X.env := by rfl) (hpl : (backTo pos (starEach es X.env)).any (·.1) = false := by rfl) :
    PE X (.Call (.Name x p) (e :: es) [] pos) (fun σ H Q => t σ H fun vs H1 => sp vs H1 Q fun cls d H' => W cls d σ H') := by
  refine ⟨fun pins s σ H Q I h => wpAny_Call_Name_kw (ld_glob I hg hm (PySem.W.callWith_K (h₀ := X.base) I.ok.mod.kin hk (thn (ha.run pos pins s σ H _ I h) ?_) he hpl) hdb)⟩
  rintro us s1 ⟨vs, H1, I1, rv, q⟩
  have hl : us.length = ps.length := by rw [← rv.length]; exact G.len _ _ _ _ q
  refine ⟨I1.kIn, run_x (args := ⟨us, []⟩) (us := us) tk G hgd hr ?_ I1 rv q⟩
  have := hb s1 us I1.kIn (by rw [List.append_nil]; exact hl)
  rw [List.append_nil] at this
  exact this
end

/-! ### the promise -/
def FinX (K : PySem.W.Frag) (C : Str → Addr) (Z H : Hp) (Q : VK) (E : XK) : XR → Prop
  | .ok d => ∀ v Z' H', Grow Z H Z' H' → DD K Z' v d → Q v H'
  | .ex c a d => ∀ v p Z' H', Grow Z H Z' H' → H p = none → Z' p = none → H' p = some (.xd [(a, v)]) → DD K Z' v d → E (.ref (C c)) (some p) H'
def spX (K : PySem.W.Frag) (C : Str → Addr) (n : Nat) (m : List PyData → Option XR) : Sp := fun vs H Q E => vs.length = n ∧ ∃ Z ds r, Same Z H ∧ TB H ∧ DDs K Z vs ds ∧ m ds = some r ∧ FinX K C Z H Q E r
def okX (o : Option XR) : Option PyData := match o with
  | some (.ok d) => some d
  | _ => none
theorem okX_eq {o : Option XR} {d : PyData} (h : okX o = some d) : o = some (.ok d) := by
  match o, h with
  | some (.ok _), h => cases h; rfl
/-- called where it does not raise -/
theorem fng_of_x {P : Program} {w : World} {K : PySem.W.Frag} {mg : Str → Option Value} {base : Heap} {C : Str → Addr} {k n : Nat} {f : Addr} {fd : FuncData} {ps : List Str} {m : List PyData → Option XR} (G : FnX P w K mg base k f fd ps (spX K C n m)) (hn : n = ps.length) :
    FnG P w K mg base k f fd ps (spF K n fun ds => okX (m ds)) := by
  refine ⟨fun vs H Q E h => h.1.trans hn, fun A outer s H args us vs Q E hgd hr e0 hb rv h => ?_⟩
  obtain ⟨hl, Z, ds, r, sz, tb, hd, e, q⟩ := h
  refine codeAny_mono (G.run A outer s H args us vs Q (fun _ _ _ => False) hgd hr e0 hb rv ⟨hl, Z, ds, .ok r, sz, tb, hd, okX_eq e, q⟩) fun r s' hq => ?_
  cases r with
  | error z =>
    obtain ⟨_, _, _, _, _, _, _, _, _, _, _, _, z⟩ := hq
    exact z.elim
  | ok fl =>
    cases fl with
    | ret u => exact hq
    | next => cases hq
    | brk => cases hq
    | cont => cases hq

/-! ### readings that may raise -/
def FinE (K : PySem.W.Frag) (F : Fm) (Z : Hp) (env : DEnv) (σ : St) (H : Hp) (Q : VK) : DX → Prop
  | .ok d e' => ∀ v Z' H', Rel K F Z' H' σ e' → Stp σ env Z H e' Z' H' → DD K Z' v d → Q v H'
  | .ex c a d e' => ∀ v p Z' H', Rel K F Z' H' σ e' → Stp σ env Z H e' Z' H' → H p = none → Z' p = none → F.G p = none → ¬ F.P p → H' p = some (.xd [(a, v)]) → DD K Z' v d → F.W c (some p) σ H'
def tDX (K : PySem.W.Frag) (F : Fm) (f : DEnv → Option DX) : TE := fun σ H Q => ∃ Z env r, Rel K F Z H σ env ∧ f env = some r ∧ FinE K F Z env σ H Q r
def PDX (X : Cx) (F : Fm) (e : Expr) (f : DEnv → Option DX) : Prop := PE X e (tDX X.K F f)
def toX (env : DEnv) : XR → DX
  | .ok d => .ok d env
  | .ex c a d => .ex c a d env
def fCX (m : List PyData → Option XR) (fa : DEnv → Option (List PyData × DEnv)) (env : DEnv) : Option DX := (fa env).bind fun x => (m x.1).map (toX x.2)
section
variable {X : Cx} {F : Fm} {C : Str → Addr} {k n : Nat} {f : Addr} {fd : FuncData} {ps ks : List Str} {x : Str} {p pos : Pos} {e : Expr} {es : List Expr} {fa : DEnv → Option (List PyData × DEnv)} {fx : DEnv → Option DX}
theorem pdx_call {m : List PyData → Option XR} (tk : Takes X (wx C F.W)) (G : FnX X.prog X.w X.K X.mg X.base k f fd ps (spX X.K C n m)) (hn : ∀ ds r, m ds = some r → ds.length = n) (hgd : GdOk X.A) (hr : Room k X.A) (hm : X.mg x = some (.ref f)) (hk : PySem.W.keepIn X.K (.ref f) = true) (hb : Binds X.K fd ps [])
    (ha : PDA X F (e :: es) fa) (hg : Gl X x := by rfl) (hdb : (x == ("__debug__" : Str)) = false := by decide)
    (he : starEach (e :: es) X.env = (false, eval e X.env) :: starEach es X.env := by rfl) (hpl : (backTo pos (starEach es X.env)).any (·.1) = false := by rfl) :
    PDX X F (.Call (.Name x p) (e :: es) [] pos) (fCX m fa) :=
  pe_imp (pe_xcall tk G hgd hr hm hk hb ha hg hdb he hpl) fun σ H Q h => by
    obtain ⟨Z, env, r0, r, e, q⟩ := h
    obtain ⟨⟨xs, e1⟩, h1, h⟩ := bnd e
    obtain ⟨y, h2, h⟩ := mpd h
    subst h
    refine ⟨Z, env, xs, e1, r, h1, fun vs Z1 H1 r1 s1 d1 => ⟨(dds_len d1).trans (hn _ _ h2), Z1, xs, y, r1.zh, r1.tb, d1, h2, ?_⟩⟩
    cases y with
    | ok d => exact fun v Z' H' gr dd => q v Z' H' (r1.grow gr) (s1.trans gr.stp) dd
    | ex c a d => exact fun v p Z' H' gr h0 hz hp dd => ⟨c, rfl, q v p Z' H' (r1.grow gr) (s1.trans gr.stp) (s1.new h0) hz (r1.gh.free h0) (fun z => (r1.pp p z).1 h0) hp dd⟩
/-! ### statements of them -/
def sExprX (f : DEnv → Option DX) (env : DEnv) : Option DFlow := (f env).map fun r => match r with
  | .ok _ e => .nx e
  | .ex c a d e => .ex c a d e
def sSetX (i : Nat) (f : DEnv → Option DX) (env : DEnv) : Option DFlow := (f env).map fun r => match r with
  | .ok d e => .nx (e.set i (some (.fr d)))
  | .ex c a d e => .ex c a d e
theorem ds_exprX (ha : PDX X F e fx) (hs : swapsWith e none pos.line X.env = pure false := by rfl) : PDS X F (.Expr e pos) (sExprX fx) := ps_imp (ps_expr ha hs) fun D σ H h => by
  obtain ⟨Z, env, fl, r, e, q⟩ := h
  obtain ⟨y, h1, h⟩ := mpd e
  subst h
  refine ⟨Z, env, y, r, h1, ?_⟩
  cases y with
  | ok d e1 => exact fun v Z' H' r' s' _ => q σ Z' H' r' s'.z
  | ex c a d e1 => exact fun v p Z' H' r' s' _ hz hg hp hx dd => q v p σ Z' H' r' s'.z hz hg hp hx dd
theorem ds_setX (i : Nat) {pos' : Pos} (ha : PDX X F e fx) (hN : X.N.Nodup) (hi : X.N[i]? = some x := by rfl) (hx : Loc X.env.scope x := by first | exact Or.inl rfl | exact Or.inr rfl) (hs : swapsWith e (some (.Name x pos')) pos.line X.env = pure false := by rfl)
    (hf : X.fn x = true ∨ X.env.scope.names.lookup x = some .local := by first | exact .inl rfl | exact .inr rfl | assumption) : PDS X F (.Assign [.Name x pos'] e pos) (sSetX i fx) := ps_imp (ps_set hN hi hx ha hs hf) fun D σ H h => by
  obtain ⟨Z, env, fl, r, e, q⟩ := h
  obtain ⟨y, h1, h⟩ := mpd e
  subst h
  refine ⟨Z, env, y, r, h1, ?_⟩
  cases y with
  | ok d e1 => exact fun v Z' H' r' s' dd => q _ Z' H' (r'.store i dd) s'.z
  | ex c a d e1 => exact fun v p Z' H' r' s' _ hz hg hp hx dd => q v p σ Z' H' r' s'.z hz hg hp hx dd
end

/-! ### defs that may raise -/
def runX (n N : Nat) (g : DEnv → Option DFlow) (ds : List PyData) : Option XR := if ds.length = n then (match g (startE N ds) with
  | some (.rt d _) => some (.ok d)
  | some (.nx _) => some (.ok .none)
  | some (.ex c a d _) => some (.ex c a d)
  | _ => none) else none
theorem runX_len {n N : Nat} {g : DEnv → Option DFlow} (ds : List PyData) (r : XR) (h : runX n N g ds = some r) : ds.length = n := by
  unfold runX at h
  split at h
  · assumption
  · cases h
theorem okX_len {n N : Nat} {g : DEnv → Option DFlow} (ds : List PyData) (r : PyData) (h : okX (runX n N g ds) = some r) : ds.length = n := runX_len ds _ (okX_eq h)
section
variable {P : Program} {w : World} {K : PySem.W.Frag} {mg : Str → Option Value} {base : Heap} {x qual : Str} {st : Stmt} {f : Addr} {fd : FuncData} {N ps : List Str} {k : Nat} {g : DEnv → Option DFlow} {C : Str → Addr}
/-- what a body's derivation is asked for -/
abbrev BodyX (C : Str → Addr) (P : Program) (w : World) (K : PySem.W.Frag) (mg : Str → Option Value) (base : Heap) (N : List Str) (qual : Str) (st : Stmt) (f : Addr) (cv : Value) (k : Nat) (g : DEnv → Option DFlow) : Prop :=
  ∀ (cdv : Value) (A : Around) (outer : List Env) (s : Shared) (H : Hp) (E : XK) (F : Fm), cdv = cv → Takes (cxOf (L2.CX P w) P w K mg base N qual (defScope st) f cdv A outer s H E) (wx C F.W) →
    PassesOwn (model P w) (cxOf (L2.CX P w) P w K mg base N qual (defScope st) f cdv A outer s H E).A (cxOf (L2.CX P w) P w K mg base N qual (defScope st) f cdv A outer s H E).env (cxOf (L2.CX P w) P w K mg base N qual (defScope st) f cdv A outer s H E).xe →
    GdOk (A.deeper (envOfC qual (defScope st) s.heap.objs.size f cdv)) → Room k (A.deeper (envOfC qual (defScope st) s.heap.objs.size f cdv)) →
    PDSs (cxOf (L2.CX P w) P w K mg base N qual (defScope st) f cdv A outer s H E) F (defBody st) g
theorem pure_startW {Z H : Hp} {vs : List V} {ds : List PyData} {W : Str → Option Addr → St → Hp → Prop} (sz : Same Z H) (tb : TB H) (hd : DDs K Z vs ds) (hl : vs.length ≤ N.length) : Rel K ⟨Z, H, fun _ => False, W⟩ Z H (start N vs) (startE N.length ds) := by
  have r := pure_start (K := K) (N := N) sz tb hd hl
  exact ⟨r.z0, r.zh, r.gh, r.nw, r.pp, r.len, fun i dv e => by have := r.sl i dv e; cases dv <;> exact this, r.inj, r.tb⟩
theorem fn_X (D : Fun K x qual st f fd) (S : FnScope N ps (defScope st)) {n m : Nat} (hn : ps.length = n) (hN' : N.length = m) (hb : BodyX C P w K mg base N qual st f fd.code k g) : FnX P w K mg base (k + 1) f fd ps (spX K C n (runX n m g)) := by
  subst hn hN'
  refine fnx_of D S (fun vs H Q E h => h.1) fun cdv A outer s H vs Q E hcv hg hr h => ?_
  obtain ⟨hl, Z, ds, r, sz, tb, hd, e, q⟩ := h
  have hN : ps.length ≤ N.length := by
    have := congrArg List.length S.pre
    rw [List.length_take] at this
    omega
  refine ⟨_, hb cdv A outer s H E ⟨Z, H, fun _ => False, fun c d _ H' => E (.ref (C c)) d H'⟩ hcv ?_ (passes_of rfl) hg hr, Z, startE N.length ds, ?_⟩
  · refine (takes_of (E := E) rfl rfl rfl rfl).imp fun cls d σ H' h => ?_
    obtain ⟨c, rfl, h⟩ := h
    exact h
  have r0 := pure_startW (K := K) (N := N) (W := fun c d _ H' => E (.ref (C c)) d H') sz tb hd (by omega)
  have fin : ∀ {Z' H' : Hp} {σ' : St} {e' : DEnv}, Rel K ⟨Z, H, fun _ => False, fun c d _ H' => E (.ref (C c)) d H'⟩ Z' H' σ' e' → Grow Z H Z' H' := fun {Z' H' σ' e'} r' => ⟨r'.z0, r'.zh, r'.gh, fun _ => r'.tb, fun q hq => (r'.nw q hq).imp id (·.1)⟩
  unfold runX at e
  split at e
  case isFalse => cases e
  generalize hh : g (startE N.length ds) = o at e
  match o, e with
  | some (.rt d e'), e =>
    cases e
    exact ⟨_, r0, rfl, fun v σ' Z' H' r' s' dd => q v Z' H' (fin r') dd⟩
  | some (.nx e'), e =>
    cases e
    exact ⟨_, r0, rfl, fun σ' Z' H' r' s' => q .non Z' H' (fin r') .non⟩
  | some (.ex c a d e'), e =>
    cases e
    exact ⟨_, r0, rfl, fun v p σ' Z' H' r' s' hz hg' hp' hx dd => q v p Z' H' (fin r') hg' hz hx dd⟩
end

/-! ### try .. except X: .. -/
theorem Rel.wish {K : PySem.W.Frag} {F : Fm} {Z H : Hp} {σ : St} {env : DEnv} {W : Str → Option Addr → St → Hp → Prop} (r : Rel K F Z H σ env) : Rel K { F with W := W } Z H σ env :=
  ⟨r.z0, r.zh, r.gh, r.nw, r.pp, r.len, fun i dv e => by have := r.sl i dv e; cases dv <;> exact this, r.inj, r.tb⟩
theorem Rel.unwish {K : PySem.W.Frag} {F : Fm} {Z H : Hp} {σ : St} {env : DEnv} {W : Str → Option Addr → St → Hp → Prop} (r : Rel K { F with W := W } Z H σ env) : Rel K F Z H σ env :=
  ⟨r.z0, r.zh, r.gh, r.nw, r.pp, r.len, fun i dv e => by have := r.sl i dv e; cases dv <;> exact this, r.inj, r.tb⟩
def sTry (mt : Str → Option Bool) (gb gh : DEnv → Option DFlow) (env : DEnv) : Option DFlow := (gb env).bind fun fl => match fl with
  | .ex c a d e => (mt c).bind fun b => if b then gh e else some (.ex c a d e)
  | fl => some fl
theorem ds_try {X : Cx} {F : Fm} {C : Str → Addr} {x : Str} {cv : Value} {body suite : List Stmt} {b₀ : Stmt} {np pos pos' : Pos} {mt : Str → Option Bool} {gb gh : DEnv → Option DFlow} (hmt : ∀ c b, mt c = some b → PySem.W.exmOne X.K (.ref (C c)) cv = some b)
    (hs : X.stack = X.env :: X.outer) (hf : X.env.frame = some X.env.locals) (hc : Names X x cv) (tk : Takes X (wx C F.W))
    (hb : ∀ (F' : Fm) (pn : List (Addr × Obj)) (xe : Value → Shared → Prop), Takes (X.tr pn xe) (wx C F'.W) → PassesOwn (model X.prog X.w) X.A X.env xe → PDSs (X.tr pn xe) F' body gb)
    (hsu : ∀ (a : Addr) (oe : Obj) (cls : Value) (d : Option Addr) (pn : List (Addr × Obj)), Zc cls d oe → (∃ vs, oe.data = .fields vs) → PDSs (X.suite a ((a, oe) :: pn)) F (b₀ :: suite) gh) :
    PDS X F (.Try body [.ExceptHandler (some (.Name x np)) none (b₀ :: suite) pos'] [] [] pos) (sTry mt gb gh) := by
  refine ps_imp (ps_try_only (tb := fun W => tDS X.K { F with W := fun c d σ H => W (.ref (C c)) d σ H } gb) (ts := fun _ _ _ => tDS X.K F gh) hs hf hc tk (fun W pn xe tk' hp => hb _ pn xe (tk'.imp fun cls d σ H h => ?_) hp) fun a oe cls d pn hz hv => hsu a oe cls d pn hz hv) fun D σ H h => ?_
  · obtain ⟨c, rfl, h⟩ := h
    exact h
  · obtain ⟨Z, env, fl, r, e, q⟩ := h
    obtain ⟨f1, h1, h⟩ := bnd e
    refine ⟨Z, env, f1, r.wish, h1, ?_⟩
    cases f1 with
    | nx e1 => cases h; exact fun σ' Z' H' r' s' => q σ' Z' H' r'.unwish s'
    | rt d e1 => cases h; exact fun v σ' Z' H' r' s' dd => q v σ' Z' H' r'.unwish s' dd
    | rn ds e1 => cases h; exact fun p xs σ' Z' H' r' s' a1 a2 a3 a4 dd => q p xs σ' Z' H' r'.unwish s' a1 a2 a3 a4 dd
    | bk e1 => cases h; exact fun σ' Z' H' r' s' => q σ' Z' H' r'.unwish s'
    | ct e1 => cases h; exact fun σ' Z' H' r' s' => q σ' Z' H' r'.unwish s'
    | ex c a d e1 =>
      obtain ⟨b, h2, h⟩ := bnd h
      refine fun v p σ' Z' H' r' s' a1 a2 a3 a4 dd => ⟨b, hmt c b h2, fun hbt a0 _ => ?_, fun hbf => ?_⟩
      · rw [hbt] at h
        exact ⟨Z', e1, fl, r'.unwish, h, q.mono s'⟩
      · rw [hbf] at h
        cases h
        exact ⟨c, rfl, q v p σ' Z' H' r'.unwish s' a1 a2 a3 a4 dd⟩
/-! ### raise X(e), X an own class over ValueError that keeps its one argument -/
/-- what such an __init__ does -/
def spI (C : Addr) (an : Str) : Sp := fun vs H Q _ => ∃ a y, vs = [.ref a, y] ∧ H a = some (exo a C none) ∧ ∀ dx, H dx = none → dx ≠ a → Q .non (upd (upd H dx (exd dx [(an, y)])) a (exo a C (some dx)))
theorem init_ok {P : Program} {w : World} {K : PySem.W.Frag} {mg : Str → Option Value} {base : Heap} {qual : Str} {st : Stmt} {fI C : Addr} {fd : FuncData} {an : Str} {p1 p2 p3 p4 : Pos} (D : Fun K "__init__" qual st fI fd) (S : FnScope ["self", an] ["self", an] (defScope st)) (T : OexC K C) (hno : PySem.W.findIn K (.ref C) an = some none)
    (hbd : defBody st = [.Assign [.Attribute (.Name "self" p1) an p2] (.Name an p3) p4]) (hv1 : Vis (defScope st) "self") (hv2 : Vis (defScope st) an) (hd : (an == ("__debug__" : Str)) = false) (hcd : (an == ("__classdict__" : Str)) = false) :
    FnOk P w K mg base CX0 1 fI fd ["self", an] (spI C an) := by
  refine D.ok S (fun vs H Q E h => by obtain ⟨a, y, rfl, _⟩ := h; rfl) fun cdv A outer s H vs Q E hr h => ?_
  obtain ⟨a, y, rfl, ha, q⟩ := h
  rw [hbd]
  refine ⟨_, pss_one (ps_ost (pe_var (i := 0) rfl hv1) (pe_var (i := 1) rfl hv2 hd hcd)), ?_⟩
  exact ⟨y, rfl, .ref a, rfl, a, C, rfl, T, hno, .inl ⟨ha, fun dx h1 h2 => q dx h1 h2⟩⟩
def sRaise (c an : Str) (f : DEnv → Option (PyData × DEnv)) (env : DEnv) : Option DFlow := (f env).map fun x => .ex c an x.1 x.2
theorem upd_back {H : Hp} {a dx : Addr} {o1 o2 o3 : HO} {x : HO} (ha : H a = none) (hne : dx ≠ a) : upd (del (upd (upd (upd H a o1) dx o2) a o3) a) dx x = upd H dx x := by
  funext b
  by_cases h1 : b = dx
  · subst h1; rw [upd_same, upd_same]
  · rw [upd_ne h1, upd_ne h1]
    by_cases h2 : b = a
    · subst h2; rw [del_same, ha]
    · rw [del_ne h2, upd_ne h2, upd_ne h1, upd_ne h2]
theorem ds_raise {X : Cx} {F : Fm} {C : Str → Addr} {cn an : Str} {fI : Addr} {fd : FuncData} {p pos pos' : Pos} {e : Expr} {f : DEnv → Option (PyData × DEnv)} (hc : X.calm = true) (tk : Takes X (wx C F.W)) (T : OexC X.K (C cn)) (iC : PySem.W.findIn X.K (.ref (C cn)) "__init__" = some (some (.ref fI))) (tI : PySem.W.typeIn X.K (.ref fI) = some (.type "function"))
    (F1 : FnOk X.prog X.w X.K X.mg X.base CX0 1 fI fd ["self", an] (spI (C cn) an)) (hr : Room 2 X.A) (hb : Binds X.K fd ["self", an] []) (hm : X.mg cn = some (.ref (C cn))) (ha : PD X F e f) (hg : Gl X cn := by rfl)
    (hdb : (cn == ("__debug__" : Str)) = false := by decide) (he : starEach [e] X.env = (false, eval e X.env) :: starEach [] X.env := by rfl) (hpl : (backTo pos (starEach [] X.env)).any (·.1) = false := by rfl) :
    PDS X F (.Raise (some (.Call (.Name cn p) [e] [] pos)) none pos') (sRaise cn an f) :=
  ps_imp (ps_raise hc tk (pmk_oex T iC tI F1 hr hb .nil (fun _ _ _ _ _ _ _ z => z.elim) hg hm (pa_cons ha pa_nil he) hdb he hpl)) fun D σ H h => by
    obtain ⟨Z, env, fl, r, e, q⟩ := h
    obtain ⟨⟨d, e1⟩, h1, h⟩ := mpd e
    subst h
    refine ⟨Z, env, d, e1, r, h1, fun v Z1 H1 r1 s1 dd => ⟨by show 1 ≤ 1000; decide, fun a na => ⟨a, v, rfl, upd_same, fun dx hdx hne => ⟨rfl, dx, [(an, v)], upd_same, ?_, ?_, cn, rfl, ?_⟩⟩⟩⟩
    · rw [upd_ne hne, upd_same]
    · rw [upd_ne hne] at hdx; exact hdx
    · rw [upd_ne hne] at hdx
      rw [upd_back na hne]
      have hS : Same H1 (upd H1 dx (.xd [(an, v)])) := .of (same_new hdx _)
      have gr : Grow Z1 H1 Z1 (upd H1 dx (.xd [(an, v)])) := ⟨Same.refl _, r1.zh.trans hS, hS, fun t => t.ext (same_new hdx _), fun _ z => .inl z⟩
      exact q v dx σ Z1 _ (r1.grow gr) s1.z (r1.zh.free hdx) (r1.gh.free hdx) (fun z => (r1.pp dx z).1 hdx) upd_same dd

/-! ### {}, is, tuple * n, int(b) -/
section
variable {X : Cx} {F : Fm} {pos : Pos}
def repTD : PyData → PyData → Option PyData
  | .tuple xs, .int k => if xs ≠ [] ∧ 2 ≤ k ∧ k ≤ 1000 ∧ xs.length ≤ 1000 then some (.tuple (List.replicate k.toNat xs).flatten) else none
  | _, _ => none
theorem dds_app2 {K : PySem.W.Frag} {Z : Hp} : ∀ {vs ws : List V} {ds es : List PyData}, DDs K Z vs ds → DDs K Z ws es → DDs K Z (vs ++ ws) (ds ++ es)
  | _, _, [], _, h, h2 => by cases h; exact h2
  | _, _, _ :: _, _, h, h2 => by
    cases h with
    | cons a b => exact .cons a (dds_app2 b h2)
theorem dds_rep {K : PySem.W.Frag} {Z : Hp} {vs : List V} {ds : List PyData} (h : DDs K Z vs ds) : ∀ n : Nat, DDs K Z (List.replicate n vs).flatten (List.replicate n ds).flatten
  | 0 => .nil
  | n + 1 => by
    rw [List.replicate_succ, List.replicate_succ, List.flatten_cons, List.flatten_cons]
    exact dds_app2 h (dds_rep h n)
theorem od_repT : OpD X (binaryOp .Mult) repTD := by
  intro pins s σ H x y v u Q I rx ry h
  obtain ⟨Z, a, b, d, sz, ha, hb, e, q⟩ := h
  match a, b, ha, hb, e with
  | .tuple ds, .int k, ha, hb, e =>
    change (if ds ≠ [] ∧ 2 ≤ k ∧ k ≤ 1000 ∧ ds.length ≤ 1000 then some (PyData.tuple (List.replicate k.toNat ds).flatten) else none) = some d at e
    split at e
    case isFalse => cases e
    rename_i hc
    cases e
    cases hb.int_inv
    cases ha with
    | @tup l xs _ hr hd =>
      have hl := dds_len hd
      refine op_repT pins s σ H _ _ v u Q I rx ry ⟨l, k, xs, rfl, rfl, same_sqT sz hr, ?_, hc.2.1, hc.2.2.1, by omega, fun p hp => ?_⟩
      · intro z
        subst z
        cases hd
        exact hc.1 rfl
      · have gr := grow_new sz hp (.tup (List.replicate k.toNat xs).flatten)
        exact q _ _ _ gr (.tup (.inl (Rd.of upd_same)) (DDsm (dds_rep hd k.toNat) gr.z))
def intOfD : List PyData → Option PyData
  | [.int i] => some (.int i)
  | [.bool b] => some (.int (if b then 1 else 0))
  | _ => none
theorem cd_intOf : CallD X (.type "int") intOfD := by
  intro pins s σ H xs us Q I r h
  obtain ⟨Z, ds, d, sz, hd, e, q⟩ := h
  match ds, hd, e with
  | [.int i], hd, e =>
    cases e
    obtain ⟨v, rfl, h1⟩ := dds1 hd
    cases h1.int_inv
    exact call_int1 pins s σ H _ us Q I r (.inl ⟨i, rfl, q _ Z H (Grow.refl sz) (.int _)⟩)
  | [.bool b], hd, e =>
    cases e
    obtain ⟨v, rfl, h1⟩ := dds1 hd
    cases h1
    exact call_int1 pins s σ H _ us Q I r (.inr ⟨b, rfl, q _ Z H (Grow.refl sz) (.int _)⟩)
end
/-! ### classes by name -/
def clsOf {α : Type} (l : List (Str × α)) (d : α) (c : Str) : α := match l with
  | [] => d
  | (n, a) :: l => if c = n then a else clsOf l d c
omit [Lab] in
theorem oex_mk {K : PySem.W.Frag} {C : Addr} {nm q N bs bm sn sub ab col dd k0 k1 k2 k3 k5} (l : K.lookup C = some (excClassObj nm q C N bs bm true sn sub ab col dd k0 k1 k2 k3 k5 "ValueError.__new__")) (r : PySem.HandSPX.refsVE bm = true)
    (sa : PySem.W.findIn K (.ref C) "__setattr__" = some (some (.builtin "object.__setattr__"))) (ex : PySem.W.subIn K (.ref C) (.type "BaseException") = some true) (ty : PySem.W.typeIn K (.ref C) = some (.type "type")) (k : PySem.W.keepIn K (.ref C) = true) : OexC K C :=
  ⟨⟨nm, q, N, bs, bm, sn, sub, ab, col, dd, k0, k1, k2, k3, k5, l, r⟩, sa, ex, ty, k⟩
end DL
end L2


set_option Elab.async false
set_option maxRecDepth 100000
set_option maxHeartbeats 4000000
set_option autoImplicit false
namespace L2
namespace DL
open PySem PySem.Spec PyProof.Rows
variable [Lab]
/-! ### comparisons whose left side is a name: its list as it stands -/
section
variable {X : Cx} {F : Fm} {a b c e : Expr} {pos p : Pos} {f g k : DEnv → Option (PyData × DEnv)}
def fCmpL (o : PyData → PyData → Option PyData) (i : Nat) (g : DEnv → Option (PyData × DEnv)) (env : DEnv) : Option (PyData × DEnv) := (rdB i env).bind fun _ => (g env).bind fun y => (rdB i y.2).bind fun x => (o x y.1).map fun d => (d, y.2)
theorem cmpL_read {K : PySem.W.Frag} {o : PyData → PyData → Option PyData} {i : Nat} (hs : ∀ a b d, o a b = some d → scalD d = true) {σ : St} {H : Hp} {Q : VK} (h : tD K F (fCmpL o i g) σ H Q) : tOp (r2D K o) (tVar i) (tD K F g) σ H Q := by
  obtain ⟨Z, env, d, env', r, e, q⟩ := h
  obtain ⟨x0, h0, h⟩ := bnd e
  obtain ⟨⟨y, e1⟩, h1, h⟩ := bnd h
  obtain ⟨x, h2, h⟩ := bnd h
  obtain ⟨d', h3, h⟩ := mpd h
  cases h
  obtain ⟨v, ev, _⟩ := r.rdB h0
  refine ⟨v, ev, Z, env, y, e1, r, h1, fun v2 Z1 H1 r1 s1 d2 => ?_⟩
  obtain ⟨v', ev', dv⟩ := r1.rdB h2
  rw [ev] at ev'
  cases ev'
  refine ⟨H1, x, y, d, Same.refl H1, dv, DDm d2 r1.zh, h3, fun v' Z' H' gr dd => ?_⟩
  have gr' : Grow Z1 H1 Z1 H' := ⟨Same.refl _, r1.zh.trans gr.h, gr.h, gr.t, fun _ z => .inl z⟩
  exact q v' Z1 H' (r1.grow gr') (s1.trans gr'.stp) (dd.scal (hs _ _ _ h3))
theorem pdt_cmpL {op : CmpOp} {o : PyData → PyData → Option PyData} (ho : OpD X (compareOp op) o) (hs : ∀ a b d, o a b = some d → scalD d = true) (hb : IsB o) (i : Nat) (hc : PD X F b g) {x : Str} (hm : behindInMarks op b = false := by first | exact nomark _ | rfl)
    (hN : X.N[i]? = some x := by rfl) (hv : Vis X.env.scope x := by first | exact Or.inl rfl | exact Or.inr (Or.inl rfl) | exact Or.inr (Or.inr rfl)) (hd : (x == ("__debug__" : Str)) = false := by decide)
    (hcd : (x == ("__classdict__" : Str)) = false := by decide) : PDT X F (.Compare (.Name x p) [op] [b] pos) (fTst (fCmpL o i g)) :=
  pt_imp (pt_cmpR ho (pe_var hN hv hd hcd) hc hm) fun _ _ _ h => tst_read (fun env d e h => by
    obtain ⟨x, _, h⟩ := bnd h
    obtain ⟨y, _, h⟩ := bnd h
    obtain ⟨y, _, h⟩ := bnd h
    obtain ⟨z, h1, h⟩ := mpd h
    cases h
    exact hb _ _ _ h1) (fun _ _ _ h => cmpL_read hs h) h
/-! ### list + list, new -/
def nAdd (f g : DEnv → Option (PyData × DEnv)) (env : DEnv) : Option (List PyData × DEnv) := (f env).bind fun x => (g x.2).bind fun y => match x.1, y.1 with
  | .list a, .list b => if a.length + b.length ≤ lim then some (a ++ b, y.2) else none
  | _, _ => none
def rAddL (K : PySem.W.Frag) : R2 := fun x y H Q => ∃ Z a b, Same Z H ∧ DD K Z x (.list a) ∧ DD K Z y (.list b) ∧ a.length + b.length ≤ lim ∧ ∀ p xs, H p = none → DDs K Z xs (a ++ b) → Q (.ref p) (upd H p (.lst xs))
theorem op_addL : OpR X (binaryOp .Add) (rAddL X.K) := by
  intro pins s σ H x y v u Q I rx ry h
  obtain ⟨Z, i, j, sz, ha, hb, hle, q⟩ := h
  have hlim : lim = 100000 := rfl
  have hsl := sizeLine_eq
  cases ha with
  | @lst p xs _ hx dx =>
    cases hb with
    | @lst p' ys _ hy dy =>
      have l1 := dds_len dx
      have l2 := dds_len dy
      cases rx
      cases ry
      obtain ⟨z, its, n, r, e1⟩ := (same_ls sz hx).isL I
      obtain ⟨z2, its2, n2, r2, e2⟩ := (same_ls sz hy).isL I
      have k1 := r.length
      have k2 := r2.length
      refine PySem.P.add_list e1 e2 ?_ (by rw [List.size_toArray, List.size_toArray]; omega)
      have ea : its.toArray ++ its2.toArray = (its ++ its2).toArray := by simp
      rw [ea]
      exact ⟨.ref _, _, I.lnew (t' := s.toks) (r.append r2) (by rw [List.length_append]; omega), rfl, q _ _ I.fresh (dds_app dx dy)⟩
theorem pn_addL (ha : PD X F a f) (hb : PD X F b g) : PN X F (.BinOp a .Add b pos) (nAdd f g) := pe_imp (pe_op op_addL ha hb) fun σ H Q h => by
  obtain ⟨Z, env, d, env', r, e, q⟩ := h
  obtain ⟨⟨x, e1⟩, h1, h⟩ := bnd e
  obtain ⟨⟨y, e2⟩, h2, h⟩ := bnd h
  refine ⟨Z, env, x, e1, r, h1, fun v1 Z1 H1 r1 s1 d1 => ⟨Z1, e1, y, e2, r1, h2, fun v2 Z2 H2 r2 s2 d2 => ?_⟩⟩
  match x, y, d1, d2, h with
  | .list a, .list b, d1, d2, h =>
    change (if a.length + b.length ≤ lim then some (a ++ b, e2) else none) = some (d, env') at h
    split at h
    case isFalse => cases h
    rename_i hl
    cases h
    refine ⟨Z2, a, b, r2.zh, DDm d1 s2.z, d2, hl, fun p xs hp hd => ?_⟩
    have gr := grow_own r2.zh hp (.lst xs)
    exact q p xs _ _ (r2.grow gr) ((s1.trans s2).trans gr.stp) ((s1.trans s2).new hp) (r2.zh.free hp) upd_same hd
end
end DL
end L2


set_option Elab.async false
set_option maxRecDepth 100000
set_option maxHeartbeats 4000000
set_option autoImplicit false
namespace L2
namespace DL
open PySem PySem.Spec PyProof.Rows
variable [Lab]
theorem ev_seqR {f g : DEnv → Option DFlow} {env e1 : DEnv} {d : PyData} (h : f env = some (.rt d e1)) : sSeq f g env = some (.rt d e1) := by
  unfold sSeq; rw [h]; rfl
theorem ev_or0 {f g : DEnv → Option (Bool × DEnv)} {env e1 e2 : DEnv} {k : Bool} (h : f env = some (false, e1)) (h2 : g e1 = some (k, e2)) : fOr f g env = some (k, e2) := by
  unfold fOr; rw [h]; exact h2
theorem ev_and0 {f g : DEnv → Option (Bool × DEnv)} {env e1 : DEnv} (h : f env = some (false, e1)) : fAnd f g env = some (false, e1) := by
  unfold fAnd; rw [h]; rfl
theorem ev_and1 {f g : DEnv → Option (Bool × DEnv)} {env e1 e2 : DEnv} {k : Bool} (h : f env = some (true, e1)) (h2 : g e1 = some (k, e2)) : fAnd f g env = some (k, e2) := by
  unfold fAnd; rw [h]; exact h2
theorem ev_not {f : DEnv → Option (Bool × DEnv)} {env e1 : DEnv} {k : Bool} (h : f env = some (k, e1)) : fNot f env = some (!k, e1) := by
  unfold fNot; rw [h]; rfl
theorem ev_cr {j : Nat} {m : List PyData → List PyData → Option (PyData × List PyData)} {fa : DEnv → Option (List PyData × DEnv)} {env e1 : DEnv} {es0 es es' ds : List PyData} {d : PyData} (h0 : rdO j env = some es0) (h : fa env = some (ds, e1)) (h1 : rdO j e1 = some es) (h2 : m es ds = some (d, es')) : fCR j m fa env = some (d, wrO j es' e1) := by
  unfold fCR; rw [h0]; show (fa env).bind _ = _; rw [h]; show (rdO j e1).bind _ = _; rw [h1]; show (m es ds).map _ = _; rw [h2]; rfl
theorem ev_runF {n N : Nat} {g : DEnv → Option DFlow} {ds : List PyData} {d : PyData} {env : DEnv} (hl : ds.length = n) (h : g (startE N ds) = some (.rt d env)) : runF n N g ds = some d := by
  unfold runF; rw [if_pos hl, h]
theorem ev_runF0 {n N : Nat} {g : DEnv → Option DFlow} {ds : List PyData} {env : DEnv} (hl : ds.length = n) (h : g (startE N ds) = some (.nx env)) : runF n N g ds = some .none := by
  unfold runF; rw [if_pos hl, h]
theorem ev_runX {n N : Nat} {g : DEnv → Option DFlow} {ds : List PyData} {d : PyData} {env : DEnv} (hl : ds.length = n) (h : g (startE N ds) = some (.rt d env)) : runX n N g ds = some (.ok d) := by
  unfold runX; rw [if_pos hl, h]
theorem ev_runX0 {n N : Nat} {g : DEnv → Option DFlow} {ds : List PyData} {env : DEnv} (hl : ds.length = n) (h : g (startE N ds) = some (.nx env)) : runX n N g ds = some (.ok .none) := by
  unfold runX; rw [if_pos hl, h]
theorem ev_runR {n N : Nat} {g : DEnv → Option DFlow} {es es' ds : List PyData} {d : PyData} {env : DEnv} (hl : ds.length + 1 = n) (h : g (some (.rf es) :: startE (N - 1) ds) = some (.rt d (some (.rf es') :: env))) : runR n N g es ds = some (d, es') := by
  unfold runR; rw [if_pos hl, h]; rfl
theorem ev_setE {i : Nat} {f : DEnv → Option (PyData × DEnv)} {env e1 e2 : DEnv} {d : PyData} (h : f env = some (d, e1)) (he : e1.set i (some (.fr d)) = e2) : sSet i f env = some (.nx e2) := by
  unfold sSet; rw [h, ← he]; rfl
theorem ev_crE {j : Nat} {m : List PyData → List PyData → Option (PyData × List PyData)} {fa : DEnv → Option (List PyData × DEnv)} {env e1 e2 : DEnv} {es0 es es' ds : List PyData} {d : PyData} (h0 : rdO j env = some es0) (h : fa env = some (ds, e1)) (h1 : rdO j e1 = some es) (h2 : m es ds = some (d, es')) (he : wrO j es' e1 = e2) : fCR j m fa env = some (d, e2) := by
  rw [← he]; exact ev_cr h0 h h1 h2
/-- a comprehension whose element is a function of its item -/
theorem lc_map {i : Nat} {fe : DEnv → Option (PyData × DEnv)} {p : PyData → PyData} {env : DEnv} (hw : env.set i none = env) : ∀ ds : List PyData, (∀ d ∈ ds, fe (env.set i (some (.fr d))) = some (p d, env.set i (some (.fr d)))) → lcD (gSet i) fYes fe [i] ds env = some (ds.map p, env)
  | [], _ => rfl
  | d :: ds, h => by
    have ih := lc_map hw ds fun x hx => h x (List.mem_cons_of_mem _ hx)
    rw [lcD]
    show ((fe (env.set i (some (.fr d)))).bind fun y => (lcD (gSet i) fYes fe [i] ds (wipeE y.2 [i])).map fun r => (y.1 :: r.1, r.2)) = _
    rw [h d List.mem_cons_self]
    show (lcD (gSet i) fYes fe [i] ds ((env.set i (some (.fr d))).set i none)).map _ = _
    rw [List.set_set, hw, ih]
    rfl
theorem bools_map {α : Type} (p : α → Bool) : ∀ ds : List α, boolsD (ds.map fun d => PyData.bool (p d)) = some (ds.map p)
  | [] => rfl
  | d :: ds => by
    show (boolsD (ds.map fun d => PyData.bool (p d))).map (p d :: ·) = _
    rw [bools_map p ds]
    rfl
theorem all_map {α : Type} (p : α → Bool) (ds : List α) : allD [.list (ds.map fun d => PyData.bool (p d))] = some (.bool (ds.all p)) := by
  show (boolsD (ds.map fun d => PyData.bool (p d))).map _ = _
  rw [bools_map]
  show some (PyData.bool ((ds.map p).all id)) = _
  rw [List.all_map]
  rfl
theorem rangeD_succ (lo : Int) (n : Nat) : rangeD lo (n + 1) = .int lo :: rangeD (lo + 1) n := by
  unfold rangeD
  rw [List.range_succ_eq_map, List.map_cons, List.map_map]
  congr 1
  · simp
  · refine List.map_congr_left fun i _ => ?_
    show PyData.int (lo + ((i + 1 : Nat) : Int)) = PyData.int (lo + 1 + (i : Int))
    congr 1
    omega
/-! ### data that may be laid -/
structure Ly (k : Nat) (d : PyData) : Prop where
  lay : d.canLay0 = true
  nd : d.hasDict = false
  dp : d.depth ≤ k
theorem Ly.mono {k k' : Nat} {d : PyData} (h : Ly k d) (hk : k ≤ k') : Ly k' d := ⟨h.lay, h.nd, Nat.le_trans h.dp hk⟩
theorem ly_all {k : Nat} : ∀ (ds : List PyData), (∀ d ∈ ds, Ly k d) → PyData.canLayAll0 ds = true ∧ PyData.hasDictAll ds = false ∧ PyData.depthAll ds ≤ k
  | [], _ => ⟨rfl, rfl, Nat.zero_le _⟩
  | d :: ds, h => by
    obtain ⟨a, b, c⟩ := ly_all ds fun x hx => h x (List.mem_cons_of_mem _ hx)
    have hd := h d List.mem_cons_self
    refine ⟨by simp [PyData.canLayAll0, hd.lay, a], by simp [PyData.hasDictAll, hd.nd, b], ?_⟩
    simp only [PyData.depthAll]
    exact Nat.max_le.mpr ⟨hd.dp, c⟩
theorem Ly.tuple {k : Nat} {ds : List PyData} (h : ∀ d ∈ ds, Ly k d) : Ly (k + 1) (.tuple ds) := by
  obtain ⟨a, b, c⟩ := ly_all ds h
  exact ⟨a, b, Nat.succ_le_succ c⟩
theorem Ly.list {k : Nat} {ds : List PyData} (h : ∀ d ∈ ds, Ly k d) : Ly (k + 1) (.list ds) := by
  obtain ⟨a, b, c⟩ := ly_all ds h
  exact ⟨a, b, Nat.succ_le_succ c⟩
theorem ly_int (i : Int) : Ly 0 (.int i) := ⟨rfl, rfl, Nat.le_refl _⟩
theorem Ly.sh {k : Nat} {d : PyData} (h : Ly k d) (hk : k ≤ 64) : shD d = true := by
  unfold shD SeqAt.shaped
  rw [h.lay, h.nd, decide_eq_true (Nat.le_trans h.dp hk)]
  rfl
theorem ly_ints (is : List Int) : ∀ d ∈ is.map PyData.int, Ly 0 d := fun d hd => by
  obtain ⟨i, _, rfl⟩ := List.mem_map.mp hd
  exact ly_int i
end DL
end L2


set_option Elab.async false
set_option maxRecDepth 100000
set_option maxHeartbeats 4000000
set_option autoImplicit false
namespace L2
namespace DL
open PySem PySem.Spec PyProof.Rows
variable [Lab]
/-! ### lambdas are made -/
abbrev lamQ (X : Cx) : Str := X.env.qual ++ "<lambda>"
/-- a lambda's object -/
def LamO (f : Addr) (q : Str) (params : Arguments) (body : Expr) (scope : Scope) (cl : List (Str × Addr)) (c' : Addr) : HO :=
  .ext fun h => ∃ pm ctv, h.get? f = some (PySem.W.kla_obj "<lambda>" q params body scope cl pm c' ctv)
omit [Lab] in
theorem nt_ext {φ : Heap → Prop} : NT (.ext φ) := fun _ h => nomatch h
section
variable {X : Cx} {pins : List (Addr × Obj)} {σ : St} {H : Hp} {s : Shared}
omit [Lab] in
theorem lamO_ok {f c' : Addr} {q : Str} {params : Arguments} {body : Expr} {scope : Scope} {cl : List (Str × Addr)} {pm ctv : Value} {H' : Hp} {h : Heap} (e : h.get? f = some (PySem.W.kla_obj "<lambda>" q params body scope cl pm c' ctv)) :
    ObjOk X.prog X.w H' h f (LamO f q params body scope cl c') := ⟨⟨pm, ctv, e⟩, ⟨_, e⟩, fun _ _ ⟨a, b, z⟩ k => ⟨a, b, k _ z⟩⟩
omit [Lab] in
theorem newFr (I : Inv X pins σ H s) {f : Addr} (hf : s.heap.objs.size ≤ f) : f ∉ frs X.stack := fun z => by
  rcases List.mem_cons.mp (I.stkSub _ z) with e | e
  · have h1 : X.env.locals < s.heap.objs.size := I.lt
    exact Nat.lt_irrefl _ (Nat.lt_of_lt_of_le (by rw [e]; exact h1) hf)
  · exact I.nofs hf e
def tLam (X : Cx) (params : Arguments) (body : Expr) (scope : Scope) : TE := fun _ H Q => TB H ∧ ∀ f c' H1, Same H H1 → TB H1 → H f = none →
  H1 f = some (LamO f (lamQ X) params body scope (cloFrom X.env.cells scope.names []) c') → H1 c' = some (LamX.CodeO c' (lamQ X)) → Q (.ref f) H1
theorem pe_lam {c P : Addr} {params : Arguments} {body : Expr} {scope : Scope} {pos : Pos} (tb0 : LamX.TabB X.base X.mg c P) (hcode : X.env.code = .ref c) (hm : (P, lamQ X) ∈ Lab.T) (hu : ∀ p ∈ Lab.T, p.1 = P → p.2 = lamQ X)
    (hfree : X.Ok → ∀ y ∈ scope.names, y.2 = .free → ∃ c, X.env.cells.lookup y.1 = some c) (hdef : defaultsOf params X.env = ([], [])) : PE X (.Lambda params body scope pos) (tLam X params body scope) := by
  refine ⟨fun pins s σ H Q I h => PySem.W.kla_eval hdef ?_⟩
  obtain ⟨tb, h⟩ := h
  obtain ⟨ps, hP, tri, all⟩ := tb _ hm
  have gP : s.heap.get? P = some { cls := .none, data := .fields ps } := I.hok P _ hP
  have bP : s.heap.BuiltinsAt X.mg P := tb0.bm.keeps I.bk
  have cl := closure_ok (hfree I.ok)
  cases hit : codeAmong pos ps.toList with
  | some cv =>
    obtain ⟨c', rfl, hc⟩ := all pos cv hit
    refine PySem.W.kla_makeFunctionHit (c := c) cl I.ok.glob (I.mod.glob.keeps I.bk) hcode (tb0.code.keeps I.bk) gP tri hit bP fun ctv h' tk kp hsz => ?_
    have I0 : Inv X pins σ H { s with heap := h', toks := tk } := I.kept kp
    have hf : H h'.objs.size = none := I0.hok.fresh (Nat.le_refl _)
    have nw := same_new hf (LamO h'.objs.size (lamQ X) params body scope (cloFrom X.env.cells scope.names []) c')
    have I1 := I0.laid (a := h'.objs.size) (o := LamO h'.objs.size (lamQ X) params body scope (cloFrom X.env.cells scope.names []) c') (h' := h'.push (PySem.W.kla_obj "<lambda>" (lamQ X) params body scope (cloFrom X.env.cells scope.names []) ((X.mg "__name__").getD .none) c' ctv)) (t' := tk)
      (fun b u e => Heap.get?_push_of_some _ e) (Nat.le_refl _) (lamO_ok (X := X) (Heap.get?_push_size _ rfl))
    exact ⟨.ref h'.objs.size, _, I1, rfl, h _ c' _ (.of nw) (tb.ext nw) hf upd_same (nw _ _ hc)⟩
  | none =>
    refine PySem.W.kla_makeFunction (c := c) cl I.ok.glob (I.mod.glob.keeps I.bk) hcode (tb0.code.keeps I.bk) gP tri hit tb0.gP bP fun c' ctv h' tk kp hge hlt hrec htb => ?_
    obtain ⟨c2, oc, vs, t, e2, hoc, hd, hv⟩ := hrec
    cases e2
    have nC : H c' = none := I.hok.fresh hge
    have I0 := LamX.inv_table (t' := tk) (q := lamQ X) (more := #[rawInt pos.line, rawInt pos.col, .ref c']) (h' := h') I hP (fun b o hb e => kp b o hb e) htb hge ⟨oc, vs, t, hoc, hd, hv⟩
    have nP : P ≠ c' := ne_of_none hP nC
    have s01 : Same H (upd (upd H P (.tbl (ps ++ #[rawInt pos.line, rawInt pos.col, .ref c']))) c' (LamX.CodeO c' (lamQ X))) := by
      refine ⟨fun b o e n => ?_, fun b e => ?_⟩
      · rw [upd_ne (ne_of_none e nC), upd_ne (fun z => n ps (by rw [z, hP] at e; exact (Option.some.inj e).symm))]
        exact e
      · by_cases h1 : b = c'
        · rw [h1, upd_same]; simp
        · rw [upd_ne h1]
          by_cases h2 : b = P
          · rw [h2, upd_same]; simp
          · rw [upd_ne h2]; exact e
    have eL : (ps ++ #[rawInt pos.line, rawInt pos.col, Value.ref c']).toList = ps.toList ++ [rawInt pos.line, rawInt pos.col, .ref c'] := by simp
    have nt : NT (LamX.CodeO c' (lamQ X)) := fun ps => LamX.codeO_ne ps
    have t1 : TB (upd (upd H P (.tbl (ps ++ #[rawInt pos.line, rawInt pos.col, .ref c']))) c' (LamX.CodeO c' (lamQ X))) := fun p hp => by
      by_cases hb : p.1 = P
      · rw [hu p hp hb, hb]
        refine ⟨_, (upd_ne nP).trans upd_same, by rw [eL]; exact PySem.TriplesOk_snoc _ _ _ _ tri, fun p' cv hcv => ?_⟩
        rw [eL] at hcv
        rcases LamX.among_app _ tri hcv with z | z
        · obtain ⟨c0, e1, e2⟩ := all p' cv z
          exact ⟨c0, e1, s01.h _ _ e2 LamX.codeO_ne⟩
        · exact ⟨c', z, upd_same⟩
      · obtain ⟨ps', a1, a2, a3⟩ := tb p hp
        refine ⟨ps', ?_, a2, fun p' cv hcv => ?_⟩
        · rw [upd_ne (ne_of_none a1 nC), upd_ne hb]
          exact a1
        · obtain ⟨c0, e1, e2⟩ := a3 p' cv hcv
          exact ⟨c0, e1, s01.h _ _ e2 LamX.codeO_ne⟩
    have hsz : s.heap.objs.size ≤ h'.objs.size := Nat.le_trans hge (Nat.le_of_lt hlt)
    have hf : (upd (upd H P (.tbl (ps ++ #[rawInt pos.line, rawInt pos.col, .ref c']))) c' (LamX.CodeO c' (lamQ X))) h'.objs.size = none := I0.hok.fresh (Nat.le_refl _)
    have nw := same_new hf (LamO h'.objs.size (lamQ X) params body scope (cloFrom X.env.cells scope.names []) c')
    have I1 := I0.laid (a := h'.objs.size) (o := LamO h'.objs.size (lamQ X) params body scope (cloFrom X.env.cells scope.names []) c') (h' := h'.push (PySem.W.kla_obj "<lambda>" (lamQ X) params body scope (cloFrom X.env.cells scope.names []) ((X.mg "__name__").getD .none) c' ctv)) (t' := tk)
      (fun b u e => Heap.get?_push_of_some _ e) (Nat.le_refl _) (lamO_ok (X := X) (Heap.get?_push_size _ rfl))
    exact ⟨.ref h'.objs.size, _, I1, rfl, h _ c' _ (s01.trans (.of nw)) (t1.ext nw) (I.hok.fresh hsz) upd_same (nw _ _ upd_same)⟩
end
/-! ### a lambda of one parameter, called by a built-in -/
/-- its names: the parameter, captured ones, globals -/
structure Lam1 (sc scope : Scope) (y : Str) : Prop where
  kind : scope.kind = .function
  co : scope.isCoroutine = false
  gen : scope.isGenerator = false
  loc : ∀ z ∈ scope.names, z.2 = .local → z.1 = y
  own : ∀ z ∈ scope.names, z.2 ≠ .cell
  par : scope.names.lookup y = some .local
  free : ∀ z ∈ scope.names, z.2 = .free → sc.names.lookup z.1 = some .cell ∨ sc.names.lookup z.1 = some .free
def lam1B (sc scope : Scope) (y : Str) : Bool :=
  decide (scope.kind = .function) && (!scope.isCoroutine && (!scope.isGenerator && (decide (scope.names.lookup y = some .local) && scope.names.all fun z => !decide (z.2 = .cell) && ((!decide (z.2 = .local) || decide (z.1 = y)) && (!decide (z.2 = .free) || (decide (sc.names.lookup z.1 = some .cell) || decide (sc.names.lookup z.1 = some .free)))))))
omit [Lab] in
theorem lam1_by {sc scope : Scope} {y : Str} (h : lam1B sc scope y = true) : Lam1 sc scope y := by
  unfold lam1B at h
  simp only [Bool.and_eq_true, Bool.or_eq_true, Bool.not_eq_true', decide_eq_true_eq, decide_eq_false_iff_not, List.all_eq_true] at h
  obtain ⟨h1, h2, h3, h4, h5⟩ := h
  exact ⟨h1, h2, h3, fun z hz e => (h5 z hz).2.1.elim (fun w => absurd e w) id, fun z hz => (h5 z hz).1, h4, fun z hz e => (h5 z hz).2.2.elim (fun w => absurd e w) id⟩
omit [Lab] in
theorem Lam1.has {X : Cx} {scope : Scope} {y : Str} (L : Lam1 X.env.scope scope y) (ok : X.Ok) : ∀ z ∈ scope.names, z.2 = .free → ∃ c, X.env.cells.lookup z.1 = some c := fun z hz e => ok.has _ (L.free z hz e)
/-- the context of its body -/
abbrev lam1Cx (X : Cx) (A : Around) (outer : List Env) (s : Shared) (H : Hp) (E : XK) (scope : Scope) (f c' : Addr) (y : Str) : Cx := { LamX.lamCx X A outer s H E scope f c' with N := X.N ++ [y] }
section
variable {X : Cx} {pins : List (Addr × Obj)} {σ : St} {H : Hp} {s : Shared}
omit [Lab] in
theorem lam1_start {A : Around} {E : XK} {scope : Scope} {f c' : Addr} {h₁ : Heap} {tk : Nat} {y : Str} {v : V} {u : Value} (I : Inv X pins σ H s) (L : Lam1 X.env.scope scope y) (hA : A.frames = some X.stack) (hd : A.handled = none) (hy : y ∉ X.N) (rv : RelV v u)
    (hns : h₁.Ns s.heap.objs.size fun z => [(y, u)].reverse.lookup z) (kp : ∀ b o, s.heap.get? b = some o → h₁.get? b = some o) :
    Inv (lam1Cx X A X.stack s H E scope f c' y) [] (σ ++ [some v]) H { s with heap := h₁, toks := tk } := by
  have e0 := I.env0
  have hfree := L.has I.ok
  have cm : ∀ {z : Str} {c : Addr}, (cloFrom X.env.cells scope.names []).lookup z = some c → X.env.cells.lookup z = some c := fun {z c} e => by
    rcases cloFrom_mem (PySem.mem_of_lookup e) with hm | ⟨h1, h2⟩
    · cases hm
    · obtain ⟨c1, hc⟩ := hfree _ h1 rfl
      have hc' : X.env.cells.lookup z = some c1 := hc
      rw [hc'] at h2
      rw [hc']
      exact congrArg some h2.symm
  have look : ∀ {z : Str}, scope.names.lookup z = some .free → ∃ c, (cloFrom X.env.cells scope.names []).lookup z = some c := fun {z} hl =>
    mem_lookup (cloFrom_has (cells := X.env.cells) (acc := []) (PySem.mem_of_lookup hl))
  have cellK : ∀ {c : Addr} {w : Option Value}, s.heap.IsCell c w → h₁.IsCell c w := fun {c w} ⟨o, ho, hd⟩ => ⟨o, kp _ _ ho, hd⟩
  have noA : ∀ b : Addr, b ∉ (lam1Cx X A X.stack s H E scope f c' y).ex := fun b z => nomatch (show b ∈ ([] : List Addr) from z)
  refine ⟨⟨e0.mod, L.kind, rfl, rfl, Nat.le_refl _, fun a b c e1 e2 => I.ok.inj a b c (cm e1) (cm e2), fun z hz => ?_, fun _ _ z _ => ?_, fun _ => hd, Around.frames_deeper hA, .inr ⟨rfl, rfl⟩, fun b z => absurd z (noA b), e0.bs, e0.bsz, fun b _ _ => noA b, fun b z => absurd z (noA b), e0.funs, e0.frf⟩,
    rfl, e0.bare, Un.kept kp, ⟨_, hns, fun i z w e1 e2 e3 => ?_⟩, fun z c e => ?_, e0.hok.fresh (Nat.le_refl _), fun z c e => ?_, fun q hq => ?_, e0.hok.kept kp, ?_⟩
  · rcases (show scope.names.lookup z = some .cell ∨ scope.names.lookup z = some .free from hz) with hz | hz
    · exact absurd rfl (L.own _ (PySem.mem_of_lookup hz))
    · exact look hz
  · cases (show false = true from z)
  · have hlen : σ.length = X.N.length := I.len
    have e1 : (X.N ++ [y])[i]? = some z := e1
    by_cases hi : i < X.N.length
    · rw [List.getElem?_append_left hi] at e1
      rw [List.getElem?_append_left (by omega)] at e2
      rcases (show Vis scope z from e3) with k | k | k
      · have : z = y := L.loc _ (PySem.mem_of_lookup k) rfl
        exact absurd (this ▸ List.mem_of_getElem? e1) hy
      · exact absurd rfl (L.own _ (PySem.mem_of_lookup k))
      · obtain ⟨m, hn, hl⟩ := I.loc
        have hvis : Vis X.env.scope z := (L.free _ (PySem.mem_of_lookup k) rfl).elim (fun k => .inr (.inl k)) (fun k => .inr (.inr k))
        obtain ⟨w', r, q⟩ := hl i z w e1 e2 hvis
        obtain ⟨c2, h2⟩ := look k
        refine ⟨w', r, .inr ⟨.inr k, c2, h2, ?_⟩⟩
        rcases q with ⟨k', _⟩ | ⟨_, c3, e', z'⟩
        · have k3 : X.env.scope.names.lookup z = some .local := k'
          rcases L.free _ (PySem.mem_of_lookup k) rfl with k2 | k2 <;> rw [show X.env.scope.names.lookup z = _ from k2] at k3 <;> cases k3
        · rw [cm h2] at e'
          cases e'
          exact cellK z'
    · have hi2 : i = X.N.length := by
        have := (List.getElem?_eq_some_iff.mp e1).1
        rw [List.length_append] at this
        have h1 : [y].length = 1 := rfl
        omega
      subst hi2
      rw [List.getElem?_append_right (Nat.le_refl _), Nat.sub_self] at e1
      rw [← hlen, List.getElem?_append_right (Nat.le_refl _), Nat.sub_self] at e2
      cases e1
      cases e2
      exact ⟨u, rv, .inl ⟨L.par, by simp⟩⟩
  · obtain ⟨w', z'⟩ := I.cell z c (cm e)
    exact ⟨w', cellK z'⟩
  · exact I.freeC z c (cm e)
  · exact nomatch (show q ∈ ([] : List (Addr × Obj)) ++ [] from hq)
  · show (σ ++ [some v]).length = (X.N ++ [y]).length
    rw [List.length_append, List.length_append, I.len]
    rfl
/-- f(u), f a lambda of one parameter made in this frame -/
theorem lam1_call {A : Around} {scope : Scope} {f c' : Addr} {y : Str} {v : V} {u : Value} {k : Nat} {params : Arguments} {body : Expr} {tb : TE} {Q : VK} {E0 : Value → Shared → Prop} (I : Inv X pins σ H s) (L : Lam1 X.env.scope scope y) (hA : A.frames = some X.stack) (hr : Room (k + 1) A) (hy : y ∉ X.N) (rv : RelV v u)
    (hf : H f = some (LamO f (lamQ X) params body scope (cloFrom X.env.cells scope.names []) c')) (hc : H c' = some (LamX.CodeO c' (lamQ X)))
    (hbind : ∀ (q : Str) (cl : List (Str × Addr)) (pm cv ctv : Value), bindArgs (PySem.W.kla_fn "<lambda>" q params body scope cl pm cv ctv) ⟨[u], []⟩ = pure [(y, u)])
    (hbody : Room k (A.deeper (LamX.lamEnv X scope s.heap.objs.size f c')) → PE (lam1Cx X A X.stack s H (fun _ _ _ => False) scope f c' y) body tb) (ht : tb (σ ++ [some v]) H Q) :
    wpAny (model X.prog X.w) A (call (.ref f) [u]) (fun z s' => CE X.stack X.prog X.w H s Q z s') E0 s := by
  obtain ⟨⟨pm, ctv, of1⟩, _, _⟩ := I.hok f _ hf
  obtain ⟨⟨oc, vs, t, hoc, hdc, hvc⟩, _, _⟩ := I.hok c' _ hc
  have rc : codeAny (model X.prog X.w) A (.call (.ref f) ⟨[u], []⟩) (CR (L2.CX X.prog X.w) X.stack X.prog X.w H s Q fun _ _ _ => False) s := by
    refine PySem.W.kla_callFunE hr.depth of1 rfl L.co L.gen rfl ⟨c', oc, vs, t, rfl, hoc, hdc, hvc⟩ ?_
    rw [hbind]
    refine wpAny_pure (wpAny_newFunctionEnv (fun z hz => L.own z hz) (fun z hz => ?_) (fun h₁ hns hsb => ⟨I.nolimit.fresh _ hsb, ?_⟩) L.kind)
    · rw [List.mem_singleton] at hz
      rw [hz]
      exact L.par
    show codeAny _ _ (.expr body (LamX.lamEnv X scope s.heap.objs.size f c')) _ _
    have kp : ∀ b o, s.heap.get? b = some o → h₁.get? b = some o := fun b o e => hsb.extBut b o (Nat.ne_of_lt (Heap.lt_size e)) (Heap.get?_push_of_some _ e)
    have J := lam1_start (tk := s.toks + [(y, u)].length) (E := fun _ _ _ => False) (f := f) (c' := c') I L hA hr.hd hy rv hns kp
    refine PySem.W.kla_codeExpr (wpAny_mono ((hbody (hr.deeper _)).run [] _ _ H Q J ht) (fun z s' hq => ?_) fun e s' hq => hq)
    obtain ⟨w', H', J', rv, q⟩ := hq
    exact ⟨w', H', J'.os, J'.bare, J'.base, J'.hok, rv, q⟩
  refine wpAny_call (codeAny_mono rc fun r s' hq => ?_)
  cases r with
  | error z =>
    obtain ⟨_, _, _, _, _, _, _, _, _, _, _, _, z⟩ := hq
    exact z.elim
  | ok fl =>
    cases fl with
    | ret u => exact hq
    | next => cases hq
    | brk => cases hq
    | cont => cases hq
end
end DL
end L2


set_option Elab.async false
set_option maxRecDepth 100000
set_option maxHeartbeats 4000000
set_option autoImplicit false
namespace L2
namespace DL
open PySem PySem.Spec PyProof.Rows PySem.Calls
variable [Lab]
/-! ### what a lambda's body sees of the slots -/
def frzO : Option DV → Option DV
  | some (.fr d) => some (.fr d)
  | _ => none
def frzE (env : DEnv) : DEnv := env.map frzO
omit [Lab] in
theorem frzO_some {o : Option DV} {dv : DV} (h : frzO o = some dv) : ∃ d, dv = .fr d ∧ o = some (.fr d) := by
  match o, h with
  | some (.fr d), h => cases h; exact ⟨d, rfl, rfl⟩
theorem frzE_get {env : DEnv} {d0 : PyData} {i : Nat} {dv : DV} (h : (frzE env ++ [some (.fr d0)])[i]? = some (some dv)) : (i < env.length ∧ ∃ d, dv = .fr d ∧ env[i]? = some (some (.fr d))) ∨ (i = env.length ∧ dv = .fr d0) := by
  have hl : (frzE env).length = env.length := List.length_map ..
  by_cases hi : i < env.length
  · rw [List.getElem?_append_left (by omega)] at h
    unfold frzE at h
    rw [List.getElem?_map] at h
    obtain ⟨o, h1, h2⟩ := mpd h
    obtain ⟨d, e1, e2⟩ := frzO_some h2
    exact .inl ⟨hi, d, e1, by rw [h1, e2]⟩
  · rw [List.getElem?_append_right (by omega)] at h
    have h2 : i - (frzE env).length = 0 := by
      have := (List.getElem?_eq_some_iff.mp h).1
      simp at this
      omega
    rw [h2] at h
    cases h
    exact .inr ⟨by omega, rfl⟩
theorem Rel.lam {K : PySem.W.Frag} {F : Fm} {Z H : Hp} {σ : St} {env : DEnv} {v : V} {d : PyData} (r : Rel K F Z H σ env) (hd : DD K Z v d) : Rel K F Z H (σ ++ [some v]) (frzE env ++ [some (.fr d)]) := by
  refine ⟨r.z0, r.zh, r.gh, r.nw, r.pp, ?_, fun i dv e => ?_, fun i j di dj p ei ej oi => ?_, r.tb⟩
  · rw [List.length_append, List.length_append]
    show (env.map frzO).length + 1 = _ + 1
    rw [List.length_map, r.len]
  · rcases frzE_get e with ⟨hi, d', rfl, e2⟩ | ⟨rfl, rfl⟩
    · obtain ⟨w, a, b⟩ := r.sl i _ e2
      refine ⟨w, ?_, b⟩
      rw [List.getElem?_append_left (by rw [← r.len]; exact hi)]
      exact a
    · refine ⟨v, ?_, hd⟩
      rw [r.len, List.getElem?_append_right (Nat.le_refl _), Nat.sub_self]
      rfl
  · rcases frzE_get ei with ⟨_, d', rfl, _⟩ | ⟨_, rfl⟩ <;> cases oi
theorem stp_grow {σ : St} {env env' : DEnv} {d : PyData} {Z H Z' H' : Hp} (zh : Same Z' H') (tb : TB H') (s : Stp σ (frzE env ++ [some (.fr d)]) Z H env' Z' H') : Grow Z H Z' H' := by
  have fr : ∀ q, Fre σ (frzE env ++ [some (.fr d)]) q := fun q i dv e o => by
    rcases frzE_get e with ⟨_, d', rfl, _⟩ | ⟨_, rfl⟩ <;> cases o
  refine ⟨s.z, zh, ⟨fun b o e n => s.h b o e n (fr b), s.k⟩, fun _ => tb, fun q hq => ?_⟩
  by_cases hz : Z q = none
  · exact .inr (Classical.byContradiction fun hh => s.n q hq hz hh (fr q))
  · exact .inl hz
/-- the key of an item -/
def keyOf (fb : DEnv → Option (PyData × DEnv)) (env : DEnv) (d : PyData) : Option PyData := (fb (frzE env ++ [some (.fr d)])).map (·.1)
/-! ### objects of a built-in's own -/
structure Nu (X : Cx) (pins : List (Addr × Obj)) (a : Addr) : Prop where
  l : a ≠ X.env.locals
  s0 : X.s_0.heap.objs.size ≤ a
  c : ∀ x c, X.env.cells.lookup x = some c → c ≠ a
  p : ∀ q ∈ X.pn ++ pins, q.1 ≠ a
  f : a ∉ frs X.stack
section
variable {X : Cx} {pins : List (Addr × Obj)} {σ : St} {H : Hp} {s : Shared}
omit [Lab] in
theorem Nu.new (I : Inv X pins σ H s) {a : Addr} (h : s.heap.objs.size ≤ a) : Nu X pins a := by
  refine ⟨fun z => ?_, Nat.le_trans I.sz h, fun x c e z => ?_, fun q hq z => ?_, newFr I h⟩
  · have := I.lt
    rw [← z] at this
    exact Nat.lt_irrefl _ (Nat.lt_of_lt_of_le this h)
  · obtain ⟨w, o, ho, _⟩ := I.cell x c e
    rw [z] at ho
    exact Nat.lt_irrefl _ (Nat.lt_of_lt_of_le (Heap.lt_size ho) h)
  · have ho := (I.pin q hq).1
    rw [z] at ho
    exact Nat.lt_irrefl _ (Nat.lt_of_lt_of_le (Heap.lt_size ho) h)
omit [Lab] in
theorem Inv.at_own (I : Inv X pins σ H s) {a : Addr} (n : Nu X pins a) (hn : H a = none) {h' : Heap} {t' : Nat} (k : ∀ b o, b ≠ a → s.heap.get? b = some o → h'.get? b = some o) : Inv X pins σ H { s with heap := h', toks := t' } :=
  L2.Inv.turned I k hn n.l (.inr n.s0) n.c n.p
/-- two own objects change, the first one is known from now on -/
theorem adopt (I : Inv X pins σ H s) {a b : Addr} (na : Nu X pins a) (nb : Nu X pins b) (ha : H a = none) (hb : H b = none) {h' : Heap} {t' : Nat} {xs : List V} {its : List Value} {n : Nat} (k : ∀ q o, q ≠ a → q ≠ b → s.heap.get? q = some o → h'.get? q = some o)
    (e : h'.get? a = some (seqObj "list" its.toArray n)) (rv : Vals xs its) (hl : xs.length ≤ sizeLine) : Inv X pins σ (upd H a (.lst xs)) { s with heap := h', toks := t' } := by
  have nit : ∀ q u, H q = some u → q ≠ a ∧ q ≠ b := fun q u e => ⟨ne_of_none e ha, ne_of_none e hb⟩
  refine I.step (g' := s.gens) (d' := s.drawn) (ch := [a, b]) (fun q hq => ?_) (fun q o _ _ hc e _ => k q o (fun z => hc (by simp [z])) (fun z => hc (by simp [z])) e) (fun q o _ _ hc e _ => ⟨o.slots, k q o (fun z => hc (by simp [z])) (fun z => hc (by simp [z])) e⟩)
    (fun q o hc e z => by rw [upd_ne (fun z => hc (by simp [z]))]; exact z) (fun q o hc e => ⟨o, k q o (fun z => hc (by simp [z])) (fun z => hc (by simp [z])) e⟩) (fun q xs e => by rw [upd_ne (nit q _ e).1]; exact e) (fun q o u e => by rw [upd_ne (nit q _ e).1]; exact e)
    (fun q ps e => ⟨#[], by rw [upd_ne (nit q _ e).1, e]; simp⟩) (fun m hm => ?_) (fun q u e1 => ?_) I.bare
  · rcases (show q = a ∨ q = b by simpa using hq) with rfl | rfl
    · exact ⟨.inr na.s0, na.l, na.c, na.p⟩
    · exact ⟨.inr nb.s0, nb.l, nb.c, nb.p⟩
  · obtain ⟨o, es, ep, ho, r⟩ := hm
    exact ⟨o, es, ep, k _ o (Ne.symm na.l) (Ne.symm nb.l) ho, r⟩
  · by_cases hq : q = a
    · subst hq
      rw [upd_same] at e1
      cases e1
      exact ⟨hl, its, n, rv, e⟩
    · rw [upd_ne hq] at e1
      refine (I.hok q u e1).stay (fun c v hc z => k c v ?_ ?_ z) (fun d z => by rw [upd_ne (nit d _ z).1]; exact z) fun d xs z => by rw [upd_ne (nit d _ z).1]; exact z
      · rcases hc with z | z
        · rw [z]; exact hq
        · exact (nit c _ z).1
      · rcases hc with z | z
        · rw [z]; exact (nit q u e1).2
        · exact (nit c _ z).2
end
end DL
end L2


set_option Elab.async false
set_option maxRecDepth 100000
set_option maxHeartbeats 4000000
set_option autoImplicit false
namespace L2
namespace DL
open PySem PySem.Spec PyProof.Rows PySem.Calls
variable [Lab]
theorem vals_each {K : PySem.W.Frag} {Z : Hp} {X : Cx} {pins : List (Addr × Obj)} {σ : St} {H : Hp} {s : Shared} (I : Inv X pins σ H s) (zh : Same Z H) : ∀ {vs : List V} {us : List Value} {ds : List PyData}, Vals vs us → DDs X.K Z vs ds → (∀ d ∈ ds, d.hasDict = false) →
    PySem.W.EachIs (fun v d => ∃ as, Reads s.heap v d as) us ds
  | _, _, [], h, g, _ => by cases g; cases h; exact .nil
  | _, _, d :: ds, h, g, n => by
    cases g with
    | cons g1 g2 =>
      cases h with
      | cons h1 h2 => exact .cons (Dp.reads I d _ _ ((DDm g1 zh).dp d _ (n d List.mem_cons_self)) h1) (vals_each (K := K) I zh h2 g2 fun x hx => n x (List.mem_cons_of_mem _ hx))
section
variable {X : Cx} {pins : List (Addr × Obj)} {σ : St} {H : Hp} {s : Shared} {F : Fm}
/-- what a key function is asked for -/
structure KeyFn (X : Cx) (F : Fm) (A : Around) (k : Nat) (y : Str) (scope : Scope) (params : Arguments) (body : Expr) (fb : DEnv → Option (PyData × DEnv)) (f c' : Addr) : Prop where
  L : Lam1 X.env.scope scope y
  fr : A.frames = some X.stack
  rm : Room (k + 1) A
  ny : y ∉ X.N
  bind : ∀ (u : Value) (q : Str) (cl : List (Str × Addr)) (pm cv ctv : Value), bindArgs (PySem.W.kla_fn "<lambda>" q params body scope cl pm cv ctv) ⟨[u], []⟩ = pure [(y, u)]
  body : ∀ (s : Shared) (H : Hp), Room k (A.deeper (LamX.lamEnv X scope s.heap.objs.size f c')) → PD (lam1Cx X A X.stack s H (fun _ _ _ => False) scope f c' y) F body fb
theorem key_turn {A : Around} {k : Nat} {y : Str} {scope : Scope} {params : Arguments} {body : Expr} {fb : DEnv → Option (PyData × DEnv)} {f c' : Addr} {Z : Hp} {env : DEnv} {v : V} {u : Value} {d q : PyData} {E : Value → Shared → Prop} (kf : KeyFn X F A k y scope params body fb f c') (I : Inv X pins σ H s) (r : Rel X.K F Z H σ env)
    (hf : H f = some (LamO f (lamQ X) params body scope (cloFrom X.env.cells scope.names []) c')) (hc : H c' = some (LamX.CodeO c' (lamQ X))) (rv : RelV v u) (dd : DD X.K Z v d) (hk : keyOf fb env d = some q) :
    wpAny (model X.prog X.w) A (call (.ref f) [u]) (fun z s' => ∃ w Z' H', Inv X pins σ H' s' ∧ Grow Z H Z' H' ∧ RelV w z ∧ DD X.K Z' w q ∧ Un (frs X.stack) [] H H' s.heap s'.heap) E s := by
  obtain ⟨⟨q', e'⟩, h1, rfl⟩ := mpd hk
  refine wpAny_mono (lam1_call (k := k) (tb := tD X.K F fb) (Q := fun w H' => ∃ Z', Grow Z H Z' H' ∧ DD X.K Z' w q') (E0 := E) I kf.L kf.fr kf.rm kf.ny rv hf hc (fun _ _ _ _ _ => kf.bind u _ _ _ _ _) (kf.body s H) ?_) (fun z s' hce => ?_) fun _ _ e => e
  · exact ⟨Z, frzE env ++ [some (.fr d)], q', e', r.lam dd, h1, fun w Z' H' r' s' d' => ⟨Z', stp_grow r'.zh r'.tb s', d'⟩⟩
  · obtain ⟨w, H', os, bare, un, hok, rz, Z', gr, dz⟩ := hce
    obtain ⟨w2, H2, I2, _, rfl, rfl⟩ := I.after (Q := fun w' H'' => w' = w ∧ H'' = H') ⟨w, H', os, bare, un, hok, rz, rfl, rfl⟩
    exact ⟨w2, Z', H2, I2, gr, rz, dz, un⟩
/-- how the items come to lie -/
def sortD (ds ks : List PyData) : List PyData := ((ds.zip ks).mergeSort (PySem.W.dataLe false (·.2))).map (·.1)
structure KeysOk (A : Around) (fb : DEnv → Option (PyData × DEnv)) (env : DEnv) (ds ks : List PyData) : Prop where
  key : ∀ (i : Nat) (d q : PyData), ds[i]? = some d → ks[i]? = some q → keyOf fb env d = some q
  len : ks.length = ds.length
  alike : PySem.W.AllAlike ks
  sortable : PySem.W.Sortable ks
  nd : ∀ d ∈ ks, d.hasDict = false
  dp : ∀ d, d ∈ ks → A.units + d.depth < cLine
theorem zip3 {α β γ : Type} : ∀ (xs : List α) (ds : List β) (ks : List γ), (xs.zip (ds.zip ks)).map (·.2) = (ds.zip ks).take xs.length
  | [], _, _ => rfl
  | x :: xs, [], _ => rfl
  | x :: xs, _ :: _, [] => rfl
  | x :: xs, d :: ds, k :: ks => by
    show (d, k) :: (xs.zip (ds.zip ks)).map (·.2) = (d, k) :: (ds.zip ks).take xs.length
    rw [zip3 xs ds ks]
theorem sort_run {A : Around} {a f c' : Addr} {n0 k : Nat} {y : Str} {scope : Scope} {params : Arguments} {body : Expr} {fb : DEnv → Option (PyData × DEnv)} {vs : List Value} {xs : List V} {ds ks : List PyData} {Z : Hp} {env : DEnv} {P : PySem.Fin → Shared → Prop} {E : Value → Shared → Prop}
    (kf : KeyFn X F A k y scope params body fb f c') (I : Inv X pins σ H s) (r : Rel X.K F Z H σ env) (hf : H f = some (LamO f (lamQ X) params body scope (cloFrom X.env.cells scope.names []) c')) (hc : H c' = some (LamX.CodeO c' (lamQ X)))
    (ha : s.heap.get? a = some (seqObj "list" vs.toArray n0)) (na : Nu X pins a) (hna : H a = none) (rv : Vals xs vs) (dd : DDs X.K Z xs ds) (ko : KeysOk A fb env ds ks) (hZ : vs.length ≤ sizeLine)
    (h : ∀ Z' H' s' xs', Inv X pins σ (upd H' a (.lst xs')) s' → Grow Z H Z' H' → H' a = none → DDs X.K Z' xs' (sortD ds ks) → P (.done (.ret .none)) s') :
    wpAny (model X.prog X.w) A (PyProof.Rows.ksk_tree a (.ref f) false) P E s := by
  have hlv := rv.length
  have hld := dds_len dd
  have hlk := ko.len
  have hlt : a < s.heap.objs.size := Heap.lt_size ha
  obtain ⟨e1, ho1⟩ : ∃ e1, (s.heap.update a (Obj.mapSeq fun _ => (#[] : Array Value))).get? a = some (seqObj "list" #[] e1) := ⟨_, get?_update_seq ha fun _ => #[]⟩
  have kS1 : ((s.heap.update a (Obj.mapSeq fun _ => (#[] : Array Value))).push (seqObj "tuple" vs.toArray 0)).objs.size = s.heap.objs.size + 1 := by rw [size_push', Heap.size_update]
  unfold PyProof.Rows.ksk_tree
  refine wpAny_bind (listItems_at ha rfl (wpAny_bind (listUpdate_at ha rfl ?_ (by rw [List.size_toArray]; exact hZ) (Nat.zero_le _))))
  refine wpAny_bind (seqEpoch_at ho1 rfl (wpAny_bind (wpAny_newTuple (wpAny_bind (wpAny_newList (wpAny_holding ?_) (Nat.zero_le _))) (show vs.length ≤ _ from hZ))))
  generalize hkS : ((s.heap.update a (Obj.mapSeq fun _ => (#[] : Array Value))).push (seqObj "tuple" vs.toArray 0)).objs.size = kS at *
  have nS : Nu X pins kS := Nu.new I (by rw [kS1]; exact Nat.le_succ _)
  have hnS : H kS = none := I.hok.fresh (by rw [kS1]; exact Nat.le_succ _)
  have hSa : kS ≠ a := by
    intro z
    rw [kS1] at z
    have hlt2 : a < s.heap.objs.size := hlt
    rw [← z] at hlt2
    exact Nat.lt_irrefl _ (Nat.lt_trans hlt2 (Nat.lt_succ_self _))
  have I0 : Inv X pins σ H { s with heap := PySem.W.sortingHeap s.heap a vs } := Inv.at_own (t' := s.toks) I na hna fun b o hb e => PySem.W.sortingHeap_old hb e
  have gS : (PySem.W.sortingHeap s.heap a vs).get? kS = some (seqObj "list" #[] 0) := by
    rw [← hkS]
    exact Heap.get?_push_size _ rfl
  have ga : (PySem.W.sortingHeap s.heap a vs).get? a = some (seqObj "list" #[] e1) := Heap.get?_push_of_some _ (Heap.get?_push_of_some _ ho1)
  show wpAny _ A (PyProof.Rows.ksk_rest a (.ref f) false vs.toArray e1 (.ref kS)) _ _ { s with heap := PySem.W.sortingHeap s.heap a vs }
  unfold PyProof.Rows.ksk_rest
  refine wpAny_bind (wpAny_rule ?_)
  first
    | rw [List.forIn_toArray]
    | (rw [← Array.forIn_toList]; simp only [List.toList_toArray])
  refine wpAny_bind (PyProof.Rows.ksk_fold (fun i s' => ∃ Zc Hc kA e kv, Inv X pins σ Hc s' ∧ Rel X.K F Zc Hc σ env ∧ Grow Z H Zc Hc ∧ s'.heap.get? kS = some (seqObj "list" kA e) ∧ s'.heap.get? a = some (seqObj "list" #[] e1) ∧ Hc kS = none ∧ Hc a = none ∧ Vals kv kA.toList ∧ DDs X.K Zc kv (ks.take i)) vs 0 _
    ⟨Z, H, #[], 0, [], I0, r, Grow.refl r.zh, gS, ga, hnS, hna, .nil, by rw [List.take_zero]; exact .nil⟩ ?step ?done)
  case step =>
    rintro j u s' hx ⟨Zc, Hc, kA, e, kv, Ic, rc, gr, gS', ga', nS', na', rk, dk⟩
    simp only [Nat.zero_add] at dk ⊢
    have hj : j < vs.length := (List.getElem?_eq_some_iff.mp hx).1
    obtain ⟨v, hv, ru⟩ : ∃ v, xs[j]? = some v ∧ RelV v u := by
      obtain ⟨u', hu', ru'⟩ := rv.get (List.getElem?_eq_getElem (show j < xs.length by omega))
      rw [hx] at hu'
      cases hu'
      exact ⟨_, List.getElem?_eq_getElem (show j < xs.length by omega), ru'⟩
    obtain ⟨d, hdj, ddj⟩ := dds_get' dd hv
    obtain ⟨q, hq⟩ : ∃ q, ks[j]? = some q := ⟨_, List.getElem?_eq_getElem (by omega)⟩
    have hz : kA.size ≤ vs.length := by
      have l1 : kv.length = kA.size := rk.length.trans (Array.length_toList ..)
      have l2 := dds_len dk
      rw [List.length_take] at l2
      omega
    refine wpAny_bind (wpAny_attempt (wpAny_mono (key_turn (E := fun _ _ => False) kf Ic rc (gr.h.h _ _ hf nt_ext) (gr.h.h _ _ hc LamX.codeO_ne) ru (DDm ddj gr.z) (ko.key j d q hdj hq)) (fun z s2 hz2 => ?_) fun _ _ w => w.elim))
    obtain ⟨w, Z2, H2, I2, gr2, rw2, dw, un⟩ := hz2
    have gS2 : s2.heap.get? kS = some (seqObj "list" kA e) := un.keep kS _ gS' nS' nS.f (by simp)
    have ga2 : s2.heap.get? a = some (seqObj "list" #[] e1) := un.keep a _ ga' na' na.f (by simp)
    have nS2 : H2 kS = none := un.free kS _ gS' nS' (by simp)
    have na2 : H2 a = none := un.free a _ ga' na' (by simp)
    have sb := Heap.SameBut.update s2.heap kS (Obj.mapSeq (·.push z))
    obtain ⟨c2, hc2⟩ : ∃ c2, (s2.heap.update kS (Obj.mapSeq (·.push z))).get? kS = some (seqObj "list" (kA.push z) c2) := ⟨_, get?_update_seq gS2 (·.push z)⟩
    refine wpAny_bind (listUpdate_at gS2 rfl ?_ (Nat.le_trans hz hZ) (Nat.le_trans (Nat.le_of_eq (Array.size_push ..)) (Nat.succ_le_succ (Nat.le_trans hz hZ))))
    refine wpAny_pure ⟨rfl, Z2, H2, kA.push z, c2, kv ++ [w], Inv.at_own (t' := s2.toks) I2 nS nS2 fun b o hb eb => (sb.2 b hb).trans eb, rc.grow gr2, gr.trans gr2, hc2, (sb.2 a (Ne.symm hSa)).trans ga2, nS2, na2, ?_, ?_⟩
    · rw [Array.toList_push]
      exact rk.append (.cons rw2 .nil)
    · rw [List.take_add_one, hq]
      exact dds_app (DDsm dk gr2.z) (.cons dw .nil)
  case done =>
    rintro s' ⟨Zc, Hc, kA, e, kv, Ic, rc, gr, gS', ga', nS', na', rk, dk⟩
    rw [Nat.zero_add, List.take_of_length_le (by omega)] at dk
    have each := vals_each (K := X.K) Ic rc.zh rk dk ko.nd
    have hsz : kA.size = vs.length := by
      have l1 : kv.length = kA.size := rk.length.trans (Array.length_toList ..)
      have l2 := dds_len dk
      omega
    refine wpAny_bind (listItems_at gS' rfl ?_)
    refine PySem.W.keyH_end (κ := PySem.W.dataKind s'.heap ks) (h₁ := PySem.W.hideAll s'.heap [kS]) (fun b o _ eb => PySem.W.of_hideAll _ eb) (PySem.W.hideAll_none _ (by simp)) gS' ga' hSa (PySem.W.SortsAt.data each ko.alike ko.sortable ko.dp) hsz hZ fun h' tk c kp hD => ?_
    have bsl : (xs.zip (ds.zip ks)).map (·.2.2) = ks := by
      have e1 : (xs.zip (ds.zip ks)).map (·.2.2) = ((xs.zip (ds.zip ks)).map (·.2)).map (·.2) := by rw [List.map_map]; rfl
      rw [e1, zip3, List.take_of_length_le (by rw [List.length_zip]; omega), List.map_snd_zip (by omega)]
    have ec : PySem.W.EachIs (fun v (b : V × PyData × PyData) => RelV b.1 v ∧ DD X.K Z b.1 b.2.1) vs (xs.zip (ds.zip ks)) := by
      refine PySem.W.EachIs.of_zip (by rw [List.length_zip, List.length_zip]; omega) fun p hp => ?_
      obtain ⟨i, hi, hpe⟩ := List.getElem_of_mem hp
      have g := List.getElem?_eq_getElem hi
      rw [hpe, List.getElem?_zip_eq_some] at g
      obtain ⟨g1, g2⟩ := g
      rw [List.getElem?_zip_eq_some] at g2
      obtain ⟨g2, g3⟩ := g2
      rw [List.getElem?_zip_eq_some] at g3
      obtain ⟨u', hu', ru'⟩ := rv.get g2
      rw [g1] at hu'
      cases hu'
      obtain ⟨d, hd1, hd2⟩ := dds_get' dd g2
      rw [g3.1] at hd1
      cases hd1
      exact ⟨ru', hd2⟩
    have out := PySem.W.keyedOut_each (rev := false) (fun b : V × PyData × PyData => b.2.2) (by rw [bsl]; exact ⟨s'.heap, kA.toList, ko.alike, rfl, each⟩) ec
    have ev : ∀ {us : List Value} {bs : List (V × PyData × PyData)}, PySem.W.EachIs (fun v (b : V × PyData × PyData) => RelV b.1 v ∧ DD X.K Z b.1 b.2.1) us bs → Vals (bs.map (·.1)) us ∧ DDs X.K Z (bs.map (·.1)) (bs.map (·.2.1)) := fun {us bs} e => by
      induction e with
      | nil => exact ⟨.nil, .nil⟩
      | cons a b ih => exact ⟨.cons a.1 ih.1, .cons a.2 ih.2⟩
    obtain ⟨o1, o2⟩ := ev out
    have e3 : ((xs.zip (ds.zip ks)).mergeSort (PySem.W.dataLe false fun b : V × PyData × PyData => b.2.2)).map (·.2.1) = sortD ds ks := by
      have e4 := PySem.W.sort_maps (r := PySem.W.dataLe false fun b : V × PyData × PyData => b.2.2) (s := PySem.W.dataLe false fun b : PyData × PyData => b.2) (fun b : V × PyData × PyData => b.2) (l := xs.zip (ds.zip ks)) fun _ _ _ _ => rfl
      rw [zip3, List.take_of_length_le (by rw [List.length_zip]; omega)] at e4
      unfold sortD
      rw [← e4, List.map_map]
      rfl
    rw [e3] at o2
    have lo := o1.length
    refine h Zc Hc _ _ (adopt (t' := tk) Ic na nS na' nS' (fun q o h1 h2 eq => kp q o h1 (PySem.W.hideAll_get _ eq (by simpa using h2))) hD o1 ?_) gr na' (DDsm o2 gr.z)
    · rw [List.length_map, List.length_mergeSort, List.length_zip, List.length_zip]
      omega

end
end DL
end L2


set_option Elab.async false
set_option maxRecDepth 100000
set_option maxHeartbeats 4000000
set_option autoImplicit false
namespace L2
namespace DL
open PySem PySem.Spec PyProof.Rows PySem.Calls
variable [Lab]
/-! ### sorted(range(e), key=lambda y: body) -/
def intsT : PyData → Bool
  | .tuple (x :: xs) => (x :: xs).all fun d => match d with
    | .int _ => true
    | _ => false
  | _ => false
theorem ints_all : ∀ ds : List PyData, (ds.all fun d => match d with | .int _ => true | _ => false) = true → ∃ ns : List Int, ds = ns.map .int
  | [], _ => ⟨[], rfl⟩
  | d :: ds, h => by
    rw [List.all_cons, Bool.and_eq_true] at h
    obtain ⟨ns, rfl⟩ := ints_all ds h.2
    cases d with
    | int n => exact ⟨n :: ns, rfl⟩
    | _ => cases h.1
theorem intsT_of {d : PyData} (h : intsT d = true) : ∃ (n : Int) (ns : List Int), d = .tuple ((n :: ns).map .int) := by
  match d, h with
  | .tuple (x :: xs), h =>
    obtain ⟨ns, e⟩ := ints_all (x :: xs) h
    cases ns with
    | nil => cases e
    | cons n ns => exact ⟨n, ns, by rw [e]⟩
def keysD (fb : DEnv → Option (PyData × DEnv)) (env : DEnv) : List PyData → Option (List PyData)
  | [] => some []
  | d :: ds => (keyOf fb env d).bind fun q => (keysD fb env ds).map (q :: ·)
theorem keysD_get {fb : DEnv → Option (PyData × DEnv)} {env : DEnv} : ∀ {ds ks : List PyData}, keysD fb env ds = some ks → ks.length = ds.length ∧ ∀ (i : Nat) (d q : PyData), ds[i]? = some d → ks[i]? = some q → keyOf fb env d = some q
  | [], ks, h => by cases h; exact ⟨rfl, fun i d q e => by simp at e⟩
  | d :: ds, ks, h => by
    obtain ⟨q, h1, h⟩ := bnd h
    obtain ⟨r, h2, rfl⟩ := mpd h
    obtain ⟨l, g⟩ := keysD_get h2
    refine ⟨by rw [List.length_cons, List.length_cons, l], fun i d' q' e1 e2 => ?_⟩
    cases i with
    | zero => cases e1; cases e2; exact h1
    | succ i => exact g i d' q' (by simpa using e1) (by simpa using e2)
theorem keys_ok {A : Around} {fb : DEnv → Option (PyData × DEnv)} {env : DEnv} {ds ks : List PyData} (h : keysD fb env ds = some ks) (hb : ks.all intsT = true) (hu : A.units + 1 < cLine) : KeysOk A fb env ds ks := by
  obtain ⟨l, g⟩ := keysD_get h
  have hb' : ∀ d ∈ ks, ∃ (n : Int) (ns : List Int), d = .tuple ((n :: ns).map .int) := fun d hd => intsT_of (List.all_eq_true.mp hb d hd)
  refine ⟨g, l, fun d hd d' hd' => ?_, .inl fun d hd => ?_, fun d hd => ?_, fun d hd => ?_⟩
  · obtain ⟨n, ns, rfl⟩ := hb' d hd
    obtain ⟨n', ns', rfl⟩ := hb' d' hd'
    exact PySem.W.alike_ints _ _
  · obtain ⟨n, ns, rfl⟩ := hb' d hd
    exact ⟨_, _, rfl⟩
  · obtain ⟨n, ns, rfl⟩ := hb' d hd
    exact (Ly.tuple (ly_ints (n :: ns))).nd
  · obtain ⟨n, ns, rfl⟩ := hb' d hd
    have : (PyData.tuple ((n :: ns).map .int)).depth ≤ 1 := (Ly.tuple (ly_ints (n :: ns))).dp
    omega
section
variable {X : Cx} {pins : List (Addr × Obj)} {σ : St} {H : Hp} {s : Shared} {F : Fm}
omit [Lab] in
/-- a built-in with keywords, its reading told of the slots -/
theorem pe_callKs {x : Str} {p pos : Pos} {e : Expr} {es : List Expr} {kws : List Keyword} {t tk : TA} {id : String} {ks : List Str} {r : St → List V → List V → Hp → VK → Prop}
    (hc : ∀ (pins : List (Addr × Obj)) (s : Shared) (σ : St) (H : Hp) (xs zs : List V) (us ws : List Value) (Q : VK), Inv X pins σ H s → Vals xs us → Vals zs ws → r σ xs zs H Q → wpAny (model X.prog X.w) X.A (call (.builtin id) us (ks.zip ws)) (EP X pins σ Q) X.xe s)
    (hg : Gl X x) (hm : X.mg x = none) (hv : bootBuiltins x = some (.builtin id)) (ha : PA X (e :: es) t) (hk : PK X kws tk) (hn : x ≠ "__name__") (hdb : (x == ("__debug__" : Str)) = false)
    (he : backTo pos (starEach (e :: es) X.env) = (false, eval e X.env) :: backTo pos (starEach es X.env)) (hpl : (backTo pos (starEach (e :: es) X.env)).any (·.1) = false) (hall : (backToKw pos (keywordEach kws X.env)).all (·.1.isSome) = true)
    (hnone : (backToKw pos (keywordEach kws X.env)).any (·.1.isNone) = false) (hks : (backToKw pos (keywordEach kws X.env)).filterMap (·.1) = ks) : PE X (.Call (.Name x p) (e :: es) kws pos) (fun σ H Q => t σ H fun vs H1 => tk σ H1 fun zs H2 => r σ vs zs H2 Q) := by
  refine ⟨fun pins s σ H Q I h => wpAny_Call_Name_kw (ld_blt I hg hm hv (PyProof.Rows.callWith_kw (thn (ha.run pos pins s σ H _ I h) fun us s1 ⟨vs, H1, I1, r1, q1⟩ => thn (hk.run pos pins s1 σ H1 _ I1 q1) fun ws s2 ⟨zs, H2, I2, r2, q2⟩ => ?_) he hpl hall hnone) hn hdb)⟩
  rw [hks]
  exact hc pins s2 σ H2 vs zs us ws Q I2 r1 r2 q2
end
end DL
end L2


set_option Elab.async false
set_option maxRecDepth 100000
set_option maxHeartbeats 4000000
set_option autoImplicit false
namespace L2
namespace DL
open PySem PySem.Spec PyProof.Rows PySem.Calls
variable [Lab]
section
variable {prog : Program} {w : World} {A : Around} {E : Value → Shared → Prop} {s : Shared}
end
section
variable {X : Cx} {F : Fm} {e : Expr} {f : DEnv → Option (PyData × DEnv)}
end
end DL
end L2


set_option Elab.async false
set_option maxRecDepth 100000
set_option maxHeartbeats 4000000
set_option autoImplicit false
namespace L2
namespace DL
open PySem PySem.Spec PyProof.Rows PySem.Calls
variable [Lab]
/-! ### sorted(t), t a tuple or a list of ints -/
section
variable {X : Cx} {F : Fm} {e : Expr} {f : DEnv → Option (PyData × DEnv)}
end
end DL
end L2


set_option Elab.async false
set_option maxRecDepth 100000
set_option maxHeartbeats 4000000
set_option autoImplicit false
namespace L2
namespace DL
open PySem PySem.Spec PyProof.Rows PySem.Calls
variable [Lab]
section
variable {X : Cx} {F : Fm} {e : Expr} {f : DEnv → Option (PyData × DEnv)}
end
end DL
end L2


set_option Elab.async false
set_option maxRecDepth 100000
set_option maxHeartbeats 4000000
set_option autoImplicit false
namespace L2
namespace DL
open PySem PySem.Spec PyProof.Rows PySem.Calls
variable [Lab]
section
variable {X : Cx} {F : Fm} {e : Expr} {f g : DEnv → Option (PyData × DEnv)} {y : Str} {p pn pos : Pos}
end
end DL
end L2


set_option Elab.async false
set_option maxRecDepth 100000
set_option maxHeartbeats 4000000
set_option autoImplicit false
namespace L2
namespace DL
open PySem PySem.Spec PyProof.Rows
section
variable [Lab]
variable {X : Cx} {F : Fm}
/-! ### great ints -/
abbrev cMulB (i j : Int) : Bool := decide (i.natAbs < 10 ^ 200) && decide (j.natAbs < 10 ^ 200)
abbrev mulBD := intD cMulB fun i j => .int (i * j)
theorem od_mulB : OpD X (binaryOp .Mult) mulBD := od_int op_mulX (fun i j h => by
  rw [cMulB, Bool.and_eq_true, decide_eq_true_eq, decide_eq_true_eq] at h
  have p : (10 : Nat) ^ 200 < 2 ^ 700 := by decide +kernel
  exact mulx_ok (a := 700) (b := 700) (Nat.lt_trans h.1 p) (Nat.lt_trans h.2 p) (by decide)) fun _ _ _ _ => .int _
abbrev cDivB (_ j : Int) : Bool := decide (0 < j) && decide (j < 10000000000000000000000000000000000000000)
def divmodB : List PyData → Option PyData
  | [.int i, .int j] => if cDivB i j then some (.tuple [.int (i / j), .int (i % j)]) else none
  | _ => none
theorem cd_divmodB : CallD X (.builtin "divmod") divmodB := by
  intro pins s σ H xs us Q I r h
  obtain ⟨Z, ds, d, sz, hd, e, q⟩ := h
  match ds, hd, e with
  | [.int i, .int j], hd, e =>
    change (if cDivB i j then some (PyData.tuple [.int (i / j), .int (i % j)]) else none) = some d at e
    split at e
    case isFalse => cases e
    rename_i hc
    rw [cDivB, Bool.and_eq_true, decide_eq_true_eq, decide_eq_true_eq] at hc
    cases e
    obtain ⟨v, w, rfl, h1, h2⟩ := dds2 hd
    cases h1.int_inv
    cases h2.int_inv
    have hb : CDivP i j := ⟨hc.1, PyProof.noPylong_of_log2 (by
      refine Nat.lt_of_lt_of_le (PySem.Flt.log2_lt_of (k := 200) (by decide) ?_) (by decide)
      have p : (10000000000000000000000000000000000000000 : Nat) < 2 ^ 200 := by decide +kernel
      have : j.natAbs < 10000000000000000000000000000000000000000 := by omega
      omega)⟩
    exact call_divmodW pins s σ H _ us Q I r ⟨i, j, rfl, hb, fun p hp => q _ _ _ (grow_new sz hp _) (new_tup sz hp (.cons (.int _) (.cons (.int _) .nil)))⟩
/-! ### three at once; bodies that are never reached -/
variable {s : Stmt} {ss : List Stmt} {fa : DEnv → Option (List PyData × DEnv)}
theorem dss_never : PDSs X F ss sNone := pss_imp pss_never fun D σ H h => by
  obtain ⟨Z, env, fl, r, e, q⟩ := h
  cases e
def sPar3 (i j l : Nat) (fa : DEnv → Option (List PyData × DEnv)) (env : DEnv) : Option DFlow := (fa env).bind fun x => match x.1 with
  | [u, v, w] => some (.nx (((x.2.set i (some (.fr u))).set j (some (.fr v))).set l (some (.fr w))))
  | _ => none
theorem ds_par3 (i j l : Nat) (ha : PS X s (tPar3 i j l (tDA X.K F fa))) : PDS X F s (sPar3 i j l fa) := ps_imp ha fun D σ H h => by
  obtain ⟨Z, env, fl, r, e, q⟩ := h
  obtain ⟨⟨d, e1⟩, h1, h⟩ := bnd e
  match d, h, h1 with
  | [u, v, w], h, h1 =>
    cases h
    refine ⟨Z, env, [u, v, w], e1, r, h1, fun vs Z' H' r' s' dd => ?_⟩
    cases dd with
    | cons d1 dr =>
      cases dr with
      | cons d2 dm =>
        cases dm with
        | cons d3 dn =>
          cases dn
          exact ⟨_, _, _, rfl, q _ Z' H' (((r'.store i d1).store j d2).store l d3) s'.z⟩
end
end DL
end L2


set_option Elab.async false
set_option maxRecDepth 100000
set_option maxHeartbeats 4000000
set_option autoImplicit false
namespace L2
namespace DL
open PySem PySem.Spec PyProof.Rows
variable [Lab]
section
variable {X : Cx} {F : Fm} {a b e : Expr} {pos p pn : Pos} {x y : Str} {f g : DEnv → Option (PyData × DEnv)}
/-! ### xs.extend(data) -/
def rExtD (K : PySem.W.Frag) : V → List V → Hp → VK → Prop := fun x vs H Q => ∃ l b xs zs, x = .ref l ∧ vs = [.ref b] ∧ H l = some (.lst xs) ∧ LsR K H b zs ∧ xs.length + zs.length ≤ sizeLine ∧ Q .non (upd H l (.lst (xs ++ zs)))
theorem mt_extD : MtM X "list.extend" (rExtD X.K) := by
  intro pins s σ H x vs v us Q I rx rv h
  obtain ⟨l, b, xs, zs, rfl, rfl, hH, hB, hz, q⟩ := h
  cases rx
  obtain ⟨u, e0, ru⟩ := rv.one
  subst e0
  cases ru
  obtain ⟨z, its, n, r, hl, e⟩ := I.lstM hH
  obtain ⟨z2, its2, n2, r2, e2⟩ := hB.isL I
  have hl2 := r2.length
  have big : its.toArray.size + its2.toArray.size ≤ sizeLine := by simp only [List.size_toArray]; omega
  have nol : ¬ (!its.toArray.isEmpty && Builtin.List.listTooLong (its.toArray.size + its2.toArray.size)) = true := by
    rw [notLongL big]; simp
  refine call_meets PySem.F.slot_list_extend ⟨_, e, rfl⟩ PySem.F.entry_list_extend (PySem.F.args_list_extend_2 _ _) (PySem.AutoSeq1.list_extend_list_list_0 l its.toArray n b its2.toArray n2 nol (by simp only [List.size_toArray]; omega) (by omega)) ⟨e, e2, ?_⟩
  exact ⟨.non, _, I.lset (its' := its ++ its2) hH e (by simp) (r.append r2) (by simp only [List.length_append]; omega), rfl, q⟩
def sExt (j : Nat) (f : DEnv → Option (PyData × DEnv)) (env : DEnv) : Option DFlow :=
  (rdO j env).bind fun _ => (f env).bind fun x => (rdO j x.2).bind fun es => match x.1 with
    | .list zs => if es.length + zs.length ≤ lim then some (.nx (wrO j (es ++ zs) x.2)) else none
    | _ => none
theorem ds_extend (j : Nat) (ha : PD X F e f) (hN : X.N[j]? = some y := by rfl) (hv : Vis X.env.scope y := by first | exact Or.inl rfl | exact Or.inr (Or.inl rfl) | exact Or.inr (Or.inr rfl)) (hd : (y == ("__debug__" : Str)) = false := by decide)
    (hcd : (y == ("__classdict__" : Str)) = false := by decide) {cpos : Pos}
    (hfew : ((backTo cpos (starEach [e] X.env)).all (fun x => !x.1) && (backToKw cpos (keywordEach [] X.env)).all (fun x => x.1.isSome)
      && decide ([e].length + ([] : List Keyword).length + (if ([] : List Keyword).isEmpty then 0 else 1) < 30)) = true := by rfl)
    (hline : (p.endLine == cpos.line) = true := by rfl) (hs : starEach [e] X.env = (false, eval e X.env) :: starEach [] X.env := by rfl) (hplain : (backTo cpos (starEach [] X.env)).any (·.1) = false := by rfl)
    (hsw : swapsWith (.Call (.Attribute (.Name y pn) "extend" p) [e] [] cpos) none pos.line X.env = pure false := by rfl) :
    PDS X F (.Expr (.Call (.Attribute (.Name y pn) "extend" p) [e] [] cpos) pos) (sExt j f) :=
  ps_imp (ps_expr (pe_bm PySem.F.plainAttrs_list PySem.F.slot_list_extend PySem.F.type_list_extend mt_extD (pe_var hN hv hd hcd) (pa_cons ha pa_nil hs) rfl hfew hline hs hplain) hsw) fun D σ H h => by
  obtain ⟨Z, env, fl, r, e, q⟩ := h
  obtain ⟨z0, h0, e⟩ := bnd e
  obtain ⟨⟨d, e1⟩, h1, h⟩ := bnd e
  obtain ⟨zs, h2, hh⟩ := bnd h
  clear h
  match d, h1, hh with
  | .list ws, h1, hh =>
    dsimp only at hh
    split at hh
    case isFalse => cases hh
    rename_i hz
    cases hh
    obtain ⟨p, xs, sj, _, hp0, _, _⟩ := r.poke h0
    refine ⟨.ref p, sj, own_ty hp0, Z, env, .list ws, e1, r, h1, fun v Z1 H1 r1 s1 d1 => ?_⟩
    obtain ⟨p', xs', sj', zp, hp, dp, fin⟩ := r1.poke h2
    rw [sj] at sj'
    cases sj'
    cases d1 with
    | @lst b ys _ hb db =>
      have l1 := dds_len dp
      have l2 := dds_len db
      have hlim : lim = 100000 := rfl
      have hsl := lim_le
      refine ⟨p, b, xs', ys, rfl, rfl, hp, same_ls r1.zh hb, by omega, ?_⟩
      obtain ⟨b1, b2⟩ := fin Z1 (upd H1 p (.lst (xs' ++ ys))) _ (zs ++ ws) (pok_upd r1.zh zp hp _) upd_same (dds_app dp db)
      exact q σ Z1 _ b1 (s1.trans b2).z
/-! ### truth of a slot's list, as it stands -/
def fTruN (i : Nat) (env : DEnv) : Option (Bool × DEnv) := (rdB i env).bind fun d => (truthD d).map fun k => (k, env)
theorem pdt_name (i : Nat) (hN : X.N[i]? = some x := by rfl) (hv : Vis X.env.scope x := by first | exact Or.inl rfl | exact Or.inr (Or.inl rfl) | exact Or.inr (Or.inr rfl)) (hd : (x == ("__debug__" : Str)) = false := by decide)
    (hcd : (x == ("__classdict__" : Str)) = false := by decide) (he : ∀ whole, isTrue (.Name x pos) X.env whole = (do let v ← whole; standAt (Expr.Name x pos).pos; holding [v] (truthy v)) := by intro _; rfl) : PDT X F (.Name x pos) (fTruN i) :=
  pt_imp (pt_truth (pe_var hN hv hd hcd) he) fun σ H Q h => by
    obtain ⟨Z, env, d, env', r, e, q⟩ := h
    obtain ⟨w, h1, h⟩ := bnd e
    obtain ⟨k, h2, h⟩ := mpd h
    cases h
    obtain ⟨v, ev, dv⟩ := r.rdB h1
    exact ⟨v, ev, d, truth_ok dv h2, q Z H r Stp.refl⟩
end
omit [Lab] in
theorem cTup1 [LabW] {K : PySem.W.Frag} {h : Heap} {mg : Str → Option Value} (X : K.In h) (G : h.Ns mainGlobals mg) {x : Str} {p q : Addr} {oc oc2 : Value} {od od2 : Option Addr} {its its2 : Array Value} {n n2 : Nat} {sl sl2 : Array (Option Value)} {ss : List Str} (a : PySem.W.nsIn K mainGlobals x = some (some (.ref p)))
    (l : K.lookup p = some ⟨oc, od, .seq its n, sl⟩) (hc : oc = .type "tuple") (hz : its.size ≤ sizeLine) (hi : its.toList = [.ref q])
    (l2 : K.lookup q = some ⟨oc2, od2, .seq its2 n2, sl2⟩) (hc2 : oc2 = .type "tuple") (hz2 : its2.size ≤ sizeLine) (hv : Vals (ss.map V.str) its2.toList) : ∃ uv : Value × V, mg x = some uv.1 ∧ RelV uv.2 uv.1 ∧ ∀ Z, DD K Z uv.2 (.tuple [.tuple (ss.map PyData.str)]) := by
  refine ⟨(.ref p, .ref p), PySem.W.mg_of X G a, rfl, fun Z => .tup (xs := [.ref q]) (.inr ⟨_, its, n, l, hc, rfl, hz, by rw [hi]; exact .cons rfl .nil⟩) (.cons (.tup (.inr ⟨_, its2, n2, l2, hc2, rfl, hz2, hv⟩) ?_) .nil)⟩
  clear hv
  induction ss with
  | nil => exact .nil
  | cons s ss ih => exact .cons (.str s) ih
end DL
end L2


set_option Elab.async false
set_option maxRecDepth 100000
set_option maxHeartbeats 4000000
set_option autoImplicit false
namespace L2
namespace DL
open PySem PySem.Spec PyProof.Rows
variable [Lab]
/-! ### evaluating, once more -/
theorem ev_tup {fa : DEnv → Option (List PyData × DEnv)} {env e1 : DEnv} {ds : List PyData} (h : fa env = some (ds, e1)) (h2 : ds.length ≤ lim) : fTup fa env = some (.tuple ds, e1) := by
  unfold fTup; rw [h]; exact if_pos h2
theorem ev_ixN {j : Nat} {f : DEnv → Option (PyData × DEnv)} {env e1 : DEnv} {d0 d i z : PyData} (h0 : rdB j env = some d0) (h : f env = some (i, e1)) (h1 : rdB j e1 = some d) (h2 : ixD d i = some z) : fIxN j f env = some (z, e1) := by
  unfold fIxN; rw [h0]; show (f env).bind _ = _; rw [h]; show (rdB j e1).bind _ = _; rw [h1]; show (ixD d i).map _ = _; rw [h2]; rfl
theorem ev_andV {f g : DEnv → Option (PyData × DEnv)} {env e1 : DEnv} {r : Option (PyData × DEnv)} (h : f env = some (.bool true, e1)) (h2 : g e1 = r) : fAndV f g env = r := by
  unfold fAndV; rw [h]; exact h2
theorem ev_andV0 {f g : DEnv → Option (PyData × DEnv)} {env e1 : DEnv} (h : f env = some (.bool false, e1)) : fAndV f g env = some (.bool false, e1) := by
  unfold fAndV; rw [h]; rfl
theorem ev_iArg {o : List PyData → Option (List PyData)} {fa : DEnv → Option (List PyData × DEnv)} {env e1 : DEnv} {ds r : List PyData} (h : fa env = some (ds, e1)) (h2 : o ds = some r) : iArg o fa env = some (r, e1) := by
  unfold iArg; rw [h]; show (o ds).map _ = _; rw [h2]; rfl
theorem ev_oS {f : DEnv → Option (PyData × DEnv)} {env e1 : DEnv} {i : Int} (h : f env = some (.int i, e1)) : oSome f env = some (some i, e1) := by
  unfold oSome; rw [h]; rfl
theorem ev_sl {f : DEnv → Option (PyData × DEnv)} {fl fh : DEnv → Option (Option Int × DEnv)} {env e1 e2 e3 : DEnv} {a d : PyData} {l h : Option Int} (h1 : f env = some (a, e1)) (h2 : fl e1 = some (l, e2)) (h3 : fh e2 = some (h, e3)) (h4 : slD a l h = some d) : fSl f fl fh env = some (d, e3) := by
  unfold fSl; rw [h1]; show (fl e1).bind _ = _; rw [h2]; show (fh e2).bind _ = _; rw [h3]; show (slD a l h).map _ = _; rw [h4]; rfl
theorem ev_lenN {j : Nat} {env : DEnv} {d n : PyData} (h : rdB j env = some d) (h2 : lenD [d] = some n) : fLenN j env = some (n, env) := by
  unfold fLenN; rw [h]; show (lenD [d]).map _ = _; rw [h2]; rfl
theorem ev_truN {j : Nat} {env : DEnv} {d : PyData} {k : Bool} (h : rdB j env = some d) (h2 : truthD d = some k) : fTruN j env = some (k, env) := by
  unfold fTruN; rw [h]; show (truthD d).map _ = _; rw [h2]; rfl
theorem ev_iff {ft : DEnv → Option (Bool × DEnv)} {f g : DEnv → Option (PyData × DEnv)} {env e1 : DEnv} {k : Bool} {r : Option (PyData × DEnv)} (h : ft env = some (k, e1)) (h2 : (if k then f e1 else g e1) = r) : fIf ft f g env = r := by
  unfold fIf; rw [h]; exact h2
theorem ev_app {j : Nat} {f : DEnv → Option (PyData × DEnv)} {env e1 e2 : DEnv} {es0 es : List PyData} {d : PyData} (h0 : rdO j env = some es0) (h : f env = some (d, e1)) (h1 : rdO j e1 = some es) (hl : es.length < lim) (he : wrO j (es ++ [d]) e1 = e2) : sApp j f env = some (.nx e2) := by
  unfold sApp; rw [h0]; show (f env).bind _ = _; rw [h]; show (rdO j e1).bind _ = _; rw [h1]; show (if es.length < lim then _ else _) = _; rw [if_pos hl, he]
theorem ev_ext {j : Nat} {f : DEnv → Option (PyData × DEnv)} {env e1 e2 : DEnv} {es0 es zs : List PyData} (h0 : rdO j env = some es0) (h : f env = some (.list zs, e1)) (h1 : rdO j e1 = some es) (hl : es.length + zs.length ≤ lim) (he : wrO j (es ++ zs) e1 = e2) : sExt j f env = some (.nx e2) := by
  unfold sExt; rw [h0]; show (f env).bind _ = _; rw [h]; show (rdO j e1).bind _ = _; rw [h1]; show (if es.length + zs.length ≤ lim then _ else _) = _; rw [if_pos hl, he]
theorem ev_asg2 {i j : Nat} {f : DEnv → Option (PyData × DEnv)} {env e1 e2 : DEnv} {a b : PyData} (h : f env = some (.tuple [a, b], e1)) (he : (e1.set i (some (.fr a))).set j (some (.fr b)) = e2) : sAsg f (gTupD 2 (gsCons (gSet i) (gsCons (gSet j) gsNil))) env = some (.nx e2) := by
  unfold sAsg; rw [h, ← he]; rfl
theorem ev_expr {f : DEnv → Option (PyData × DEnv)} {env e1 : DEnv} {d : PyData} (h : f env = some (d, e1)) : sExpr f env = some (.nx e1) := by
  unfold sExpr; rw [h]; rfl
theorem ev_setN {i : Nat} {f : DEnv → Option (List PyData × DEnv)} {env e1 e2 : DEnv} {ds : List PyData} (h : f env = some (ds, e1)) (he : e1.set i (some (.ow ds)) = e2) : sSetN i f env = some (.nx e2) := by
  unfold sSetN; rw [h, ← he]; rfl
theorem ev_par {i j : Nat} {fa : DEnv → Option (List PyData × DEnv)} {env e1 e2 : DEnv} {u v : PyData} (h : fa env = some ([u, v], e1)) (he : (e1.set i (some (.fr u))).set j (some (.fr v)) = e2) : sPar i j fa env = some (.nx e2) := by
  unfold sPar; rw [h, ← he]; rfl
theorem ev_add {a b : List PyData} (h : a.length + b.length ≤ lim) : addD (.tuple a) (.tuple b) = some (.tuple (a ++ b)) := if_pos h
theorem ev_nAdd {f g : DEnv → Option (PyData × DEnv)} {env e1 e2 : DEnv} {a b : List PyData} (h : f env = some (.list a, e1)) (h2 : g e1 = some (.list b, e2)) (hl : a.length + b.length ≤ lim) : nAdd f g env = some (a ++ b, e2) := by
  unfold nAdd; rw [h]; show (g e1).bind _ = _; rw [h2]; exact if_pos hl
/-- a comprehension over images, with a test -/
theorem lc_flt {α : Type} {i : Nat} {ft : DEnv → Option (Bool × DEnv)} {fe : DEnv → Option (PyData × DEnv)} {e q : α → PyData} {p : α → Bool} {env : DEnv} (hw : env.set i none = env) : ∀ xs : List α, (∀ x ∈ xs, ft (env.set i (some (.fr (e x)))) = some (p x, env.set i (some (.fr (e x))))) →
    (∀ x ∈ xs, p x = true → fe (env.set i (some (.fr (e x)))) = some (q x, env.set i (some (.fr (e x))))) → lcD (gSet i) ft fe [i] (xs.map e) env = some ((xs.filter p).map q, env)
  | [], _, _ => rfl
  | x :: xs, h1, h2 => by
    have ih := lc_flt hw xs (fun y hy => h1 y (List.mem_cons_of_mem _ hy)) fun y hy => h2 y (List.mem_cons_of_mem _ hy)
    rw [List.map_cons, lcD]
    show (ft (env.set i (some (.fr (e x))))).bind _ = _
    rw [h1 x List.mem_cons_self]
    show (if p x = true then _ else _) = _
    cases hp : p x with
    | true =>
      rw [if_pos rfl, List.filter_cons_of_pos hp]
      show (fe (env.set i (some (.fr (e x))))).bind _ = _
      rw [h2 x List.mem_cons_self hp]
      show (lcD (gSet i) ft fe [i] (xs.map e) ((env.set i (some (.fr (e x)))).set i none)).map _ = _
      rw [List.set_set, hw, ih]
      rfl
    | false =>
      rw [if_neg (by decide), List.filter_cons_of_neg (by rw [hp]; decide)]
      show lcD (gSet i) ft fe [i] (xs.map e) ((env.set i (some (.fr (e x)))).set i none) = _
      rw [List.set_set, hw, ih]
theorem lc_img {α : Type} {i : Nat} {fe : DEnv → Option (PyData × DEnv)} {e q : α → PyData} {env : DEnv} (hw : env.set i none = env) (xs : List α) (h2 : ∀ x ∈ xs, fe (env.set i (some (.fr (e x)))) = some (q x, env.set i (some (.fr (e x))))) : lcD (gSet i) fYes fe [i] (xs.map e) env = some (xs.map q, env) := by
  have := lc_flt (ft := fYes) (p := fun _ => true) hw xs (fun _ _ => rfl) fun x hx _ => h2 x hx
  rwa [List.filter_eq_self.mpr (fun _ _ => rfl)] at this
theorem ev_lc {fi : DEnv → Option (List PyData × DEnv)} {g : PyData → DEnv → Option DEnv} {ft : DEnv → Option (Bool × DEnv)} {fe : DEnv → Option (PyData × DEnv)} {vs : List Nat} {env e1 e2 e3 : DEnv} {ds rs : List PyData} (h : fi env = some (ds, e1)) (hl : ds.length ≤ lim) (hw : wipeE e1 vs = e2) (h2 : lcD g ft fe vs ds e2 = some (rs, e3)) : nLc fi g ft fe vs env = some (rs, e3) := by
  unfold nLc; rw [h]; show (if ds.length ≤ lim then _ else _) = _; rw [if_pos hl, hw, h2]
/-! ### equal data, where there are no truths and no dicts -/
mutual
def nbD : PyData → Bool
  | .none => true
  | .int _ => true
  | .str _ => true
  | .list ds => nbDs ds
  | .tuple ds => nbDs ds
  | _ => false
def nbDs : List PyData → Bool
  | [] => true
  | d :: ds => nbD d && nbDs ds
end
mutual
theorem eqv_nb : ∀ (x y : PyData), nbD x = true → nbD y = true → PyData.eqv x y = true → x = y
  | .none, y, _, hy, h => by cases y <;> first | rfl | cases h
  | .int i, y, _, hy, h => by
    cases y with
    | int j => rw [PyData.eqv, beq_iff_eq] at h; rw [h]
    | bool _ => cases hy
    | _ => cases h
  | .str i, y, _, hy, h => by
    cases y with
    | str j => rw [PyData.eqv, beq_iff_eq] at h; rw [h]
    | _ => cases h
  | .list xs, y, hx, hy, h => by
    cases y with
    | list ys => rw [PyData.eqv] at h; rw [eqvAll_nb xs ys hx hy h]
    | _ => cases h
  | .tuple xs, y, hx, hy, h => by
    cases y with
    | tuple ys => rw [PyData.eqv] at h; rw [eqvAll_nb xs ys hx hy h]
    | _ => cases h
theorem eqvAll_nb : ∀ (xs ys : List PyData), nbDs xs = true → nbDs ys = true → PyData.eqvAll xs ys = true → xs = ys
  | [], ys, _, _, h => by
    cases ys with
    | nil => rfl
    | cons _ _ => cases h
  | x :: xs, ys, hx, hy, h => by
    cases ys with
    | nil => cases h
    | cons y ys =>
      rw [PyData.eqvAll, Bool.and_eq_true] at h
      rw [nbDs, Bool.and_eq_true] at hx hy
      rw [eqv_nb x y hx.1 hy.1 h.1, eqvAll_nb xs ys hx.2 hy.2 h.2]
end
theorem nbDs_all : ∀ {ds : List PyData}, (∀ d ∈ ds, nbD d = true) → nbDs ds = true
  | [], _ => rfl
  | d :: ds, h => by rw [nbDs, h d List.mem_cons_self, nbDs_all fun x hx => h x (List.mem_cons_of_mem _ hx)]; rfl
/-- == of two such -/
theorem eqB_nb {k k' : Nat} {a b : PyData} (ha : Ly k a) (hb : Ly k' b) (hk : k ≤ 64) (hk' : k' ≤ 64) (na : nbD a = true) (nb : nbD b = true) : ∃ r, eqB a b = some r ∧ (r = true ↔ a = b) := by
  have deep : eqB a b = some (PyData.eqv a b) → ∃ r, eqB a b = some r ∧ (r = true ↔ a = b) := fun e => ⟨_, e, fun h => eqv_nb a b na nb h, fun h => by rw [h]; exact SeqAt.eqv_refl _ hb.lay⟩
  have sh : (if shD a && shD b then some (PyData.eqv a b) else none) = some (PyData.eqv a b) := by
    rw [ha.sh hk, hb.sh hk']; rfl
  unfold eqB at deep ⊢
  split
  · exact ⟨_, rfl, by rw [decide_eq_true_eq]; exact ⟨fun h => by rw [h], fun h => PyData.int.inj h⟩⟩
  · exact ⟨_, rfl, by rw [decide_eq_true_eq]; exact ⟨fun h => by rw [h], fun h => PyData.str.inj h⟩⟩
  · exact ⟨_, sh, fun h => eqv_nb _ _ na nb h, fun h => by rw [h]; exact SeqAt.eqv_refl _ hb.lay⟩
/-! ### what repr writes may be laid -/
theorem ok_app {a b : Str} (ha : PyData.strOk a = true) (hb : PyData.strOk b = true) : PyData.strOk (a ++ b) = true := by
  unfold PyData.strOk at *
  show ((a.cps ++ b.cps).all _) = true
  rw [Array.all_append, ha, hb]
  rfl
theorem ok_of (x : String) : PyData.strOk (Str.ofString x) = true := by
  rw [PyData.strOk, Str.ofString_eq_toList]
  simp only [List.all_toArray, List.all_map, List.all_eq_true]
  intro c _
  have := c.valid
  simp only [Function.comp, decide_eq_true_eq]
  show c.val.toNat < 0x110000
  rcases this with h | h
  · exact Nat.lt_trans h (by decide)
  · exact h.2
theorem ok_join {sep : Str} (hs : PyData.strOk sep = true) : ∀ ts : List Str, (∀ t ∈ ts, PyData.strOk t = true) → PyData.strOk (Str.join sep ts) = true
  | [], _ => by simp [Str.join, Str.empty, PyData.strOk]
  | [x], h => h x List.mem_cons_self
  | x :: y :: r, h => ok_app (ok_app (h x List.mem_cons_self) hs) (ok_join hs (y :: r) fun t ht => h t (List.mem_cons_of_mem _ ht))
theorem ok_from : ∀ (ts : List Str) (k : Nat) (acc : Str), PyData.strOk acc = true → (∀ t ∈ ts, PyData.strOk t = true) → PyData.strOk (textFrom k acc ts) = true
  | [], _, _, h, _ => h
  | t :: r, k, acc, h, hs => ok_from r (k + 1) _ (ok_app (ok_app h (ok_of _)) (hs t List.mem_cons_self)) fun x hx => hs x (List.mem_cons_of_mem _ hx)
/-! all its texts' shown forms may be laid -/
mutual
def wordsOk : PyData → Bool
  | .str x => PyData.strOk (reprText x)
  | .list ds => wordsOkAll ds
  | .tuple ds => wordsOkAll ds
  | .dict _ => false
  | _ => true
def wordsOkAll : List PyData → Bool
  | [] => true
  | d :: ds => wordsOk d && wordsOkAll ds
end
mutual
theorem ok_shown : ∀ d : PyData, wordsOk d = true → PyData.strOk d.shown = true
  | .none, _ => ok_of _
  | .bool b, _ => by cases b <;> exact ok_of _
  | .int i, _ => ok_of _
  | .str x, h => h
  | .list xs, h => ok_app (ok_from _ _ _ (ok_of _) (ok_shownAll xs h)) (ok_of _)
  | .tuple xs, h => ok_app (ok_app (ok_of _) (ok_join (ok_of _) _ (ok_shownAll xs h))) (ok_of _)
  | .dict _, h => nomatch h
theorem ok_shownAll : ∀ ds : List PyData, wordsOkAll ds = true → ∀ t ∈ PyData.shownAll ds, PyData.strOk t = true
  | [], _, _, h => nomatch h
  | d :: ds, h, t, ht => by
    rw [wordsOkAll, Bool.and_eq_true] at h
    rcases List.mem_cons.mp ht with rfl | ht
    · exact ok_shown d h.1
    · exact ok_shownAll ds h.2 t ht
end
end DL
end L2


set_option Elab.async false
set_option maxRecDepth 100000
set_option maxHeartbeats 4000000
set_option autoImplicit false
namespace L2
namespace DL
open PySem PySem.Spec PyProof.Rows
variable [Lab]
section
variable {X : Cx} {F : Fm} {a b c e tg iter elt : Expr} {es ifs : List Expr} {pos p pn : Pos} {x y : Str} {f fe : DEnv → Option (PyData × DEnv)} {fa fi : DEnv → Option (List PyData × DEnv)} {ft : DEnv → Option (Bool × DEnv)} {scope : Scope} {ts : List Nat} {g : PyData → DEnv → Option DEnv}
theorem Rel.forget {K : PySem.W.Frag} {Z H : Hp} {σ : St} {env : DEnv} (r : Rel K F Z H σ env) (i : Nat) : Rel K F Z H σ (env.set i none) := by
  refine ⟨r.z0, r.zh, r.gh, r.nw, r.pp, by rw [List.length_set]; exact r.len, fun j dv e => ?_, fun a b da db p ea eb oa ob sa sb => ?_, r.tb⟩
  · rcases get_set_some e with ⟨_, z⟩ | ⟨_, z⟩
    · cases z
    · exact r.sl j dv z
  · rcases get_set_some ea with ⟨_, z⟩ | ⟨_, z⟩
    · cases z
    · rcases get_set_some eb with ⟨_, w⟩ | ⟨_, w⟩
      · cases w
      · exact r.inj a b da db p z w oa ob sa sb
end
end DL
end L2


set_option Elab.async false
set_option maxRecDepth 100000
set_option maxHeartbeats 4000000
set_option autoImplicit false
namespace L2
namespace DL
open PySem PySem.Spec PyProof.Rows
variable [Lab]
theorem mm_b {a : Int} (ha : 2 ≤ a) {env : DEnv} {n : Nat} (h : fLenN 0 env = some (.int n, env)) : ∃ m : Int, fCB maxD (fCons (fC (.int 2)) (fCons (fCB minD (fCons (fLenN 0) (fCons (fC (.int a)) fNil))) fNil)) env = some (.int m, env) ∧ 2 ≤ m ∧ m ≤ a := by
  have e1 : fCB minD (fCons (fLenN 0) (fCons (fC (.int a)) fNil)) env = some (.int (if a < (n : Int) then a else n), env) := ev_cb (ev_cons h (ev_cons rfl ev_nil)) rfl
  generalize hx : (if a < (n : Int) then a else (n : Int)) = x at e1
  refine ⟨if 2 < x then x else 2, ev_cb (ev_cons rfl (ev_cons e1 ev_nil)) rfl, ?_, ?_⟩
  · split <;> omega
  · split <;> (split at hx <;> omega)
theorem law_fin {mr : List PyData → List PyData → Option (PyData × List PyData)} {mp : List PyData → Option (List PyData)} {mc : List PyData → Option PyData} {PO : List PyData → Prop} {ns : List Int} (hc : ∀ k : Int, 0 ≤ k → k ≤ 1000 → ∃ c : Int, mc [.list (ns.map .int), .int k] = some (.int c)) (hp : ∀ c : Int, ∃ es, mp [.int c] = some es ∧ PO es) (hr : ∀ es, PO es → ∃ es', mr es [] = some (.bool true, es'))
    {v : Nat} {fm : DEnv → Option (PyData × DEnv)} {env : DEnv} (hm : ∃ m : Int, fm env = some (.int m, env) ∧ 2 ≤ m ∧ m ≤ 8) (hv : env.set v none = env) (h0 : ∀ d, rdF 0 (env.set v (some (.fr d))) = some (.list (ns.map .int), env.set v (some (.fr d)))) (hvv : ∀ d, rdF v (env.set v (some (.fr d))) = some (d, env.set v (some (.fr d)))) :
    sRet (fCB allD (fCons (fFrz (nLc (iArg rng1 (fCons fm fNil)) (gSet v) fYes (fCRT mr (fCN mp (fCons (fCB mc (fCons (rdF 0) (fCons (rdF v) fNil))) fNil))) [v])) fNil)) env = some (.rt (.bool true) env) := by
  obtain ⟨m, e1, m1, m2⟩ := hm
  have e2 := lc_img (i := v) (fe := fCRT mr (fCN mp (fCons (fCB mc (fCons (rdF 0) (fCons (rdF v) fNil))) fNil))) (e := fun i : Nat => .int (0 + (i : Int))) (q := fun _ => .bool true) (env := env) hv (List.range m.toNat) fun k hk => by
    have hk := List.mem_range.mp hk
    obtain ⟨c, e3⟩ := hc (0 + (k : Int)) (by omega) (by omega)
    obtain ⟨es, e4, po⟩ := hp c
    obtain ⟨es', e5⟩ := hr es po
    have e6 : fCN mp (fCons (fCB mc (fCons (rdF 0) (fCons (rdF v) fNil))) fNil) (env.set v (some (.fr (.int (0 + (k : Int)))))) = some (es, env.set v (some (.fr (.int (0 + (k : Int)))))) := by
      unfold fCN
      rw [ev_cons (ev_cb (ev_cons (h0 _) (ev_cons (hvv _) ev_nil)) e3) ev_nil]
      show (mp [.int c]).map _ = _
      rw [e4]
      rfl
    unfold fCRT
    rw [e6]
    show (mr es []).map _ = _
    rw [e5]
    rfl
  have hrng : rng1 [.int m] = some ((List.range m.toNat).map fun i : Nat => .int (0 + (i : Int))) := by
    show (if m ≤ 1000000 ∧ _ then some (rangeD 0 m.toNat) else none) = _
    rw [if_pos (by omega)]
    rfl
  refine ev_ret (ev_cb (ev_cons (ev_frz (ev_lc (ev_iArg (ev_cons e1 ev_nil) hrng) ?_ hv e2)) ev_nil) ?_)
  · rw [List.length_map, List.length_range]
    show _ ≤ 100000
    omega
  · rw [all_map (fun _ : Nat => true)]
    simp
/-! ### a new list times a number -/
section
variable {X : Cx} {F : Fm} {a b : Expr} {pos : Pos} {g : DEnv → Option (PyData × DEnv)} {fn : DEnv → Option (List PyData × DEnv)}
end
/-! ### a, b, c = two new lists and data -/
section
variable {X : Cx} {F : Fm} {s : Stmt} {fn gn : DEnv → Option (List PyData × DEnv)} {f : DEnv → Option (PyData × DEnv)}
end
/-! ### words and numbers are small -/
theorem Sm.le {k w : Nat} {d : PyData} (h : Sm k w d) {k' w' : Nat} (hk : k ≤ k' := by decide) (hw : w ≤ w' := by decide) : Sm k' w' d := h.mono hk hw
end DL
end L2


set_option Elab.async false
set_option maxRecDepth 100000
set_option maxHeartbeats 4000000
set_option autoImplicit false
namespace L2
namespace DL
open PySem PySem.Spec PyProof.Rows
/-! ### orders, commands, picks: what they are apart from data -/
def dirsD : List Str := ["up", "down"]
abbrev Ky := Int × Str
def kd (k : Ky) : PyData := .tuple [.int k.1, .str k.2]
def plD (s : Str) : PyData := .tuple [.str "place", .str s]
def ordD (ks : List Ky) (s : Str) : PyData := .tuple (ks.map kd ++ [plD s])
structure KOk (n : Int) (ks : List Ky) : Prop where
  nd : (ks.map (·.1)).Nodup
  rg : ∀ k ∈ ks, 0 ≤ k.1 ∧ k.1 < n ∧ k.2 ∈ dirsD
abbrev KB := Int × Bool
abbrev Od := List KB × Bool
def dS (b : Bool) : Str := if b then "up" else "down"
def toKy (k : KB) : Ky := (k.1, dS k.2)
def oD (o : Od) : PyData := ordD (o.1.map toKy) (dS o.2)
structure OOk (o : Od) : Prop where
  nd : (o.1.map (·.1)).Nodup
  rg : ∀ k ∈ o.1, 0 ≤ k.1 ∧ k.1 < 4
theorem dS_in (b : Bool) : dS b ∈ dirsD := by cases b <;> simp [dS, dirsD]
theorem OOk.k {o : Od} (h : OOk o) : KOk 4 (o.1.map toKy) := by
  refine ⟨?_, fun k hk => ?_⟩
  · rw [List.map_map]; exact h.nd
  · obtain ⟨x, hx, rfl⟩ := List.mem_map.mp hk
    exact ⟨(h.rg x hx).1, (h.rg x hx).2, dS_in _⟩
theorem nodup_le {α : Type} [DecidableEq α] : ∀ (l t : List α), l.Nodup → (∀ x ∈ l, x ∈ t) → l.length ≤ t.length
  | [], _, _, _ => Nat.zero_le _
  | a :: l, t, hn, hs => by
    have ha := hs a List.mem_cons_self
    rw [List.nodup_cons] at hn
    have := nodup_le l (t.erase a) hn.2 fun x hx => by
      have hne : x ≠ a := fun z => hn.1 (by rw [← z]; exact hx)
      exact (List.mem_erase_of_ne hne).mpr (hs x (List.mem_cons_of_mem _ hx))
    rw [List.length_erase_of_mem ha] at this
    have hp : 0 < t.length := List.length_pos_of_mem ha
    rw [List.length_cons]
    omega
theorem OOk.len {o : Od} (h : OOk o) : o.1.length ≤ 4 := by
  have := nodup_le (o.1.map (·.1)) [0, 1, 2, 3] h.nd fun c hc => by
    obtain ⟨k, hk, rfl⟩ := List.mem_map.mp hc
    obtain ⟨a, b⟩ := h.rg k hk
    simp only [List.mem_cons, List.not_mem_nil, or_false]
    omega
  rwa [List.length_map] at this
def start0 : Od := ([], true)
def nK (k : KB) : KB := (k.1, !k.2)
def flO (o : Od) : Od := (o.1.map nK, !o.2)
def offO (c : Int) (ks : List KB) : List KB := ks.filter fun k => !decide (k.1 = c)
def putO (c : Int) (d : Bool) (o : Od) : Od := ((c, d) :: offO c o.1, o.2)
theorem start0_ok : OOk start0 := ⟨List.nodup_nil, fun _ h => nomatch h⟩
theorem OOk.fl {o : Od} (h : OOk o) : OOk (flO o) := by
  refine ⟨?_, fun k hk => ?_⟩
  · show ((o.1.map nK).map (·.1)).Nodup
    rw [List.map_map]; exact h.nd
  · obtain ⟨x, hx, rfl⟩ := List.mem_map.mp hk
    exact h.rg x hx
theorem OOk.put {o : Od} (h : OOk o) {c : Int} (h0 : 0 ≤ c) (h1 : c < 4) (d : Bool) : OOk (putO c d o) := by
  refine ⟨?_, fun k hk => ?_⟩
  · show (c :: (offO c o.1).map (·.1)).Nodup
    rw [List.nodup_cons]
    refine ⟨fun z => ?_, ?_⟩
    · obtain ⟨k, hk, e⟩ := List.mem_map.mp z
      have := (List.mem_filter.mp hk).2
      simp [e] at this
    · exact List.Sublist.nodup (List.Sublist.map _ List.filter_sublist) h.nd
  · rcases List.mem_cons.mp hk with rfl | hk
    · exact ⟨h0, h1⟩
    · exact h.rg k (List.mem_filter.mp hk).1
inductive Pl where
  | sort (d : Bool) (c : Int) | rev | res | cut (f : Bool) (k : Int)
def PlOk : Pl → Prop
  | .sort _ c => 0 ≤ c ∧ c < 4
  | .cut _ k => 2 ≤ k ∧ k ≤ 29
  | _ => True
def cS (b : Bool) : Str := if b then "first" else "last"
def plE : Pl → PyData
  | .sort d c => .tuple [.str (dS d), .int c]
  | .rev => .tuple [.str "reverse"]
  | .res => .tuple [.str "restore"]
  | .cut f k => .tuple [.str (cS f), .int k]
abbrev Pk := Od × Int
def pkD (p : Pk) : PyData := .tuple [oD p.1, .int p.2]
abbrev PkOk (p : Pk) : Prop := OOk p.1 ∧ 2 ≤ p.2 ∧ p.2 ≤ 29
def semP : Pl → Od → List Pk × Od
  | .sort d c, o => ([], putO c d o)
  | .rev, o => ([], flO o)
  | .res, _ => ([], start0)
  | .cut f k, o => ([(if f then o else flO o, k)], o)
theorem semP_ok {p : Pl} (h : PlOk p) {o : Od} (ho : OOk o) : OOk (semP p o).2 ∧ ∀ x ∈ (semP p o).1, PkOk x := by
  cases p with
  | sort d c => exact ⟨ho.put h.1 h.2 d, fun _ z => nomatch z⟩
  | rev => exact ⟨ho.fl, fun _ z => nomatch z⟩
  | res => exact ⟨start0_ok, fun _ z => nomatch z⟩
  | cut f k =>
    refine ⟨ho, fun x hx => ?_⟩
    rw [show x = (if f then o else flO o, k) from List.mem_singleton.mp hx]
    refine ⟨?_, h.1, h.2⟩
    cases f
    · exact ho.fl
    · exact ho
def Cm : Nat → Type
  | 0 => Pl
  | n + 1 => Pl ⊕ (Int × List (Cm n))
def repE (t : Int) (ps : List PyData) : PyData := .tuple [.str "repeat", .int t, .tuple ps]
def cmE : (n : Nat) → Cm n → PyData
  | 0, p => plE p
  | _ + 1, .inl p => plE p
  | n + 1, .inr (t, ps) => repE t (ps.map (cmE n))
def seqS {α : Type} (f : α → Od → List Pk × Od) : List α → Od → List Pk × Od
  | [], o => ([], o)
  | c :: cs, o => ((f c o).1 ++ (seqS f cs (f c o).2).1, (seqS f cs (f c o).2).2)
def sem : (n : Nat) → Cm n → Od → List Pk × Od
  | 0, p, o => semP p o
  | _ + 1, .inl p, o => semP p o
  | n + 1, .inr (t, ps), o => ((seqS (sem n) ps o).1, if t % 2 = 0 then (seqS (sem n) ps (seqS (sem n) ps o).2).2 else (seqS (sem n) ps o).2)
def CmOk (tm : Int) : (n : Nat) → Cm n → Prop
  | 0, p => PlOk p
  | _ + 1, .inl p => PlOk p
  | n + 1, .inr (t, ps) => 1 ≤ t ∧ t ≤ tm ∧ ∀ c ∈ ps, CmOk tm n c
def szC : (n : Nat) → Cm n → Nat
  | 0, _ => 1
  | _ + 1, .inl _ => 1
  | n + 1, .inr (_, ps) => 1 + (ps.map (szC n)).sum
theorem seq_ok {α : Type} {f : α → Od → List Pk × Od} {cs : List α} (h : ∀ c ∈ cs, ∀ o, OOk o → OOk (f c o).2 ∧ ∀ x ∈ (f c o).1, PkOk x) : ∀ {o : Od}, OOk o → OOk (seqS f cs o).2 ∧ ∀ x ∈ (seqS f cs o).1, PkOk x := by
  induction cs with
  | nil => exact fun ho => ⟨ho, fun _ z => nomatch z⟩
  | cons c cs ih =>
    intro o ho
    obtain ⟨a, b⟩ := h c List.mem_cons_self o ho
    obtain ⟨a2, b2⟩ := ih (fun x hx => h x (List.mem_cons_of_mem _ hx)) a
    refine ⟨a2, fun x hx => ?_⟩
    rcases List.mem_append.mp hx with z | z
    · exact b x z
    · exact b2 x z
theorem sem_ok {tm : Int} : ∀ {n : Nat} {c : Cm n}, CmOk tm n c → ∀ {o : Od}, OOk o → OOk (sem n c o).2 ∧ ∀ x ∈ (sem n c o).1, PkOk x
  | 0, p, h, o, ho => semP_ok (p := p) h ho
  | n + 1, .inl p, h, o, ho => semP_ok (p := p) h ho
  | n + 1, .inr (t, ps), h, o, ho => by
    have q : ∀ c ∈ ps, ∀ o, OOk o → OOk (sem n c o).2 ∧ ∀ x ∈ (sem n c o).1, PkOk x := fun c hc o ho => sem_ok (h.2.2 c hc) ho
    obtain ⟨a, b⟩ := seq_ok q ho
    refine ⟨?_, b⟩
    show OOk (if t % 2 = 0 then _ else _)
    split
    · exact (seq_ok q a).1
    · exact a
/-! ### what turns do to an order -/
def offs (P ks : List KB) : List KB := ks.filter fun k => !decide (k.1 ∈ P.map (·.1))
def phi (b : Bool) (ks : List KB) : List KB := if b then ks.map nK else ks
structure ShF (f : Od → Od) (P : List KB) (b : Bool) : Prop where
  eq : ∀ o, f o = (P ++ phi b (offs P o.1), o.2.xor b)
end DL
end L2


set_option Elab.async false
set_option maxRecDepth 100000
set_option maxHeartbeats 4000000
set_option autoImplicit false
namespace L2
namespace DL
open PySem PySem.Spec PyProof.Rows
/-! ### picks, shortened -/
def keep : Int → List Pk → List Pk
  | _, [] => []
  | m, p :: ps => if p.2 < m then p :: keep p.2 ps else keep m ps
def minS : Int → List Pk → Int
  | m, [] => m
  | m, p :: ps => if p.2 < m then minS p.2 ps else minS m ps
theorem keep_app : ∀ (m : Int) (a b : List Pk), keep m (a ++ b) = keep m a ++ keep (minS m a) b
  | _, [], _ => rfl
  | m, p :: a, b => by
    rw [List.cons_append, keep, keep, minS]
    split
    · rw [keep_app]; rfl
    · rw [keep_app]
def minIs (m x : Int) : Option Pk → Prop
  | none => x = m
  | some q => x = q.2
theorem keep_last : ∀ (m : Int) (ps : List Pk), minIs m (minS m ps) (keep m ps).getLast?
  | m, [] => rfl
  | m, p :: ps => by
    rw [keep, minS]
    split
    · have := keep_last p.2 ps
      rw [List.getLast?_cons]
      generalize (keep p.2 ps).getLast? = o at this ⊢
      cases o with
      | none => exact this
      | some q => exact this
    · exact keep_last m ps
def dedup : List Pk → List Pk
  | [] => []
  | [p] => [p]
  | p :: q :: r => if p.1 = q.1 then dedup (q :: r) else p :: dedup (q :: r)
def short (ps : List Pk) : List Pk := dedup (keep 30 ps)
theorem dedup_ne : ∀ (p : Pk) (L : List Pk), dedup (p :: L) ≠ []
  | p, [] => by simp [dedup]
  | p, q :: L => by
    rw [dedup]
    split
    · exact dedup_ne q L
    · simp
theorem dedup_last : ∀ (L : List Pk), (dedup L).getLast? = L.getLast?
  | [] => rfl
  | [p] => rfl
  | p :: q :: r => by
    rw [dedup]
    have ih := dedup_last (q :: r)
    split
    · rw [ih, List.getLast?_cons_cons]
    · have hne := dedup_ne q r
      cases hd : dedup (q :: r) with
      | nil => exact absurd hd hne
      | cons a b => rw [List.getLast?_cons_cons, List.getLast?_cons_cons, ← hd, ih]
def snocIs (L : List Pk) (p : Pk) : Option Pk → List Pk
  | none => [p]
  | some q => if q.1 = p.1 then (dedup L).dropLast ++ [p] else dedup L ++ [p]
theorem dedup_snoc : ∀ (L : List Pk) (p : Pk), dedup (L ++ [p]) = snocIs L p L.getLast?
  | [], p => rfl
  | [q], p => by
    show dedup [q, p] = if q.1 = p.1 then [p] else [q, p]
    simp only [dedup]
  | a :: b :: r, p => by
    have ih := dedup_snoc (b :: r) p
    rw [List.getLast?_cons_cons]
    show dedup (a :: b :: (r ++ [p])) = _
    rw [dedup, show b :: (r ++ [p]) = (b :: r) ++ [p] from rfl, ih]
    cases hl : (b :: r).getLast? with
    | none => simp at hl
    | some q =>
      unfold snocIs
      dsimp only
      rw [dedup]
      by_cases hab : a.1 = b.1
      · rw [if_pos hab, if_pos hab]
      · rw [if_neg hab, if_neg hab]
        have hne := dedup_ne b r
        cases hd : dedup (b :: r) with
        | nil => exact absurd hd hne
        | cons x y => split <;> simp
structure SameS (a b : List Pk × Od) : Prop where
  o : a.2 = b.2
  k : ∀ m, keep m a.1 = keep m b.1 ∧ minS m a.1 = minS m b.1
end DL
end L2


set_option Elab.async false
set_option maxRecDepth 100000
set_option maxHeartbeats 4000000
set_option autoImplicit false
namespace L2
namespace DL
open PySem PySem.Spec PyProof.Rows PySem.Calls
variable [Lab]
section
variable {X : Cx} {F : Fm} {e a b : Expr} {f : DEnv → Option (PyData × DEnv)} {pos p : Pos}
end
end DL
end L2


set_option Elab.async false
set_option maxRecDepth 100000
set_option maxHeartbeats 4000000
set_option autoImplicit false
namespace L2
namespace DL
open PySem PySem.Spec PyProof.Rows PySem.Calls
variable [Lab]
section
variable {X : Cx} {F : Fm} {a e : Expr} {f : DEnv → Option (PyData × DEnv)} {pos p : Pos} {pins : List (Addr × Obj)} {σ : St} {H : Hp} {s : Shared}
/-! ### tuple(range(e)) -/
def fTupRg (f : DEnv → Option (PyData × DEnv)) (env : DEnv) : Option (PyData × DEnv) := (f env).bind fun x => match x.1 with
  | .int j => if j ≤ 100000 ∧ -100000 ≤ j then some (.tuple (rangeD 0 j.toNat), x.2) else none
  | _ => none
theorem pd_tupRg (hml : X.mg "tuple" = none) (hmr : X.mg "range" = none) (ha : PD X F a f) (hc : X.calm = true := by rfl) (hgl : Gl X "tuple" := by rfl) (hgr : Gl X "range" := by rfl) {q0 q1 : Pos} (na : starEach [a] X.env = (false, eval a X.env) :: starEach [] X.env := by rfl)
    (na2 : starEach [.Call (.Name "range" q0) [a] [] q1] X.env = (false, eval (.Call (.Name "range" q0) [a] [] q1) X.env) :: starEach [] X.env := by rfl) :
    PD X F (.Call (.Name "tuple" p) [.Call (.Name "range" q0) [a] [] q1] [] pos) (fTupRg f) := pe_imp (pe_tupRg hc hgl hml (prg_1 hgr hmr ha na) na2) fun σ H Q h => by
  obtain ⟨Z, env, d, env', r, e, q⟩ := h
  obtain ⟨⟨i, e1⟩, h1, e⟩ := bnd e
  match i, h1, e with
  | .int j, h1, e =>
    change (if j ≤ 100000 ∧ -100000 ≤ j then some (PyData.tuple (rangeD 0 j.toNat), e1) else none) = some (d, env') at e
    split at e
    case isFalse => cases e
    rename_i hj
    cases e
    refine ⟨Z, env, .int j, env', r, h1, fun v Z1 H1 r1 s1 d1 => ?_⟩
    cases d1.int_inv
    refine ⟨j, rfl, ⟨by omega, by omega, by omega, by omega, by omega⟩, fun p hp => ?_⟩
    have gr := grow_new r1.zh hp (.tup (rgV 0 j))
    exact q _ _ _ (r1.grow gr) (s1.trans gr.stp) (new_tup r1.zh hp (dds_range j))
theorem ev_tupRg {env e1 : DEnv} {j : Nat} (h : f env = some (.int j, e1)) (hj : j ≤ 100000) : fTupRg f env = some (.tuple (rangeD 0 j), e1) := by
  unfold fTupRg; rw [h]
  show (if (j : Int) ≤ 100000 ∧ -100000 ≤ (j : Int) then some (PyData.tuple (rangeD 0 ((j : Nat) : Int).toNat), e1) else none) = _
  rw [if_pos (by omega), Int.toNat_natCast]
/-! ### sorted(t, key=lambda y: body), t a tuple -/
def nSortT (fi fb : DEnv → Option (PyData × DEnv)) (env : DEnv) : Option (List PyData × DEnv) := (fi env).bind fun x => match x.1 with
  | .tuple ds => (keysD fb x.2 ds).bind fun ks => if ks.all intsT then some (sortD ds ks, x.2) else none
  | _ => none
theorem sorted_tupK {tt f c' : Addr} {k : Nat} {y : Str} {scope : Scope} {params : Arguments} {body : Expr} {fb : DEnv → Option (PyData × DEnv)} {ts : List V} {ds ks : List PyData} {Z : Hp} {env : DEnv} {Q : VK} {E : Value → Shared → Prop}
    (kf : KeyFn X F X.A.in1.in1 k y scope params body fb f c') (I : Inv X pins σ H s) (r : Rel X.K F Z H σ env) (ht : SqT X.K H tt ts) (dt : DDs X.K Z ts ds) (hf : H f = some (LamO f (lamQ X) params body scope (cloFrom X.env.cells scope.names []) c')) (hc : H c' = some (LamX.CodeO c' (lamQ X)))
    (ko : KeysOk X.A.in1.in1 fb env ds ks)
    (h : ∀ p xs Z' H', Grow Z H Z' H' → H p = none → H' p = none → DDs X.K Z' xs (sortD ds ks) → Q (.ref p) (upd H' p (.lst xs))) :
    wpAny (model X.prog X.w) X.A (call (.builtin "sorted") [.ref tt] [(Str.ofString "key", .ref f)]) (EP X pins σ Q) E s := by
  obtain ⟨its, rv, ⟨o, ho, hoc, n, hod⟩, hz⟩ := I.tuple ht
  have hZ : its.length ≤ sizeLine := by rw [← rv.length]; exact hz
  refine call_function_entry_kw kind_sorted plain_sorted entry_sorted (ksk_s1 _ _) ?_
  unfold Builtin.«sorted»
  refine wpAny_bind (m := checkCount "sorted" 1 1 _) (wpAny_pure ?_)
  refine wpAny_bind (wpAny_collect_seq tt (.inr rfl) ho hoc hod (fun h1 kp => ?_) (by rw [List.size_toArray]; exact hZ))
  refine wpAny_bind (wpAny_newList ?_ (by simpa using hZ))
  rw [List.toList_toArray]
  have I1 : Inv X pins σ H { s with heap := h1 } := I.kept (t' := s.toks) kp
  have na : Nu X pins h1.objs.size := Nu.new I1 (Nat.le_refl _)
  have hna : H h1.objs.size = none := I1.hok.fresh (Nat.le_refl _)
  have I2 : Inv X pins σ H { s with heap := h1.push (seqObj "list" its.toArray 0) } := I1.kept (t' := s.toks) fun b o e => Heap.get?_push_of_some _ e
  have ga : (h1.push (seqObj "list" its.toArray 0)).get? h1.objs.size = some (seqObj "list" its.toArray 0) := Heap.get?_push_size _ rfl
  refine wpAny_bind (wpAny_holding (wpAny_call_entry_kw slot_list_sort ⟨_, ga, rfl⟩ entry_list_sort ?_ (ksk_l1 _ _)))
  show wpAny (model X.prog X.w) X.A.in1.in1 (Builtin.«list.sort» ⟨[.ref h1.objs.size], [(Str.ofString "key", .ref f)]⟩) _ _ _
  rw [ksk_t1]
  refine sort_run kf I2 r hf hc ga na hna rv dt ko hZ fun Z' H' s' xs' I' g' n' d' => ⟨_, rfl, wpAny_pure ⟨_, rfl, ?_⟩⟩
  exact ⟨.ref h1.objs.size, _, I', rfl, h _ _ _ _ g' hna n' d'⟩
theorem pn_sortT {c P : Addr} {k : Nat} {y : Str} {params : Arguments} {body : Expr} {scope : Scope} {lpos kpos : Pos} {fi fb : DEnv → Option (PyData × DEnv)} (hms : X.mg "sorted" = none)
    (tb0 : LamX.TabB X.base X.mg c P) (hcode : X.env.code = .ref c) (hm : (P, lamQ X) ∈ Lab.T) (hu : ∀ p ∈ Lab.T, p.1 = P → p.2 = lamQ X) (L : Lam1 X.env.scope scope y) (hr : Room (k + 3) X.A) (nyB : (X.N.all fun z => !(z == y)) = true)
    (bind : ∀ (u : Value) (q : Str) (cl : List (Str × Addr)) (pm cv ctv : Value), bindArgs (PySem.W.kla_fn "<lambda>" q params body scope cl pm cv ctv) ⟨[u], []⟩ = pure [(y, u)]) (ha : PD X F a fi)
    (hbody : ∀ (s : Shared) (H : Hp) (f c' : Addr), Room k (X.A.in1.in1.deeper (LamX.lamEnv X scope s.heap.objs.size f c')) → PD (lam1Cx X X.A.in1.in1 X.stack s H (fun _ _ _ => False) scope f c' y) F body fb)
    (hdef : defaultsOf params X.env = ([], []) := by rfl) (hgs : Gl X "sorted" := by rfl)
    (na2 : starEach [a] X.env = (false, eval a X.env) :: starEach [] X.env := by rfl)
    (he : backTo pos (starEach [a] X.env) = (false, eval a X.env) :: backTo pos (starEach [] X.env) := by rfl) (hpl : (backTo pos (starEach [a] X.env)).any (·.1) = false := by rfl) :
    PN X F (.Call (.Name "sorted" p) [a] [⟨some "key", .Lambda params body scope lpos, kpos⟩] pos) (nSortT fi fb) := by
  have ny : y ∉ X.N := fun z => by
    have := List.all_eq_true.mp nyB y z
    simp at this
  have h0 := pe_callKs (X := X) (x := "sorted") (id := "sorted") (p := p) (pos := pos) (ks := [Str.ofString "key"]) (kws := [⟨some "key", .Lambda params body scope lpos, kpos⟩])
    (r := fun σ xs zs H Q => ∃ tt ts ds f c' Z env ks, xs = [V.ref tt] ∧ zs = [V.ref f] ∧ Rel X.K F Z H σ env ∧ SqT X.K H tt ts ∧ DDs X.K Z ts ds ∧ H f = some (LamO f (lamQ X) params body scope (cloFrom X.env.cells scope.names []) c') ∧ H c' = some (LamX.CodeO c' (lamQ X)) ∧
      keysD fb env ds = some ks ∧ ks.all intsT = true ∧ ∀ p xs Z' H', Grow Z H Z' H' → H p = none → H' p = none → DDs X.K Z' xs (sortD ds ks) → Q (.ref p) (upd H' p (.lst xs)))
    (fun pins s σ H xs zs us ws Q I rx rz ⟨tt, ts, ds, f, c', Z, env, ks, e1, e2, r, h1, h1', h2, h3, h5, h6, q⟩ => by
      subst e1 e2
      cases rx with
      | cons a1 a2 =>
        cases a2
        cases rz with
        | cons b1 b2 =>
          cases b2
          cases a1
          cases b1
          have kf : KeyFn X F X.A.in1.in1 k y scope params body fb f c' := ⟨L, I.env0.frames, hr.in1.in1, ny, bind, fun s H hr' => hbody s H f c' hr'⟩
          exact sorted_tupK kf I r h1 h1' h2 h3 (keys_ok h5 h6 (by have := hr.in1.in1.un; omega)) q)
    hgs hms (by decide +kernel) (pa_cons ha pa_nil na2) (pk_cons (pe_lam tb0 hcode hm hu (fun ok => L.has ok) hdef) pk_nil) (by decide) (by decide) he hpl rfl rfl rfl
  refine pe_imp h0 fun σ H Q h => ?_
  obtain ⟨Z, env, ds0, env', r, e, q⟩ := h
  obtain ⟨⟨d, e1⟩, h1, e⟩ := bnd e
  match d, h1, e with
  | .tuple ds, h1, e =>
    obtain ⟨ks, h2, e⟩ := bnd e
    change (if ks.all intsT = true then some (sortD ds ks, e1) else none) = some (ds0, env') at e
    split at e
    case isFalse => cases e
    rename_i hk
    obtain ⟨rfl, rfl⟩ := Prod.mk.inj (Option.some.inj e)
    refine ⟨Z, env, .tuple ds, e1, r, h1, fun v Z1 H1 r1 s1 d1 => ?_⟩
    cases d1 with
    | @tup tt ts _ ht dt =>
      refine ⟨r1.tb, fun f c' H2 sm tb2 hf0 hf hc => ?_⟩
      have g2 : Grow Z1 H1 Z1 H2 := ⟨Same.refl _, r1.zh.trans sm, sm, fun _ => tb2, fun _ z => .inl z⟩
      have r3 := r1.grow g2
      refine ⟨tt, ts, ds, f, c', Z1, e1, ks, rfl, rfl, r3, same_sqT r3.zh ht, dt, hf, hc, h2, hk, fun p xs Z' H' g3 hp hp' dd => ?_⟩
      have g4 := grow_own (r3.grow g3).zh hp' (.lst xs)
      have st := (s1.trans g2.stp).trans (g3.trans g4).stp
      exact q p xs Z' _ (r3.grow (g3.trans g4)) st ((s1.trans g2.stp).new hp) ((r3.grow g3).zh.free hp') upd_same dd
end
end DL
end L2


set_option Elab.async false
set_option maxRecDepth 100000
set_option maxHeartbeats 4000000
set_option autoImplicit false
namespace L2
namespace DL
open PySem PySem.Spec PyProof.Rows
structure KvOk (n : Nat) (kv : Nat → List Int) : Prop where
  len : ∀ i j, i < n → j < n → (kv i).length = (kv j).length
  inj : ∀ i j, i < n → j < n → kv i = kv j → i = j
abbrev Tab := List (List Int)
def rowD (r : List Int) : PyData := .tuple (r.map .int)
def tabD (t : Tab) : PyData := .tuple (t.map rowD)
def sg (d : Str) (x : Int) : Int := if d = "up" then x else -x
def cellT (t : Tab) (i : Nat) (c : Int) : Int := (t.getD i []).getD c.toNat 0
def kvs (t : Tab) (ks : List Ky) (i : Nat) : List Int := ks.map fun k => sg k.2 (cellT t i k.1)
def kv (t : Tab) (ks : List Ky) (s : Str) (i : Nat) : List Int := kvs t ks i ++ [sg s i]
structure TabW (w : Nat) (t : Tab) : Prop where
  l1 : 1 ≤ t.length
  l2 : t.length ≤ 30
  w1 : 1 ≤ w
  w5 : w ≤ 5
  row : ∀ r ∈ t, r.length = w
/-! ### places by an order -/
def kvO (t : Tab) (o : Od) (i : Nat) : List Int := kv t (o.1.map toKy) (dS o.2) i
def srtP (key : Nat → List Int) (l : List Nat) : List Nat := l.mergeSort (PySem.W.dataLe false fun i : Nat => PyData.tuple ((key i).map .int))
structure KvA (key : Nat → List Int) : Prop where
  len : ∀ i j, (key i).length = (key j).length
  inj : ∀ i j, key i = key j → i = j
theorem srtP_perm (key : Nat → List Int) (l : List Nat) : (srtP key l).Perm l := List.mergeSort_perm _ _
/-! ### what picks leave -/
def pickedP (t : Tab) : List Pk → List Nat → List Nat
  | [], l => l
  | p :: ps, l => pickedP t ps ((srtP (kvO t p.1) l).take p.2.toNat)
def runP (t : Tab) (r : List Pk × Od) : List Nat := srtP (kvO t r.2) (pickedP t r.1 (List.range t.length))
theorem pickedP_sub (t : Tab) : ∀ (ps : List Pk) {l : List Nat} {i : Nat}, i ∈ pickedP t ps l → i ∈ l
  | [], _, _, h => h
  | p :: ps, l, i, h => (srtP_perm _ l).mem_iff.mp (List.mem_of_mem_take (pickedP_sub t ps h))
structure StandL (t : Tab) (x : List Nat × Od) (l : List Nat) : Prop where
  nd : x.1.Nodup
  so : x.1.Pairwise fun i j => kvO t x.2 i < kvO t x.2 j
  pm : x.1.Perm l
end DL
end L2


set_option Elab.async false
set_option maxRecDepth 100000
set_option maxHeartbeats 4000000
set_option autoImplicit false
namespace L2
namespace DL
open PySem PySem.Spec PyProof.Rows
local instance labNone_RnD : Lab := { w := none, T := [], gd := True }
end DL
end L2


set_option Elab.async false
set_option maxRecDepth 100000
set_option maxHeartbeats 4000000
set_option autoImplicit false
namespace L2
namespace DL
open PySem PySem.Spec PyProof.Rows PySem.Calls
variable [Lab]
section
variable {X : Cx} {F : Fm} {k n j : Nat} {f : Addr} {fd : FuncData} {ps ks : List Str} {x y : Str} {p pos pn : Pos} {e : Expr} {es : List Expr} {fa fb : DEnv → Option (List PyData × DEnv)}
end
end DL
end L2


set_option Elab.async false
set_option maxRecDepth 100000
set_option maxHeartbeats 4000000
set_option autoImplicit false
/-! ### a for loop in a generator -/
namespace L2
open PySem PySem.Spec PyProof.Rows GenW
section
variable {prog : Program} {w : World} {A : Around} {R : GenEnd} {Y : Protocol} {n : Nat} {s₀ : Shared} {c : Code} {fs : List Frame} {s : Shared} {env : Env} {K : Flow → Sem PySem.Fin} {J : Value → Sem PySem.Fin} {gd : Bool → Bool} {lv : List Value → List Value} {tg iter : Expr} {it : Value} {body : List Stmt} {pos : Pos}
end
section
variable {X : Cx} {tg iter : Expr} {body : List Stmt} {pos : Pos} {wi : TI} {g : TG} {tb : TGn}
end
end L2


set_option Elab.async false
set_option maxRecDepth 100000
set_option maxHeartbeats 4000000
set_option autoImplicit false
/-! ### generators' bodies over data -/
namespace L2
namespace DL
open PySem PySem.Spec PyProof.Rows GenW
variable [Lab]
section
variable {X : Cx} {F : Fm} {tg iter e : Expr} {s : Stmt} {ss : List Stmt} {pos yp : Pos} {f : DEnv → Option (PyData × DEnv)} {fi b fy fz : DEnv → Option (List PyData × DEnv)} {fs : DEnv → Option DFlow} {g : PyData → DEnv → Option DEnv}
end
section
variable {P : Program} {w : World} {K : PySem.W.Frag} {mg : Str → Option Value} {base : Heap} {x qual : Str} {st : Stmt} {f : Addr} {fd : FuncData} {N ps : List Str} {k : Nat} {g : DEnv → Option (List PyData × DEnv)}
end
section
variable {X : Cx} {F : Fm} {k n : Nat} {f : Addr} {fd : FuncData} {ps : List Str} {x nm : Str} {p p2 pos pos2 : Pos} {e : Expr} {es : List Expr} {fa : DEnv → Option (List PyData × DEnv)}
end
/-- repr may be written -/
class LabR [Lab] : Prop where
  on : Lab.gd
end DL
end L2


set_option Elab.async false
set_option maxRecDepth 100000
set_option maxHeartbeats 4000000
set_option autoImplicit false
namespace L2
namespace DL
open PySem PySem.Spec PyProof.Rows
section
variable [Lab]
variable {X : Cx} {F : Fm}
end
end DL
end L2


set_option Elab.async false
set_option maxRecDepth 100000
set_option maxHeartbeats 4000000
set_option autoImplicit false
namespace L2
namespace DL
open PySem PySem.Spec PyProof.Rows
section
variable [Lab]
variable {X : Cx} {F : Fm} {pos : Pos}
end
end DL
end L2


set_option Elab.async false
set_option maxRecDepth 100000
set_option maxHeartbeats 4000000
set_option autoImplicit false
namespace L2
namespace DL
open PySem PySem.Spec PyProof.Rows
section
variable [Lab]
end
end DL
end L2


set_option Elab.async false
set_option maxRecDepth 100000
set_option maxHeartbeats 4000000
set_option autoImplicit false
namespace L2
namespace DL
open PySem PySem.Spec PyProof.Rows
section
variable [Lab]
variable {X : Cx} {F : Fm} {e : Expr} {f : DEnv → Option (PyData × DEnv)}
end
end DL
end L2


set_option Elab.async false
set_option maxRecDepth 100000
set_option maxHeartbeats 4000000
set_option autoImplicit false
namespace L2
namespace DL
open PySem PySem.Spec PyProof.Rows
variable [Lab]
/-- reached from a start by steps, stores into the block's names and wipes -/
structure Frm (σ0 : St) (e0 : DEnv) (Z0 H0 : Hp) (σ : St) (e : DEnv) (Z H : Hp) : Prop where
  st : Stp σ0 e0 Z0 H0 e Z H
  ss : ∀ (j : Nat) (dv : DV), e[j]? = some (some dv) → ownish dv = true → σ[j]? = σ0[j]?
section
variable {F : Fm} {σ0 σ σ' : St} {e0 e e' : DEnv} {Z0 H0 Z H Z' H' : Hp} {D : Addr}
theorem Frm.free (f : Frm σ0 e0 Z0 H0 σ e Z H) {q : Addr} (h : Fre σ0 e0 q) : Fre σ e q := fun j dv ej oj sj => by
  obtain ⟨dv0, b, o⟩ := f.st.o j dv ej oj
  exact h j dv0 b o ((f.ss j dv ej oj).symm.trans sj)
theorem Frm.step (f : Frm σ0 e0 Z0 H0 σ e Z H) (b : Stp σ e Z H e' Z' H') : Frm σ0 e0 Z0 H0 σ e' Z' H' := by
  refine ⟨⟨f.st.z.trans b.z, fun q o hq n fr => b.h q o (f.st.h q o hq n fr) n (f.free fr), fun q h4 h0 hh fr => ?_, fun j dv ej oj => ?_, fun q hq => b.k q (f.st.k q hq)⟩, fun j dv ej oj => ?_⟩
  · by_cases hz : Z q = none
    · exact b.n q h4 hz (f.st.k q hh) (f.free fr)
    · exact f.st.n q hz h0 hh fr
  · obtain ⟨dv1, a, o⟩ := b.o j dv ej oj
    exact f.st.o j dv1 a o
  · obtain ⟨dv1, a, o⟩ := b.o j dv ej oj
    exact f.ss j dv1 a o
theorem Frm.wipe (f : Frm σ0 e0 Z0 H0 σ e Z H) (vs : List Nat) : Frm σ0 e0 Z0 H0 (L2.wipe σ vs) (wipeE e vs) Z H :=
  ⟨⟨f.st.z, f.st.h, f.st.n, fun j dv ej oj => f.st.o j dv (wipeE_in _ _ _ _ ej).2 oj, f.st.k⟩, fun j dv ej oj => by
    obtain ⟨a, b⟩ := wipeE_in _ _ _ _ ej
    rw [wipe_get _ _ _ a]; exact f.ss j dv b oj⟩
theorem Frm.tg {ts : List Nat} (f : Frm σ0 e0 Z0 H0 σ e Z H) (k : TgOk ts σ e σ' e') : Frm σ0 e0 Z0 H0 σ' e' Z H :=
  ⟨⟨f.st.z, f.st.h, f.st.n, fun j dv ej oj => f.st.o j dv (k.o j dv ej oj).2 oj, f.st.k⟩, fun j dv ej oj => by
    obtain ⟨a, b⟩ := k.o j dv ej oj
    rw [k.s j a]; exact f.ss j dv b oj⟩
theorem Frm.poke (f : Frm σ0 e0 Z0 H0 σ e Z H) (h0 : H0 D = none) (x : HO) : Frm σ0 e0 Z0 H0 σ e Z (upd H D x) :=
  ⟨⟨f.st.z, fun q o hq n fr => by rw [upd_ne (fun z => by rw [z, h0] at hq; cases hq)]; exact f.st.h q o hq n fr, f.st.n, f.st.o, fun q hq => by
    by_cases hqD : q = D
    · subst hqD; rw [upd_same]; simp
    · rw [upd_ne hqD]; exact f.st.k q hq⟩, f.ss⟩
end
section
variable {X : Cx} {F : Fm} {tg iter tg1 iter1 elt : Expr} {ifs ifs1 : List Expr} {pos : Pos} {y : Str} {fe : DEnv → Option (PyData × DEnv)} {fi fi1 : DEnv → Option (List PyData × DEnv)} {ft ft1 : DEnv → Option (Bool × DEnv)} {scope : Scope} {ts ts1 : List Nat} {g g1 : PyData → DEnv → Option DEnv}
end
end DL
end L2


set_option Elab.async false
set_option maxRecDepth 100000
set_option maxHeartbeats 4000000
set_option autoImplicit false
namespace L2
namespace DL
open PySem PySem.Spec PyProof.Rows
variable [Lab]
end DL
end L2


set_option Elab.async false
set_option maxRecDepth 100000
set_option maxHeartbeats 4000000
set_option autoImplicit false
namespace L2
namespace DL
open PySem PySem.Spec PyProof.Rows
variable [Lab]
section
variable {X : Cx} {F : Fm} {e : Expr} {y : Str} {pos pn tpos : Pos} {f fe : DEnv → Option (PyData × DEnv)}
end
end DL
end L2


set_option Elab.async false
set_option maxRecDepth 100000
set_option maxHeartbeats 4000000
set_option autoImplicit false
namespace L2
namespace DL
open PySem PySem.Spec PyProof.Rows
variable [Lab]
end DL
end L2


set_option Elab.async false
set_option maxRecDepth 100000
set_option maxHeartbeats 4000000
set_option autoImplicit false
namespace L2
namespace DL
open PySem PySem.Spec PyProof.Rows PySem.Calls
variable [Lab]
/-! ### any(l), l a list of ints -/
section
variable {X : Cx}
end
end DL
end L2


set_option Elab.async false
set_option maxRecDepth 100000
set_option maxHeartbeats 4000000
set_option autoImplicit false
namespace L2
namespace DL
open PySem PySem.Spec PyProof.Rows PySem.Calls
/-! ### nested keys -/
mutual
def nkOf : PyData → Option NestedKey
  | .none => some .none
  | .int i => some (.num i)
  | .str s => some (.text s)
  | .tuple ds => (nksOf ds).map .tup
  | .bool _ => none
  | .list _ => none
  | .dict _ => none
def nksOf : List PyData → Option (List NestedKey)
  | [] => some []
  | d :: ds => (nkOf d).bind fun k => (nksOf ds).map (k :: ·)
end
variable [Lab]
mutual
theorem nk_data : ∀ (d : PyData) (k : NestedKey), nkOf d = some k → k.data = d
  | .none, _, h => by cases h; rfl
  | .int _, _, h => by cases h; rfl
  | .str _, _, h => by cases h; rfl
  | .bool _, _, h => by cases h
  | .list _, _, h => by cases h
  | .dict _, _, h => by cases h
  | .tuple ds, k, h => by
    rw [nkOf] at h
    obtain ⟨ks, e, rfl⟩ := mpd h
    rw [NestedKey.data, nks_data ds ks e]
theorem nks_data : ∀ (ds : List PyData) (ks : List NestedKey), nksOf ds = some ks → NestedKey.datas ks = ds
  | [], _, h => by cases h; rfl
  | d :: ds, _, h => by
    rw [nksOf] at h
    obtain ⟨k, e1, h⟩ := bnd h
    obtain ⟨ks, e2, rfl⟩ := mpd h
    rw [NestedKey.datas, nk_data d k e1, nks_data ds ks e2]
end
mutual
theorem nk_of : ∀ k : NestedKey, nkOf k.data = some k
  | .none => rfl
  | .num _ => rfl
  | .text _ => rfl
  | .tup ks => by rw [NestedKey.data, nkOf, nks_of ks]; rfl
theorem nks_of : ∀ ks : List NestedKey, nksOf (NestedKey.datas ks) = some ks
  | [] => rfl
  | k :: ks => by rw [NestedKey.datas, nksOf, nk_of k, nks_of ks]; rfl
end
mutual
theorem dd_nk {X : Cx} {pins : List (Addr × Obj)} {σ : St} {H : Hp} {s : Shared} (I : Inv X pins σ H s) {Z : Hp} (sz : Same Z H) : ∀ (k : NestedKey) (v : V) (u : Value), DD X.K Z v k.data → RelV v u → NestedIs s.heap k u
  | .none, v, u, h, r => by cases h; cases (show u = Value.none from r); exact .none
  | .num i, v, u, h, r => by cases h; obtain ⟨t, rfl⟩ := (show ∃ t, u = Value.int i t from r); exact .int i t
  | .text x, v, u, h, r => by cases h; obtain ⟨t, rfl⟩ := (show ∃ t, u = Value.str x t from r); exact .text x t
  | .tup ks, v, u, h, r => by
    rw [NestedKey.data] at h
    cases h with
    | @tup a xs _ hs hd =>
      cases (show u = Value.ref a from r)
      obtain ⟨its, rv, ⟨o, h1, h2, n, h3⟩, _⟩ := I.tuple (same_sqT sz hs)
      exact .tup h1 h2 h3 (by simpa using dds_nk I sz ks xs its hd rv)
theorem dds_nk {X : Cx} {pins : List (Addr × Obj)} {σ : St} {H : Hp} {s : Shared} (I : Inv X pins σ H s) {Z : Hp} (sz : Same Z H) : ∀ (ks : List NestedKey) (vs : List V) (us : List Value), DDs X.K Z vs (NestedKey.datas ks) → Vals vs us → NestedAll s.heap ks us
  | [], _, _, h, r => by
    rw [NestedKey.datas] at h
    cases h; cases r; exact .nil
  | k :: ks, _, _, h, r => by
    rw [NestedKey.datas] at h
    cases h with
    | cons h1 h2 =>
      cases r with
      | cons r1 r2 => exact .cons (dd_nk I sz k _ _ h1 r1) (dds_nk I sz ks _ _ h2 r2)
end
end DL
end L2


set_option Elab.async false
set_option maxRecDepth 100000
set_option maxHeartbeats 4000000
set_option autoImplicit false
namespace L2
namespace DL
open PySem PySem.Spec PyProof.Rows PySem.Calls
variable [Lab]
/-! ### a display, its keys nested tuples -/
abbrev FD := DEnv → Option (PyData × DEnv)
end DL
end L2


set_option Elab.async false
set_option maxRecDepth 100000
set_option maxHeartbeats 4000000
set_option autoImplicit false
namespace L2
namespace DL
open PySem PySem.Spec PyProof.Rows PySem.Calls
variable [Lab]
/-! ### min(l, key=len) -/
section
variable {X : Cx} {pins : List (Addr × Obj)} {σ : St} {H : Hp}
/-- the least so far -/
structure Least (kf : Nat → Int) (i j : Nat) : Prop where
  lt : i < j
  le : ∀ k, k < j → kf i ≤ kf k ∧ (k < i → kf i < kf k)
omit [Lab] in
theorem Least.no {kf : Nat → Int} {i j : Nat} (h : Least kf i j) (n : ¬ kf j < kf i) : Least kf i (j + 1) := by
  refine ⟨by have := h.lt; omega, fun k hk => ?_⟩
  by_cases e : k = j
  · subst e
    exact ⟨by omega, fun z => by have := h.lt; omega⟩
  · exact h.le k (by omega)
end
/-- the world that the dicts' hashes are of -/
class LabV (w : World) : Prop where
  eq : LabW.w = some w
end DL
end L2


set_option Elab.async false
set_option maxRecDepth 100000
set_option maxHeartbeats 4000000
set_option autoImplicit false
namespace L2
namespace DL
open PySem PySem.Spec PyProof.Rows
variable [Lab]
section
variable {X : Cx}
end
/-! ### a, b = a new list and data -/
section
variable {X : Cx} {F : Fm} {s : Stmt} {fn : DEnv → Option (List PyData × DEnv)} {f : DEnv → Option (PyData × DEnv)}
end
end DL
end L2


set_option Elab.async false
set_option maxRecDepth 100000
set_option maxHeartbeats 4000000
set_option autoImplicit false
namespace L2
namespace DL
open PySem PySem.Spec PyProof.Rows
variable [Lab]
/-! ### a call that reads an owned list and hands back data without lists: the list stays owned -/
mutual
def noL : PyData → Bool
  | .list _ => false
  | .dict _ => false
  | .tuple ds => noLs ds
  | _ => true
def noLs : List PyData → Bool
  | [] => true
  | d :: ds => noL d && noLs ds
end
/-- Z without the list at p -/
def offZ (Z : Hp) (p : Addr) : Hp := fun q => if q = p then none else Z q
theorem offZ_ne {Z : Hp} {p q : Addr} (h : q ≠ p) : offZ Z p q = Z q := if_neg h
mutual
theorem dd_off {K : PySem.W.Frag} {Z : Hp} {p : Addr} {xs : List V} (hp : Z p = some (.lst xs)) : ∀ (d : PyData) (v : V), noL d = true → DD K Z v d → DD K (offZ Z p) v d
  | .none, _, _, h => by cases h; exact .non
  | .bool _, _, _, h => by cases h; exact .bl _
  | .int _, _, _, h => by cases h; exact .int _
  | .str _, _, _, h => by cases h; exact .str _
  | .list _, _, n, _ => by cases n
  | .dict _, _, n, _ => by cases n
  | .tuple ds, _, n, h => by
    cases h with
    | tup hs hd =>
      refine .tup ?_ (dds_off hp ds _ n hd)
      rcases hs with h | h
      · refine .inl ?_
        rcases h with h | ⟨o, h⟩
        · exact .inl (by rw [offZ_ne (fun z => by rw [z, hp] at h; cases h)]; exact h)
        · exact .inr ⟨o, by rw [offZ_ne (fun z => by rw [z, hp] at h; cases h)]; exact h⟩
      · exact .inr h
theorem dds_off {K : PySem.W.Frag} {Z : Hp} {p : Addr} {xs : List V} (hp : Z p = some (.lst xs)) : ∀ (ds : List PyData) (vs : List V), noLs ds = true → DDs K Z vs ds → DDs K (offZ Z p) vs ds
  | [], _, _, h => by cases h; exact .nil
  | d :: ds, _, n, h => by
    obtain ⟨n1, n2⟩ := Bool.and_eq_true_iff.mp n
    cases h with
    | cons h1 h2 => exact .cons (dd_off hp d _ n1 h1) (dds_off hp ds _ n2 h2)
end
section
variable {X : Cx} {F : Fm} {k n : Nat} {f : Addr} {fd : FuncData} {ps : List Str} {x a y b : Str} {p pa py pb pos : Pos}
end
end DL
end L2


set_option Elab.async false
set_option maxRecDepth 100000
set_option maxHeartbeats 4000000
set_option autoImplicit false
namespace L2
namespace DL
open PySem PySem.Spec PyProof.Rows PySem.Calls
variable [Lab]
/-! ### a, b, c = a new dict, a new list, data -/
section
variable {X : Cx} {F : Fm} {s : Stmt} {fk : DEnv → Option (List (PyData × PyData) × DEnv)} {gn : DEnv → Option (List PyData × DEnv)} {f : DEnv → Option (PyData × DEnv)}
end
end DL
end L2


set_option Elab.async false
set_option maxRecDepth 100000
set_option maxHeartbeats 4000000
set_option autoImplicit false
namespace L2
namespace DL
open PySem PySem.Spec PyProof.Rows PySem.Calls
variable [Lab]
end DL
end L2


set_option Elab.async false
set_option maxRecDepth 100000
set_option maxHeartbeats 4000000
set_option autoImplicit false
namespace L2
namespace DL
open PySem PySem.Spec PyProof.Rows PySem.Calls
variable [Lab]
/-! ### xs[::-1], xs a list -/
section
variable {X : Cx} {F : Fm} {e : Expr} {f : DEnv → Option (PyData × DEnv)}
end
end DL
end L2


set_option Elab.async false
set_option maxRecDepth 100000
set_option maxHeartbeats 4000000
set_option autoImplicit false
namespace L2
open PySem PySem.Spec PyProof.Rows PySem.Calls
/-! ### set(t), t a tuple of ints -/
section
variable {X : Cx}
end
namespace DL
variable [Lab]
section
variable {X : Cx} {F : Fm} {e : Expr} {f : DEnv → Option (PyData × DEnv)}
end
end DL
end L2


set_option Elab.async false
set_option maxRecDepth 100000
set_option maxHeartbeats 4000000
set_option autoImplicit false
namespace L2
open PySem PySem.Spec PyProof.Rows PySem.Calls
section
variable {P : Program} {w : World} {A : Around} {E : Value → Shared → Prop} {s : Shared}
end
end L2


set_option Elab.async false
set_option maxRecDepth 100000
set_option maxHeartbeats 4000000
set_option autoImplicit false
namespace L2
open PySem PySem.Spec PyProof.Rows PySem.Calls
namespace DL
variable [DL.Lab]
end DL
section
variable [DL.Lab]
variable {X : Cx}
end
namespace DL
variable [DL.Lab]
section
variable {X : Cx} {F : Fm} {e : Expr} {f : DEnv → Option (PyData × DEnv)}
end
end DL
end L2


set_option Elab.async false
set_option maxRecDepth 100000
set_option maxHeartbeats 4000000
set_option autoImplicit false
namespace L2
namespace DL
open PySem PySem.Spec PyProof.Rows PySem.Calls
variable [Lab]
/-! ### list(range(i, j)), new -/
section
variable {X : Cx} {F : Fm} {a b : Expr} {f g : DEnv → Option (PyData × DEnv)}
end
end DL
end L2


set_option Elab.async false
set_option maxRecDepth 100000
set_option maxHeartbeats 4000000
set_option autoImplicit false
namespace L2
open PySem PySem.Spec PyProof.Rows PySem.Calls
section
variable {P : Program} {w : World} {A : Around} {E : Value → Shared → Prop} {s : Shared}
end
section
variable [DL.Lab]
variable {X : Cx}
end
end L2


set_option Elab.async false
set_option maxRecDepth 100000
set_option maxHeartbeats 4000000
set_option autoImplicit false
namespace L2
open PySem PySem.Spec PyProof.Rows PySem.Calls
namespace DL
variable [DL.Lab]
section
variable {X : Cx} {F : Fm} {e : Expr} {f : DEnv → Option (PyData × DEnv)}
end
end DL
end L2


set_option Elab.async false
set_option maxRecDepth 100000
set_option maxHeartbeats 4000000
set_option autoImplicit false
namespace L2
namespace DL
open PySem PySem.Spec PyProof.Rows PySem.Calls
variable [Lab]
section
variable {X : Cx} {F : Fm} {y : Str} {pn p cpos : Pos}
end
abbrev PK (K : PySem.W.Frag) (Z : Hp) : List (Key × V) → List (Key × PyData) → Prop := Paired fun a b => a.1 = b.1 ∧ DD K Z a.2 b.2
section
variable {X : Cx} {F : Fm} {o e1 e2 : Expr} {apos cpos : Pos} {f g h : FD}
end
section
variable {X : Cx} {F : Fm} {b : Expr} {nm : Str} {pos pn : Pos} {f : FD} {kvs : List (Str × PyData)}
end
end DL
end L2


set_option Elab.async false
set_option maxRecDepth 100000
set_option maxHeartbeats 4000000
set_option autoImplicit false
namespace L2
namespace DL
open PySem PySem.Spec PyProof.Rows PySem.Calls
variable [Lab]
section
variable {X : Cx} {pins : List (Addr × Obj)} {σ : St} {Fv : Fm}
/-- the state of the loop between two turns -/
structure MinS (X : Cx) (Fv : Fm) (pins : List (Addr × Obj)) (σ : St) (env : DEnv) (f c' I S l : Addr) (lo co : HO) (xs : List V) (ds : List PyData) (Z H : Hp) (s : Shared) : Prop where
  iv : Inv X pins σ H s
  rl : Rel X.K Fv Z H σ env
  hf : H f = some lo
  hc : H c' = some co
  hl : LsR X.K H l xs
  hd : DDs X.K Z xs ds
  fi : FpOk X pins H I
  fs : FpOk X pins H S
theorem MinS.at {env : DEnv} {f c' I S l : Addr} {lo co : HO} {xs : List V} {ds : List PyData} {Z H : Hp} {s s' : Shared} (m : MinS X Fv pins σ env f c' I S l lo co xs ds Z H s) (iv : Inv X pins σ H s') : MinS X Fv pins σ env f c' I S l lo co xs ds Z H s' :=
  ⟨iv, m.rl, m.hf, m.hc, m.hl, m.hd, m.fi, m.fs⟩
end
end DL
end L2


set_option Elab.async false
set_option maxRecDepth 100000
set_option maxHeartbeats 4000000
set_option autoImplicit false
namespace L2
namespace DL
open PySem PySem.Spec PyProof.Rows PySem.AutoSeq1
variable [Lab]
/-! ### xs.extend(tuple) -/
section
set_option maxRecDepth 8000
end
section
variable {X : Cx} {F : Fm} {a b e : Expr} {pos p pn : Pos} {x y : Str} {f g : DEnv → Option (PyData × DEnv)}
end
end DL
end L2


set_option Elab.async false
set_option maxRecDepth 100000
set_option maxHeartbeats 4000000
set_option autoImplicit false
namespace L2
namespace DL
open PySem PySem.Spec PyProof.Rows PySem.Calls
variable [Lab]
section
variable {X : Cx} {F : Fm} {e : Expr} {f : DEnv → Option (PyData × DEnv)}
end
end DL
end L2


set_option Elab.async false
set_option maxRecDepth 100000
set_option maxHeartbeats 4000000
set_option autoImplicit false
namespace L2
namespace DL
open PySem PySem.Spec PyProof.Rows PySem.Calls
variable [Lab]
/-! ### repr of data that may hold empty dicts -/
mutual
def emD : PyData → Bool
  | .list ds => emDs ds
  | .tuple ds => emDs ds
  | .dict kvs => kvs.isEmpty
  | _ => true
def emDs : List PyData → Bool
  | [] => true
  | d :: ds => emD d && emDs ds
end
abbrev reprOkE (d : PyData) : Bool := d.showable && emD d && decide (d.shown.length ≤ sizeLine) && decide (d.depth ≤ 64)
def reprE : List PyData → Option PyData
  | [d] => if reprOkE d then some (.str d.shown) else none
  | _ => none
section
variable {X : Cx} {pins : List (Addr × Obj)} {σ : St} {H : Hp} {s : Shared}
theorem dd_emp (I : Inv X pins σ H s) {v : V} (h : DD X.K H v (.dict [])) : ∃ a o es ep, v = .ref a ∧ (a == sysModules) = false ∧ s.heap.get? a = some o ∧ o.cls = .type "dict" ∧ o.data = .dict es ep ∧ es.toList = [] := by
  cases h with
  | @dct a xs _ e hi =>
    cases hi
    obtain ⟨_, hs, vs, rel, o, es, ep, ho, hx, hd, _, hp, _⟩ := dk_of I.hok e
    cases rel
    refine ⟨a, o, es, ep, rfl, hs, ho, hx.1, hd, ?_⟩
    generalize es.toList = l at hp
    cases hp
    rfl
  | @dcn a o xs _ e hf hk =>
    cases hk
    obtain ⟨w', es, ep, _, hd, hp⟩ := hf.es
    obtain ⟨hh, _, _⟩ := I.hok a _ e
    refine ⟨a, o, es, ep, rfl, hf.hd, hh, hf.ex.1, hd, ?_⟩
    generalize es.toList = l at hp
    cases hp
    rfl
/-- what is read is shown so -/
abbrev RkD (X : Cx) (s : Shared) (u : Value) (d : PyData) : Prop := (∃ as, Reads s.heap u d as) ∧ ∃ bs, ReadAtMost s.heap d.depth bs ∧ ReprK X.prog X.w bs s.heap d.depth u d.shown
abbrev RkDs (X : Cx) (s : Shared) (us : List Value) (ds : List PyData) : Prop := (∃ as, ReadsAll s.heap us ds as) ∧ ∃ bs, ReadAtMost s.heap (PyData.depthAll ds) bs ∧ ReprAllK X.prog X.w bs s.heap (PyData.depthAll ds) us (PyData.shownAll ds)
theorem rk_atom {u : Value} {d : PyData} (hr : Reads s.heap u d []) (hk : ∀ n, ReprK X.prog X.w [] s.heap n u d.shown) : RkD X s u d := ⟨⟨_, hr⟩, [], (fun _ h => nomatch h), hk _⟩
mutual
theorem dd_rk (I : Inv X pins σ H s) : ∀ (d : PyData) (v : V) (u : Value), DD X.K H v d → RelV v u → emD d = true → d.showable = true → d.shown.length ≤ sizeLine → RkD X s u d
  | .none, _, _, h, r, _, _, _ => by
    cases h
    cases r
    exact rk_atom .none fun n => ReprK.of_is ReprIs.none _ _ _
  | .bool b, _, _, h, r, _, _, _ => by
    cases h
    cases r
    exact rk_atom (.bool b) fun n => ReprK.of_is (ReprIs.bool b) _ _ _
  | .int i, _, _, h, r, _, c, _ => by
    cases h.int_inv
    obtain ⟨t, rfl⟩ := r
    exact rk_atom (.int i t) fun n => ReprK.of_is (ReprIs.int t (of_decide_eq_true c)) _ _ _
  | .str x, _, _, h, r, _, _, z => by
    cases h
    obtain ⟨t, rfl⟩ := r
    exact rk_atom (.str x t) fun n => ReprK.of_is (ReprIs.str x t z) _ _ _
  | .list ds, _, _, h, r, em, c, z => by
    cases h with
    | @lst a xs _ hs ha =>
      cases r
      obtain ⟨its, rv, ⟨o, n, ho, hc, _, hd⟩, _⟩ := I.list hs.sq
      have z1 : (listText (PyData.shownAll ds)).length ≤ sizeLine := z
      obtain ⟨⟨as, hr⟩, bs, hb, hk⟩ := dds_rk I ds xs its ha rv em c fun t ht => Nat.le_trans (listText_mem_le ht) z1
      have rd : Reads s.heap (.ref a) (.list ds) (a :: as) := .list ho hc hd hr
      have hna : a ∉ bs := not_mem_of_deeper rd (Nat.lt_succ_self _) hb
      refine ⟨⟨_, rd⟩, a :: bs, ReadAtMost.cons rd (Nat.le_succ _) hb, ?_⟩
      cases its with
      | nil =>
        cases hr
        exact ReprK.listEmpty ho hc hd
      | cons y l => exact ReprK.list ho hc hd hna (by simpa using hk.length_eq) fun i y e => hk.item i y (by simpa using e)
  | .tuple ds, _, _, h, r, em, c, z => by
    cases h with
    | @tup a xs _ hs ha =>
      cases r
      obtain ⟨its, rv, ⟨o, ho, hc, n, hd⟩, _⟩ := I.tuple hs
      have z1 : (tupleText (PyData.shownAll ds)).length ≤ sizeLine := z
      obtain ⟨⟨as, hr⟩, bs, hb, hk⟩ := dds_rk I ds xs its ha rv em c fun t ht => Nat.le_trans (tupleText_mem_le ht) z1
      have rd : Reads s.heap (.ref a) (.tuple ds) as := .tuple ho hc hd hr
      have hna : a ∉ bs := not_mem_of_deeper rd (Nat.lt_succ_self _) hb
      exact ⟨⟨_, rd⟩, a :: bs, ReadAtMost.cons rd (Nat.le_succ _) hb, ReprK.tuple ho hc hd hna hk⟩
  | .dict kvs, _, _, h, r, em, c, z => by
    have hk : kvs = [] := List.isEmpty_iff.mp em
    subst hk
    obtain ⟨a, o, es, ep, rfl, hsy, ho, hc, hd, he⟩ := dd_emp I h
    cases r
    have rd : Reads s.heap (.ref a) (.dict []) (a :: [] ++ []) := .dict ho hc hd (by rw [he]; exact .nil) (by rw [he]; exact .nil)
    refine ⟨⟨_, rd⟩, a :: [], ReadAtMost.cons (n := 0) (bs := []) rd (Nat.zero_le _) (fun _ h => nomatch h), ?_⟩
    exact ReprK.dict (d := 0) (ps := []) ho hc hd hsy (fun h => nomatch h) (by rw [he]; exact .nil)
theorem dds_rk (I : Inv X pins σ H s) : ∀ (ds : List PyData) (vs : List V) (us : List Value), DDs X.K H vs ds → Vals vs us → emDs ds = true → PyData.showableAll ds = true → (∀ t ∈ PyData.shownAll ds, t.length ≤ sizeLine) → RkDs X s us ds
  | [], _, _, h, r, _, _, _ => by
    cases h
    cases r
    exact ⟨⟨_, .nil⟩, [], (fun _ h => nomatch h), .nil⟩
  | d :: ds, _, _, h, r, em, c, z => by
    cases h with
    | cons h1 h2 =>
      cases r with
      | cons r1 r2 =>
        have em' : (emD d && emDs ds) = true := em
        have c' : (d.showable && PyData.showableAll ds) = true := c
        rw [Bool.and_eq_true] at em' c'
        obtain ⟨⟨as, q1⟩, b1, hb1, k1⟩ := dd_rk I d _ _ h1 r1 em'.1 c'.1 (z _ List.mem_cons_self)
        obtain ⟨⟨cs, q2⟩, b2, hb2, k2⟩ := dds_rk I ds _ _ h2 r2 em'.2 c'.2 fun t ht => z t (List.mem_cons_of_mem _ ht)
        refine ⟨⟨_, .cons q1 q2⟩, b1 ++ b2, ReadAtMost.append (hb1.mono (Nat.le_max_left _ _)) (hb2.mono (Nat.le_max_right _ _)), ?_⟩
        exact .cons ((k1.more fun b hb => List.mem_append_left _ hb).level_le (Nat.le_max_left _ _)) (k2.more_le (fun b hb => List.mem_append_right _ hb) (Nat.le_max_right _ _))
end
/-- the object at a, shown by its type's own -/
theorem dd_shows (I : Inv X pins σ H s) {d : PyData} {v : V} {a : Addr} (h : DD X.K H v d) (rv : RelV v (.ref a)) (em : emD d = true) (c : d.showable = true) (z : d.shown.length ≤ sizeLine) : ∃ T idr, ShowsBy X.prog X.w s.heap a d T idr := by
  cases h with
  | non => cases rv
  | bl b => cases rv
  | int i => obtain ⟨t, e⟩ := rv; cases e
  | str x => obtain ⟨t, e⟩ := rv; cases e
  | @lst a' xs ds hs ha =>
    cases rv
    obtain ⟨its, rv, ⟨o, n, ho, hc, _, hd⟩, _⟩ := I.list hs.sq
    have z1 : (listText (PyData.shownAll ds)).length ≤ sizeLine := z
    obtain ⟨⟨as, hr⟩, bs, hb, hk⟩ := dds_rk I ds xs its ha rv em c fun t ht => Nat.le_trans (listText_mem_le ht) z1
    have rd : Reads s.heap (.ref a) (.list ds) (a :: as) := .list ho hc hd hr
    have hna : a ∉ bs := not_mem_of_deeper rd (Nat.lt_succ_self _) hb
    refine ⟨"list", "list.__repr__", F.slot_list_repr.toG, F.slot_list_str, F.slot_list_format, fun s2 k => ⟨o, k _ _ ho, hc⟩, fun A2 E2 s2 Q2 hg hu k hQ => ?_⟩
    cases its with
    | nil =>
      cases hr
      exact call_list_repr_empty ⟨o, k _ _ ho, hc⟩ (k _ _ ho) hd (hQ s2.heap _ _ fun _ _ e => e)
    | cons y l => exact call_list_reprK ho hc hd hna (by simpa using hk.length_eq) (fun i y e => hk.item i y (by simpa using e)) hg (fun b _ => Clear.nil b) hu k hQ z1
  | @tup a' xs ds hs ha =>
    cases rv
    obtain ⟨its, rv, ⟨o, ho, hc, n, hd⟩, _⟩ := I.tuple hs
    have z1 : (tupleText (PyData.shownAll ds)).length ≤ sizeLine := z
    obtain ⟨⟨as, hr⟩, bs, hb, hk⟩ := dds_rk I ds xs its ha rv em c fun t ht => Nat.le_trans (tupleText_mem_le ht) z1
    have rd : Reads s.heap (.ref a) (.tuple ds) as := .tuple ho hc hd hr
    have hna : a ∉ bs := not_mem_of_deeper rd (Nat.lt_succ_self _) hb
    exact ⟨"tuple", "tuple.__repr__", F.slot_tuple_repr, F.slot_tuple_str, F.slot_tuple_format, fun s2 k => ⟨o, k _ _ ho, hc⟩, fun A2 E2 s2 Q2 hg hu k hQ => call_tuple_reprK ho hc hd hna hk hg (fun b _ => Clear.nil b) hu k hQ z1⟩
  | exc _ _ _ _ _ => cases em
  | exn _ _ => cases em
  | @dct a' xs kvs e hi =>
    have hk : kvs = [] := List.isEmpty_iff.mp em
    subst hk
    obtain ⟨a2, o, es, ep, e2, hsy, ho, hc, hd, he⟩ := dd_emp I (.dct e hi)
    cases e2
    cases rv
    exact ⟨"dict", "dict.__repr__", F.slot_dict_repr, F.slot_dict_str, F.slot_dict_format, fun s2 k => ⟨o, k _ _ ho, hc⟩, fun A2 E2 s2 Q2 hg hu k hQ => call_dict_reprK (as := []) (d := 0) (ps := []) ho hc hd hsy (fun h => nomatch h) (by rw [he]; exact .nil) hg (fun b _ => Clear.nil b) hu k hQ z⟩
  | @dcn a' o' xs kvs e hf hi =>
    have hk : kvs = [] := List.isEmpty_iff.mp em
    subst hk
    obtain ⟨a2, o, es, ep, e2, hsy, ho, hc, hd, he⟩ := dd_emp I (.dcn e hf hi)
    cases e2
    cases rv
    exact ⟨"dict", "dict.__repr__", F.slot_dict_repr, F.slot_dict_str, F.slot_dict_format, fun s2 k => ⟨o, k _ _ ho, hc⟩, fun A2 E2 s2 Q2 hg hu k hQ => call_dict_reprK (as := []) (d := 0) (ps := []) ho hc hd hsy (fun h => nomatch h) (by rw [he]; exact .nil) hg (fun b _ => Clear.nil b) hu k hQ z⟩
end
section
variable {X : Cx} {F : Fm}
theorem cd_reprE {k : Nat} (hr : Room k X.A) (hgd : GdOk X.A) (hl : Lab.gd) : CallD X (.builtin "repr") reprE := by
  have hg := hgd hl
  intro pins s σ H xs us Q I r h
  obtain ⟨Z, ds, d, sz, hd, e, q⟩ := h
  match ds, hd, e with
  | [a], hd, e =>
    change (if reprOkE a then some (PyData.str a.shown) else none) = some d at e
    split at e
    case isFalse => cases e
    rename_i hc
    simp only [reprOkE, Bool.and_eq_true, decide_eq_true_eq] at hc
    obtain ⟨⟨⟨c1, c2⟩, c3⟩, c4⟩ := hc
    cases e
    obtain ⟨v, rfl, h1⟩ := dds1 hd
    obtain ⟨u, rfl, rv⟩ := vals1 r
    have hun := hr.un
    have h2 := DDm h1 sz
    have fin : ∀ l, u = .ref l → wpAny (model X.prog X.w) X.A (call (.builtin "repr") [u]) (EP X pins σ Q) X.xe s := fun l hl => by
      subst hl
      obtain ⟨T, idr, S⟩ := dd_shows I h2 rv c2 c1 c3
      refine call_repr_slot (by omega) (S.typeIs s fun _ _ e => e) S.slotRepr (S.call X.A.in1 _ s _ hg (by show X.A.units + 1 + a.depth < cLine; omega) (fun _ _ e => e) fun h' u tk hk => ⟨_, _, rfl, ?_⟩)
      exact ⟨.str _, H, I.kept hk, ⟨_, rfl⟩, q _ Z H (Grow.refl sz) (.str _)⟩
    cases h1 with
    | non => cases rv; exact PySem.P.repr_of_none ⟨.str _, H, I.tok _, ⟨_, rfl⟩, q _ Z H (Grow.refl sz) (.str _)⟩
    | bl b => cases rv; exact PySem.P.repr_of_bool ⟨.str _, H, I.tok _, ⟨_, rfl⟩, q _ Z H (Grow.refl sz) (.str _)⟩
    | int i =>
      obtain ⟨t, rfl⟩ := rv
      exact PySem.P.repr_of_int (of_decide_eq_true c1) ⟨.str _, H, I.tok _, ⟨_, rfl⟩, q _ Z H (Grow.refl sz) (.str _)⟩
    | str z =>
      obtain ⟨t, rfl⟩ := rv
      exact PySem.P.repr_of_str ⟨.str _, H, I.tok _, ⟨_, rfl⟩, q _ Z H (Grow.refl sz) (.str _)⟩ c3
    | lst _ _ => exact fin _ rv
    | tup _ _ => exact fin _ rv
    | dct _ _ => exact fin _ rv
    | dcn _ _ _ => exact fin _ rv
    | exc _ _ _ _ _ => exact fin _ rv
    | exn _ _ => exact fin _ rv
end
end DL
end L2


set_option Elab.async false
set_option maxRecDepth 100000
set_option maxHeartbeats 4000000
set_option autoImplicit false
namespace L2
namespace DL
open PySem PySem.Spec PyProof.Rows
variable [Lab]
/-! ### a, b = data and a new list -/
section
variable {X : Cx} {F : Fm} {s : Stmt} {f : DEnv → Option (PyData × DEnv)} {gn : DEnv → Option (List PyData × DEnv)}
end
end DL
end L2


set_option Elab.async false
set_option maxRecDepth 100000
set_option maxHeartbeats 4000000
set_option autoImplicit false
namespace L2
namespace DL
open PySem PySem.Spec PyProof.Rows
section
variable {X : Cx}
end
section
variable {X : Cx} {t : Expr} {cl : List Value} {body suite : List Stmt} {b₀ : Stmt} {pos pos' : Pos} {tb : WX → TS} {ts : Addr → Value → Option Addr → TS} {Wout : WX}
end
section
variable [Lab]
end
end DL
end L2


set_option Elab.async false
set_option maxRecDepth 100000
set_option maxHeartbeats 4000000
set_option autoImplicit false
namespace L2
namespace DL
open PySem PySem.Spec PyProof.Rows
variable [Lab]
/-! ### calls that may raise within an expression -/
section
variable {X : Cx} {F : Fm} {a b c e : Expr} {rest : List Expr} {pos : Pos} {f g : DEnv → Option DX} {fd : DEnv → Option (PyData × DEnv)} {ft : DEnv → Option (Bool × DEnv)}
theorem FinE.mono {K : PySem.W.Frag} {Z Z1 : Hp} {env e1 : DEnv} {σ : St} {H H1 : Hp} {Q : VK} {r : DX} (q : FinE K F Z env σ H Q r) (s : Stp σ env Z H e1 Z1 H1) : FinE K F Z1 e1 σ H1 Q r := by
  cases r with
  | ok d e' => exact fun v Z' H' r' s' dd => q v Z' H' r' (s.trans s') dd
  | ex c a d e' => exact fun v p Z' H' r' s' x0 x1 x2 x3 x4 dd => q v p Z' H' r' (s.trans s') (s.new x0) x1 x2 x3 x4 dd
end
/-! ### their evaluation -/
section
variable {f g : DEnv → Option DX} {fd : DEnv → Option (PyData × DEnv)} {ft : DEnv → Option (Bool × DEnv)} {env e1 e2 : DEnv}
theorem ev_cX {m : List PyData → Option XR} {fa : DEnv → Option (List PyData × DEnv)} {ds : List PyData} {r : XR} (h : fa env = some (ds, e1)) (h2 : m ds = some r) : fCX m fa env = some (toX e1 r) := by
  unfold fCX; rw [h]; show (m ds).map _ = _; rw [h2]; rfl
end
end DL
end L2


set_option Elab.async false
set_option maxRecDepth 100000
set_option maxHeartbeats 4000000
set_option autoImplicit false
namespace L2
namespace DL
open PySem PySem.Spec PyProof.Rows
section
variable [Lab]
end
end DL
end L2


set_option Elab.async false
set_option maxRecDepth 100000
set_option maxHeartbeats 4000000
set_option autoImplicit false
namespace L2
namespace DL
open PySem PySem.Spec PyProof.Rows
variable [Lab]
end DL
end L2


set_option Elab.async false
set_option maxRecDepth 100000
set_option maxHeartbeats 4000000
set_option autoImplicit false
namespace L2
namespace DL
open PySem PySem.Spec PyProof.Rows
variable [Lab]
end DL
end L2


set_option Elab.async false
set_option maxRecDepth 100000
set_option maxHeartbeats 4000000
set_option autoImplicit false
namespace L2
namespace DL
open PySem PySem.Spec PyProof.Rows
variable [Lab]
/-! ### a, b, c = data, a new list, data -/
section
variable {X : Cx} {F : Fm} {s : Stmt} {gn : DEnv → Option (List PyData × DEnv)} {fd f : DEnv → Option (PyData × DEnv)}
end
end DL
end L2


/-! own exceptions over LookupError, each with its one attribute -/
set_option maxRecDepth 4000
namespace PySem
namespace OEL
open PySem.W PySem.Calls PyProof.Rows PySem.HandSPX
abbrev leTail : List Value := [.type "LookupError", .type "Exception", .type "BaseException", .type "object"]
def isRf : Value → Bool
  | .ref _ => true
  | _ => false
/-- own classes, then the mro of LookupError -/
def leB : List Value → Bool
  | [] => false
  | a :: r => (isRf a && leB r) || (a :: r == leTail)
inductive LeM : List Value → Prop where
  | tail : LeM leTail
  | ref (c : Addr) {l : List Value} (h : LeM l) : LeM (.ref c :: l)
theorem LeM.contains (X : String) {l : List Value} (h : LeM l) : l.contains (.type X) = leTail.contains (.type X) := by
  induction h with
  | tail => rfl
  | ref c h ih => rw [List.contains_cons, ih]; rfl
theorem LeM.some {l : List Value} (h : LeM l) : l.isEmpty = false := by
  cases h <;> rfl
section
open Builtin Builtin.ObjectAttr
variable {prog : Program} {w : World} {A : Around} {E : Value → Shared → Prop} {R : Result → Shared → Prop} {hp : Heap} {g : Array GenState} {d : Drawn} {t : Nat} {os : OsState}
end
end OEL
end PySem
namespace L2
open PySem PySem.Spec PyProof.Rows PySem.OEL
/-- what is known of an own class over LookupError -/
structure OexL (K : PySem.W.Frag) (C : Addr) : Prop where
  cls : ∃ nm q N bs bm sn sub ab col dd k0 k1 k2 k3 k5, K.lookup C = some (excClassObj nm q C N bs bm true sn sub ab col dd k0 k1 k2 k3 k5 "LookupError.__new__") ∧ leB bm = true
  sa : PySem.W.findIn K (.ref C) "__setattr__" = some (some (.builtin "object.__setattr__"))
  exC : PySem.W.subIn K (.ref C) (.type "BaseException") = some true
  tyC : PySem.W.typeIn K (.ref C) = some (.type "type")
  kC : PySem.W.keepIn K (.ref C) = true
section
variable {X : Cx} {pins : List (Addr × Obj)} {σ : St} {H : Hp} {s : Shared} {a C dx : Addr} {f : Str} {y : V} {u : Value} {Q : Unit → Shared → Prop} {E : Value → Shared → Prop} {A : Around}
end
namespace DL
variable [Lab]
end DL
end L2


set_option Elab.async false
set_option maxRecDepth 100000
set_option maxHeartbeats 4000000
set_option autoImplicit false
namespace L2
namespace DL
open PySem PySem.Spec PyProof.Rows PySem.Calls
variable [Lab]
/-! ### len(set(t)), t a tuple of ints -/
section
variable {X : Cx} {F : Fm} {e : Expr} {f : DEnv → Option (PyData × DEnv)}
end
end DL
end L2


set_option Elab.async false
set_option maxRecDepth 100000
set_option maxHeartbeats 4000000
set_option autoImplicit false
namespace L2
namespace DL
open PySem PySem.Spec PyProof.Rows
section
variable {X : Cx} {pins : List (Addr × Obj)} {σ : St} {H : Hp} {s : Shared}
end
section
variable {X : Cx} {t : Expr} {n : Str} {cl : List Value} {i : Nat} {body suite : List Stmt} {b₀ : Stmt} {pos pos' : Pos} {tb : WX → TS} {ts : Addr → Value → Option Addr → TS} {Wout : WX}
end
end DL
end L2


set_option Elab.async false
set_option maxRecDepth 100000
set_option maxHeartbeats 4000000
set_option autoImplicit false
namespace L2
namespace DL
open PySem PySem.Spec PyProof.Rows
variable [Lab]
/-- the classes whose exceptions a clause may keep, each with its attribute -/
structure ExKp (K : PySem.W.Frag) (mt : Str → Option Bool) (at' : Str → Str) : Prop where
  k : ∀ c, mt c = some true → KEx K (LabW.C c)
  n : ∀ c, mt c = some true → PySem.W.findIn K (.ref (LabW.C c)) (at' c) = some none
section
variable {X : Cx} {F : Fm} {e : Expr} {f : DEnv → Option (PyData × DEnv)} {p pn pos : Pos}
end
section
variable {X : Cx} {F : Fm} {e : Expr} {f : DEnv → Option (PyData × DEnv)} {p pn pos : Pos} {y : Str}
end
end DL
end L2


set_option Elab.async false
set_option maxRecDepth 100000
set_option maxHeartbeats 4000000
set_option autoImplicit false
namespace L2
namespace DL
open PySem PySem.Spec PyProof.Rows PySem.Calls
variable [Lab]
/-! ### a lambda handed to a def that catches what it raises -/
section
variable {X : Cx} {pins : List (Addr × Obj)} {σ : St} {H : Hp} {s : Shared}
end
abbrev RestOk (P : Program) (w : World) (K : PySem.W.Frag) (mg : Str → Option Value) (base : Heap) (N : List Str) (qual : Str) (st : Stmt) (f : Addr) (cv : Value) (k : Nat) (rest : List Stmt) (g : DEnv → Option DFlow) : Prop :=
  ∀ (cdv : Value) (A : Around) (outer : List Env) (s : Shared) (H : Hp) (E : XK) (F : Fm), cdv = cv → F.W = W0 → GdOk (A.deeper (envOfC qual (defScope st) s.heap.objs.size f cdv)) → Room k (A.deeper (envOfC qual (defScope st) s.heap.objs.size f cdv)) →
    PDSs (cxOf CX0 P w K mg base N qual (defScope st) f cdv A outer s H E).nox F rest g
section
variable {X : Cx} {F : Fm} {mt : Str → Option Bool} {at' : Str → Str} {cl : List Value} {x a y n : Str} {g c P : Addr} {k i j nS : Nat} {stg : Stmt} {fdg : FuncData} {Ng : List Str} {t : Expr} {rest : List Stmt} {gr : DEnv → Option DFlow} {fX : DEnv → Option DX}
  {params : Arguments} {body : Expr} {scope : Scope} {p lpos pos p1 p2 p3 p4 p5 p6 p7 p8 p9 p10 p11 : Pos} {j0 : Nat}
end
/-! ### checks of classes -/
section
omit [Lab]
end
theorem RestOk.mono {P : Program} {w : World} {K : PySem.W.Frag} {mg : Str → Option Value} {base : Heap} {N : List Str} {qual : Str} {st : Stmt} {f : Addr} {cv : Value} {k k' : Nat} {rest : List Stmt} {g : DEnv → Option DFlow} (h : RestOk P w K mg base N qual st f cv k rest g) (hk : k ≤ k') : RestOk P w K mg base N qual st f cv k' rest g :=
  fun cdv A outer s H E F hcv hW hgd hr => h cdv A outer s H E F hcv hW hgd (hr.mono hk)
/-! ### f(a=.., b=..), f may raise -/
section
variable {X : Cx} {F : Fm} {W : WX} {C : Str → Addr} {k n : Nat} {f : Addr} {fd : FuncData} {ps ks : List Str} {sp : Sp} {x : Str} {p pos : Pos} {tk' : TA} {kws : List Keyword} {fk : DEnv → Option (List PyData × DEnv)} {gU : List Value → List Value} {gW : List V → List V}
end
end DL
end L2


set_option Elab.async false
set_option maxRecDepth 100000
set_option maxHeartbeats 4000000
set_option autoImplicit false
namespace L2
namespace DL
open PySem PySem.Spec PyProof.Rows
variable [Lab]
section
variable {X : Cx} {F : Fm} {a e : Expr} {fa f : DEnv → Option (PyData × DEnv)} {p pos : Pos}
end
end DL
end L2


set_option Elab.async false
set_option maxRecDepth 100000
set_option maxHeartbeats 4000000
set_option autoImplicit false
namespace PySem
namespace HandSPX
open PySem.W PySem.Calls PyProof.Rows
section
variable {M : Model} {prog : Program} {w : World} {A : Around} {E : Value → Shared → Prop} {R : Result → Shared → Prop} {h : Heap} {g : Array GenState} {d : Drawn} {t : Nat} {os : OsState}
variable {nm q : Str} {C N : Addr} {bs bm bmB : List Value} {hdct : Bool} {sn : List Str} {sub : List Value} {ab : Bool} {col : Option Bool} {dd : Option Addr} {k0 k1 k2 k3 k5 : Option Value} {B newId initId : String}
end
end HandSPX
end PySem


/-! own exceptions over ArithmeticError, each with its one attribute -/
set_option maxRecDepth 4000
namespace PySem
namespace OEA
open PySem.W PySem.Calls PyProof.Rows PySem.HandSPX
abbrev leTail : List Value := [.type "ArithmeticError", .type "Exception", .type "BaseException", .type "object"]
def isRf : Value → Bool
  | .ref _ => true
  | _ => false
/-- own classes, then the mro of ArithmeticError -/
def leB : List Value → Bool
  | [] => false
  | a :: r => (isRf a && leB r) || (a :: r == leTail)
inductive LeM : List Value → Prop where
  | tail : LeM leTail
  | ref (c : Addr) {l : List Value} (h : LeM l) : LeM (.ref c :: l)
theorem LeM.contains (X : String) {l : List Value} (h : LeM l) : l.contains (.type X) = leTail.contains (.type X) := by
  induction h with
  | tail => rfl
  | ref c h ih => rw [List.contains_cons, ih]; rfl
theorem LeM.some {l : List Value} (h : LeM l) : l.isEmpty = false := by
  cases h <;> rfl
section
open Builtin Builtin.ObjectAttr
variable {prog : Program} {w : World} {A : Around} {E : Value → Shared → Prop} {R : Result → Shared → Prop} {hp : Heap} {g : Array GenState} {d : Drawn} {t : Nat} {os : OsState}
end
end OEA
end PySem
namespace L2
open PySem PySem.Spec PyProof.Rows PySem.OEA
/-- what is known of an own class over ArithmeticError -/
structure OexA (K : PySem.W.Frag) (C : Addr) : Prop where
  cls : ∃ nm q N bs bm sn sub ab col dd k0 k1 k2 k3 k5, K.lookup C = some (excClassObj nm q C N bs bm true sn sub ab col dd k0 k1 k2 k3 k5 "ArithmeticError.__new__") ∧ leB bm = true
  sa : PySem.W.findIn K (.ref C) "__setattr__" = some (some (.builtin "object.__setattr__"))
  exC : PySem.W.subIn K (.ref C) (.type "BaseException") = some true
  tyC : PySem.W.typeIn K (.ref C) = some (.type "type")
  kC : PySem.W.keepIn K (.ref C) = true
section
variable {X : Cx} {pins : List (Addr × Obj)} {σ : St} {H : Hp} {s : Shared} {a C dx : Addr} {f : Str} {y : V} {u : Value} {Q : Unit → Shared → Prop} {E : Value → Shared → Prop} {A : Around}
end
namespace DL
variable [Lab]
end DL
end L2


set_option Elab.async false
set_option maxRecDepth 100000
set_option maxHeartbeats 4000000
set_option autoImplicit false
namespace L2
open PySem PySem.Spec PyProof.Rows
section
variable {X : Cx} {pins : List (Addr × Obj)} {σ : St} {H : Hp}
end
namespace DL
variable [Lab]
end DL
end L2


set_option Elab.async false
set_option maxRecDepth 100000
set_option maxHeartbeats 4000000
set_option autoImplicit false
namespace L2
namespace DL
open PySem PySem.Spec PyProof.Rows
variable [Lab]
structure CalV (P : Program) (w : World) (K : PySem.W.Frag) (mg : Str → Option Value) (base : Heap) (C : Str → Addr) (k nA : Nat) (ps ks : List Str) (gU : List Value → List Value) (n : Str) (m : List PyData → Option XR) : Prop where
  g : ∃ fd, FnX P w K mg base k (LabW.C n) fd ps (spX K C nA m) ∧ Binds K fd ps [] ∧ ∀ (s : Shared) (ws : List Value), (gU ws).length = ps.length → BindsTo s fd ⟨[], ks.zip ws⟩ (ps.zip (gU ws))
  kp : PySem.W.keepIn K (.ref (LabW.C n)) = true
  ln : ∀ ds r, m ds = some r → ds.length = nA
section
variable {X : Cx} {F : Fm} {W : WX} {C : Str → Addr} {k nA i : Nat} {ps ks : List Str} {x : Str} {p pos : Pos} {e : Expr} {es : List Expr} {t : TA} {kws : List Keyword} {fa fk : DEnv → Option (List PyData × DEnv)} {gU : List Value → List Value} {gW : List V → List V} {ms : List (Str × (List PyData → Option XR))}
end
end DL
end L2


set_option Elab.async false
set_option maxRecDepth 100000
set_option maxHeartbeats 4000000
set_option autoImplicit false
namespace L2
namespace DL
open PySem PySem.Spec PyProof.Rows
variable [Lab]
structure RoomW (k : Nat) (A : Around) : Prop where
  dp : A.depth + 3 * k + 5 < recursionLimit
  un : A.units + 16 * k + 200 < cLine
section
omit [Lab]
theorem RoomW.mono {j k : Nat} {A : Around} (r : RoomW k A) (h : j ≤ k) : RoomW j A := ⟨by have := r.dp; omega, by have := r.un; omega⟩
theorem RoomW.deeper {k : Nat} {A : Around} (r : RoomW (k + 1) A) (env : Env) : RoomW k (A.deeper env) :=
  ⟨by have := r.dp; show A.depth + 1 + 3 * k + 5 < _; omega, by have := r.un; show A.units + 3 + 16 * k + 200 < _; omega⟩
theorem RoomW.depth {k : Nat} {A : Around} (r : RoomW k A) : A.depth < recursionLimit := by have := r.dp; omega
end
omit [Lab] in
theorem RoomW.units {k : Nat} {A : Around} (r : RoomW k A) : A.units + 64 < cLine := by have := r.un; omega
section
variable {X : Cx} {F : Fm}
end
section
variable {X : Cx} {F : Fm} {e : Expr} {f : DEnv → Option (PyData × DEnv)} {p pn pos : Pos} {y : Str}
end
structure FnW (P : Program) (w : World) (K : PySem.W.Frag) (mg : Str → Option Value) (base : Heap) (k : Nat) (f : Addr) (fd : FuncData) (ps : List Str) (sp : Sp) : Prop where
  len : ∀ vs H Q E, sp vs H Q E → vs.length = ps.length
  run : ∀ (A : Around) (outer : List Env) (s : Shared) (H : Hp) (args : Args) (us : List Value) (vs : List V) (Q : VK) (E : XK), RoomW k A → Env0 P w K mg base A outer s H → BindsTo s fd args (ps.zip us) → Vals vs us → sp vs H Q E →
    codeAny (model P w) A (.call (.ref f) args) (CR CX0 outer P w H s Q E) s
omit [Lab] in
theorem FnW.mono {P : Program} {w : World} {K : PySem.W.Frag} {mg : Str → Option Value} {base : Heap} {j k : Nat} {f : Addr} {fd : FuncData} {ps : List Str} {sp : Sp} (G : FnW P w K mg base j f fd ps sp) (h : j ≤ k) : FnW P w K mg base k f fd ps sp :=
  ⟨G.len, fun A outer s H args us vs Q E hr => G.run A outer s H args us vs Q E (hr.mono h)⟩
section
variable {P : Program} {w : World} {K : PySem.W.Frag} {mg : Str → Option Value} {base : Heap}
end
section
variable {P : Program} {w : World} {K : PySem.W.Frag} {mg : Str → Option Value} {base : Heap} {x qual : Str} {st : Stmt} {f : Addr} {fd : FuncData} {N ps : List Str} {k : Nat} {g : DEnv → Option DFlow}
end
section
variable {X : Cx} {F : Fm} {k n : Nat} {f : Addr} {fd : FuncData} {ps ks : List Str} {sp : Sp} {x : Str} {p pos : Pos} {e : Expr} {es : List Expr} {t tk : TA} {fa : DEnv → Option (List PyData × DEnv)}
end
end DL
end L2


set_option Elab.async false
set_option maxRecDepth 100000
set_option maxHeartbeats 4000000
set_option autoImplicit false
namespace L2
namespace DL
open PySem PySem.Spec PyProof.Rows PySem.Calls
variable [Lab]
abbrev SuiteOk (P : Program) (w : World) (K : PySem.W.Frag) (mg : Str → Option Value) (base : Heap) (N : List Str) (qual : Str) (st : Stmt) (f : Addr) (cv : Value) (k : Nat) (suite : List Stmt) (g : DEnv → Option DFlow) : Prop :=
  ∀ (cdv : Value) (A : Around) (outer : List Env) (s : Shared) (H : Hp) (E : XK) (F : Fm) (a : Addr) (pn : List (Addr × Obj)), cdv = cv → F.W = W0 → GdOk (A.deeper (envOfC qual (defScope st) s.heap.objs.size f cdv)) → Room k (A.deeper (envOfC qual (defScope st) s.heap.objs.size f cdv)) →
    PDSs ((cxOf CX0 P w K mg base N qual (defScope st) f cdv A outer s H E).nox.suite a pn) F suite g
theorem SuiteOk.mono {P : Program} {w : World} {K : PySem.W.Frag} {mg : Str → Option Value} {base : Heap} {N : List Str} {qual : Str} {st : Stmt} {f : Addr} {cv : Value} {k k' : Nat} {suite : List Stmt} {g : DEnv → Option DFlow} (h : SuiteOk P w K mg base N qual st f cv k suite g) (hk : k ≤ k') : SuiteOk P w K mg base N qual st f cv k' suite g :=
  fun cdv A outer s H E F a pn hcv hW hgd hr => h cdv A outer s H E F a pn hcv hW hgd (hr.mono hk)
section
variable {X : Cx} {F : Fm} {mt : Str → Option Bool} {at' : Str → Str} {cl : List Value} {x a y n : Str} {g c P : Addr} {k i j nS : Nat} {stg b₀ : Stmt} {fdg : FuncData} {Ng : List Str} {t : Expr} {rest suite : List Stmt} {gr gh : DEnv → Option DFlow} {fX : DEnv → Option DX}
  {params : Arguments} {body : Expr} {scope : Scope} {p lpos pos p1 p2 p3 p4 p5 p6 p7 p8 p9 p10 p11 : Pos}
end
end DL
end L2


set_option Elab.async false
set_option maxRecDepth 100000
set_option maxHeartbeats 4000000
set_option autoImplicit false
namespace L2
namespace DL
open PySem PySem.Spec PyProof.Rows
variable [Lab]
/-! ### texts of a list -/
def strsOf : List PyData → Option (List Str)
  | [] => some []
  | .str a :: ds => (strsOf ds).map (a :: ·)
  | _ => none
omit [Lab] in
theorem strsOf_map : ∀ ys : List Str, strsOf (ys.map PyData.str) = some ys
  | [] => rfl
  | y :: ys => by
    show (strsOf (ys.map PyData.str)).map (y :: ·) = _
    rw [strsOf_map ys]; rfl
theorem dds_strs {K : PySem.W.Frag} {Z : Hp} : ∀ {vs : List V} {ds : List PyData} {ys : List Str}, DDs K Z vs ds → strsOf ds = some ys → vs = ys.map V.str
  | _, [], ys, h, e => by
    cases h
    cases e
    rfl
  | _, d :: ds, ys, h, e => by
    cases h with
    | cons h1 h2 =>
      match d, h1, e with
      | .str a, h1, e =>
        obtain ⟨zs, e1, e2⟩ := mpd e
        cases e2
        cases h1.str_inv
        rw [dds_strs h2 e1]
        rfl
theorem dds_ofstrs {K : PySem.W.Frag} {Z : Hp} : ∀ ys : List Str, DDs K Z (ys.map V.str) (ys.map PyData.str)
  | [] => .nil
  | y :: ys => .cons (.str y) (dds_ofstrs ys)
/-! ### a text's methods -/
def fTM0 (g : Str → Option PyData) (f : DEnv → Option (PyData × DEnv)) (env : DEnv) : Option (PyData × DEnv) := (f env).bind fun x => match x.1 with
  | .str a => (g a).map fun d => (d, x.2)
  | _ => none
def fTM1 (g : Str → PyData → Option PyData) (f fe : DEnv → Option (PyData × DEnv)) (env : DEnv) : Option (PyData × DEnv) := (f env).bind fun x => match x.1 with
  | .str a => (fe x.2).bind fun y => (g a y.1).map fun d => (d, y.2)
  | _ => none
section
variable {X : Cx} {F : Fm} {o e : Expr} {f fe : DEnv → Option (PyData × DEnv)} {apos pos p : Pos} {name : Str} {id : String} {r : V → List V → Hp → VK → Prop}
theorem pd_tm0 {g : Str → Option PyData} (slot : Slot "str" name id) (ty : typeOf (.builtin id) = pure (.type "method_descriptor")) (rule : MtR X id r)
    (hr : ∀ (a : Str) (d : PyData) (Z H : Hp) (Q : VK), g a = some d → Same Z H → (∀ v Z' H', Grow Z H Z' H' → DD X.K Z' v d → Q v H') → r (.str a) [] H Q)
    (ha : PD X F o f) (hbase : attributeBase o name X.env (eval o X.env) = eval o X.env := by rfl) (hline : (apos.endLine == pos.line) = true := by rfl) :
    PD X F (.Call (.Attribute o name apos) [] [] pos) (fTM0 g f) := pe_imp (pe_m0 slot ty rule ha hbase hline) fun σ H Q h => by
  obtain ⟨Z, env, d, env', rl, e, q⟩ := h
  obtain ⟨⟨x, e1⟩, h1, e⟩ := bnd e
  match x, h1, e with
  | .str a, h1, e =>
    obtain ⟨z, h2, e⟩ := mpd e
    cases e
    refine ⟨Z, env, .str a, _, rl, h1, fun v Z1 H1 r1 s1 d1 => ?_⟩
    cases d1.str_inv
    exact ⟨⟨a, rfl⟩, hr a d Z1 H1 Q h2 r1.zh fun v Z' H' gr dd => q v Z' H' (r1.grow gr) (s1.trans gr.stp) dd⟩
theorem pd_tm1 {g : Str → PyData → Option PyData} (slot : Slot "str" name id) (ty : typeOf (.builtin id) = pure (.type "method_descriptor")) (rule : MtR X id r)
    (hr : ∀ (a : Str) (b d : PyData) (y : V) (Z H : Hp) (Q : VK), g a b = some d → Same Z H → DD X.K Z y b → (∀ v Z' H', Grow Z H Z' H' → DD X.K Z' v d → Q v H') → r (.str a) [y] H Q)
    (ha : PD X F o f) (he : PD X F e fe) (hs : starEach [e] X.env = [(false, eval e X.env)] := by rfl) (hbase : attributeBase o name X.env (eval o X.env) = eval o X.env := by rfl) (hline : (apos.endLine == pos.line) = true := by rfl) :
    PD X F (.Call (.Attribute o name apos) [e] [] pos) (fTM1 g f fe) := pe_imp (pe_m1 slot ty rule ha he hs hbase hline) fun σ H Q h => by
  obtain ⟨Z, env, d, env', rl, e, q⟩ := h
  obtain ⟨⟨x, e1⟩, h1, e⟩ := bnd e
  match x, h1, e with
  | .str a, h1, e =>
    obtain ⟨⟨y, e2⟩, h2, e⟩ := bnd e
    obtain ⟨z, h3, e⟩ := mpd e
    cases e
    refine ⟨Z, env, .str a, _, rl, h1, fun v Z1 H1 r1 s1 d1 => ?_⟩
    cases d1.str_inv
    refine ⟨⟨a, rfl⟩, Z1, e1, y, _, r1, h2, fun w Z2 H2 r2 s2 d2 => ?_⟩
    exact hr a y d w Z2 H2 Q h3 r2.zh d2 fun v Z' H' gr dd => q v Z' H' (r2.grow gr) ((s1.trans s2).trans gr.stp) dd
def digG (a : Str) : Option PyData := some (.bool (Txt.isdigit a))
def ascG (a : Str) : Option PyData := some (.bool (Txt.isascii a))
def joinG (a : Str) : PyData → Option PyData
  | .list ds => (strsOf ds).bind fun ys => if (ys.map (·.length)).sum + ys.length * a.length ≤ lim then some (.str (Txt.join a ys)) else none
  | .tuple ds => (strsOf ds).bind fun ys => if (ys.map (·.length)).sum + ys.length * a.length ≤ lim then some (.str (Txt.join a ys)) else none
  | _ => none
def splitG (a : Str) : PyData → Option PyData
  | .str b => if b.length ≠ 0 ∧ a.length ≤ lim then some (.list ((Txt.split a b).map .str)) else none
  | _ => none
def partG (a : Str) : PyData → Option PyData
  | .str b => if b.length ≠ 0 ∧ a.length ≤ lim then some (.tuple [.str (Txt.partition a b).1, .str (Txt.partition a b).2.1, .str (Txt.partition a b).2.2]) else none
  | _ => none
def startG (a : Str) : PyData → Option PyData
  | .str b => some (.bool (Txt.startswith a b))
  | _ => none
theorem pd_isdigit (ha : PD X F o f) (hbase : attributeBase o "isdigit" X.env (eval o X.env) = eval o X.env := by rfl) (hline : (apos.endLine == pos.line) = true := by rfl) : PD X F (.Call (.Attribute o "isdigit" apos) [] [] pos) (fTM0 digG f) :=
  pd_tm0 PySem.F.slot_str_isdigit PySem.F.type_str_isdigit mt_isdigit (fun a d Z H Q h sz q => by cases h; exact ⟨a, rfl, rfl, trivial, q _ Z H (Grow.refl sz) (.bl _)⟩) ha hbase hline
theorem pd_isascii (ha : PD X F o f) (hbase : attributeBase o "isascii" X.env (eval o X.env) = eval o X.env := by rfl) (hline : (apos.endLine == pos.line) = true := by rfl) : PD X F (.Call (.Attribute o "isascii" apos) [] [] pos) (fTM0 ascG f) :=
  pd_tm0 PySem.F.slot_str_isascii PySem.F.type_str_isascii mt_isascii (fun a d Z H Q h sz q => by cases h; exact ⟨a, rfl, rfl, trivial, q _ Z H (Grow.refl sz) (.bl _)⟩) ha hbase hline
theorem pd_join (ha : PD X F o f) (he : PD X F e fe) (hs : starEach [e] X.env = [(false, eval e X.env)] := by rfl) (hbase : attributeBase o "join" X.env (eval o X.env) = eval o X.env := by rfl) (hline : (apos.endLine == pos.line) = true := by rfl) :
    PD X F (.Call (.Attribute o "join" apos) [e] [] pos) (fTM1 joinG f fe) :=
  pd_tm1 PySem.F.slot_str_join PySem.F.type_str_join mt_join (fun a b d y Z H Q h sz dy q => by
    match b, dy, h with
    | .list ds, dy, h =>
      obtain ⟨ys, h1, h⟩ := bnd h
      split at h
      case isFalse => cases h
      rename_i hz
      cases h
      cases dy with
      | @lst p xs _ hr ha =>
        cases dds_strs ha h1
        exact ⟨a, p, ys, rfl, rfl, .inl (same_ls sz hr).sq, Nat.le_trans hz (by decide), q _ Z H (Grow.refl sz) (.str _)⟩
    | .tuple ds, dy, h =>
      obtain ⟨ys, h1, h⟩ := bnd h
      split at h
      case isFalse => cases h
      rename_i hz
      cases h
      cases dy with
      | @tup p xs _ hr ha =>
        cases dds_strs ha h1
        exact ⟨a, p, ys, rfl, rfl, .inr (same_sqT sz hr), Nat.le_trans hz (by decide), q _ Z H (Grow.refl sz) (.str _)⟩) ha he hs hbase hline
theorem pd_split (ha : PD X F o f) (he : PD X F e fe) (hs : starEach [e] X.env = [(false, eval e X.env)] := by rfl) (hbase : attributeBase o "split" X.env (eval o X.env) = eval o X.env := by rfl) (hline : (apos.endLine == pos.line) = true := by rfl) :
    PD X F (.Call (.Attribute o "split" apos) [e] [] pos) (fTM1 splitG f fe) :=
  pd_tm1 PySem.F.slot_str_split PySem.F.type_str_split mt_split (fun a b d y Z H Q h sz dy q => by
    match b, dy, h with
    | .str b, dy, h =>
      change (if b.length ≠ 0 ∧ a.length ≤ lim then some (PyData.list ((Txt.split a b).map .str)) else none) = some d at h
      split at h
      case isFalse => cases h
      rename_i hz
      cases h
      cases dy.str_inv
      have hl : lim + 2 ≤ sizeLine := by rw [sizeLine_eq]; decide
      exact ⟨a, b, rfl, rfl, by simpa using hz.1, by have := hz.2; omega, fun p hp => q _ _ _ (grow_new sz hp _) (new_lst sz hp (dds_ofstrs _))⟩) ha he hs hbase hline
theorem pd_partition (ha : PD X F o f) (he : PD X F e fe) (hs : starEach [e] X.env = [(false, eval e X.env)] := by rfl) (hbase : attributeBase o "partition" X.env (eval o X.env) = eval o X.env := by rfl) (hline : (apos.endLine == pos.line) = true := by rfl) :
    PD X F (.Call (.Attribute o "partition" apos) [e] [] pos) (fTM1 partG f fe) :=
  pd_tm1 PySem.F.slot_str_partition PySem.F.type_str_partition mt_partition (fun a b d y Z H Q h sz dy q => by
    match b, dy, h with
    | .str b, dy, h =>
      change (if b.length ≠ 0 ∧ a.length ≤ lim then some (PyData.tuple [.str (Txt.partition a b).1, .str (Txt.partition a b).2.1, .str (Txt.partition a b).2.2]) else none) = some d at h
      split at h
      case isFalse => cases h
      rename_i hz
      cases h
      cases dy.str_inv
      have hl : lim + 2 ≤ sizeLine := by rw [sizeLine_eq]; decide
      exact ⟨a, b, rfl, rfl, by simpa using hz.1, by have := hz.2; omega, fun p hp => q _ _ _ (grow_new sz hp _) (new_tup sz hp (.cons (.str _) (.cons (.str _) (.cons (.str _) .nil))))⟩) ha he hs hbase hline
theorem pd_startswith (ha : PD X F o f) (he : PD X F e fe) (hs : starEach [e] X.env = [(false, eval e X.env)] := by rfl) (hbase : attributeBase o "startswith" X.env (eval o X.env) = eval o X.env := by rfl) (hline : (apos.endLine == pos.line) = true := by rfl) :
    PD X F (.Call (.Attribute o "startswith" apos) [e] [] pos) (fTM1 startG f fe) :=
  pd_tm1 PySem.F.slot_str_startswith PySem.F.type_str_startswith mt_startswith (fun a b d y Z H Q h sz dy q => by
    match b, dy, h with
    | .str b, dy, h =>
      cases h
      cases dy.str_inv
      exact ⟨a, b, rfl, rfl, q _ Z H (Grow.refl sz) (.bl _)⟩) ha he hs hbase hline
/-! ### str(e), int(text) -/
def strC : List PyData → Option PyData
  | [.str a] => some (.str a)
  | [.int i] => if i.natAbs.log2 < 1920 then some (.str (toString i)) else none
  | _ => none
theorem cd_str : CallD X (.type "str") strC := by
  intro pins s σ H xs us Q I r h
  obtain ⟨Z, ds, d, sz, hd, e, q⟩ := h
  match ds, hd, e with
  | [.str a], hd, e =>
    cases e
    obtain ⟨v, rfl, h1⟩ := dds1 hd
    cases h1.str_inv
    exact SkE.call_str_str pins s σ H _ us Q I r ⟨a, rfl, q _ Z H (Grow.refl sz) (.str _)⟩
  | [.int i], hd, e =>
    obtain ⟨v, rfl, h1⟩ := dds1 hd
    cases h1.int_inv
    change (if i.natAbs.log2 < 1920 then some (PyData.str (toString i)) else none) = some d at e
    split at e
    case isFalse => cases e
    rename_i hz
    cases e
    exact call_str_int pins s σ H _ us Q I r ⟨i, rfl, hz, q _ Z H (Grow.refl sz) (.str _)⟩
def intC : List PyData → Option PyData
  | [.str a] => if a.length ≤ 640 then (PySem.intText? a).map .int else none
  | _ => none
theorem cd_intS : CallD X (.type "int") intC := by
  intro pins s σ H xs us Q I r h
  obtain ⟨Z, ds, d, sz, hd, e, q⟩ := h
  match ds, hd, e with
  | [.str a], hd, e =>
    obtain ⟨v, rfl, h1⟩ := dds1 hd
    cases h1.str_inv
    change (if a.length ≤ 640 then (PySem.intText? a).map PyData.int else none) = some d at e
    split at e
    case isFalse => cases e
    rename_i hz
    obtain ⟨n, e1, e2⟩ := mpd e
    cases e2
    exact call_int_str pins s σ H _ us Q I r ⟨a, n, rfl, e1, hz, q _ Z H (Grow.refl sz) (.int _)⟩
/-! ### text[i], text[i:j] -/
def ixT : PyData → PyData → Option PyData
  | .str z, .int i => if z.length ≤ lim then (atI z.cps.toList i).map fun c => .str ⟨#[c]⟩ else none
  | _, _ => none
theorem id_ixT : IxR X (r2D X.K ixT) := by
  intro value slice pins s σ H x y v u Q I rx ry h hs
  obtain ⟨Z, a, b, d, sz, ha, hb, e, q⟩ := h
  match a, b, ha, hb, e with
  | .str z, .int i, ha, hb, e =>
    cases ha.str_inv
    cases hb.int_inv
    change (if z.length ≤ lim then (atI z.cps.toList i).map fun c => PyData.str ⟨#[c]⟩ else none) = some d at e
    split at e
    case isFalse => cases e
    rename_i hz
    obtain ⟨c, e1, e2⟩ := mpd e
    cases e2
    exact ix_str value slice pins s σ H _ _ v u Q I rx ry ⟨z, i, c, rfl, rfl, Nat.le_trans hz lim_le, e1, q _ Z H (Grow.refl sz) (.str _)⟩ hs
theorem pd_ixT {a b : Expr} {g : DEnv → Option (PyData × DEnv)} (ha : PD X F a f) (hb : PD X F b g) (hs : PlainIx b := by exact fun _ _ => rfl) : PD X F (.Subscript a b pos) (fBin ixT f g) := pe_imp (pe_ix id_ixT ha hb hs) fun _ _ _ h => bin_read h
def slT (d : PyData) (lo hi : Option Int) : Option PyData := match d with
  | .str z => if z.length ≤ lim then some (.str (cutS z lo hi)) else none
  | _ => none
def rSlT2 (K : PySem.W.Frag) : V → Option Int → Option Int → Hp → VK → Prop := fun x lo hi H Q => ∃ Z a d, Same Z H ∧ DD K Z x a ∧ slT a lo hi = some d ∧ ∀ v Z' H', Grow Z H Z' H' → DD K Z' v d → Q v H'
theorem sl_text : SlR X (rSlT2 X.K) := by
  intro pins s σ H x v vl vu lo hi sl Q I rx hs pl pu h
  obtain ⟨Z, a, d, sz, ha, e, q⟩ := h
  match a, ha, e with
  | .str z, ha, e =>
    cases ha.str_inv
    unfold slT at e
    dsimp only at e
    split at e
    case isFalse => cases e
    rename_i hz
    cases e
    exact sl_str pins s σ H _ v vl vu lo hi sl Q I rx hs pl pu ⟨z, rfl, Nat.le_trans hz lim_le, q _ Z H (Grow.refl sz) (.str _)⟩
def fSlT (f : DEnv → Option (PyData × DEnv)) (fl fh : DEnv → Option (Option Int × DEnv)) (env : DEnv) : Option (PyData × DEnv) := (f env).bind fun x => (fl x.2).bind fun l => (fh l.2).bind fun h => (slT x.1 l.1 h.1).map fun d => (d, h.2)
theorem pd_sliceT {lo hi : Option Expr} {fl fh : DEnv → Option (Option Int × DEnv)} {p2 : Pos} (ha : PD X F e f) (hl : PDO X F lo fl) (hh : PDO X F hi fh) : PD X F (.Subscript e (.Slice lo hi none p2) pos) (fSlT f fl fh) := pe_imp (pe_slice sl_text ha hl hh) fun σ H Q h => by
  obtain ⟨Z, env, d, env', r, e, q⟩ := h
  obtain ⟨⟨a, e1⟩, h1, e⟩ := bnd e
  obtain ⟨⟨l, e2⟩, h2, e⟩ := bnd e
  obtain ⟨⟨u, e3⟩, h3, e⟩ := bnd e
  obtain ⟨z, h4, e⟩ := mpd e
  cases e
  refine ⟨Z, env, a, e1, r, h1, fun v Z1 H1 r1 s1 d1 => ⟨Z1, e1, l, e2, r1, h2, fun Z2 H2 r2 s2 => ⟨Z2, e2, u, e3, r2, h3, fun Z3 H3 r3 s3 => ⟨Z3, a, d, r3.zh, DDm (DDm d1 s2.z) s3.z, h4, fun w Z' H' gr dd => ?_⟩⟩⟩⟩
  exact q w Z' H' (r3.grow gr) (((s1.trans s2).trans s3).trans gr.stp) dd
end
/-! ### f-strings -/
def fmtD : PyData → Option Str
  | .str y => if y.length ≤ lim then some y else none
  | .int i => if i.natAbs.log2 < 1920 then some (toString i) else none
  | _ => none
def fFmt (f : DEnv → Option (PyData × DEnv)) (env : DEnv) : Option (PyData × DEnv) := (f env).bind fun x => (fmtD x.1).map fun y => (.str y, x.2)
def fJNil (env : DEnv) : Option (List Str × DEnv) := some ([], env)
def fJCons (f : DEnv → Option (PyData × DEnv)) (g : DEnv → Option (List Str × DEnv)) (env : DEnv) : Option (List Str × DEnv) := (f env).bind fun x => match x.1 with
  | .str y => (g x.2).map fun r => (y :: r.1, r.2)
  | _ => none
def fJoined (g : DEnv → Option (List Str × DEnv)) (env : DEnv) : Option (PyData × DEnv) := (g env).bind fun r => if (r.1.map (·.length)).sum ≤ lim then some (.str (r.1.foldl (· ++ ·) Str.empty), r.2) else none
section
variable {X : Cx} {F : Fm} {e : Expr} {f : DEnv → Option (PyData × DEnv)} {pos : Pos}
theorem pd_fmt (ha : PD X F e f) : PD X F (.FormattedValue e (-1) none pos) (fFmt f) := pe_imp (pe_fmt ha) fun σ H Q h => by
  obtain ⟨Z, env, d, env', rl, e, q⟩ := h
  obtain ⟨⟨x, e1⟩, h1, e⟩ := bnd e
  obtain ⟨y, h2, e⟩ := mpd e
  cases e
  refine ⟨Z, env, x, _, rl, h1, fun v Z1 H1 r1 s1 d1 => ?_⟩
  match x, d1, h2 with
  | .str a, d1, h2 =>
    change (if a.length ≤ lim then some a else none) = some y at h2
    split at h2
    case isFalse => cases h2
    rename_i hz
    cases h2
    cases d1.str_inv
    exact .inl ⟨_, rfl, Nat.le_trans hz lim_le, q _ Z1 H1 r1 s1 (.str _)⟩
  | .int i, d1, h2 =>
    change (if i.natAbs.log2 < 1920 then some (toString i : Str) else none) = some y at h2
    split at h2
    case isFalse => cases h2
    rename_i hz
    cases h2
    cases d1.int_inv
    exact .inr ⟨i, rfl, hz, q _ Z1 H1 r1 s1 (.str _)⟩
inductive PDJ (X : Cx) (F : Fm) : List Expr → (DEnv → Option (List Str × DEnv)) → Prop where
  | nil : PDJ X F [] fJNil
  | cons {e : Expr} {f : DEnv → Option (PyData × DEnv)} {es : List Expr} {g : DEnv → Option (List Str × DEnv)} (h : PD X F e f) (r : PDJ X F es g) : PDJ X F (e :: es) (fJCons f g)
theorem pdj_parts {es : List Expr} {g : DEnv → Option (List Str × DEnv)} (h : PDJ X F es g) : ∃ ts : List TE, PJ X es ts ∧ ∀ (acc : Str) (Z : Hp) (σ : St) (H : Hp) (env env' : DEnv) (ys : List Str) (Q : Str → Hp → Prop), Rel X.K F Z H σ env → g env = some (ys, env') → acc.length + (ys.map (·.length)).sum ≤ lim →
    (∀ Z' H', Rel X.K F Z' H' σ env' → Stp σ env Z H env' Z' H' → Q (ys.foldl (· ++ ·) acc) H') → tJs ts acc σ H Q := by
  induction h with
  | nil => exact ⟨[], .nil, fun acc Z σ H env env' ys Q r e _ q => by cases e; exact q Z H r Stp.refl⟩
  | @cons e f es g he hr ih =>
    obtain ⟨ts, hp, hw⟩ := ih
    refine ⟨_ :: ts, .cons he hp, fun acc Z σ H env env' ys Q r e hz q => ?_⟩
    obtain ⟨⟨x, e1⟩, h1, e⟩ := bnd e
    match x, h1, e with
    | .str y, h1, e =>
      obtain ⟨⟨zs, e2⟩, h2, e⟩ := mpd e
      cases e
      change acc.length + (y.length + (zs.map (·.length)).sum) ≤ lim at hz
      have hl : (acc ++ y).length = acc.length + y.length := by rw [TL.len_tl, TL.tl_append, List.length_append, ← TL.len_tl, ← TL.len_tl]
      refine ⟨Z, env, .str y, e1, r, h1, fun v Z1 H1 r1 s1 d1 => ?_⟩
      cases d1.str_inv
      refine ⟨y, rfl, by rw [hl]; exact Nat.le_trans (by omega) lim_le, hw (acc ++ y) Z1 σ H1 e1 _ zs Q r1 h2 (by rw [hl]; omega) fun Z2 H2 r2 s2 => q Z2 H2 r2 (s1.trans s2)⟩
theorem pd_joined {v1 v2 : Expr} {rest : List Expr} {g : DEnv → Option (List Str × DEnv)} (h : PDJ X F (v1 :: v2 :: rest) g) : PD X F (.JoinedStr (v1 :: v2 :: rest) pos) (fJoined g) := by
  obtain ⟨ts, hp, hw⟩ := pdj_parts h
  refine pe_imp (pe_joined hp) fun σ H Q h => ?_
  obtain ⟨Z, env, d, env', rl, e, q⟩ := h
  obtain ⟨⟨ys, e1⟩, h1, e⟩ := bnd e
  dsimp only at e
  split at e
  case isFalse => cases e
  rename_i hz
  cases e
  exact hw Str.empty Z σ H env _ ys _ rl h1 (by show 0 + _ ≤ _; omega) fun Z' H' r1 s1 => q _ Z' H' r1 s1 (.str _)
end
end DL
end L2


set_option Elab.async false
set_option maxRecDepth 100000
set_option maxHeartbeats 4000000
set_option autoImplicit false
namespace L2
namespace DL
open PySem PySem.Spec PyProof.Rows
variable [Lab]
/-! ### lists in a list that only the def holds (its slot is kept out of the data) -/
inductive NIs (K : PySem.W.Frag) (Z H : Hp) : List Addr → List (List PyData) → Prop where
  | nil : NIs K Z H [] []
  | cons {q : Addr} {qs : List Addr} {xs : List V} {ds : List PyData} {dss : List (List PyData)} (h : H q = some (.lst xs)) (d : DDs K Z xs ds) (r : NIs K Z H qs dss) : NIs K Z H (q :: qs) (ds :: dss)
theorem NIs.move {K : PySem.W.Frag} {Z H Z' H' : Hp} {qs : List Addr} {dss : List (List PyData)} (h : NIs K Z H qs dss) (sz : Same Z Z') : (∀ q ∈ qs, ∀ xs, H q = some (.lst xs) → H' q = some (.lst xs)) → NIs K Z' H' qs dss := by
  induction h with
  | nil => exact fun _ => .nil
  | cons h d _ ih => exact fun hk => .cons (hk _ List.mem_cons_self _ h) (DDsm d sz) (ih fun q hq => hk q (List.mem_cons_of_mem _ hq))
theorem NIs.len {K : PySem.W.Frag} {Z H : Hp} {qs : List Addr} {dss : List (List PyData)} (h : NIs K Z H qs dss) : qs.length = dss.length := by
  induction h with
  | nil => rfl
  | cons _ _ _ ih => rw [List.length_cons, List.length_cons, ih]
theorem NIs.has {K : PySem.W.Frag} {Z H : Hp} {qs : List Addr} {dss : List (List PyData)} (h : NIs K Z H qs dss) : ∀ q ∈ qs, H q ≠ none := by
  induction h with
  | nil => intro q hq; cases hq
  | cons h _ _ ih =>
    intro q hq
    rcases List.mem_cons.mp hq with rfl | hq
    · rw [h]; simp
    · exact ih q hq
/-- p's list holds the lists at qs, the last one first -/
structure NI (K : PySem.W.Frag) (F : Fm) (Z H : Hp) (p : Addr) (qs : List Addr) (dss : List (List PyData)) : Prop where
  hp : H p = some (.lst (qs.reverse.map V.ref))
  nd : (p :: qs).Nodup
  fr : ∀ q ∈ p :: qs, Z q = none ∧ F.G q = none ∧ ¬ F.P q
  ns : NIs K Z H qs dss
def FrA (env : DEnv) : Prop := ∀ (i : Nat) (dv : DV), env[i]? = some (some dv) → ownish dv = false
section
variable {K : PySem.W.Frag} {F : Fm} {Z H Z' H' : Hp} {σ : St} {env env' : DEnv} {p q : Addr} {qs : List Addr} {dss : List (List PyData)} {ds : List PyData}
theorem NI.move (n : NI K F Z H p qs dss) (sz : Same Z Z') (hk : ∀ q o, H q = some o → NT o → H' q = some o) (hz : ∀ q, Z' q ≠ none → Z q = none → H q ≠ none → False) : NI K F Z' H' p qs dss := by
  refine ⟨hk _ _ n.hp nt_lst, n.nd, fun q hq => ⟨?_, (n.fr q hq).2⟩, n.ns.move sz fun q _ xs h => hk _ _ h nt_lst⟩
  by_cases h : Z' q = none
  · exact h
  · refine (hz q h (n.fr q hq).1 ?_).elim
    rcases List.mem_cons.mp hq with rfl | hq
    · rw [n.hp]; simp
    · exact n.ns.has q hq
theorem FrA.fre (fa : FrA env) (σ : St) (q : Addr) : Fre σ env q := fun i dv e o => by rw [fa i dv e] at o; cases o
theorem NI.stp (n : NI K F Z H p qs dss) (fa : FrA env) (s : Stp σ env Z H env' Z' H') : NI K F Z' H' p qs dss :=
  n.move s.z (fun q o e nt => s.h q o e nt (fa.fre σ q)) fun q h1 h2 h3 => s.n q h1 h2 h3 (fa.fre σ q)
theorem NI.grow (n : NI K F Z H p qs dss) (g : Grow Z H Z' H') : NI K F Z' H' p qs dss :=
  n.move g.z (fun q o e nt => g.h.h q o e nt) fun q h1 h2 h3 => (g.n q h1).elim (fun h => h h2) h3
theorem Rel.junk (r : Rel K F Z H σ env) {i : Nat} (h : env[i]? = some none) (v : V) : Rel K F Z H (σ.set i (some v)) env := by
  have ne : ∀ {j : Nat} {dv : DV}, env[j]? = some (some dv) → i ≠ j := fun e z => by subst z; rw [h] at e; cases e
  refine ⟨r.z0, r.zh, r.gh, r.nw, r.pp, by rw [List.length_set]; exact r.len, fun j dv e => ?_, fun j k dj dk p e1 e2 o1 o2 => ?_, r.tb⟩
  · have s := r.sl j dv e
    have hs : (σ.set i (some v))[j]? = σ[j]? := List.getElem?_set_ne (ne e)
    cases dv <;> (unfold SlotOk at s ⊢; rw [hs]; exact s)
  · rw [List.getElem?_set_ne (ne e1), List.getElem?_set_ne (ne e2)]
    exact r.inj j k dj dk p e1 e2 o1 o2
theorem Rel.mut (r : Rel K F Z H σ env) (fa : FrA env) (hz : Z q = none) (hg : F.G q = none) (hp : ¬ F.P q) {xs : List V} (hq : H q = some (.lst xs)) (ys : List V) : Rel K F Z (upd H q (.lst ys)) σ env := by
  have sm : ∀ {G : Hp}, Same G H → G q = none → Same G (upd H q (.lst ys)) := fun {G} s g => ⟨fun b x e n => by
    have hb : b ≠ q := fun z => by rw [z, g] at e; cases e
    rw [upd_ne hb]; exact s.h b x e n, fun b e => by
    by_cases hb : b = q
    · subst hb; rw [upd_same]; simp
    · rw [upd_ne hb]; exact s.k b e⟩
  refine ⟨r.z0, sm r.zh hz, sm r.gh hg, r.nw, fun a ha => ?_, r.len, fun j dv e => ?_, r.inj, r.tb.ne hq _⟩
  · obtain ⟨h1, h2, h3⟩ := r.pp a ha
    have hb : a ≠ q := fun z => hp (by rw [← z]; exact ha)
    exact ⟨by rw [upd_ne hb]; exact h1, h2, h3⟩
  · have s := r.sl j dv e
    have o := fa j dv e
    cases dv with
    | fr d => exact s
    | fn n => exact s
    | ow es => cases o
    | rf es => cases o
    | dk es => cases o
theorem grow_lay (r : Rel K F Z H σ env) {a : Addr} (ha : H a = none) (o : HO) : Grow Z H Z (upd H a o) :=
  ⟨Same.refl Z, r.zh.trans (.of (same_new ha _)), .of (same_new ha _), fun t => t.ext (same_new ha _), fun _ h => .inl h⟩
/-- a new list at the end -/
theorem NI.push (n : NI K F Z H p qs dss) (r : Rel K F Z H σ env) (fa : FrA env) {a : Addr} (ha : H a = none) :
    Rel K F Z (upd (upd H a (.lst [])) p (.lst (qs.reverse.map V.ref ++ [.ref a]))) σ env ∧ NI K F Z (upd (upd H a (.lst [])) p (.lst (qs.reverse.map V.ref ++ [.ref a]))) p (a :: qs) ([] :: dss) := by
  have g := grow_lay r ha (.lst [])
  have r1 := r.grow g
  have n1 := n.grow g
  obtain ⟨z1, z2, z3⟩ := n1.fr p List.mem_cons_self
  have hap : ∀ b ∈ p :: qs, b ≠ a := fun b hb z => by
    subst z
    rcases List.mem_cons.mp hb with e | hb
    · rw [e, n.hp] at ha; cases ha
    · exact n.ns.has _ hb ha
  refine ⟨r1.mut fa z1 z2 z3 n1.hp _, ⟨?_, ?_, ?_, ?_⟩⟩
  · rw [upd_same, List.reverse_cons, List.map_append]; rfl
  · have nd := n.nd
    rw [List.nodup_cons] at nd ⊢
    refine ⟨fun hm => ?_, List.nodup_cons.mpr ⟨fun hm => hap a (List.mem_cons_of_mem _ hm) rfl, nd.2⟩⟩
    rcases List.mem_cons.mp hm with e | hm
    · exact hap p List.mem_cons_self e
    · exact nd.1 hm
  · intro b hb
    rcases List.mem_cons.mp hb with rfl | hb
    · exact n.fr _ List.mem_cons_self
    · rcases List.mem_cons.mp hb with rfl | hb
      · exact ⟨r.zh.free ha, r.gh.free ha, fun z => (r.pp _ z).1 ha⟩
      · exact n.fr b (List.mem_cons_of_mem _ hb)
  · have npq : ∀ b ∈ a :: qs, b ≠ p := fun b hb z => by
      subst z
      rcases List.mem_cons.mp hb with e | hb
      · exact hap b List.mem_cons_self e
      · have nd := n.nd; rw [List.nodup_cons] at nd; exact nd.1 hb
    refine .cons (by rw [upd_ne (npq a List.mem_cons_self), upd_same]) .nil (n1.ns.move (Same.refl Z) fun b hb xs h => by rw [upd_ne (npq b (List.mem_cons_of_mem _ hb))]; exact h)
/-- something at the end of the last list -/
theorem NI.app (n : NI K F Z H p (q :: qs) (ds :: dss)) (r : Rel K F Z H σ env) (fa : FrA env) {v : V} {d : PyData} (hd : DD K Z v d) :
    ∃ xs, H q = some (.lst xs) ∧ xs.length = ds.length ∧ Rel K F Z (upd H q (.lst (xs ++ [v]))) σ env ∧ NI K F Z (upd H q (.lst (xs ++ [v]))) p (q :: qs) ((ds ++ [d]) :: dss) := by
  have hns := n.ns
  cases hns with
  | @cons _ _ xs _ _ h dd rest =>
    obtain ⟨z1, z2, z3⟩ := n.fr q (List.mem_cons_of_mem _ List.mem_cons_self)
    have nd := n.nd
    rw [List.nodup_cons, List.nodup_cons] at nd
    have hpq : p ≠ q := fun z => nd.1 (by rw [z]; exact List.mem_cons_self)
    refine ⟨xs, h, dds_len dd, r.mut fa z1 z2 z3 h _, ⟨by rw [upd_ne hpq]; exact n.hp, n.nd, n.fr, .cons upd_same (dds_app dd (.cons hd .nil)) (rest.move (Same.refl Z) fun b hb ys e => ?_)⟩⟩
    rw [upd_ne (fun z => nd.2.1 (by rw [← z]; exact hb))]; exact e
/-- the last list taken away -/
theorem NI.pop (n : NI K F Z H p (q :: qs) (ds :: dss)) (r : Rel K F Z H σ env) (fa : FrA env) :
    Rel K F Z (upd H p (.lst (qs.reverse.map V.ref))) σ env ∧ NI K F Z (upd H p (.lst (qs.reverse.map V.ref))) p qs dss ∧ ∃ xs, upd H p (.lst (qs.reverse.map V.ref)) q = some (.lst xs) ∧ DDs K Z xs ds := by
  have hns := n.ns
  cases hns with
  | @cons _ _ xs _ _ h dd rest =>
    obtain ⟨z1, z2, z3⟩ := n.fr p List.mem_cons_self
    have nd := n.nd
    rw [List.nodup_cons, List.nodup_cons] at nd
    have hpq : q ≠ p := fun z => nd.1 (by rw [← z]; exact List.mem_cons_self)
    refine ⟨r.mut fa z1 z2 z3 n.hp _, ⟨upd_same, List.nodup_cons.mpr ⟨fun z => nd.1 (List.mem_cons_of_mem _ z), nd.2.2⟩, fun b hb => n.fr b ?_, rest.move (Same.refl Z) fun b hb ys e => ?_⟩, xs, by rw [upd_ne hpq]; exact h, dd⟩
    · rcases List.mem_cons.mp hb with rfl | hb
      · exact List.mem_cons_self
      · exact List.mem_cons_of_mem _ (List.mem_cons_of_mem _ hb)
    · rw [upd_ne (fun z => nd.1 (by rw [← z]; exact List.mem_cons_of_mem _ hb))]; exact e
end
/-! ### the program that is written in words -/
def rwRun (mN mC : List PyData → Option PyData) : List PyData → List PyData → List (List PyData) → Option PyData
  | [], cur, up => if up.isEmpty then some (.tuple cur) else some .none
  | .str w :: ws, cur, up =>
    if w = "(" then (if up.length < lim then rwRun mN mC ws [] (cur :: up) else none)
    else if Txt.startswith w ")x" = true then match up with
      | [] => some .none
      | c2 :: up2 => if w.length ≤ lim then (mN [.str (cutS w (some 2) none)]).bind fun n => if c2.length < lim then rwRun mN mC ws (c2 ++ [.tuple [.str "repeat", n, .tuple cur]]) up2 else none else none
    else (mC [.str w]).bind fun c => if cur.length < lim then rwRun mN mC ws (cur ++ [c]) up else none
  | _ :: _, _, _ => none
end DL
end L2


set_option Elab.async false
set_option maxRecDepth 100000
set_option maxHeartbeats 4000000
set_option autoImplicit false
namespace L2
namespace DL
open PySem PySem.Spec PyProof.Rows
variable [Lab]
def rTupOf (K : PySem.W.Frag) : List V → Hp → VK → Prop := fun xs H Q => ∃ p ys, xs = [V.ref p] ∧ ((SqL K H p ys ∧ ∀ l, H l = none → Q (.ref l) (upd H l (.tup ys))) ∨ (SqT K H p ys ∧ Q (.ref p) H))
def rLenOf (K : PySem.W.Frag) : List V → Hp → VK → Prop := fun xs H Q => ∃ p ys, xs = [V.ref p] ∧ (SqL K H p ys ∨ SqT K H p ys) ∧ Q (.int ys.length) H
abbrev tB1 (K : PySem.W.Frag) : TS := tAsg (tCB (rTupOf K) (tCons (tBM0 K "list" rPop (tVar 1)) tNil)) (gName 3)
abbrev tB2 (K : PySem.W.Frag) : TT := tNot (fun σ H Q => tVar 1 σ H fun x H' => ∃ k, TruV K x H' k ∧ Q k H')
abbrev tB3 (K : PySem.W.Frag) (F : Fm) (f : DEnv → Option (PyData × DEnv)) : TS := tDrop (tBM K "list" rAppend (tOp (rIxL K) (tVar 1) (tD K F (fNeg (fC (.int 1))))) (tDA K F (fCons f fNil)))
abbrev tRw (K : PySem.W.Frag) (F : Fm) : TS := tRet (tIf (tTest (tOp rEq (tCB (rLenOf K) (tCons (tVar 1) tNil)) (tD K F (fC (.int 1))))) (tCB (rTupOf K) (tCons (tOp (rIxL K) (tVar 1) (tD K F (fC (.int 0)))) tNil)) (tD K F (fC .none)))
abbrev rwC1 : DEnv → Option (Bool × DEnv) := fTst (fBin eqD (rdF 2) (fC (.str "(")))
abbrev rwC2 : DEnv → Option (Bool × DEnv) := fTst (fTM1 startG (rdF 2) (fC (.str ")x")))
abbrev rwFB (mN : List PyData → Option PyData) : DEnv → Option (PyData × DEnv) := fTup (fCons (fC (.str "repeat")) (fCons (fCB mN (fCons (fSlT (rdF 2) (oSome (fC (.int 2))) oNone) fNil)) (fCons (rdF 3) fNil)))
abbrev rwFC (mC : List PyData → Option PyData) : DEnv → Option (PyData × DEnv) := fCB mC (fCons (rdF 2) fNil)
def rwB (mN mC : List PyData → Option PyData) (env : DEnv) : Option DFlow := match env with
  | [some (.fr (.list ws)), none, none, none] => (rwRun mN mC ws [] []).map fun d => .rt d [some (.fr (.list ws)), none, none, none]
  | _ => none
theorem frA_of {a b : Option PyData} {ws : PyData} : FrA [some (.fr ws), none, a.map .fr, b.map .fr] := fun i dv e => by
  match i, e with
  | 0, e => cases e; rfl
  | 1, e => cases e
  | 2, e => cases a <;> cases e; rfl
  | 3, e => cases b <;> cases e; rfl
  | n + 4, e => cases e
theorem rwC1_eq (ws : PyData) (w : Str) (b : Option DV) : rwC1 [some (.fr ws), none, some (.fr (.str w)), b] = some (decide (w = "("), [some (.fr ws), none, some (.fr (.str w)), b]) := rfl
theorem rwC2_eq (ws : PyData) (w : Str) (b : Option DV) : rwC2 [some (.fr ws), none, some (.fr (.str w)), b] = some (Txt.startswith w ")x", [some (.fr ws), none, some (.fr (.str w)), b]) := rfl
theorem at_last {qs : List Addr} {q : Addr} : atI ((q :: qs).reverse.map V.ref) (-1) = some (.ref q) := by
  rw [List.reverse_cons, List.map_append]
  unfold atI
  have hl : ((qs.reverse.map V.ref) ++ [q].map V.ref).length = qs.length + 1 := by rw [List.length_append, List.length_map, List.length_reverse]; rfl
  have h1 : ixN ((qs.reverse.map V.ref) ++ [q].map V.ref).length (-1) = some qs.length := by
    rw [hl]
    unfold ixN
    rw [if_neg (by decide), if_pos (by omega)]
    congr 1
    omega
  rw [h1]
  show ((qs.reverse.map V.ref) ++ [q].map V.ref)[qs.length]? = _
  have h2 : (qs.reverse.map V.ref).length = qs.length := by rw [List.length_map, List.length_reverse]
  rw [List.getElem?_append_right (by rw [h2]; exact Nat.le_refl _), h2, Nat.sub_self]
  rfl
section
variable {X : Cx} {F : Fm} {mN mC : List PyData → Option PyData} {s0 sA sB1 sBr sB3 sC sR : Stmt} {tg iter c1 c2 cB2 : Expr} {p0 p1 p2 p3 : Pos}
theorem rw_body (h0 : PS X s0 (tAsg (tLst (tCons (tLst tNil) tNil)) (gName 1))) (hi : PDI X F tg iter (iSeq (rdF 0))) (hg : PG X tg (gName 2)) (h1 : PDT X F c1 rwC1) (hA : PS X sA (tDrop (tBM X.K "list" rAppend (tVar 1) (tCons (tLst tNil) tNil))))
    (h2 : PDT X F c2 rwC2) (hB1 : PS X sB1 (tB1 X.K)) (hB2 : PT X cB2 (tB2 X.K)) (hBr : PS X sBr (tRet (tD X.K F (fC .none)))) (hB3 : PS X sB3 (tB3 X.K F (rwFB mN))) (hC : PS X sC (tB3 X.K F (rwFC mC))) (hR : PS X sR (tRw X.K F))
    (hp : PassesOwn (model X.prog X.w) X.A X.env X.xe := by exact PassesOwn.never) (hc : X.calm = true := by rfl) (hs : ∀ x, foldedSetIterable iter X.env x = pure x := by intro _; rfl) :
    PDSs X F [s0, .For tg iter [.If c1 [sA] [.If c2 [sB1, .If cB2 [sBr] [] p3, sB3] [sC] p2] p1] [] p0, sR] (rwB mN mC) := by
  have hbody : PSs X [.If c1 [sA] [.If c2 [sB1, .If cB2 [sBr] [] p3, sB3] [sC] p2] p1] _ := pss_one (ps_if h1 (pss_one hA) (pss_one (ps_if h2 (pss_cons hB1 (pss_cons (ps_if hB2 (pss_one hBr) pss_nil) (pss_one hB3))) (pss_one hC))))
  refine pss_imp (pss_cons h0 (pss_cons (ps_for hp hc hi hg hbody hs) (pss_one hR))) fun D σ H h => ?_
  obtain ⟨Z, env, fl, r, e, q⟩ := h
  unfold rwB at e
  split at e
  case h_2 => cases e
  rename_i ws
  obtain ⟨d, hd, rfl⟩ := mpd e
  clear e
  let E0 : DEnv := [some (.fr (.list ws)), none, none, none]
  have fa0 : FrA E0 := frA_of (a := none) (b := none)
  have hlim : lim < sizeLine := by rw [sizeLine_eq]; decide
  refine ⟨by show 0 ≤ sizeLine; exact Nat.zero_le _, fun a ha => ⟨Nat.le_trans (show 1 ≤ lim by decide) (Nat.le_of_lt hlim), fun p hp' => ?_⟩⟩
  have hap : a ≠ p := fun z => by rw [← z, upd_same] at hp'; cases hp'
  have hp0 : H p = none := by rw [upd_ne (Ne.symm hap)] at hp'; exact hp'
  have ga := grow_lay r ha (.lst [])
  have ra := r.grow ga
  have gp := grow_lay ra hp' (.lst [.ref a])
  have rp := ra.grow gp
  have np : NI X.K F Z (upd (upd H a (.lst [])) p (.lst [.ref a])) p [a] [[]] := by
    refine ⟨upd_same, by simp only [List.nodup_cons, List.mem_singleton]; exact ⟨Ne.symm hap, by simp, List.nodup_nil⟩, fun b hb => ?_, .cons (by rw [upd_ne hap, upd_same]) .nil .nil⟩
    have hb0 : H b = none := by
      rcases List.mem_cons.mp hb with rfl | hb
      · exact hp0
      · rw [List.mem_singleton.mp hb]; exact ha
    exact ⟨r.zh.free hb0, r.gh.free hb0, fun z => (r.pp _ z).1 hb0⟩
  have lenσ : σ.length = 4 := r.len.symm
  have r1 : Rel X.K F Z (upd (upd H a (.lst [])) p (.lst [.ref a])) (σ.set 1 (some (.ref p))) E0 := rp.junk rfl _
  have s1 : (σ.set 1 (some (V.ref p)))[1]? = some (some (.ref p)) := List.getElem?_set_self (by rw [lenσ]; decide)
  have out : ∀ {Z' H' : Hp} {σ' : St} {E' : DEnv} {v : V} {b2 b3 : Option DV}, Rel X.K F Z' H' σ' [some (.fr (.list ws)), none, b2, b3] → Same Z Z' → DD X.K Z' v d → D.rt v H' := fun {Z' H' σ' E' v b2 b3} rr ss dd =>
    q v σ' Z' H' ((rr.forget 2).forget 3) ss dd
  refine ⟨Z, E0, ws, E0, r1, rfl, fun J Z1 H1 r2 s2 w => ?_⟩
  obtain ⟨G, Y, wk, hG, hY⟩ := w
  refine for_it wk (fun i σ' H' => ∃ Z' qs cur up, Same Z1 Z' ∧ Rel X.K F Z' H' σ' E0 ∧ σ'[1]? = some (some (.ref p)) ∧ NI X.K F Z' H' p qs (cur :: up) ∧ rwRun mN mC (ws.drop i) cur up = some d) ⟨Z1, [a], [], [], Same.refl _, r2, s1, np.stp fa0 s2, hd⟩ ?_ ?_ ?_
  · rintro i σ' H' hi ⟨Z', qs, cur, up, s', r', _⟩
    exact hG H' (s'.trans r'.zh)
  · rintro i x σ' H' H2 hi ⟨Z', qs, cur, up, s', r', k1, n', e'⟩ y
    obtain ⟨Zn, dw, gr, hdw, dd⟩ := hY i H' x H2 Z' hi y s' r'.zh
    have ed : ws.drop i = dw :: ws.drop (i + 1) := by
      obtain ⟨hl, hx⟩ := List.getElem?_eq_some_iff.mp hdw
      rw [← hx]
      exact List.drop_eq_getElem_cons hl
    rw [ed] at e'
    obtain ⟨w, rfl⟩ : ∃ w : Str, dw = .str w := by
      cases dw <;> first | exact ⟨_, rfl⟩ | (unfold rwRun at e'; cases e')
    unfold rwRun at e'
    let E2 : DEnv := [some (.fr (.list ws)), none, some (.fr (.str w)), none]
    have fa2 : FrA E2 := frA_of (a := some (.str w)) (b := none)
    have r3 : Rel X.K F Zn H2 (σ'.set 2 (some x)) E2 := (r'.grow gr).store 2 dd
    have k3 : (σ'.set 2 (some x))[1]? = some (some (.ref p)) := by rw [List.getElem?_set_ne (by decide)]; exact k1
    have n3 := n'.grow gr
    refine ⟨Zn, E2, decide (w = "("), E2, r3, rwC1_eq _ _ _, fun Z4 H4 r4 s4 => ?_⟩
    have n4 := n3.stp fa2 s4
    have z4 : Same Z1 Z4 := (s'.trans gr.z).trans s4.z
    by_cases hw : w = "("
    · rw [if_pos hw] at e'
      rw [decide_eq_true hw]
      show tDrop (tBM X.K "list" rAppend (tVar 1) (tCons (tLst tNil) tNil)) _ _ _
      split at e'
      case isFalse => cases e'
      rename_i hl
      refine ⟨.ref p, k3, own_ty n4.hp, by show 0 ≤ sizeLine; exact Nat.zero_le _, fun b hb => ?_⟩
      have hbp : p ≠ b := fun z => by rw [← z, n4.hp] at hb; cases hb
      obtain ⟨r5, n5⟩ := n4.push r4 fa2 hb
      refine ⟨p, _, .ref b, rfl, rfl, by rw [upd_ne hbp]; exact n4.hp, ?_, Z4, b :: qs, [], cur :: up, z4, r5.forget 2, k3, n5, e'⟩
      have := n4.ns.len
      rw [List.length_map, List.length_reverse, this, List.length_cons]
      omega
    · rw [if_neg hw] at e'
      rw [decide_eq_false hw]
      show tIfS (tDT X.K F rwC2) _ _ _ _ _
      refine ⟨Z4, E2, Txt.startswith w ")x", E2, r4, rwC2_eq _ _ _, fun Z5 H5 r5 s5 => ?_⟩
      have n5 := n4.stp fa2 s5
      have z5 := z4.trans s5.z
      by_cases hx : Txt.startswith w ")x" = true
      · rw [if_pos hx] at e'
        rw [hx]
        show tSeq (tB1 X.K) _ _ _ _
        cases qs with
        | nil => have := n5.ns.len; cases this
        | cons q0 qs' =>
        have hdl : ((q0 :: qs').reverse.map V.ref).dropLast = qs'.reverse.map V.ref := by rw [List.reverse_cons, List.map_append]; exact List.dropLast_concat
        obtain ⟨r6, n6, xs, hq0, dxs⟩ := n5.pop r5 fa2
        refine ⟨.ref p, k3, own_ty n5.hp, p, _, .ref q0, rfl, rfl, n5.hp, ?_, ?_⟩
        · have := at_last (qs := qs') (q := q0)
          rw [List.reverse_cons, List.map_append, List.length_append, List.length_map, List.length_reverse]
          show ((qs'.reverse.map V.ref) ++ [V.ref q0])[qs'.length + 1 - 1]? = _
          have h2 : (qs'.reverse.map V.ref).length = qs'.length := by rw [List.length_map, List.length_reverse]
          rw [List.getElem?_append_right (by rw [h2]; exact Nat.le_refl _), h2, Nat.add_sub_cancel, Nat.sub_self]
          rfl
        rw [hdl]
        refine ⟨q0, xs, rfl, .inl ⟨SqL.of hq0, fun l hl => ?_⟩⟩
        have g7 := grow_new r6.zh hl (.tup xs)
        let E3 : DEnv := [some (.fr (.list ws)), none, some (.fr (.str w)), some (.fr (.tuple cur))]
        have fa3 : FrA E3 := frA_of (a := some (.str w)) (b := some (.tuple cur))
        have r7 : Rel X.K F _ _ ((σ'.set 2 (some x)).set 3 (some (.ref l))) E3 := (r6.grow g7).store 3 (new_tup r6.zh hl dxs)
        have n7 := n6.grow g7
        have k7 : ((σ'.set 2 (some x)).set 3 (some (V.ref l)))[1]? = some (some (.ref p)) := by rw [List.getElem?_set_ne (by decide)]; exact k3
        have z7 := z5.trans g7.z
        refine ⟨.ref p, k7, _, .inl ⟨_, SqL.of n7.hp, rfl⟩, ?_⟩
        cases up with
        | nil =>
          cases qs' with
          | cons _ _ => have := n7.ns.len; cases this
          | nil =>
          cases e'
          show tRet (tD X.K F (fC .none)) _ _ _
          exact ⟨_, E3, .none, E3, r7, rfl, fun v Z8 H8 r8 s8 d8 => out (E' := E3) r8 ((s2.z.trans z7).trans s8.z) d8⟩
        | cons c2 up2 =>
          cases qs' with
          | nil => have := n7.ns.len; cases this
          | cons q2 qs2 =>
          have hne : ((q2 :: qs2).reverse.map V.ref).isEmpty = false := by rw [List.reverse_cons, List.map_append]; cases (qs2.reverse.map V.ref) <;> rfl
          rw [hne]
          show tB3 X.K F (rwFB mN) _ _ _
          dsimp only at e'
          split at e'
          case isFalse => cases e'
          rename_i hwl
          obtain ⟨nm, hnm, e'⟩ := bnd e'
          split at e'
          case isFalse => cases e'
          rename_i hcl
          refine ⟨.ref p, k7, _, E3, .int (-1), E3, r7, rfl, fun v Z8 H8 r8 s8 d8 => ?_⟩
          have n8 := n7.stp fa3 s8
          cases d8.int_inv
          refine ⟨p, _, -1, .ref q2, rfl, rfl, SqL.of n8.hp, at_last, ?_⟩
          have hq2 : ∃ ys, H8 q2 = some (.lst ys) := by
            have := n8.ns
            cases this with
            | cons h _ _ => exact ⟨_, h⟩
          obtain ⟨ys8, hq8⟩ := hq2
          have hfb : fCons (rwFB mN) fNil E3 = some ([.tuple [.str "repeat", nm, .tuple cur]], E3) := by
            have h1 : fSlT (rdF 2) (oSome (fC (.int 2))) oNone E3 = some (.str (cutS w (some 2) none), E3) := by
              show (slT (.str w) (some 2) none).map _ = _
              unfold slT
              dsimp only
              rw [if_pos hwl]
              rfl
            exact ev_cons (ev_tup (ds := [.str "repeat", nm, .tuple cur]) (ev_cons rfl (ev_cons (ev_cb (ev_cons h1 ev_nil) hnm) (ev_cons rfl ev_nil))) (by show 3 ≤ 100000; decide)) ev_nil
          refine ⟨own_ty hq8, Z8, E3, _, E3, r8, hfb, fun vs Z9 H9 r9 s9 d9 => ?_⟩
          have n9 := n8.stp fa3 s9
          obtain ⟨v9, rfl, dv9⟩ := dds1 d9
          obtain ⟨xs9, hq9, hl9, r10, n10⟩ := n9.app r9 fa3 dv9
          exact ⟨q2, xs9, v9, rfl, rfl, hq9, by rw [hl9]; omega, Z9, q2 :: qs2, _, up2, ((z7.trans s8.z).trans s9.z), (r10.forget 2).forget 3, k7, n10, e'⟩
      · rw [if_neg hx] at e'
        rw [eq_false_of_ne_true hx]
        show tB3 X.K F (rwFC mC) _ _ _
        cases qs with
        | nil => have := n5.ns.len; cases this
        | cons q0 qs' =>
        obtain ⟨cm, hcm, e'⟩ := bnd e'
        split at e'
        case isFalse => cases e'
        rename_i hcl
        refine ⟨.ref p, k3, _, E2, .int (-1), E2, r5, rfl, fun v Z8 H8 r8 s8 d8 => ?_⟩
        have n8 := n5.stp fa2 s8
        cases d8.int_inv
        refine ⟨p, _, -1, .ref q0, rfl, rfl, SqL.of n8.hp, at_last, ?_⟩
        have hq2 : ∃ ys, H8 q0 = some (.lst ys) := by
          have := n8.ns
          cases this with
          | cons h _ _ => exact ⟨_, h⟩
        obtain ⟨ys8, hq8⟩ := hq2
        have hfc : fCons (rwFC mC) fNil E2 = some ([cm], E2) := ev_cons (ev_cb (ev_cons rfl ev_nil) hcm) ev_nil
        refine ⟨own_ty hq8, Z8, E2, _, E2, r8, hfc, fun vs Z9 H9 r9 s9 d9 => ?_⟩
        have n9 := n8.stp fa2 s9
        obtain ⟨v9, rfl, dv9⟩ := dds1 d9
        obtain ⟨xs9, hq9, hl9, r10, n10⟩ := n9.app r9 fa2 dv9
        exact ⟨q0, xs9, v9, rfl, rfl, hq9, by rw [hl9]; omega, Z9, q0 :: qs', _, up, ((z5.trans s8.z).trans s9.z), r10.forget 2, k3, n10, e'⟩
  · rintro σ' H' ⟨Z', qs, cur, up, s', r', k1, n', e'⟩
    rw [List.drop_length] at e'
    have hn := n'.ns.len
    refine ⟨.ref p, k1, p, _, rfl, .inl (SqL.of n'.hp), Z', E0, .int 1, E0, r', rfl, fun v Z8 H8 r8 s8 d8 => ?_⟩
    cases d8.int_inv
    have n8 := n'.stp fa0 s8
    cases qs with
    | nil => cases hn
    | cons q0 qs' =>
    cases up with
    | nil =>
      cases qs' with
      | cons _ _ => cases hn
      | nil =>
      cases e'
      refine ⟨rfl, true, ?_, ?_⟩
      · rfl
      show tCB (rTupOf X.K) (tCons (tOp (rIxL X.K) (tVar 1) (tD X.K F (fC (.int 0)))) tNil) σ' H8 D.rt
      refine ⟨.ref p, k1, Z8, E0, .int 0, E0, r8, rfl, fun v Z9 H9 r9 s9 d9 => ?_⟩
      cases d9.int_inv
      have n9 := n8.stp fa0 s9
      have hns := n9.ns
      cases hns with
      | cons hq dq _ =>
      refine ⟨p, _, 0, .ref q0, rfl, rfl, SqL.of n9.hp, rfl, q0, _, rfl, .inl ⟨SqL.of hq, fun l hl => ?_⟩⟩
      exact out (E' := E0) (r9.grow (grow_new r9.zh hl _)) (((s2.z.trans s').trans s8.z).trans (s9.z.trans (grow_new r9.zh hl _).z)) (new_tup r9.zh hl dq)
    | cons c2 up2 =>
      cases qs' with
      | nil => cases hn
      | cons q2 qs2 =>
      cases e'
      have hk : decide (V.int (((q0 :: q2 :: qs2).reverse.map V.ref).length : Nat) = V.int 1) = false := by
        apply decide_eq_false
        intro z
        injection z with z
        rw [List.length_map, List.length_reverse, List.length_cons, List.length_cons] at z
        omega
      refine ⟨rfl, false, by rw [hk], ?_⟩
      show tD X.K F (fC .none) σ' H8 D.rt
      exact ⟨Z8, E0, .none, E0, r8, rfl, fun v Z9 H9 r9 s9 d9 => out (E' := E0) r9 (((s2.z.trans s').trans s8.z).trans s9.z) d9⟩
end
end DL
end L2


set_option Elab.async false
set_option maxRecDepth 100000
set_option maxHeartbeats 4000000
set_option autoImplicit false
namespace L2
namespace DL
open PySem PySem.Spec PyProof.Rows
variable [Lab]
/-! ### text * n -/
def mulSD : PyData → PyData → Option PyData
  | .str x, .int n => if 1 ≤ x.length ∧ x.length ≤ 1000 ∧ 1 ≤ n ∧ n ≤ 1000 then some (.str (Txt.mul x n)) else none
  | _, _ => none
theorem od_mulS {X : Cx} : OpD X (binaryOp .Mult) mulSD := by
  intro pins s σ H x y v u Q I rx ry h
  obtain ⟨Z, a, b, d, sz, ha, hb, e, q⟩ := h
  match a, b, ha, hb, e with
  | .str x, .int n, ha, hb, e =>
    cases ha.str_inv
    cases hb.int_inv
    change (if 1 ≤ x.length ∧ x.length ≤ 1000 ∧ 1 ≤ n ∧ n ≤ 1000 then some (PyData.str (Txt.mul x n)) else none) = some d at e
    split at e
    case isFalse => cases e
    rename_i hz
    cases e
    obtain ⟨h1, h2, h3, h4⟩ := hz
    obtain ⟨t, rfl⟩ := rx
    obtain ⟨t2, rfl⟩ := ry
    refine PySem.SB.mul ⟨?_, fun _ _ => ?_, fun _ _ => ?_⟩ fun t' k => ⟨.str _, H, I.tok k, ⟨t', rfl⟩, q _ Z H (Grow.refl sz) (.str _)⟩
    · rw [Bool.or_eq_false_iff]; exact ⟨decide_eq_false (by omega), decide_eq_false (by omega)⟩
    · intro z
      have h5 : (1000 : Int) ≤ (2 ^ 63 - 1) / n := by
        rw [Int.le_ediv_iff_mul_le (by omega)]
        omega
      omega
    · have : x.length * n.toNat ≤ 1000 * 1000 := Nat.mul_le_mul h2 (by omega)
      unfold Builtin.Str.tooLong
      apply decide_eq_false
      have : (1000 * 1000 : Nat) < sizeLine := by rw [sizeLine_eq]; decide
      omega
end DL
end L2


set_option Elab.async false
set_option maxRecDepth 100000
set_option maxHeartbeats 4000000
set_option autoImplicit false
namespace L2
namespace DL
open PySem PySem.Spec PyProof.Rows
variable [Lab]
/-! ### text * n, n may be 0 -/
def mulS0D : PyData → PyData → Option PyData
  | .str x, .int n => if n = 0 then some (.str Str.empty) else mulSD (.str x) (.int n)
  | _, _ => none
theorem od_mulS0 {X : Cx} : OpD X (binaryOp .Mult) mulS0D := by
  intro pins s σ H x y v u Q I rx ry h
  obtain ⟨Z, a, b, d, sz, ha, hb, e, q⟩ := h
  match a, b, ha, hb, e with
  | .str x, .int n, ha, hb, e =>
    change (if n = 0 then some (PyData.str Str.empty) else mulSD (.str x) (.int n)) = some d at e
    split at e
    · rename_i h0
      subst h0
      cases e
      cases ha.str_inv
      cases hb.int_inv
      obtain ⟨t, rfl⟩ := rx
      obtain ⟨t2, rfl⟩ := ry
      refine PySem.SB.mul ⟨by decide, fun z => absurd (by decide) z, fun z => absurd (by decide) z⟩ fun t' k => ⟨.str _, H, I.tok k, ⟨t', rfl⟩, q _ Z H (Grow.refl sz) (.str _)⟩
    · exact od_mulS pins s σ H _ _ v u Q I rx ry ⟨Z, .str x, .int n, d, sz, ha, hb, e, q⟩
end DL
end L2


set_option Elab.async false
set_option maxRecDepth 100000
set_option maxHeartbeats 4000000
set_option autoImplicit false
namespace L2
namespace DL
open PySem PySem.Spec PyProof.Rows
variable [Lab]
def inS (i j : Nat) : Stmt := match PySem.Challenge.pw_sortcuts_k22_whole_texts_read_back_and_r.main.body.getD i (.Pass ⟨0, 0, 0, 0⟩) with
  | .ClassDef _ _ _ b _ _ _ _ _ _ _ => b.getD j (.Pass ⟨0, 0, 0, 0⟩)
  | s => s
def topS (i : Nat) : Stmt := PySem.Challenge.pw_sortcuts_k22_whole_texts_read_back_and_r.main.body.getD i (.Pass ⟨0, 0, 0, 0⟩)
def cv_MOST_COLUMNS : PyData := .int 5
def cv_MOST_RECORDS : PyData := .int 30
def cv_MOST_KEYS : PyData := .int 4
def cv_DIRECTIONS : PyData := .tuple [(.str "down"), (.str "up")]
def cv_LEAST_SIZE : PyData := .int 2
def cv_MOST_SIZE : PyData := .int 29
def cv_MOST_TIMES : PyData := .int 1000000000000000000000000000000
def cv_CUTS : PyData := .tuple [(.str "first"), (.str "last")]
def cv_BARE_WORDS : PyData := .tuple [(.str "reverse"), (.str "restore")]
def cv_MOST_NESTED : PyData := .int 4
def cv_MOST_COMMANDS : PyData := .int 400
def cv_START : PyData := .tuple [(.tuple [(.str "place"), (.str "up")])]
structure Tx [LabW] (LT : List (Addr × Str)) (K : PySem.W.Frag) (mg : Str → Option Value) (base : Heap) (w : World) where
  hw : LabW.w = some w
  A : Nat → Addr
  FD : Nat → FuncData
  D_is_integer : Fun K "is_integer" "is_integer" (topS 16) (A 0) (FD 0)
  g_is_integer : mg "is_integer" = some (.ref (A 0))
  D_is_record : Fun K "is_record" "is_record" (topS 17) (A 1) (FD 1)
  g_is_record : mg "is_record" = some (.ref (A 1))
  D_check_table : Fun K "check_table" "check_table" (topS 18) (A 2) (FD 2)
  g_check_table : mg "check_table" = some (.ref (A 2))
  D_count_columns : Fun K "count_columns" "count_columns" (topS 19) (A 3) (FD 3)
  g_count_columns : mg "count_columns" = some (.ref (A 3))
  D_every_place : Fun K "every_place" "every_place" (topS 20) (A 4) (FD 4)
  g_every_place : mg "every_place" = some (.ref (A 4))
  D_check_columns_below : Fun K "check_columns_below" "check_columns_below" (topS 21) (A 5) (FD 5)
  g_check_columns_below : mg "check_columns_below" = some (.ref (A 5))
  D_is_word : Fun K "is_word" "is_word" (topS 24) (A 6) (FD 6)
  g_is_word : mg "is_word" = some (.ref (A 6))
  D_is_pair : Fun K "is_pair" "is_pair" (topS 25) (A 7) (FD 7)
  g_is_pair : mg "is_pair" = some (.ref (A 7))
  D_is_sort_column : Fun K "is_sort_column" "is_sort_column" (topS 26) (A 8) (FD 8)
  g_is_sort_column : mg "is_sort_column" = some (.ref (A 8))
  D_is_key : Fun K "is_key" "is_key" (topS 27) (A 9) (FD 9)
  g_is_key : mg "is_key" = some (.ref (A 9))
  D_is_place_part : Fun K "is_place_part" "is_place_part" (topS 28) (A 10) (FD 10)
  g_is_place_part : mg "is_place_part" = some (.ref (A 10))
  D_check_order : Fun K "check_order" "check_order" (topS 29) (A 11) (FD 11)
  g_check_order : mg "check_order" = some (.ref (A 11))
  D_opposite : Fun K "opposite" "opposite" (topS 30) (A 12) (FD 12)
  g_opposite : mg "opposite" = some (.ref (A 12))
  D_turned : Fun K "turned" "turned" (topS 31) (A 13) (FD 13)
  g_turned : mg "turned" = some (.ref (A 13))
  D_sort_values : Fun K "sort_values" "sort_values" (topS 32) (A 14) (FD 14)
  g_sort_values : mg "sort_values" = some (.ref (A 14))
  D_sorted_places : Fun K "sorted_places" "sorted_places" (topS 33) (A 15) (FD 15)
  g_sorted_places : mg "sorted_places" = some (.ref (A 15))
  D_is_size : Fun K "is_size" "is_size" (topS 38) (A 16) (FD 16)
  g_is_size : mg "is_size" = some (.ref (A 16))
  D_is_times : Fun K "is_times" "is_times" (topS 39) (A 17) (FD 17)
  g_is_times : mg "is_times" = some (.ref (A 17))
  D_is_plain_command : Fun K "is_plain_command" "is_plain_command" (topS 40) (A 18) (FD 18)
  g_is_plain_command : mg "is_plain_command" = some (.ref (A 18))
  D_begins_repeat : Fun K "begins_repeat" "begins_repeat" (topS 41) (A 19) (FD 19)
  g_begins_repeat : mg "begins_repeat" = some (.ref (A 19))
  D_room_behind : Fun K "room_behind" "room_behind" (topS 42) (A 20) (FD 20)
  g_room_behind : mg "room_behind" = some (.ref (A 20))
  D_room_behind_command : Fun K "room_behind_command" "room_behind_command" (topS 43) (A 21) (FD 21)
  g_room_behind_command : mg "room_behind_command" = some (.ref (A 21))
  D_check_program : Fun K "check_program" "check_program" (topS 44) (A 22) (FD 22)
  g_check_program : mg "check_program" = some (.ref (A 22))
  D_is_program : Fun K "is_program" "is_program" (topS 45) (A 23) (FD 23)
  g_is_program : mg "is_program" = some (.ref (A 23))
  D_count_performed : Fun K "count_performed" "count_performed" (topS 46) (A 24) (FD 24)
  g_count_performed : mg "count_performed" = some (.ref (A 24))
  D_count_commands : Fun K "count_commands" "count_commands" (topS 47) (A 25) (FD 25)
  g_count_commands : mg "count_commands" = some (.ref (A 25))
  D_program_columns : Fun K "program_columns" "program_columns" (topS 48) (A 26) (FD 26)
  g_program_columns : mg "program_columns" = some (.ref (A 26))
  D_written_command : Fun K "written_command" "written_command" (topS 50) (A 27) (FD 27)
  g_written_command : mg "written_command" = some (.ref (A 27))
  D_format_program : Fun K "format_program" "format_program" (topS 51) (A 28) (FD 28)
  g_format_program : mg "format_program" = some (.ref (A 28))
  D_read_number : Fun K "read_number" "read_number" (topS 52) (A 29) (FD 29)
  g_read_number : mg "read_number" = some (.ref (A 29))
  D_read_command : Fun K "read_command" "read_command" (topS 53) (A 30) (FD 30)
  g_read_command : mg "read_command" = some (.ref (A 30))
  D_read_words : Fun K "read_words" "read_words" (topS 54) (A 31) (FD 31)
  g_read_words : mg "read_words" = some (.ref (A 31))
  D_parse_program : Fun K "parse_program" "parse_program" (topS 55) (A 32) (FD 32)
  g_parse_program : mg "parse_program" = some (.ref (A 32))
  D_sorted_first : Fun K "sorted_first" "sorted_first" (topS 58) (A 33) (FD 33)
  g_sorted_first : mg "sorted_first" = some (.ref (A 33))
  D_after_plain : Fun K "after_plain" "after_plain" (topS 59) (A 34) (FD 34)
  g_after_plain : mg "after_plain" = some (.ref (A 34))
  D_picks_of_plain : Fun K "picks_of_plain" "picks_of_plain" (topS 60) (A 35) (FD 35)
  g_picks_of_plain : mg "picks_of_plain" = some (.ref (A 35))
  D_after_repeat : Fun K "after_repeat" "after_repeat" (topS 61) (A 36) (FD 36)
  g_after_repeat : mg "after_repeat" = some (.ref (A 36))
  D_after_command : Fun K "after_command" "after_command" (topS 62) (A 37) (FD 37)
  g_after_command : mg "after_command" = some (.ref (A 37))
  D_after_program : Fun K "after_program" "after_program" (topS 63) (A 38) (FD 38)
  g_after_program : mg "after_program" = some (.ref (A 38))
  D_check_run : Fun K "check_run" "check_run" (topS 65) (A 39) (FD 39)
  g_check_run : mg "check_run" = some (.ref (A 39))
  D_picked : Fun K "picked" "picked" (topS 66) (A 40) (FD 40)
  g_picked : mg "picked" = some (.ref (A 40))
  D_run_places : Fun K "run_places" "run_places" (topS 67) (A 41) (FD 41)
  g_run_places : mg "run_places" = some (.ref (A 41))
  D__law_cell : Fun K "_law_cell" "_law_cell" (topS 69) (A 42) (FD 42)
  g__law_cell : mg "_law_cell" = some (.ref (A 42))
  D__law_pool : Fun K "_law_pool" "_law_pool" (topS 70) (A 43) (FD 43)
  g__law_pool : mg "_law_pool" = some (.ref (A 43))
  D__law_draw : Fun K "_law_draw" "_law_draw" (topS 71) (A 44) (FD 44)
  g__law_draw : mg "_law_draw" = some (.ref (A 44))
  D__law_table : Fun K "_law_table" "_law_table" (topS 72) (A 45) (FD 45)
  g__law_table : mg "_law_table" = some (.ref (A 45))
  D__law_steps : Fun K "_law_steps" "_law_steps" (topS 73) (A 46) (FD 46)
  g__law_steps : mg "_law_steps" = some (.ref (A 46))
  D__law_program : Fun K "_law_program" "_law_program" (topS 74) (A 47) (FD 47)
  g__law_program : mg "_law_program" = some (.ref (A 47))
  D__law_all_right : Fun K "_law_all_right" "_law_all_right" (topS 75) (A 48) (FD 48)
  g__law_all_right : mg "_law_all_right" = some (.ref (A 48))
  D__law_right : Fun K "_law_right" "_law_right" (topS 76) (A 49) (FD 49)
  g__law_right : mg "_law_right" = some (.ref (A 49))
  D_law : Fun K "law" "law" (topS 77) (A 50) (FD 50)
  g_law : mg "law" = some (.ref (A 50))
  n_abs : mg "abs" = none
  n_all : mg "all" = none
  n_any : mg "any" = none
  n_bool : mg "bool" = none
  n_divmod : mg "divmod" = none
  n_enumerate : mg "enumerate" = none
  n_int : mg "int" = none
  n_isinstance : mg "isinstance" = none
  n_len : mg "len" = none
  n_max : mg "max" = none
  n_min : mg "min" = none
  n_range : mg "range" = none
  n_repr : mg "repr" = none
  n_sorted : mg "sorted" = none
  n_str : mg "str" = none
  n_sum : mg "sum" = none
  n_tuple : mg "tuple" = none
  c_MOST_COLUMNS : ∃ uv : Value × V, mg "MOST_COLUMNS" = some uv.1 ∧ RelV uv.2 uv.1 ∧ ∀ Z, DD K Z uv.2 cv_MOST_COLUMNS
  c_MOST_RECORDS : ∃ uv : Value × V, mg "MOST_RECORDS" = some uv.1 ∧ RelV uv.2 uv.1 ∧ ∀ Z, DD K Z uv.2 cv_MOST_RECORDS
  c_MOST_KEYS : ∃ uv : Value × V, mg "MOST_KEYS" = some uv.1 ∧ RelV uv.2 uv.1 ∧ ∀ Z, DD K Z uv.2 cv_MOST_KEYS
  c_DIRECTIONS : ∃ uv : Value × V, mg "DIRECTIONS" = some uv.1 ∧ RelV uv.2 uv.1 ∧ ∀ Z, DD K Z uv.2 cv_DIRECTIONS
  c_LEAST_SIZE : ∃ uv : Value × V, mg "LEAST_SIZE" = some uv.1 ∧ RelV uv.2 uv.1 ∧ ∀ Z, DD K Z uv.2 cv_LEAST_SIZE
  c_MOST_SIZE : ∃ uv : Value × V, mg "MOST_SIZE" = some uv.1 ∧ RelV uv.2 uv.1 ∧ ∀ Z, DD K Z uv.2 cv_MOST_SIZE
  c_MOST_TIMES : ∃ uv : Value × V, mg "MOST_TIMES" = some uv.1 ∧ RelV uv.2 uv.1 ∧ ∀ Z, DD K Z uv.2 cv_MOST_TIMES
  c_CUTS : ∃ uv : Value × V, mg "CUTS" = some uv.1 ∧ RelV uv.2 uv.1 ∧ ∀ Z, DD K Z uv.2 cv_CUTS
  c_BARE_WORDS : ∃ uv : Value × V, mg "BARE_WORDS" = some uv.1 ∧ RelV uv.2 uv.1 ∧ ∀ Z, DD K Z uv.2 cv_BARE_WORDS
  c_MOST_NESTED : ∃ uv : Value × V, mg "MOST_NESTED" = some uv.1 ∧ RelV uv.2 uv.1 ∧ ∀ Z, DD K Z uv.2 cv_MOST_NESTED
  c_MOST_COMMANDS : ∃ uv : Value × V, mg "MOST_COMMANDS" = some uv.1 ∧ RelV uv.2 uv.1 ∧ ∀ Z, DD K Z uv.2 cv_MOST_COMMANDS
  c_START : ∃ uv : Value × V, mg "START" = some uv.1 ∧ RelV uv.2 uv.1 ∧ ∀ Z, DD K Z uv.2 cv_START
  cP_sorted_places : Addr × Addr
  tb_sorted_places : LamX.TabB base mg cP_sorted_places.1 cP_sorted_places.2
  cd_sorted_places : (FD 15).code = .ref cP_sorted_places.1
  lb_sorted_places : (cP_sorted_places.2, ("sorted_places" ++ ".<locals>." : Str) ++ "<lambda>") ∈ LT
  lu_sorted_places : ∀ p ∈ LT, p.1 = cP_sorted_places.2 → p.2 = ("sorted_places" ++ ".<locals>." : Str) ++ "<lambda>"
  C : Str → Addr
  FI : Str → Addr
  FDI : Str → FuncData
  xm_InvalidTable : mg "InvalidTable" = some (.ref (C "InvalidTable"))
  xm_InvalidProgram : mg "InvalidProgram" = some (.ref (C "InvalidProgram"))
  xm_InvalidText : mg "InvalidText" = some (.ref (C "InvalidText"))
  x_InvalidTable : OexC K (C "InvalidTable")
  xi_InvalidTable : PySem.W.findIn K (.ref (C "InvalidTable")) "__init__" = some (some (.ref (FI "InvalidTable")))
  xt_InvalidTable : PySem.W.typeIn K (.ref (FI "InvalidTable")) = some (.type "function")
  xn_InvalidTable : PySem.W.findIn K (.ref (C "InvalidTable")) "index" = some none
  xD_InvalidTable : Fun K "__init__" "InvalidTable.__init__" (inS 2 0) (FI "InvalidTable") (FDI "InvalidTable")
  x_InvalidProgram : OexC K (C "InvalidProgram")
  xi_InvalidProgram : PySem.W.findIn K (.ref (C "InvalidProgram")) "__init__" = some (some (.ref (FI "InvalidProgram")))
  xt_InvalidProgram : PySem.W.typeIn K (.ref (FI "InvalidProgram")) = some (.type "function")
  xn_InvalidProgram : PySem.W.findIn K (.ref (C "InvalidProgram")) "index" = some none
  xD_InvalidProgram : Fun K "__init__" "InvalidProgram.__init__" (inS 4 0) (FI "InvalidProgram") (FDI "InvalidProgram")
  x_InvalidText : OexC K (C "InvalidText")
  xi_InvalidText : PySem.W.findIn K (.ref (C "InvalidText")) "__init__" = some (some (.ref (FI "InvalidText")))
  xt_InvalidText : PySem.W.typeIn K (.ref (FI "InvalidText")) = some (.type "function")
  xn_InvalidText : PySem.W.findIn K (.ref (C "InvalidText")) "text" = some none
  xD_InvalidText : Fun K "__init__" "InvalidText.__init__" (inS 5 0) (FI "InvalidText") (FDI "InvalidText")
  xe_InvalidTable_InvalidProgram : PySem.W.exmOne K (.ref (C "InvalidTable")) (.ref (C "InvalidProgram")) = some false
  xe_InvalidProgram_InvalidProgram : PySem.W.exmOne K (.ref (C "InvalidProgram")) (.ref (C "InvalidProgram")) = some true
  xe_InvalidText_InvalidProgram : PySem.W.exmOne K (.ref (C "InvalidText")) (.ref (C "InvalidProgram")) = some false
section
variable {P : Program} {w : World} {K : PySem.W.Frag} {mg : Str → Option Value} {base : Heap}
theorem xsc_InvalidTable : FnScope ["self", "index"] ["self", "index"] (defScope (inS 2 0)) := ⟨rfl, rfl, rfl, by decide +kernel, rfl, by decide +kernel, by decide +kernel⟩
theorem xo_InvalidTable (T : Tx Lab.T K mg base w) : FnOk P w K mg base CX0 1 (T.FI "InvalidTable") (T.FDI "InvalidTable") ["self", "index"] (spI (T.C "InvalidTable") "index") := init_ok T.xD_InvalidTable xsc_InvalidTable T.x_InvalidTable T.xn_InvalidTable rfl (Or.inl rfl) (Or.inl rfl) (by decide) (by decide)
theorem xb_InvalidTable (T : Tx Lab.T K mg base w) : Binds K (T.FDI "InvalidTable") ["self", "index"] [] := T.xD_InvalidTable.binds fun _ _ _ _ _ _ us hl => match us, hl with | [_, _], _ => rfl
theorem xsc_InvalidProgram : FnScope ["self", "index"] ["self", "index"] (defScope (inS 4 0)) := ⟨rfl, rfl, rfl, by decide +kernel, rfl, by decide +kernel, by decide +kernel⟩
theorem xo_InvalidProgram (T : Tx Lab.T K mg base w) : FnOk P w K mg base CX0 1 (T.FI "InvalidProgram") (T.FDI "InvalidProgram") ["self", "index"] (spI (T.C "InvalidProgram") "index") := init_ok T.xD_InvalidProgram xsc_InvalidProgram T.x_InvalidProgram T.xn_InvalidProgram rfl (Or.inl rfl) (Or.inl rfl) (by decide) (by decide)
theorem xb_InvalidProgram (T : Tx Lab.T K mg base w) : Binds K (T.FDI "InvalidProgram") ["self", "index"] [] := T.xD_InvalidProgram.binds fun _ _ _ _ _ _ us hl => match us, hl with | [_, _], _ => rfl
theorem xsc_InvalidText : FnScope ["self", "text"] ["self", "text"] (defScope (inS 5 0)) := ⟨rfl, rfl, rfl, by decide +kernel, rfl, by decide +kernel, by decide +kernel⟩
theorem xo_InvalidText (T : Tx Lab.T K mg base w) : FnOk P w K mg base CX0 1 (T.FI "InvalidText") (T.FDI "InvalidText") ["self", "text"] (spI (T.C "InvalidText") "text") := init_ok T.xD_InvalidText xsc_InvalidText T.x_InvalidText T.xn_InvalidText rfl (Or.inl rfl) (Or.inl rfl) (by decide) (by decide)
theorem xb_InvalidText (T : Tx Lab.T K mg base w) : Binds K (T.FDI "InvalidText") ["self", "text"] [] := T.xD_InvalidText.binds fun _ _ _ _ _ _ us hl => match us, hl with | [_, _], _ => rfl
def mt_InvalidProgram (c : Str) : Option Bool := if c = "InvalidTable" then some false else if c = "InvalidProgram" then some true else if c = "InvalidText" then some false else none
theorem mtk_InvalidProgram (T : Tx Lab.T K mg base w) : ∀ c b, mt_InvalidProgram c = some b → PySem.W.exmOne K (.ref (T.C c)) (.ref (T.C "InvalidProgram")) = some b := by
  intro c b h
  unfold mt_InvalidProgram at h
  split at h
  · rename_i hc; cases h; rw [hc]; exact T.xe_InvalidTable_InvalidProgram
  split at h
  · rename_i hc; cases h; rw [hc]; exact T.xe_InvalidProgram_InvalidProgram
  split at h
  · rename_i hc; cases h; rw [hc]; exact T.xe_InvalidText_InvalidProgram
  cases h
def mb_is_integer : DEnv → Option DFlow := (sRet (fAndV (fIsi "int" (rdF 0)) (fNotV (fIsi "bool" (rdF 0)))))
def m_is_integer := runF 1 1 mb_is_integer
theorem sc_is_integer : FnScope ["value"] ["value"] (defScope (topS 16)) := ⟨rfl, rfl, rfl, by decide +kernel, rfl, by decide +kernel, by decide +kernel⟩
theorem bd_is_integer (T : Tx Lab.T K mg base w) : BodyOk P w K mg base ["value"] "is_integer" (topS 16) (T.A 0) (T.FD 0).code 0 mb_is_integer := by
  have sc := sc_is_integer
  intro cdv A outer s H E F hcv hW hgd hr
  exact (dss_one (ds_ret (pd_and (pd_isi (kit_int K) T.n_isinstance T.n_int (by decide +kernel) (pd_name 0)) (pd_one (pd_not (pd_isi (kit_bool K) T.n_isinstance T.n_bool (by decide +kernel) (pd_name 0)))))))
theorem ok_is_integer (T : Tx Lab.T K mg base w) : FnG P w K mg base 1 (T.A 0) (T.FD 0) ["value"] (spF K 1 m_is_integer) :=
  fn_F T.D_is_integer sc_is_integer rfl rfl (bd_is_integer T)
theorem b_is_integer (T : Tx Lab.T K mg base w) : Binds K (T.FD 0) ["value"] [] := T.D_is_integer.binds fun _ _ _ _ _ _ us hl => match us, hl with | [_], _ => rfl
def mb_is_record : DEnv → Option DFlow := (sSeq (sIf (fOr (fNot (fTst (fIsi "tuple" (rdF 0)))) (fNot (fTst (fChain leD leD (fC (.int 1)) (fLenN 0) (fC cv_MOST_COLUMNS))))) (sRet (fC (.bool false))) sNil) (sRet (fCB allD (fCons (fFrz (nLc (iSeq (rdF 0)) (gSet 1) fYes (fCB m_is_integer (fCons (rdF 1) fNil)) [1])) fNil))))
def m_is_record := runF 1 2 mb_is_record
theorem sc_is_record : FnScope ["value", "part"] ["value"] (defScope (topS 17)) := ⟨rfl, rfl, rfl, by decide +kernel, rfl, by decide +kernel, by decide +kernel⟩
theorem bd_is_record (T : Tx Lab.T K mg base w) : BodyOk P w K mg base ["value", "part"] "is_record" (topS 17) (T.A 1) (T.FD 1).code 1 mb_is_record := by
  have sc := sc_is_record
  intro cdv A outer s H E F hcv hW hgd hr
  exact (dss_cons (ds_if (pdt_w (pdw_or (pdt_not (pdt_val (pd_isi (kit_tuple K) T.n_isinstance T.n_tuple (by decide +kernel) (pd_name 0)))) (pdw_or1 (pdt_not (pdt_chain od_le od_le intD_b pd_int (pd_lenN 0 T.n_len) (pd_glob (T.c_MOST_COLUMNS).choose_spec.1 (T.c_MOST_COLUMNS).choose_spec.2.1 (T.c_MOST_COLUMNS).choose_spec.2.2)))))) (dss_one (ds_ret pd_bl)) dss_nil)
    (dss_one (ds_ret (pd_callB (cd_all rfl) T.n_all (by decide +kernel) (pda_cons (pn_pd (pn_lc [("part", 1)] sc.nd (di_seq (pd_name 0)) (blkOk_by (own := [("part", 1)]) (by kernel_rfl)) (fun _ _ _ _ _ => (gn_name 1 sc.nd)) (fun _ _ _ _ _ => dts_nil) (fun _ _ _ _ _ => (pd_call ((ok_is_integer T).mono (by decide)) runF_len hgd hr T.g_is_integer T.D_is_integer.kp (b_is_integer T) (pda_cons (pd_name 1) pda_nil))))) pda_nil)))))
theorem ok_is_record (T : Tx Lab.T K mg base w) : FnG P w K mg base 2 (T.A 1) (T.FD 1) ["value"] (spF K 1 m_is_record) :=
  fn_F T.D_is_record sc_is_record rfl rfl (bd_is_record T)
theorem b_is_record (T : Tx Lab.T K mg base w) : Binds K (T.FD 1) ["value"] [] := T.D_is_record.binds fun _ _ _ _ _ _ us hl => match us, hl with | [_], _ => rfl
def mb_check_table : DEnv → Option DFlow := (sSeq (sIf (fOr (fNot (fTst (fIsi "tuple" (rdF 0)))) (fNot (fTst (fChain leD leD (fC (.int 1)) (fLenN 0) (fC cv_MOST_RECORDS))))) (sRaise "InvalidTable" "index" (fC .none)) sNil) (sFor (iArg enumTA (fCons (rdF 0) fNil)) (gTupD 2 (gsCons (gSet 1) (gsCons (gSet 2) gsNil))) (sIf (fOr (fNot (fTst (fCB m_is_record (fCons (rdF 2) fNil)))) (fTst (fBin neD (fLenN 2) (fCB lenD (fCons (fIxN 0 (fC (.int 0))) fNil))))) (sRaise "InvalidTable" "index" (rdF 1)) sNil)))
def m_check_table := runX 1 3 mb_check_table
theorem sc_check_table : FnScope ["table", "index", "record"] ["table"] (defScope (topS 18)) := ⟨rfl, rfl, rfl, by decide +kernel, rfl, by decide +kernel, by decide +kernel⟩
theorem bd_check_table (T : Tx Lab.T K mg base w) : BodyX T.C P w K mg base ["table", "index", "record"] "check_table" (topS 18) (T.A 2) (T.FD 2).code 2 mb_check_table := by
  have sc := sc_check_table
  intro cdv A outer s H E F hcv tk hp hgd hr
  exact (dss_cons (ds_if (pdt_w (pdw_or (pdt_not (pdt_val (pd_isi (kit_tuple K) T.n_isinstance T.n_tuple (by decide +kernel) (pd_name 0)))) (pdw_or1 (pdt_not (pdt_chain od_le od_le intD_b pd_int (pd_lenN 0 T.n_len) (pd_glob (T.c_MOST_RECORDS).choose_spec.1 (T.c_MOST_RECORDS).choose_spec.2.1 (T.c_MOST_RECORDS).choose_spec.2.2)))))) (dss_one (ds_raise rfl tk T.x_InvalidTable T.xi_InvalidTable T.xt_InvalidTable (xo_InvalidTable T) (hr.mono (by decide)) (xb_InvalidTable T) T.xm_InvalidTable pd_non)) dss_nil)
    (dss_one (ds_for (di_enumA T.n_enumerate (pda_cons (pd_name 0) pda_nil)) (dg_tup (dgs_cons (dg_name 1 sc.nd) (dgs_cons (dg_name 2 sc.nd) dgs_nil))) (dss_one (ds_if (pdt_w (pdw_or (pdt_not (pdt_val (pd_call ((ok_is_record T).mono (by decide)) runF_len hgd hr T.g_is_record T.D_is_record.kp (b_is_record T) (pda_cons (pd_name 2) pda_nil)))) (pdw_or1 (pdt_cmp (od_ne hr) neD_b (pd_lenN 2 T.n_len) (pd_callB (cd_len) T.n_len (by decide +kernel) (pda_cons (pd_ixN 0 pd_int) pda_nil)))))) (dss_one (ds_raise rfl tk T.x_InvalidTable T.xi_InvalidTable T.xt_InvalidTable (xo_InvalidTable T) (hr.mono (by decide)) (xb_InvalidTable T) T.xm_InvalidTable (pd_name 1))) dss_nil)) hp)))
theorem okx_check_table (T : Tx Lab.T K mg base w) : FnX P w K mg base 3 (T.A 2) (T.FD 2) ["table"] (spX K T.C 1 m_check_table) :=
  fn_X T.D_check_table sc_check_table rfl rfl (bd_check_table T)
theorem b_check_table (T : Tx Lab.T K mg base w) : Binds K (T.FD 2) ["table"] [] := T.D_check_table.binds fun _ _ _ _ _ _ us hl => match us, hl with | [_], _ => rfl
def mb_count_columns : DEnv → Option DFlow := (sSeq (sExprX (fCX m_check_table (fCons (rdF 0) fNil))) (sRet (fCB lenD (fCons (fIxN 0 (fC (.int 0))) fNil))))
def m_count_columns := runX 1 1 mb_count_columns
theorem sc_count_columns : FnScope ["table"] ["table"] (defScope (topS 19)) := ⟨rfl, rfl, rfl, by decide +kernel, rfl, by decide +kernel, by decide +kernel⟩
theorem bd_count_columns (T : Tx Lab.T K mg base w) : BodyX T.C P w K mg base ["table"] "count_columns" (topS 19) (T.A 3) (T.FD 3).code 3 mb_count_columns := by
  have sc := sc_count_columns
  intro cdv A outer s H E F hcv tk hp hgd hr
  exact (dss_cons (ds_exprX (pdx_call tk ((okx_check_table T).mono (by decide)) runX_len hgd hr T.g_check_table T.D_check_table.kp (b_check_table T) (pda_cons (pd_name 0) pda_nil)))
    (dss_one (ds_ret (pd_callB (cd_len) T.n_len (by decide +kernel) (pda_cons (pd_ixN 0 pd_int) pda_nil)))))
theorem okx_count_columns (T : Tx Lab.T K mg base w) : FnX P w K mg base 4 (T.A 3) (T.FD 3) ["table"] (spX K T.C 1 m_count_columns) :=
  fn_X T.D_count_columns sc_count_columns rfl rfl (bd_count_columns T)
theorem b_count_columns (T : Tx Lab.T K mg base w) : Binds K (T.FD 3) ["table"] [] := T.D_count_columns.binds fun _ _ _ _ _ _ us hl => match us, hl with | [_], _ => rfl
def mb_every_place : DEnv → Option DFlow := (sRet (fTupRg (fLenN 0)))
def m_every_place := runF 1 1 mb_every_place
theorem sc_every_place : FnScope ["table"] ["table"] (defScope (topS 20)) := ⟨rfl, rfl, rfl, by decide +kernel, rfl, by decide +kernel, by decide +kernel⟩
theorem bd_every_place (T : Tx Lab.T K mg base w) : BodyOk P w K mg base ["table"] "every_place" (topS 20) (T.A 4) (T.FD 4).code 0 mb_every_place := by
  have sc := sc_every_place
  intro cdv A outer s H E F hcv hW hgd hr
  exact (dss_one (ds_ret (pd_tupRg T.n_tuple T.n_range (pd_lenN 0 T.n_len))))
theorem ok_every_place (T : Tx Lab.T K mg base w) : FnG P w K mg base 1 (T.A 4) (T.FD 4) ["table"] (spF K 1 m_every_place) :=
  fn_F T.D_every_place sc_every_place rfl rfl (bd_every_place T)
theorem b_every_place (T : Tx Lab.T K mg base w) : Binds K (T.FD 4) ["table"] [] := T.D_every_place.binds fun _ _ _ _ _ _ us hl => match us, hl with | [_], _ => rfl
def mb_check_columns_below : DEnv → Option DFlow := (sSeq (sSetN 2 (nLc (iSeq (rdF 0)) (gSet 3) (fTst (fBin geD (rdF 3) (rdF 1))) (rdF 3) [3])) (sIf (fTruN 2) sNone sNil))
def m_check_columns_below := runF 2 4 mb_check_columns_below
theorem sc_check_columns_below : FnScope ["columns", "width", "missing", "column"] ["columns", "width"] (defScope (topS 21)) := ⟨rfl, rfl, rfl, by decide +kernel, rfl, by decide +kernel, by decide +kernel⟩
theorem bd_check_columns_below (T : Tx Lab.T K mg base w) : BodyOk P w K mg base ["columns", "width", "missing", "column"] "check_columns_below" (topS 21) (T.A 5) (T.FD 5).code 0 mb_check_columns_below := by
  have sc := sc_check_columns_below
  intro cdv A outer s H E F hcv hW hgd hr
  exact (dss_cons (ds_setLc 2 [("column", 3)] sc.nd (di_seq (pd_name 0)) (blkOk_by (own := [("column", 3)]) (by kernel_rfl)) (fun _ _ _ _ _ => (gn_name 3 sc.nd)) (fun _ _ _ _ _ => (dts_one (pdt_cmp od_ge intD_b (pd_name 3) (pd_name 1)))) (fun _ _ _ _ _ => (pd_name 3)) (sw_true rfl rfl rfl (by decide +kernel)))
    (dss_one (ds_if (pdt_name 2) (dss_one ds_never) dss_nil)))
theorem ok_check_columns_below (T : Tx Lab.T K mg base w) : FnG P w K mg base 1 (T.A 5) (T.FD 5) ["columns", "width"] (spF K 2 m_check_columns_below) :=
  fn_F T.D_check_columns_below sc_check_columns_below rfl rfl (bd_check_columns_below T)
theorem b_check_columns_below (T : Tx Lab.T K mg base w) : Binds K (T.FD 5) ["columns", "width"] [] := T.D_check_columns_below.binds fun _ _ _ _ _ _ us hl => match us, hl with | [_, _], _ => rfl
def mb_is_word : DEnv → Option DFlow := (sRet (fAndV (fIsi "str" (rdF 0)) (fCmpN inD (rdF 0) 1)))
def m_is_word := runF 2 2 mb_is_word
theorem sc_is_word : FnScope ["value", "words"] ["value", "words"] (defScope (topS 24)) := ⟨rfl, rfl, rfl, by decide +kernel, rfl, by decide +kernel, by decide +kernel⟩
theorem bd_is_word (T : Tx Lab.T K mg base w) : BodyOk P w K mg base ["value", "words"] "is_word" (topS 24) (T.A 6) (T.FD 6).code 0 mb_is_word := by
  have sc := sc_is_word
  intro cdv A outer s H E F hcv hW hgd hr
  exact (dss_one (ds_ret (pd_and (pd_isi (kit_str K) T.n_isinstance T.n_str (by decide +kernel) (pd_name 0)) (pd_one (pd_cmpN (od_in hr) inD_scal (pd_name 0) 1)))))
theorem ok_is_word (T : Tx Lab.T K mg base w) : FnG P w K mg base 1 (T.A 6) (T.FD 6) ["value", "words"] (spF K 2 m_is_word) :=
  fn_F T.D_is_word sc_is_word rfl rfl (bd_is_word T)
theorem b_is_word (T : Tx Lab.T K mg base w) : Binds K (T.FD 6) ["value", "words"] [] := T.D_is_word.binds fun _ _ _ _ _ _ us hl => match us, hl with | [_, _], _ => rfl
def mb_is_pair : DEnv → Option DFlow := (sRet (fAndV (fIsi "tuple" (rdF 0)) (fBin eqD (fLenN 0) (fC (.int 2)))))
def m_is_pair := runF 1 1 mb_is_pair
theorem sc_is_pair : FnScope ["value"] ["value"] (defScope (topS 25)) := ⟨rfl, rfl, rfl, by decide +kernel, rfl, by decide +kernel, by decide +kernel⟩
theorem bd_is_pair (T : Tx Lab.T K mg base w) : BodyOk P w K mg base ["value"] "is_pair" (topS 25) (T.A 7) (T.FD 7).code 0 mb_is_pair := by
  have sc := sc_is_pair
  intro cdv A outer s H E F hcv hW hgd hr
  exact (dss_one (ds_ret (pd_and (pd_isi (kit_tuple K) T.n_isinstance T.n_tuple (by decide +kernel) (pd_name 0)) (pd_one (pd_cmp (od_eq hr) (pd_lenN 0 T.n_len) pd_int)))))
theorem ok_is_pair (T : Tx Lab.T K mg base w) : FnG P w K mg base 1 (T.A 7) (T.FD 7) ["value"] (spF K 1 m_is_pair) :=
  fn_F T.D_is_pair sc_is_pair rfl rfl (bd_is_pair T)
theorem b_is_pair (T : Tx Lab.T K mg base w) : Binds K (T.FD 7) ["value"] [] := T.D_is_pair.binds fun _ _ _ _ _ _ us hl => match us, hl with | [_], _ => rfl
def mb_is_sort_column : DEnv → Option DFlow := (sRet (fAndV (fCB m_is_integer (fCons (rdF 0) fNil)) (fChain leD ltD (fC (.int 0)) (rdF 0) (fC cv_MOST_KEYS))))
def m_is_sort_column := runF 1 1 mb_is_sort_column
theorem sc_is_sort_column : FnScope ["value"] ["value"] (defScope (topS 26)) := ⟨rfl, rfl, rfl, by decide +kernel, rfl, by decide +kernel, by decide +kernel⟩
theorem bd_is_sort_column (T : Tx Lab.T K mg base w) : BodyOk P w K mg base ["value"] "is_sort_column" (topS 26) (T.A 8) (T.FD 8).code 1 mb_is_sort_column := by
  have sc := sc_is_sort_column
  intro cdv A outer s H E F hcv hW hgd hr
  exact (dss_one (ds_ret (pd_and (pd_call ((ok_is_integer T).mono (by decide)) runF_len hgd hr T.g_is_integer T.D_is_integer.kp (b_is_integer T) (pda_cons (pd_name 0) pda_nil)) (pd_one (pd_chain od_le od_lt pd_int (pd_name 0) (pd_glob (T.c_MOST_KEYS).choose_spec.1 (T.c_MOST_KEYS).choose_spec.2.1 (T.c_MOST_KEYS).choose_spec.2.2))))))
theorem ok_is_sort_column (T : Tx Lab.T K mg base w) : FnG P w K mg base 2 (T.A 8) (T.FD 8) ["value"] (spF K 1 m_is_sort_column) :=
  fn_F T.D_is_sort_column sc_is_sort_column rfl rfl (bd_is_sort_column T)
theorem b_is_sort_column (T : Tx Lab.T K mg base w) : Binds K (T.FD 8) ["value"] [] := T.D_is_sort_column.binds fun _ _ _ _ _ _ us hl => match us, hl with | [_], _ => rfl
def mb_is_key : DEnv → Option DFlow := (sRet (fAndV (fCB m_is_pair (fCons (rdF 0) fNil)) (fAndV (fCB m_is_sort_column (fCons (fIxN 0 (fC (.int 0))) fNil)) (fCB m_is_word (fCons (fIxN 0 (fC (.int 1))) (fCons (fC cv_DIRECTIONS) fNil))))))
def m_is_key := runF 1 1 mb_is_key
theorem sc_is_key : FnScope ["value"] ["value"] (defScope (topS 27)) := ⟨rfl, rfl, rfl, by decide +kernel, rfl, by decide +kernel, by decide +kernel⟩
theorem bd_is_key (T : Tx Lab.T K mg base w) : BodyOk P w K mg base ["value"] "is_key" (topS 27) (T.A 9) (T.FD 9).code 2 mb_is_key := by
  have sc := sc_is_key
  intro cdv A outer s H E F hcv hW hgd hr
  exact (dss_one (ds_ret (pd_and (pd_call ((ok_is_pair T).mono (by decide)) runF_len hgd hr T.g_is_pair T.D_is_pair.kp (b_is_pair T) (pda_cons (pd_name 0) pda_nil)) (pd_and (pd_call ((ok_is_sort_column T).mono (by decide)) runF_len hgd hr T.g_is_sort_column T.D_is_sort_column.kp (b_is_sort_column T) (pda_cons (pd_ixN 0 pd_int) pda_nil)) (pd_one (pd_call ((ok_is_word T).mono (by decide)) runF_len hgd hr T.g_is_word T.D_is_word.kp (b_is_word T) (pda_cons (pd_ixN 0 pd_int) (pda_cons (pd_glob (T.c_DIRECTIONS).choose_spec.1 (T.c_DIRECTIONS).choose_spec.2.1 (T.c_DIRECTIONS).choose_spec.2.2) pda_nil))))))))
theorem ok_is_key (T : Tx Lab.T K mg base w) : FnG P w K mg base 3 (T.A 9) (T.FD 9) ["value"] (spF K 1 m_is_key) :=
  fn_F T.D_is_key sc_is_key rfl rfl (bd_is_key T)
theorem b_is_key (T : Tx Lab.T K mg base w) : Binds K (T.FD 9) ["value"] [] := T.D_is_key.binds fun _ _ _ _ _ _ us hl => match us, hl with | [_], _ => rfl
def mb_is_place_part : DEnv → Option DFlow := (sRet (fAndV (fCB m_is_pair (fCons (rdF 0) fNil)) (fAndV (fCB m_is_word (fCons (fIxN 0 (fC (.int 0))) (fCons (fTup (fCons (fC (.str "place")) fNil)) fNil))) (fCB m_is_word (fCons (fIxN 0 (fC (.int 1))) (fCons (fC cv_DIRECTIONS) fNil))))))
def m_is_place_part := runF 1 1 mb_is_place_part
theorem sc_is_place_part : FnScope ["value"] ["value"] (defScope (topS 28)) := ⟨rfl, rfl, rfl, by decide +kernel, rfl, by decide +kernel, by decide +kernel⟩
theorem bd_is_place_part (T : Tx Lab.T K mg base w) : BodyOk P w K mg base ["value"] "is_place_part" (topS 28) (T.A 10) (T.FD 10).code 1 mb_is_place_part := by
  have sc := sc_is_place_part
  intro cdv A outer s H E F hcv hW hgd hr
  exact (dss_one (ds_ret (pd_and (pd_call ((ok_is_pair T).mono (by decide)) runF_len hgd hr T.g_is_pair T.D_is_pair.kp (b_is_pair T) (pda_cons (pd_name 0) pda_nil)) (pd_and (pd_call ((ok_is_word T).mono (by decide)) runF_len hgd hr T.g_is_word T.D_is_word.kp (b_is_word T) (pda_cons (pd_ixN 0 pd_int) (pda_cons (pd_tup (pda_cons pd_str pda_nil)) pda_nil))) (pd_one (pd_call ((ok_is_word T).mono (by decide)) runF_len hgd hr T.g_is_word T.D_is_word.kp (b_is_word T) (pda_cons (pd_ixN 0 pd_int) (pda_cons (pd_glob (T.c_DIRECTIONS).choose_spec.1 (T.c_DIRECTIONS).choose_spec.2.1 (T.c_DIRECTIONS).choose_spec.2.2) pda_nil))))))))
theorem ok_is_place_part (T : Tx Lab.T K mg base w) : FnG P w K mg base 2 (T.A 10) (T.FD 10) ["value"] (spF K 1 m_is_place_part) :=
  fn_F T.D_is_place_part sc_is_place_part rfl rfl (bd_is_place_part T)
theorem b_is_place_part (T : Tx Lab.T K mg base w) : Binds K (T.FD 10) ["value"] [] := T.D_is_place_part.binds fun _ _ _ _ _ _ us hl => match us, hl with | [_], _ => rfl
def mb_check_order : DEnv → Option DFlow := (sSeq (sIf (fOr (fNot (fTst (fIsi "tuple" (rdF 0)))) (fTst (fBin eqD (fLenN 0) (fC (.int 0))))) sNone sNil) (sSeq (sSetN 1 (fLst fNil)) (sSeq (sFor (iArg enumTA (fCons (fSl (rdF 0) oNone (oSome (fNeg (fC (.int 1))))) fNil)) (gTupD 2 (gsCons (gSet 2) (gsCons (gSet 3) gsNil))) (sSeq (sIf (fOr (fNot (fTst (fCB m_is_key (fCons (rdF 3) fNil)))) (fTst (fCmpN inD (fIxN 3 (fC (.int 0))) 1))) sNone sNil) (sApp 1 (fIxN 3 (fC (.int 0)))))) (sIf (fNot (fTst (fCB m_is_place_part (fCons (fIxN 0 (fNeg (fC (.int 1)))) fNil)))) sNone sNil))))
def m_check_order := runF 1 4 mb_check_order
theorem sc_check_order : FnScope ["order", "columns", "index", "part"] ["order"] (defScope (topS 29)) := ⟨rfl, rfl, rfl, by decide +kernel, rfl, by decide +kernel, by decide +kernel⟩
theorem bd_check_order (T : Tx Lab.T K mg base w) : BodyOk P w K mg base ["order", "columns", "index", "part"] "check_order" (topS 29) (T.A 11) (T.FD 11).code 3 mb_check_order := by
  have sc := sc_check_order
  intro cdv A outer s H E F hcv hW hgd hr
  exact (dss_cons (ds_if (pdt_w (pdw_or (pdt_not (pdt_val (pd_isi (kit_tuple K) T.n_isinstance T.n_tuple (by decide +kernel) (pd_name 0)))) (pdw_or1 (pdt_cmp (od_eq hr) eqD_b (pd_lenN 0 T.n_len) pd_int)))) (dss_one ds_never) dss_nil)
    (dss_cons (ds_setN 1 (pn_lst pda_nil) sc.nd)
    (dss_cons (ds_for (di_enumA T.n_enumerate (pda_cons (pd_slice (pd_name 0) do_none (do_some (pd_neg pd_int))) pda_nil)) (dg_tup (dgs_cons (dg_name 2 sc.nd) (dgs_cons (dg_name 3 sc.nd) dgs_nil))) (dss_cons (ds_if (pdt_w (pdw_or (pdt_not (pdt_val (pd_call ((ok_is_key T).mono (by decide)) runF_len hgd hr T.g_is_key T.D_is_key.kp (b_is_key T) (pda_cons (pd_name 3) pda_nil)))) (pdw_or1 (pdt_cmpN (od_in hr) inD_scal inD_b (pd_ixN 3 pd_int) 1)))) (dss_one ds_never) dss_nil)
      (dss_one (ds_append 1 (pd_ixN 3 pd_int)))))
    (dss_one (ds_if (pdt_not (pdt_val (pd_call ((ok_is_place_part T).mono (by decide)) runF_len hgd hr T.g_is_place_part T.D_is_place_part.kp (b_is_place_part T) (pda_cons (pd_ixN 0 (pd_neg pd_int)) pda_nil)))) (dss_one ds_never) dss_nil)))))
theorem ok_check_order (T : Tx Lab.T K mg base w) : FnG P w K mg base 4 (T.A 11) (T.FD 11) ["order"] (spF K 1 m_check_order) :=
  fn_F T.D_check_order sc_check_order rfl rfl (bd_check_order T)
theorem b_check_order (T : Tx Lab.T K mg base w) : Binds K (T.FD 11) ["order"] [] := T.D_check_order.binds fun _ _ _ _ _ _ us hl => match us, hl with | [_], _ => rfl
def mb_opposite : DEnv → Option DFlow := (sRet (fIf (fTst (fBin eqD (rdF 0) (fC (.str "up")))) (fC (.str "down")) (fC (.str "up"))))
def m_opposite := runF 1 1 mb_opposite
theorem sc_opposite : FnScope ["direction"] ["direction"] (defScope (topS 30)) := ⟨rfl, rfl, rfl, by decide +kernel, rfl, by decide +kernel, by decide +kernel⟩
theorem bd_opposite (T : Tx Lab.T K mg base w) : BodyOk P w K mg base ["direction"] "opposite" (topS 30) (T.A 12) (T.FD 12).code 0 mb_opposite := by
  have sc := sc_opposite
  intro cdv A outer s H E F hcv hW hgd hr
  exact (dss_one (ds_ret (pd_if (pdt_cmp (od_eq hr) eqD_b (pd_name 0) pd_str) pd_str pd_str)))
theorem ok_opposite (T : Tx Lab.T K mg base w) : FnG P w K mg base 1 (T.A 12) (T.FD 12) ["direction"] (spF K 1 m_opposite) :=
  fn_F T.D_opposite sc_opposite rfl rfl (bd_opposite T)
theorem b_opposite (T : Tx Lab.T K mg base w) : Binds K (T.FD 12) ["direction"] [] := T.D_opposite.binds fun _ _ _ _ _ _ us hl => match us, hl with | [_], _ => rfl
def mb_turned : DEnv → Option DFlow := (sSeq (sExpr (fCB m_check_order (fCons (rdF 0) fNil))) (sRet (fCB tupleD (fCons (fFrz (nLc (iSeq (rdF 0)) (gTupD 2 (gsCons (gSet 1) (gsCons (gSet 2) gsNil))) fYes (fTup (fCons (rdF 1) (fCons (fCB m_opposite (fCons (rdF 2) fNil)) fNil))) [1, 2])) fNil))))
def m_turned := runF 1 3 mb_turned
theorem sc_turned : FnScope ["order", "part", "direction"] ["order"] (defScope (topS 31)) := ⟨rfl, rfl, rfl, by decide +kernel, rfl, by decide +kernel, by decide +kernel⟩
theorem bd_turned (T : Tx Lab.T K mg base w) : BodyOk P w K mg base ["order", "part", "direction"] "turned" (topS 31) (T.A 13) (T.FD 13).code 4 mb_turned := by
  have sc := sc_turned
  intro cdv A outer s H E F hcv hW hgd hr
  exact (dss_cons (ds_expr (pd_call ((ok_check_order T).mono (by decide)) runF_len hgd hr T.g_check_order T.D_check_order.kp (b_check_order T) (pda_cons (pd_name 0) pda_nil)))
    (dss_one (ds_ret (pd_callTy (cd_tuple) T.n_tuple (by decide +kernel) (pda_cons (pn_pd (pn_lc [("part", 1), ("direction", 2)] sc.nd (di_seq (pd_name 0)) (blkOk_by (own := [("part", 1), ("direction", 2)]) (by kernel_rfl)) (fun _ _ _ _ _ => (gn_tup (gns_cons (gn_name 1 sc.nd) (gns_cons (gn_name 2 sc.nd) gns_nil)))) (fun _ _ _ _ _ => dts_nil) (fun _ _ _ _ _ => (pd_tup (pda_cons (pd_name 1) (pda_cons (pd_call ((ok_opposite T).mono (by decide)) runF_len hgd hr T.g_opposite T.D_opposite.kp (b_opposite T) (pda_cons (pd_name 2) pda_nil)) pda_nil)))))) pda_nil)))))
theorem ok_turned (T : Tx Lab.T K mg base w) : FnG P w K mg base 5 (T.A 13) (T.FD 13) ["order"] (spF K 1 m_turned) :=
  fn_F T.D_turned sc_turned rfl rfl (bd_turned T)
theorem b_turned (T : Tx Lab.T K mg base w) : Binds K (T.FD 13) ["order"] [] := T.D_turned.binds fun _ _ _ _ _ _ us hl => match us, hl with | [_], _ => rfl
def mb_sort_values : DEnv → Option DFlow := (sSeq (sSetN 3 (fLst fNil)) (sSeq (sFor (iSeq (rdF 1)) (gTupD 2 (gsCons (gSet 4) (gsCons (gSet 5) gsNil))) (sSeq (sSet 6 (fIf (fTst (fBin eqD (rdF 4) (fC (.str "place")))) (rdF 2) (fBin ixD (fIxN 0 (rdF 2)) (rdF 4)))) (sApp 3 (fIf (fTst (fBin eqD (rdF 5) (fC (.str "up")))) (rdF 6) (fNeg (rdF 6)))))) (sRet (fCB tupleD (fCons (rdF 3) fNil)))))
def m_sort_values := runF 3 7 mb_sort_values
theorem sc_sort_values : FnScope ["table", "order", "place", "found", "part", "direction", "value"] ["table", "order", "place"] (defScope (topS 32)) := ⟨rfl, rfl, rfl, by decide +kernel, rfl, by decide +kernel, by decide +kernel⟩
theorem bd_sort_values (T : Tx Lab.T K mg base w) : BodyOk P w K mg base ["table", "order", "place", "found", "part", "direction", "value"] "sort_values" (topS 32) (T.A 14) (T.FD 14).code 0 mb_sort_values := by
  have sc := sc_sort_values
  intro cdv A outer s H E F hcv hW hgd hr
  exact (dss_cons (ds_setN 3 (pn_lst pda_nil) sc.nd)
    (dss_cons (ds_for (di_seq (pd_name 1)) (dg_tup (dgs_cons (dg_name 4 sc.nd) (dgs_cons (dg_name 5 sc.nd) dgs_nil))) (dss_cons (ds_set 6 (pd_if (pdt_cmp (od_eq hr) eqD_b (pd_name 4) pd_str) (pd_name 2) (pd_ix (pd_ixN 0 (pd_name 2)) (pd_name 4))) sc.nd)
      (dss_one (ds_append 3 (pd_if (pdt_cmp (od_eq hr) eqD_b (pd_name 5) pd_str) (pd_name 6) (pd_neg (pd_name 6)))))))
    (dss_one (ds_ret (pd_callTy (cd_tuple) T.n_tuple (by decide +kernel) (pda_cons (pd_name 3) pda_nil))))))
theorem ok_sort_values (T : Tx Lab.T K mg base w) : FnG P w K mg base 1 (T.A 14) (T.FD 14) ["table", "order", "place"] (spF K 3 m_sort_values) :=
  fn_F T.D_sort_values sc_sort_values rfl rfl (bd_sort_values T)
theorem b_sort_values (T : Tx Lab.T K mg base w) : Binds K (T.FD 14) ["table", "order", "place"] [] := T.D_sort_values.binds fun _ _ _ _ _ _ us hl => match us, hl with | [_, _, _], _ => rfl
def mb_sorted_places : DEnv → Option DFlow := (sRet (fCB tupleD (fCons (fFrz (nSortT (rdF 1) (fCB m_sort_values (fCons (rdF 0) (fCons (rdF 2) (fCons (rdF 3) fNil)))))) fNil)))
def m_sorted_places := runF 3 3 mb_sorted_places
theorem sc_sorted_places : FnScope ["table", "places", "order"] ["table", "places", "order"] (defScope (topS 33)) := ⟨rfl, rfl, rfl, by decide +kernel, rfl, by decide +kernel, by decide +kernel⟩
theorem bd_sorted_places (T : Tx Lab.T K mg base w) : BodyOk P w K mg base ["table", "places", "order"] "sorted_places" (topS 33) (T.A 15) (T.FD 15).code 4 mb_sorted_places := by
  have sc := sc_sorted_places
  intro cdv A outer s H E F hcv hW hgd hr
  exact (dss_one (ds_ret (pd_callTy (cd_tuple) T.n_tuple (by decide +kernel) (pda_cons (pn_pd (pn_sortT (k := 1) T.n_sorted T.tb_sorted_places (hcv.trans T.cd_sorted_places) T.lb_sorted_places T.lu_sorted_places (lam1_by (by kernel_rfl)) (hr.mono (by decide)) (by kernel_rfl) (fun _ _ _ _ _ _ => rfl) (pd_name 1) (fun _ _ _ _ hr => (pd_call ((ok_sort_values T).mono (by decide)) runF_len hgd hr T.g_sort_values T.D_sort_values.kp (b_sort_values T) (pda_cons (pd_name 0) (pda_cons (pd_name 2) (pda_cons (pd_name 3) pda_nil))))))) pda_nil))))
theorem ok_sorted_places (T : Tx Lab.T K mg base w) : FnG P w K mg base 5 (T.A 15) (T.FD 15) ["table", "places", "order"] (spF K 3 m_sorted_places) :=
  fn_F T.D_sorted_places sc_sorted_places rfl rfl (bd_sorted_places T)
theorem b_sorted_places (T : Tx Lab.T K mg base w) : Binds K (T.FD 15) ["table", "places", "order"] [] := T.D_sorted_places.binds fun _ _ _ _ _ _ us hl => match us, hl with | [_, _, _], _ => rfl
def mb_is_size : DEnv → Option DFlow := (sRet (fAndV (fCB m_is_integer (fCons (rdF 0) fNil)) (fChain leD leD (fC cv_LEAST_SIZE) (rdF 0) (fC cv_MOST_SIZE))))
def m_is_size := runF 1 1 mb_is_size
theorem sc_is_size : FnScope ["value"] ["value"] (defScope (topS 38)) := ⟨rfl, rfl, rfl, by decide +kernel, rfl, by decide +kernel, by decide +kernel⟩
theorem bd_is_size (T : Tx Lab.T K mg base w) : BodyOk P w K mg base ["value"] "is_size" (topS 38) (T.A 16) (T.FD 16).code 1 mb_is_size := by
  have sc := sc_is_size
  intro cdv A outer s H E F hcv hW hgd hr
  exact (dss_one (ds_ret (pd_and (pd_call ((ok_is_integer T).mono (by decide)) runF_len hgd hr T.g_is_integer T.D_is_integer.kp (b_is_integer T) (pda_cons (pd_name 0) pda_nil)) (pd_one (pd_chain od_le od_le (pd_glob (T.c_LEAST_SIZE).choose_spec.1 (T.c_LEAST_SIZE).choose_spec.2.1 (T.c_LEAST_SIZE).choose_spec.2.2) (pd_name 0) (pd_glob (T.c_MOST_SIZE).choose_spec.1 (T.c_MOST_SIZE).choose_spec.2.1 (T.c_MOST_SIZE).choose_spec.2.2))))))
theorem ok_is_size (T : Tx Lab.T K mg base w) : FnG P w K mg base 2 (T.A 16) (T.FD 16) ["value"] (spF K 1 m_is_size) :=
  fn_F T.D_is_size sc_is_size rfl rfl (bd_is_size T)
theorem b_is_size (T : Tx Lab.T K mg base w) : Binds K (T.FD 16) ["value"] [] := T.D_is_size.binds fun _ _ _ _ _ _ us hl => match us, hl with | [_], _ => rfl
def mb_is_times : DEnv → Option DFlow := (sRet (fAndV (fCB m_is_integer (fCons (rdF 0) fNil)) (fChain leD leD (fC (.int 1)) (rdF 0) (fC cv_MOST_TIMES))))
def m_is_times := runF 1 1 mb_is_times
theorem sc_is_times : FnScope ["value"] ["value"] (defScope (topS 39)) := ⟨rfl, rfl, rfl, by decide +kernel, rfl, by decide +kernel, by decide +kernel⟩
theorem bd_is_times (T : Tx Lab.T K mg base w) : BodyOk P w K mg base ["value"] "is_times" (topS 39) (T.A 17) (T.FD 17).code 1 mb_is_times := by
  have sc := sc_is_times
  intro cdv A outer s H E F hcv hW hgd hr
  exact (dss_one (ds_ret (pd_and (pd_call ((ok_is_integer T).mono (by decide)) runF_len hgd hr T.g_is_integer T.D_is_integer.kp (b_is_integer T) (pda_cons (pd_name 0) pda_nil)) (pd_one (pd_chain od_le od_le pd_int (pd_name 0) (pd_glob (T.c_MOST_TIMES).choose_spec.1 (T.c_MOST_TIMES).choose_spec.2.1 (T.c_MOST_TIMES).choose_spec.2.2))))))
theorem ok_is_times (T : Tx Lab.T K mg base w) : FnG P w K mg base 2 (T.A 17) (T.FD 17) ["value"] (spF K 1 m_is_times) :=
  fn_F T.D_is_times sc_is_times rfl rfl (bd_is_times T)
theorem b_is_times (T : Tx Lab.T K mg base w) : Binds K (T.FD 17) ["value"] [] := T.D_is_times.binds fun _ _ _ _ _ _ us hl => match us, hl with | [_], _ => rfl
def mb_is_plain_command : DEnv → Option DFlow := (sSeq (sIf (fOr (fNot (fTst (fIsi "tuple" (rdF 0)))) (fTst (fBin eqD (fLenN 0) (fC (.int 0))))) (sRet (fC (.bool false))) sNil) (sSeq (sIf (fTst (fCB m_is_word (fCons (fIxN 0 (fC (.int 0))) (fCons (fC cv_BARE_WORDS) fNil)))) (sRet (fBin eqD (fLenN 0) (fC (.int 1)))) sNil) (sSeq (sIf (fTst (fBin neD (fLenN 0) (fC (.int 2)))) (sRet (fC (.bool false))) sNil) (sSeq (sIf (fTst (fCB m_is_word (fCons (fIxN 0 (fC (.int 0))) (fCons (fC cv_DIRECTIONS) fNil)))) (sRet (fCB m_is_sort_column (fCons (fIxN 0 (fC (.int 1))) fNil))) sNil) (sRet (fAndV (fCB m_is_word (fCons (fIxN 0 (fC (.int 0))) (fCons (fC cv_CUTS) fNil))) (fCB m_is_size (fCons (fIxN 0 (fC (.int 1))) fNil))))))))
def m_is_plain_command := runF 1 1 mb_is_plain_command
theorem sc_is_plain_command : FnScope ["value"] ["value"] (defScope (topS 40)) := ⟨rfl, rfl, rfl, by decide +kernel, rfl, by decide +kernel, by decide +kernel⟩
theorem bd_is_plain_command (T : Tx Lab.T K mg base w) : BodyOk P w K mg base ["value"] "is_plain_command" (topS 40) (T.A 18) (T.FD 18).code 2 mb_is_plain_command := by
  have sc := sc_is_plain_command
  intro cdv A outer s H E F hcv hW hgd hr
  exact (dss_cons (ds_if (pdt_w (pdw_or (pdt_not (pdt_val (pd_isi (kit_tuple K) T.n_isinstance T.n_tuple (by decide +kernel) (pd_name 0)))) (pdw_or1 (pdt_cmp (od_eq hr) eqD_b (pd_lenN 0 T.n_len) pd_int)))) (dss_one (ds_ret pd_bl)) dss_nil)
    (dss_cons (ds_if (pdt_val (pd_call ((ok_is_word T).mono (by decide)) runF_len hgd hr T.g_is_word T.D_is_word.kp (b_is_word T) (pda_cons (pd_ixN 0 pd_int) (pda_cons (pd_glob (T.c_BARE_WORDS).choose_spec.1 (T.c_BARE_WORDS).choose_spec.2.1 (T.c_BARE_WORDS).choose_spec.2.2) pda_nil)))) (dss_one (ds_ret (pd_cmp (od_eq hr) (pd_lenN 0 T.n_len) pd_int))) dss_nil)
    (dss_cons (ds_if (pdt_cmp (od_ne hr) neD_b (pd_lenN 0 T.n_len) pd_int) (dss_one (ds_ret pd_bl)) dss_nil)
    (dss_cons (ds_if (pdt_val (pd_call ((ok_is_word T).mono (by decide)) runF_len hgd hr T.g_is_word T.D_is_word.kp (b_is_word T) (pda_cons (pd_ixN 0 pd_int) (pda_cons (pd_glob (T.c_DIRECTIONS).choose_spec.1 (T.c_DIRECTIONS).choose_spec.2.1 (T.c_DIRECTIONS).choose_spec.2.2) pda_nil)))) (dss_one (ds_ret (pd_call ((ok_is_sort_column T).mono (by decide)) runF_len hgd hr T.g_is_sort_column T.D_is_sort_column.kp (b_is_sort_column T) (pda_cons (pd_ixN 0 pd_int) pda_nil)))) dss_nil)
    (dss_one (ds_ret (pd_and (pd_call ((ok_is_word T).mono (by decide)) runF_len hgd hr T.g_is_word T.D_is_word.kp (b_is_word T) (pda_cons (pd_ixN 0 pd_int) (pda_cons (pd_glob (T.c_CUTS).choose_spec.1 (T.c_CUTS).choose_spec.2.1 (T.c_CUTS).choose_spec.2.2) pda_nil))) (pd_one (pd_call ((ok_is_size T).mono (by decide)) runF_len hgd hr T.g_is_size T.D_is_size.kp (b_is_size T) (pda_cons (pd_ixN 0 pd_int) pda_nil))))))))))
theorem ok_is_plain_command (T : Tx Lab.T K mg base w) : FnG P w K mg base 3 (T.A 18) (T.FD 18) ["value"] (spF K 1 m_is_plain_command) :=
  fn_F T.D_is_plain_command sc_is_plain_command rfl rfl (bd_is_plain_command T)
theorem b_is_plain_command (T : Tx Lab.T K mg base w) : Binds K (T.FD 18) ["value"] [] := T.D_is_plain_command.binds fun _ _ _ _ _ _ us hl => match us, hl with | [_], _ => rfl
def mb_begins_repeat : DEnv → Option DFlow := (sSeq (sIf (fOr (fNot (fTst (fIsi "tuple" (rdF 0)))) (fTst (fBin neD (fLenN 0) (fC (.int 3))))) (sRet (fC (.bool false))) sNil) (sRet (fAndV (fCB m_is_word (fCons (fIxN 0 (fC (.int 0))) (fCons (fTup (fCons (fC (.str "repeat")) fNil)) fNil))) (fCB m_is_times (fCons (fIxN 0 (fC (.int 1))) fNil)))))
def m_begins_repeat := runF 1 1 mb_begins_repeat
theorem sc_begins_repeat : FnScope ["value"] ["value"] (defScope (topS 41)) := ⟨rfl, rfl, rfl, by decide +kernel, rfl, by decide +kernel, by decide +kernel⟩
theorem bd_begins_repeat (T : Tx Lab.T K mg base w) : BodyOk P w K mg base ["value"] "begins_repeat" (topS 41) (T.A 19) (T.FD 19).code 2 mb_begins_repeat := by
  have sc := sc_begins_repeat
  intro cdv A outer s H E F hcv hW hgd hr
  exact (dss_cons (ds_if (pdt_w (pdw_or (pdt_not (pdt_val (pd_isi (kit_tuple K) T.n_isinstance T.n_tuple (by decide +kernel) (pd_name 0)))) (pdw_or1 (pdt_cmp (od_ne hr) neD_b (pd_lenN 0 T.n_len) pd_int)))) (dss_one (ds_ret pd_bl)) dss_nil)
    (dss_one (ds_ret (pd_and (pd_call ((ok_is_word T).mono (by decide)) runF_len hgd hr T.g_is_word T.D_is_word.kp (b_is_word T) (pda_cons (pd_ixN 0 pd_int) (pda_cons (pd_tup (pda_cons pd_str pda_nil)) pda_nil))) (pd_one (pd_call ((ok_is_times T).mono (by decide)) runF_len hgd hr T.g_is_times T.D_is_times.kp (b_is_times T) (pda_cons (pd_ixN 0 pd_int) pda_nil)))))))
theorem ok_begins_repeat (T : Tx Lab.T K mg base w) : FnG P w K mg base 3 (T.A 19) (T.FD 19) ["value"] (spF K 1 m_begins_repeat) :=
  fn_F T.D_begins_repeat sc_begins_repeat rfl rfl (bd_begins_repeat T)
theorem b_begins_repeat (T : Tx Lab.T K mg base w) : Binds K (T.FD 19) ["value"] [] := T.D_begins_repeat.binds fun _ _ _ _ _ _ us hl => match us, hl with | [_], _ => rfl
def mb_room_behind (rc : Nat → List PyData → Option PyData) : DEnv → Option DFlow := (sSeq (sIf (fOr (fNot (fTst (fIsi "tuple" (rdF 0)))) (fTst (fBin gtD (rdF 1) (fC cv_MOST_NESTED)))) (sRet (fNeg (fC (.int 1)))) sNil) (sSeq (sFor (iSeq (rdF 0)) (gSet 3) (sSeq (sIf (fTst (fBin ltD (rdF 2) (fC (.int 0)))) (sRet (rdF 2)) sNil) (sSet 2 (fCB (rc 1) (fCons (rdF 3) (fCons (rdF 1) (fCons (rdF 2) fNil))))))) (sRet (rdF 2))))
def mb_room_behind_command (rc : Nat → List PyData → Option PyData) : DEnv → Option DFlow := (sSeq (sIf (fTst (fCB m_is_plain_command (fCons (rdF 0) fNil))) (sRet (fBin subD (rdF 2) (fC (.int 1)))) sNil) (sSeq (sIf (fTst (fCB m_begins_repeat (fCons (rdF 0) fNil))) (sRet (fCB (rc 0) (fCons (fIxN 0 (fC (.int 2))) (fCons (fBin addD (rdF 1) (fC (.int 1))) (fCons (fBin subD (rdF 2) (fC (.int 1))) fNil))))) sNil) (sRet (fNeg (fC (.int 1))))))
def rc_room_behind : Nat → Nat → List PyData → Option PyData
  | 0, 0 => runF 3 4 sNone
  | 0, 1 => runF 3 3 sNone
  | 0, _ => fun _ => none
  | n + 1, 0 => runF 3 4 (mb_room_behind (rc_room_behind n))
  | n + 1, 1 => runF 3 3 (mb_room_behind_command (rc_room_behind n))
  | _ + 1, _ => fun _ => none
theorem rcl_room_behind : ∀ (n : Nat) (ds : List PyData) (r : PyData), rc_room_behind n 0 ds = some r → ds.length = 3
  | 0, ds, r, h => runF_len ds r h
  | _ + 1, ds, r, h => runF_len ds r h
theorem sc_room_behind : FnScope ["program", "depth", "room", "command"] ["program", "depth", "room"] (defScope (topS 42)) := ⟨rfl, rfl, rfl, by decide +kernel, rfl, by decide +kernel, by decide +kernel⟩
theorem b_room_behind (T : Tx Lab.T K mg base w) : Binds K (T.FD 20) ["program", "depth", "room"] [] := T.D_room_behind.binds fun _ _ _ _ _ _ us hl => match us, hl with | [_, _, _], _ => rfl
theorem rcl_room_behind_command : ∀ (n : Nat) (ds : List PyData) (r : PyData), rc_room_behind n 1 ds = some r → ds.length = 3
  | 0, ds, r, h => runF_len ds r h
  | _ + 1, ds, r, h => runF_len ds r h
theorem sc_room_behind_command : FnScope ["command", "depth", "room"] ["command", "depth", "room"] (defScope (topS 43)) := ⟨rfl, rfl, rfl, by decide +kernel, rfl, by decide +kernel, by decide +kernel⟩
theorem b_room_behind_command (T : Tx Lab.T K mg base w) : Binds K (T.FD 21) ["command", "depth", "room"] [] := T.D_room_behind_command.binds fun _ _ _ _ _ _ us hl => match us, hl with | [_, _, _], _ => rfl
theorem bd_room_behind (T : Tx Lab.T K mg base w) (n : Nat) (ih_room_behind : FnG P w K mg base (4 + n) (T.A 20) (T.FD 20) ["program", "depth", "room"] (spF K 3 (rc_room_behind n 0))) (ih_room_behind_command : FnG P w K mg base (4 + n) (T.A 21) (T.FD 21) ["command", "depth", "room"] (spF K 3 (rc_room_behind n 1))) : BodyOk P w K mg base ["program", "depth", "room", "command"] "room_behind" (topS 42) (T.A 20) (T.FD 20).code (4 + n) (mb_room_behind (rc_room_behind n)) := by
  have sc := sc_room_behind
  intro cdv A outer s H E F hcv hW hgd hr
  exact (dss_cons (ds_if (pdt_w (pdw_or (pdt_not (pdt_val (pd_isi (kit_tuple K) T.n_isinstance T.n_tuple (by decide +kernel) (pd_name 0)))) (pdw_or1 (pdt_cmp od_gt intD_b (pd_name 1) (pd_glob (T.c_MOST_NESTED).choose_spec.1 (T.c_MOST_NESTED).choose_spec.2.1 (T.c_MOST_NESTED).choose_spec.2.2))))) (dss_one (ds_ret (pd_neg pd_int))) dss_nil)
    (dss_cons (ds_for (di_seq (pd_name 0)) (dg_name 3 sc.nd) (dss_cons (ds_if (pdt_cmp od_lt intD_b (pd_name 2) pd_int) (dss_one (ds_ret (pd_name 2))) dss_nil)
      (dss_one (ds_set 2 (pd_call (ih_room_behind_command.mono (Nat.le_refl _)) (rcl_room_behind_command n) hgd hr T.g_room_behind_command T.D_room_behind_command.kp (b_room_behind_command T) (pda_cons (pd_name 3) (pda_cons (pd_name 1) (pda_cons (pd_name 2) pda_nil)))) sc.nd))))
    (dss_one (ds_ret (pd_name 2)))))
theorem bd_room_behind_command (T : Tx Lab.T K mg base w) (n : Nat) (ih_room_behind : FnG P w K mg base (4 + n) (T.A 20) (T.FD 20) ["program", "depth", "room"] (spF K 3 (rc_room_behind n 0))) (ih_room_behind_command : FnG P w K mg base (4 + n) (T.A 21) (T.FD 21) ["command", "depth", "room"] (spF K 3 (rc_room_behind n 1))) : BodyOk P w K mg base ["command", "depth", "room"] "room_behind_command" (topS 43) (T.A 21) (T.FD 21).code (4 + n) (mb_room_behind_command (rc_room_behind n)) := by
  have sc := sc_room_behind_command
  intro cdv A outer s H E F hcv hW hgd hr
  exact (dss_cons (ds_if (pdt_val (pd_call ((ok_is_plain_command T).mono (by omega)) runF_len hgd hr T.g_is_plain_command T.D_is_plain_command.kp (b_is_plain_command T) (pda_cons (pd_name 0) pda_nil))) (dss_one (ds_ret (pd_bin od_sub (pd_name 2) pd_int))) dss_nil)
    (dss_cons (ds_if (pdt_val (pd_call ((ok_begins_repeat T).mono (by omega)) runF_len hgd hr T.g_begins_repeat T.D_begins_repeat.kp (b_begins_repeat T) (pda_cons (pd_name 0) pda_nil))) (dss_one (ds_ret (pd_call (ih_room_behind.mono (Nat.le_refl _)) (rcl_room_behind n) hgd hr T.g_room_behind T.D_room_behind.kp (b_room_behind T) (pda_cons (pd_ixN 0 pd_int) (pda_cons (pd_bin od_add (pd_name 1) pd_int) (pda_cons (pd_bin od_sub (pd_name 2) pd_int) pda_nil)))))) dss_nil)
    (dss_one (ds_ret (pd_neg pd_int)))))
theorem okn_room_behind (T : Tx Lab.T K mg base w) : ∀ n : Nat, FnG P w K mg base (4 + n) (T.A 20) (T.FD 20) ["program", "depth", "room"] (spF K 3 (rc_room_behind n 0)) ∧ FnG P w K mg base (4 + n) (T.A 21) (T.FD 21) ["command", "depth", "room"] (spF K 3 (rc_room_behind n 1))
  | 0 => ⟨fn_F (k := 3) T.D_room_behind sc_room_behind rfl rfl (fun _ _ _ _ _ _ _ _ _ _ _ => dss_never), fn_F (k := 3) T.D_room_behind_command sc_room_behind_command rfl rfl (fun _ _ _ _ _ _ _ _ _ _ _ => dss_never)⟩
  | n + 1 => by
    have h := okn_room_behind T n
    exact ⟨fn_F T.D_room_behind sc_room_behind rfl rfl (bd_room_behind T n h.1 h.2), fn_F T.D_room_behind_command sc_room_behind_command rfl rfl (bd_room_behind_command T n h.1 h.2)⟩
def m_room_behind_command := rc_room_behind 12 1
theorem ok_room_behind_command (T : Tx Lab.T K mg base w) : FnG P w K mg base 16 (T.A 21) (T.FD 21) ["command", "depth", "room"] (spF K 3 m_room_behind_command) := (okn_room_behind T 12).2
def mb_check_program : DEnv → Option DFlow := (sSeq (sIf (fNot (fTst (fIsi "tuple" (rdF 0)))) (sRaise "InvalidProgram" "index" (fC .none)) sNil) (sSeq (sSet 1 (fC cv_MOST_COMMANDS)) (sFor (iArg enumTA (fCons (rdF 0) fNil)) (gTupD 2 (gsCons (gSet 2) (gsCons (gSet 3) gsNil))) (sSeq (sSet 1 (fCB m_room_behind_command (fCons (rdF 3) (fCons (fC (.int 1)) (fCons (rdF 1) fNil))))) (sIf (fTst (fBin ltD (rdF 1) (fC (.int 0)))) (sRaise "InvalidProgram" "index" (rdF 2)) sNil)))))
def m_check_program := runX 1 4 mb_check_program
theorem sc_check_program : FnScope ["program", "room", "index", "command"] ["program"] (defScope (topS 44)) := ⟨rfl, rfl, rfl, by decide +kernel, rfl, by decide +kernel, by decide +kernel⟩
theorem bd_check_program (T : Tx Lab.T K mg base w) : BodyX T.C P w K mg base ["program", "room", "index", "command"] "check_program" (topS 44) (T.A 22) (T.FD 22).code 16 mb_check_program := by
  have sc := sc_check_program
  intro cdv A outer s H E F hcv tk hp hgd hr
  exact (dss_cons (ds_if (pdt_not (pdt_val (pd_isi (kit_tuple K) T.n_isinstance T.n_tuple (by decide +kernel) (pd_name 0)))) (dss_one (ds_raise rfl tk T.x_InvalidProgram T.xi_InvalidProgram T.xt_InvalidProgram (xo_InvalidProgram T) (hr.mono (by decide)) (xb_InvalidProgram T) T.xm_InvalidProgram pd_non)) dss_nil)
    (dss_cons (ds_set 1 (pd_glob (T.c_MOST_COMMANDS).choose_spec.1 (T.c_MOST_COMMANDS).choose_spec.2.1 (T.c_MOST_COMMANDS).choose_spec.2.2) sc.nd)
    (dss_one (ds_for (di_enumA T.n_enumerate (pda_cons (pd_name 0) pda_nil)) (dg_tup (dgs_cons (dg_name 2 sc.nd) (dgs_cons (dg_name 3 sc.nd) dgs_nil))) (dss_cons (ds_set 1 (pd_call ((ok_room_behind_command T).mono (by decide)) (rcl_room_behind_command 12) hgd hr T.g_room_behind_command T.D_room_behind_command.kp (b_room_behind_command T) (pda_cons (pd_name 3) (pda_cons pd_int (pda_cons (pd_name 1) pda_nil)))) sc.nd)
      (dss_one (ds_if (pdt_cmp od_lt intD_b (pd_name 1) pd_int) (dss_one (ds_raise rfl tk T.x_InvalidProgram T.xi_InvalidProgram T.xt_InvalidProgram (xo_InvalidProgram T) (hr.mono (by decide)) (xb_InvalidProgram T) T.xm_InvalidProgram (pd_name 2))) dss_nil))) hp))))
theorem okx_check_program (T : Tx Lab.T K mg base w) : FnX P w K mg base 17 (T.A 22) (T.FD 22) ["program"] (spX K T.C 1 m_check_program) :=
  fn_X T.D_check_program sc_check_program rfl rfl (bd_check_program T)
def mo_check_program (ds : List PyData) : Option PyData := okX (m_check_program ds)
theorem ok_check_program (T : Tx Lab.T K mg base w) : FnG P w K mg base 17 (T.A 22) (T.FD 22) ["program"] (spF K 1 mo_check_program) := fng_of_x (okx_check_program T) rfl
theorem b_check_program (T : Tx Lab.T K mg base w) : Binds K (T.FD 22) ["program"] [] := T.D_check_program.binds fun _ _ _ _ _ _ us hl => match us, hl with | [_], _ => rfl
def mb_is_program : DEnv → Option DFlow := (sSeq (sTry mt_InvalidProgram (sExprX (fCX m_check_program (fCons (rdF 0) fNil))) (sRet (fC (.bool false)))) (sRet (fC (.bool true))))
def m_is_program := runX 1 1 mb_is_program
theorem sc_is_program : FnScope ["value"] ["value"] (defScope (topS 45)) := ⟨rfl, rfl, rfl, by decide +kernel, rfl, by decide +kernel, by decide +kernel⟩
theorem bd_is_program (T : Tx Lab.T K mg base w) : BodyX T.C P w K mg base ["value"] "is_program" (topS 45) (T.A 23) (T.FD 23).code 17 mb_is_program := by
  have sc := sc_is_program
  intro cdv A outer s H E F hcv tk hp hgd hr
  exact (dss_cons (ds_try (mtk_InvalidProgram T) rfl rfl ⟨rfl, by decide, .inl T.xm_InvalidProgram⟩ tk (fun F pn xe tk hp => (dss_one (ds_exprX (pdx_call tk ((okx_check_program T).mono (by decide)) runX_len hgd hr T.g_check_program T.D_check_program.kp (b_check_program T) (pda_cons (pd_name 0) pda_nil))))) (fun _ _ _ _ _ _ _ => (dss_one (ds_ret pd_bl))))
    (dss_one (ds_ret pd_bl)))
theorem okx_is_program (T : Tx Lab.T K mg base w) : FnX P w K mg base 18 (T.A 23) (T.FD 23) ["value"] (spX K T.C 1 m_is_program) :=
  fn_X T.D_is_program sc_is_program rfl rfl (bd_is_program T)
def mo_is_program (ds : List PyData) : Option PyData := okX (m_is_program ds)
theorem ok_is_program (T : Tx Lab.T K mg base w) : FnG P w K mg base 18 (T.A 23) (T.FD 23) ["value"] (spF K 1 mo_is_program) := fng_of_x (okx_is_program T) rfl
theorem b_is_program (T : Tx Lab.T K mg base w) : Binds K (T.FD 23) ["value"] [] := T.D_is_program.binds fun _ _ _ _ _ _ us hl => match us, hl with | [_], _ => rfl
def mb_count_performed (rc : Nat → List PyData → Option PyData) : DEnv → Option DFlow := (sSeq (sIf (fTst (fBin eqD (fIxN 0 (fC (.int 0))) (fC (.str "repeat")))) (sRet (fBin mulBD (fIxN 0 (fC (.int 1))) (fCB sumD (fCons (fFrz (nLc (iSeq (fIxN 0 (fC (.int 2)))) (gSet 1) fYes (fCB (rc 0) (fCons (rdF 1) fNil)) [1])) fNil)))) sNil) (sRet (fC (.int 1))))
def rc_count_performed : Nat → Nat → List PyData → Option PyData
  | 0, 0 => runF 1 2 sNone
  | 0, _ => fun _ => none
  | n + 1, 0 => runF 1 2 (mb_count_performed (rc_count_performed n))
  | _ + 1, _ => fun _ => none
theorem rcl_count_performed : ∀ (n : Nat) (ds : List PyData) (r : PyData), rc_count_performed n 0 ds = some r → ds.length = 1
  | 0, ds, r, h => runF_len ds r h
  | _ + 1, ds, r, h => runF_len ds r h
theorem sc_count_performed : FnScope ["command", "inner"] ["command"] (defScope (topS 46)) := ⟨rfl, rfl, rfl, by decide +kernel, rfl, by decide +kernel, by decide +kernel⟩
theorem b_count_performed (T : Tx Lab.T K mg base w) : Binds K (T.FD 24) ["command"] [] := T.D_count_performed.binds fun _ _ _ _ _ _ us hl => match us, hl with | [_], _ => rfl
theorem bd_count_performed (T : Tx Lab.T K mg base w) (n : Nat) (ih_count_performed : FnG P w K mg base (1 + n) (T.A 24) (T.FD 24) ["command"] (spF K 1 (rc_count_performed n 0))) : BodyOk P w K mg base ["command", "inner"] "count_performed" (topS 46) (T.A 24) (T.FD 24).code (1 + n) (mb_count_performed (rc_count_performed n)) := by
  have sc := sc_count_performed
  intro cdv A outer s H E F hcv hW hgd hr
  exact (dss_cons (ds_if (pdt_cmp (od_eq hr) eqD_b (pd_ixN 0 pd_int) pd_str) (dss_one (ds_ret (pd_bin od_mulB (pd_ixN 0 pd_int) (pd_callB (cd_sum rfl) T.n_sum (by decide +kernel) (pda_cons (pn_pd (pn_lc [("inner", 1)] sc.nd (di_seq (pd_ixN 0 pd_int)) (blkOk_by (own := [("inner", 1)]) (by kernel_rfl)) (fun _ _ _ _ _ => (gn_name 1 sc.nd)) (fun _ _ _ _ _ => dts_nil) (fun _ _ _ _ _ => (pd_call (ih_count_performed.mono (Nat.le_refl _)) (rcl_count_performed n) hgd hr T.g_count_performed T.D_count_performed.kp (b_count_performed T) (pda_cons (pd_name 1) pda_nil))))) pda_nil))))) dss_nil)
    (dss_one (ds_ret pd_int)))
theorem okn_count_performed (T : Tx Lab.T K mg base w) : ∀ n : Nat, FnG P w K mg base (1 + n) (T.A 24) (T.FD 24) ["command"] (spF K 1 (rc_count_performed n 0))
  | 0 => fn_F (k := 0) T.D_count_performed sc_count_performed rfl rfl (fun _ _ _ _ _ _ _ _ _ _ _ => dss_never)
  | n + 1 => by
    have h := okn_count_performed T n
    exact fn_F T.D_count_performed sc_count_performed rfl rfl (bd_count_performed T n h)
def m_count_performed := rc_count_performed 12 0
theorem ok_count_performed (T : Tx Lab.T K mg base w) : FnG P w K mg base 13 (T.A 24) (T.FD 24) ["command"] (spF K 1 m_count_performed) := (okn_count_performed T 12)
def mb_count_commands : DEnv → Option DFlow := (sSeq (sExpr (fCB mo_check_program (fCons (rdF 0) fNil))) (sRet (fCB sumD (fCons (fFrz (nLc (iSeq (rdF 0)) (gSet 1) fYes (fCB m_count_performed (fCons (rdF 1) fNil)) [1])) fNil))))
def m_count_commands := runF 1 2 mb_count_commands
theorem sc_count_commands : FnScope ["program", "command"] ["program"] (defScope (topS 47)) := ⟨rfl, rfl, rfl, by decide +kernel, rfl, by decide +kernel, by decide +kernel⟩
theorem bd_count_commands (T : Tx Lab.T K mg base w) : BodyOk P w K mg base ["program", "command"] "count_commands" (topS 47) (T.A 25) (T.FD 25).code 17 mb_count_commands := by
  have sc := sc_count_commands
  intro cdv A outer s H E F hcv hW hgd hr
  exact (dss_cons (ds_expr (pd_call ((ok_check_program T).mono (by decide)) okX_len hgd hr T.g_check_program T.D_check_program.kp (b_check_program T) (pda_cons (pd_name 0) pda_nil)))
    (dss_one (ds_ret (pd_callB (cd_sum rfl) T.n_sum (by decide +kernel) (pda_cons (pn_pd (pn_lc [("command", 1)] sc.nd (di_seq (pd_name 0)) (blkOk_by (own := [("command", 1)]) (by kernel_rfl)) (fun _ _ _ _ _ => (gn_name 1 sc.nd)) (fun _ _ _ _ _ => dts_nil) (fun _ _ _ _ _ => (pd_call ((ok_count_performed T).mono (by decide)) (rcl_count_performed 12) hgd hr T.g_count_performed T.D_count_performed.kp (b_count_performed T) (pda_cons (pd_name 1) pda_nil))))) pda_nil)))))
theorem ok_count_commands (T : Tx Lab.T K mg base w) : FnG P w K mg base 18 (T.A 25) (T.FD 25) ["program"] (spF K 1 m_count_commands) :=
  fn_F T.D_count_commands sc_count_commands rfl rfl (bd_count_commands T)
theorem b_count_commands (T : Tx Lab.T K mg base w) : Binds K (T.FD 25) ["program"] [] := T.D_count_commands.binds fun _ _ _ _ _ _ us hl => match us, hl with | [_], _ => rfl
def mb_program_columns (rc : Nat → List PyData → Option PyData) : DEnv → Option DFlow := (sSeq (sSetN 1 (fLst fNil)) (sSeq (sFor (iSeq (rdF 0)) (gSet 2) (sIf (fTst (fBin inD (fIxN 2 (fC (.int 0))) (fC cv_DIRECTIONS))) (sApp 1 (fIxN 2 (fC (.int 1)))) (sIf (fTst (fBin eqD (fIxN 2 (fC (.int 0))) (fC (.str "repeat")))) (sExt 1 (fCB (rc 0) (fCons (fIxN 2 (fC (.int 2))) fNil))) sNil))) (sRet (rdF 1))))
def rc_program_columns : Nat → Nat → List PyData → Option PyData
  | 0, 0 => runF 1 3 sNone
  | 0, _ => fun _ => none
  | n + 1, 0 => runF 1 3 (mb_program_columns (rc_program_columns n))
  | _ + 1, _ => fun _ => none
theorem rcl_program_columns : ∀ (n : Nat) (ds : List PyData) (r : PyData), rc_program_columns n 0 ds = some r → ds.length = 1
  | 0, ds, r, h => runF_len ds r h
  | _ + 1, ds, r, h => runF_len ds r h
theorem sc_program_columns : FnScope ["program", "columns", "command"] ["program"] (defScope (topS 48)) := ⟨rfl, rfl, rfl, by decide +kernel, rfl, by decide +kernel, by decide +kernel⟩
theorem b_program_columns (T : Tx Lab.T K mg base w) : Binds K (T.FD 26) ["program"] [] := T.D_program_columns.binds fun _ _ _ _ _ _ us hl => match us, hl with | [_], _ => rfl
theorem bd_program_columns (T : Tx Lab.T K mg base w) (n : Nat) (ih_program_columns : FnG P w K mg base (1 + n) (T.A 26) (T.FD 26) ["program"] (spF K 1 (rc_program_columns n 0))) : BodyOk P w K mg base ["program", "columns", "command"] "program_columns" (topS 48) (T.A 26) (T.FD 26).code (1 + n) (mb_program_columns (rc_program_columns n)) := by
  have sc := sc_program_columns
  intro cdv A outer s H E F hcv hW hgd hr
  exact (dss_cons (ds_setN 1 (pn_lst pda_nil) sc.nd)
    (dss_cons (ds_for (di_seq (pd_name 0)) (dg_name 2 sc.nd) (dss_one (ds_if (pdt_cmp (od_in hr) inD_b (pd_ixN 2 pd_int) (pd_glob (T.c_DIRECTIONS).choose_spec.1 (T.c_DIRECTIONS).choose_spec.2.1 (T.c_DIRECTIONS).choose_spec.2.2)) (dss_one (ds_append 1 (pd_ixN 2 pd_int))) (dss_one (ds_if (pdt_cmp (od_eq hr) eqD_b (pd_ixN 2 pd_int) pd_str) (dss_one (ds_extend 1 (pd_call (ih_program_columns.mono (Nat.le_refl _)) (rcl_program_columns n) hgd hr T.g_program_columns T.D_program_columns.kp (b_program_columns T) (pda_cons (pd_ixN 2 pd_int) pda_nil)))) dss_nil)))))
    (dss_one (ds_ret (pd_name 1)))))
theorem okn_program_columns (T : Tx Lab.T K mg base w) : ∀ n : Nat, FnG P w K mg base (1 + n) (T.A 26) (T.FD 26) ["program"] (spF K 1 (rc_program_columns n 0))
  | 0 => fn_F (k := 0) T.D_program_columns sc_program_columns rfl rfl (fun _ _ _ _ _ _ _ _ _ _ _ => dss_never)
  | n + 1 => by
    have h := okn_program_columns T n
    exact fn_F T.D_program_columns sc_program_columns rfl rfl (bd_program_columns T n h)
def m_program_columns := rc_program_columns 12 0
theorem ok_program_columns (T : Tx Lab.T K mg base w) : FnG P w K mg base 13 (T.A 26) (T.FD 26) ["program"] (spF K 1 m_program_columns) := (okn_program_columns T 12)
def mb_written_command (rc : Nat → List PyData → Option PyData) : DEnv → Option DFlow := (sSeq (sIf (fTst (fBin inD (fIxN 0 (fC (.int 0))) (fC cv_BARE_WORDS))) (sRet (fIxN 0 (fC (.int 0)))) sNil) (sSeq (sIf (fTst (fBin eqD (fIxN 0 (fC (.int 0))) (fC (.str "repeat")))) (sSeq (sSetN 1 (nLc (iSeq (fIxN 0 (fC (.int 2)))) (gSet 2) fYes (fCB (rc 0) (fCons (rdF 2) fNil)) [2])) (sRet (fTM1 joinG (fC (.str " ")) (fFrz (nAdd (fFrz (nAdd (fFrz (fLst (fCons (fC (.str "(")) fNil))) (rdF 1))) (fFrz (fLst (fCons (fJoined (fJCons (fC (.str ")x")) (fJCons (fFmt (fIxN 0 (fC (.int 1)))) fJNil))) fNil)))))))) sNil) (sRet (fJoined (fJCons (fFmt (fIxN 0 (fC (.int 0)))) (fJCons (fC (.str ":")) (fJCons (fFmt (fIxN 0 (fC (.int 1)))) fJNil)))))))
def rc_written_command : Nat → Nat → List PyData → Option PyData
  | 0, 0 => runF 1 3 sNone
  | 0, _ => fun _ => none
  | n + 1, 0 => runF 1 3 (mb_written_command (rc_written_command n))
  | _ + 1, _ => fun _ => none
theorem rcl_written_command : ∀ (n : Nat) (ds : List PyData) (r : PyData), rc_written_command n 0 ds = some r → ds.length = 1
  | 0, ds, r, h => runF_len ds r h
  | _ + 1, ds, r, h => runF_len ds r h
theorem sc_written_command : FnScope ["command", "inside", "inner"] ["command"] (defScope (topS 50)) := ⟨rfl, rfl, rfl, by decide +kernel, rfl, by decide +kernel, by decide +kernel⟩
theorem b_written_command (T : Tx Lab.T K mg base w) : Binds K (T.FD 27) ["command"] [] := T.D_written_command.binds fun _ _ _ _ _ _ us hl => match us, hl with | [_], _ => rfl
theorem bd_written_command (T : Tx Lab.T K mg base w) (n : Nat) (ih_written_command : FnG P w K mg base (1 + n) (T.A 27) (T.FD 27) ["command"] (spF K 1 (rc_written_command n 0))) : BodyOk P w K mg base ["command", "inside", "inner"] "written_command" (topS 50) (T.A 27) (T.FD 27).code (1 + n) (mb_written_command (rc_written_command n)) := by
  have sc := sc_written_command
  intro cdv A outer s H E F hcv hW hgd hr
  exact (dss_cons (ds_if (pdt_cmp (od_in hr) inD_b (pd_ixN 0 pd_int) (pd_glob (T.c_BARE_WORDS).choose_spec.1 (T.c_BARE_WORDS).choose_spec.2.1 (T.c_BARE_WORDS).choose_spec.2.2)) (dss_one (ds_ret (pd_ixN 0 pd_int))) dss_nil)
    (dss_cons (ds_if (pdt_cmp (od_eq hr) eqD_b (pd_ixN 0 pd_int) pd_str) (dss_cons (ds_setLc 1 [("inner", 2)] sc.nd (di_seq (pd_ixN 0 pd_int)) (blkOk_by (own := [("inner", 2)]) (by kernel_rfl)) (fun _ _ _ _ _ => (gn_name 2 sc.nd)) (fun _ _ _ _ _ => dts_nil) (fun _ _ _ _ _ => (pd_call (ih_written_command.mono (Nat.le_refl _)) (rcl_written_command n) hgd hr T.g_written_command T.D_written_command.kp (b_written_command T) (pda_cons (pd_name 2) pda_nil))) (sw_true rfl rfl rfl (by decide +kernel)))
      (dss_one (ds_ret (pd_join pd_str (pn_pd (pn_addL (pn_pd (pn_addL (pn_pd (pn_lst (pda_cons pd_str pda_nil))) (pd_name 1))) (pn_pd (pn_lst (pda_cons (pd_joined (.cons pd_str (.cons (pd_fmt (pd_ixN 0 pd_int)) .nil))) pda_nil))))))))) dss_nil)
    (dss_one (ds_ret (pd_joined (.cons (pd_fmt (pd_ixN 0 pd_int)) (.cons pd_str (.cons (pd_fmt (pd_ixN 0 pd_int)) .nil))))))))
theorem okn_written_command (T : Tx Lab.T K mg base w) : ∀ n : Nat, FnG P w K mg base (1 + n) (T.A 27) (T.FD 27) ["command"] (spF K 1 (rc_written_command n 0))
  | 0 => fn_F (k := 0) T.D_written_command sc_written_command rfl rfl (fun _ _ _ _ _ _ _ _ _ _ _ => dss_never)
  | n + 1 => by
    have h := okn_written_command T n
    exact fn_F T.D_written_command sc_written_command rfl rfl (bd_written_command T n h)
def m_written_command := rc_written_command 12 0
theorem ok_written_command (T : Tx Lab.T K mg base w) : FnG P w K mg base 13 (T.A 27) (T.FD 27) ["command"] (spF K 1 m_written_command) := (okn_written_command T 12)
def mb_format_program : DEnv → Option DFlow := (sSeq (sExprX (fCX m_check_program (fCons (rdF 0) fNil))) (sRet (fTM1 joinG (fC (.str " ")) (fFrz (nLc (iSeq (rdF 0)) (gSet 1) fYes (fCB m_written_command (fCons (rdF 1) fNil)) [1])))))
def m_format_program := runX 1 2 mb_format_program
theorem sc_format_program : FnScope ["program", "command"] ["program"] (defScope (topS 51)) := ⟨rfl, rfl, rfl, by decide +kernel, rfl, by decide +kernel, by decide +kernel⟩
theorem bd_format_program (T : Tx Lab.T K mg base w) : BodyX T.C P w K mg base ["program", "command"] "format_program" (topS 51) (T.A 28) (T.FD 28).code 17 mb_format_program := by
  have sc := sc_format_program
  intro cdv A outer s H E F hcv tk hp hgd hr
  exact (dss_cons (ds_exprX (pdx_call tk ((okx_check_program T).mono (by decide)) runX_len hgd hr T.g_check_program T.D_check_program.kp (b_check_program T) (pda_cons (pd_name 0) pda_nil)))
    (dss_one (ds_ret (pd_join pd_str (pn_pd (pn_lc [("command", 1)] sc.nd (di_seq (pd_name 0)) (blkOk_by (own := [("command", 1)]) (by kernel_rfl)) (fun _ _ _ _ _ => (gn_name 1 sc.nd)) (fun _ _ _ _ _ => dts_nil) (fun _ _ _ _ _ => (pd_call ((ok_written_command T).mono (by decide)) (rcl_written_command 12) hgd hr T.g_written_command T.D_written_command.kp (b_written_command T) (pda_cons (pd_name 1) pda_nil)))))))))
theorem okx_format_program (T : Tx Lab.T K mg base w) : FnX P w K mg base 18 (T.A 28) (T.FD 28) ["program"] (spX K T.C 1 m_format_program) :=
  fn_X T.D_format_program sc_format_program rfl rfl (bd_format_program T)
def mo_format_program (ds : List PyData) : Option PyData := okX (m_format_program ds)
theorem ok_format_program (T : Tx Lab.T K mg base w) : FnG P w K mg base 18 (T.A 28) (T.FD 28) ["program"] (spF K 1 mo_format_program) := fng_of_x (okx_format_program T) rfl
theorem b_format_program (T : Tx Lab.T K mg base w) : Binds K (T.FD 28) ["program"] [] := T.D_format_program.binds fun _ _ _ _ _ _ us hl => match us, hl with | [_], _ => rfl
def mb_read_number : DEnv → Option DFlow := (sSeq (sIf (fOr (fNot (fTst (fTM0 ascG (rdF 0)))) (fNot (fTst (fTM0 digG (rdF 0))))) (sRet (fC .none)) sNil) (sSeq (sIf (fAnd (fTst (fBin gtD (fLenN 0) (fC (.int 1)))) (fTst (fBin eqD (fBin ixT (rdF 0) (fC (.int 0))) (fC (.str "0"))))) (sRet (fC .none)) sNil) (sSeq (sIf (fTst (fBin gtD (fLenN 0) (fCB lenD (fCons (fCB strC (fCons (fC cv_MOST_TIMES) fNil)) fNil)))) (sRet (fC .none)) sNil) (sRet (fCB intC (fCons (rdF 0) fNil))))))
def m_read_number := runF 1 1 mb_read_number
theorem sc_read_number : FnScope ["digits"] ["digits"] (defScope (topS 52)) := ⟨rfl, rfl, rfl, by decide +kernel, rfl, by decide +kernel, by decide +kernel⟩
theorem bd_read_number (T : Tx Lab.T K mg base w) : BodyOk P w K mg base ["digits"] "read_number" (topS 52) (T.A 29) (T.FD 29).code 0 mb_read_number := by
  have sc := sc_read_number
  intro cdv A outer s H E F hcv hW hgd hr
  exact (dss_cons (ds_if (pdt_w (pdw_or (pdt_not (pdt_val (pd_isascii (pd_name 0)))) (pdw_or1 (pdt_not (pdt_val (pd_isdigit (pd_name 0))))))) (dss_one (ds_ret pd_non)) dss_nil)
    (dss_cons (ds_if (pdt_w (pdw_and (pdt_cmp od_gt intD_b (pd_lenN 0 T.n_len) pd_int) (pdw_and1 (pdt_cmp (od_eq hr) eqD_b (pd_ixT (pd_name 0) pd_int) pd_str)))) (dss_one (ds_ret pd_non)) dss_nil)
    (dss_cons (ds_if (pdt_cmp od_gt intD_b (pd_lenN 0 T.n_len) (pd_callB (cd_len) T.n_len (by decide +kernel) (pda_cons (pd_callTy cd_str T.n_str (by decide +kernel) (pda_cons (pd_glob (T.c_MOST_TIMES).choose_spec.1 (T.c_MOST_TIMES).choose_spec.2.1 (T.c_MOST_TIMES).choose_spec.2.2) pda_nil)) pda_nil))) (dss_one (ds_ret pd_non)) dss_nil)
    (dss_one (ds_ret (pd_callTy cd_intS T.n_int (by decide +kernel) (pda_cons (pd_name 0) pda_nil)))))))
theorem ok_read_number (T : Tx Lab.T K mg base w) : FnG P w K mg base 1 (T.A 29) (T.FD 29) ["digits"] (spF K 1 m_read_number) :=
  fn_F T.D_read_number sc_read_number rfl rfl (bd_read_number T)
theorem b_read_number (T : Tx Lab.T K mg base w) : Binds K (T.FD 29) ["digits"] [] := T.D_read_number.binds fun _ _ _ _ _ _ us hl => match us, hl with | [_], _ => rfl
def mb_read_command : DEnv → Option DFlow := (sSeq (sIf (fTst (fBin inD (rdF 0) (fC cv_BARE_WORDS))) (sRet (fTup (fCons (rdF 0) fNil))) sNil) (sSeq (sAsg (fTM1 partG (rdF 0) (fC (.str ":"))) (gTupD 3 (gsCons (gSet 1) (gsCons (gSet 2) (gsCons (gSet 3) gsNil))))) (sRet (fTup (fCons (rdF 1) (fCons (fCB m_read_number (fCons (rdF 3) fNil)) fNil))))))
def m_read_command := runF 1 4 mb_read_command
theorem sc_read_command : FnScope ["word", "name", "colon", "digits"] ["word"] (defScope (topS 53)) := ⟨rfl, rfl, rfl, by decide +kernel, rfl, by decide +kernel, by decide +kernel⟩
theorem bd_read_command (T : Tx Lab.T K mg base w) : BodyOk P w K mg base ["word", "name", "colon", "digits"] "read_command" (topS 53) (T.A 30) (T.FD 30).code 1 mb_read_command := by
  have sc := sc_read_command
  intro cdv A outer s H E F hcv hW hgd hr
  exact (dss_cons (ds_if (pdt_cmp (od_in hr) inD_b (pd_name 0) (pd_glob (T.c_BARE_WORDS).choose_spec.1 (T.c_BARE_WORDS).choose_spec.2.1 (T.c_BARE_WORDS).choose_spec.2.2)) (dss_one (ds_ret (pd_tup (pda_cons (pd_name 0) pda_nil)))) dss_nil)
    (dss_cons (ds_asg (pd_partition (pd_name 0) pd_str) (dg_tup (dgs_cons (dg_name 1 sc.nd) (dgs_cons (dg_name 2 sc.nd) (dgs_cons (dg_name 3 sc.nd) dgs_nil)))))
    (dss_one (ds_ret (pd_tup (pda_cons (pd_name 1) (pda_cons (pd_call ((ok_read_number T).mono (by decide)) runF_len hgd hr T.g_read_number T.D_read_number.kp (b_read_number T) (pda_cons (pd_name 3) pda_nil)) pda_nil)))))))
theorem ok_read_command (T : Tx Lab.T K mg base w) : FnG P w K mg base 2 (T.A 30) (T.FD 30) ["word"] (spF K 1 m_read_command) :=
  fn_F T.D_read_command sc_read_command rfl rfl (bd_read_command T)
theorem b_read_command (T : Tx Lab.T K mg base w) : Binds K (T.FD 30) ["word"] [] := T.D_read_command.binds fun _ _ _ _ _ _ us hl => match us, hl with | [_], _ => rfl
def mb_read_words : DEnv → Option DFlow := (rwB m_read_number m_read_command)
def m_read_words := runF 1 4 mb_read_words
theorem sc_read_words : FnScope ["words", "nested", "word", "program"] ["words"] (defScope (topS 54)) := ⟨rfl, rfl, rfl, by decide +kernel, rfl, by decide +kernel, by decide +kernel⟩
theorem bd_read_words (T : Tx Lab.T K mg base w) : BodyOk P w K mg base ["words", "nested", "word", "program"] "read_words" (topS 54) (T.A 31) (T.FD 31).code 2 mb_read_words := by
  have sc := sc_read_words
  intro cdv A outer s H E F hcv hW hgd hr
  exact (rw_body (mN := m_read_number) (mC := m_read_command) (ps_set (i := 1) sc.nd rfl (.inl rfl) (pe_lst (pa_cons (pe_lst pa_nil) pa_nil)))
    (di_seq (pd_name 0)) (pg_name (i := 2) sc.nd rfl (.inl rfl)) (pdt_cmp (od_eq hr) eqD_b (pd_name 2) pd_str)
    (ps_expr (pe_bm PySem.F.plainAttrs_list PySem.F.slot_list_append PySem.F.type_list_append mt_append (pe_var (i := 1) rfl (.inl rfl)) (pa_cons (pe_lst pa_nil) pa_nil)))
    (pdt_val (pd_startswith (pd_name 2) pd_str))
    (ps_set (i := 3) sc.nd rfl (.inl rfl) (pe_callTy call_tuple_of rfl T.n_tuple (by decide +kernel) (pa_cons (pe_bm0 PySem.F.plainAttrs_list PySem.F.slot_list_pop PySem.F.type_list_pop mt_pop (pe_var (i := 1) rfl (.inl rfl))) pa_nil)))
    (pt_not (pt_truth (pe_var (i := 1) rfl (.inl rfl)) (fun _ => rfl)))
    (ps_ret pd_non)
    (ps_expr (pe_bm PySem.F.plainAttrs_list PySem.F.slot_list_append PySem.F.type_list_append mt_append (pe_ix ix_list (pe_var (i := 1) rfl (.inl rfl)) (pd_neg pd_int) (fun _ _ => rfl)) (pda_cons (pd_tup (pda_cons pd_str (pda_cons (pd_call ((ok_read_number T).mono (by decide)) runF_len hgd hr T.g_read_number T.D_read_number.kp (b_read_number T) (pda_cons (pd_sliceT (pd_name 2) (do_some pd_int) do_none) pda_nil)) (pda_cons (pd_name 3) pda_nil)))) pda_nil)))
    (ps_expr (pe_bm PySem.F.plainAttrs_list PySem.F.slot_list_append PySem.F.type_list_append mt_append (pe_ix ix_list (pe_var (i := 1) rfl (.inl rfl)) (pd_neg pd_int) (fun _ _ => rfl)) (pda_cons (pd_call ((ok_read_command T).mono (by decide)) runF_len hgd hr T.g_read_command T.D_read_command.kp (b_read_command T) (pda_cons (pd_name 2) pda_nil)) pda_nil)))
    (ps_ret (pe_ifExp (pt_cmpR op_eq (pe_callB call_len_seq rfl T.n_len (by decide +kernel) (pa_cons (pe_var (i := 1) rfl (.inl rfl)) pa_nil)) pd_int rfl) (pe_callTy call_tuple_of rfl T.n_tuple (by decide +kernel) (pa_cons (pe_ix ix_list (pe_var (i := 1) rfl (.inl rfl)) pd_int (fun _ _ => rfl)) pa_nil)) pd_non)))
theorem ok_read_words (T : Tx Lab.T K mg base w) : FnG P w K mg base 3 (T.A 31) (T.FD 31) ["words"] (spF K 1 m_read_words) :=
  fn_F T.D_read_words sc_read_words rfl rfl (bd_read_words T)
theorem b_read_words (T : Tx Lab.T K mg base w) : Binds K (T.FD 31) ["words"] [] := T.D_read_words.binds fun _ _ _ _ _ _ us hl => match us, hl with | [_], _ => rfl
def mb_parse_program : DEnv → Option DFlow := (sSeq (sIf (fNot (fTst (fIsi "str" (rdF 0)))) (sRaise "InvalidText" "text" (rdF 0)) sNil) (sSeq (sSet 1 (fIf (fTst (fBin neD (rdF 0) (fC (.str "")))) (fCB m_read_words (fCons (fTM1 splitG (rdF 0) (fC (.str " "))) fNil)) (fTup fNil))) (sSeq (sIf (fNot (fTst (fCB mo_is_program (fCons (rdF 1) fNil)))) (sRaise "InvalidText" "text" (rdF 0)) sNil) (sRet (rdF 1)))))
def m_parse_program := runX 1 2 mb_parse_program
theorem sc_parse_program : FnScope ["text", "program"] ["text"] (defScope (topS 55)) := ⟨rfl, rfl, rfl, by decide +kernel, rfl, by decide +kernel, by decide +kernel⟩
theorem bd_parse_program (T : Tx Lab.T K mg base w) : BodyX T.C P w K mg base ["text", "program"] "parse_program" (topS 55) (T.A 32) (T.FD 32).code 18 mb_parse_program := by
  have sc := sc_parse_program
  intro cdv A outer s H E F hcv tk hp hgd hr
  exact (dss_cons (ds_if (pdt_not (pdt_val (pd_isi (kit_str K) T.n_isinstance T.n_str (by decide +kernel) (pd_name 0)))) (dss_one (ds_raise rfl tk T.x_InvalidText T.xi_InvalidText T.xt_InvalidText (xo_InvalidText T) (hr.mono (by decide)) (xb_InvalidText T) T.xm_InvalidText (pd_name 0))) dss_nil)
    (dss_cons (ds_set 1 (pd_if (pdt_cmp (od_ne hr) neD_b (pd_name 0) pd_str) (pd_call ((ok_read_words T).mono (by decide)) runF_len hgd hr T.g_read_words T.D_read_words.kp (b_read_words T) (pda_cons (pd_split (pd_name 0) pd_str) pda_nil)) (pd_tup pda_nil)) sc.nd)
    (dss_cons (ds_if (pdt_not (pdt_val (pd_call ((ok_is_program T).mono (by decide)) okX_len hgd hr T.g_is_program T.D_is_program.kp (b_is_program T) (pda_cons (pd_name 1) pda_nil)))) (dss_one (ds_raise rfl tk T.x_InvalidText T.xi_InvalidText T.xt_InvalidText (xo_InvalidText T) (hr.mono (by decide)) (xb_InvalidText T) T.xm_InvalidText (pd_name 0))) dss_nil)
    (dss_one (ds_ret (pd_name 1))))))
theorem okx_parse_program (T : Tx Lab.T K mg base w) : FnX P w K mg base 19 (T.A 32) (T.FD 32) ["text"] (spX K T.C 1 m_parse_program) :=
  fn_X T.D_parse_program sc_parse_program rfl rfl (bd_parse_program T)
def mo_parse_program (ds : List PyData) : Option PyData := okX (m_parse_program ds)
theorem ok_parse_program (T : Tx Lab.T K mg base w) : FnG P w K mg base 19 (T.A 32) (T.FD 32) ["text"] (spF K 1 mo_parse_program) := fng_of_x (okx_parse_program T) rfl
theorem b_parse_program (T : Tx Lab.T K mg base w) : Binds K (T.FD 32) ["text"] [] := T.D_parse_program.binds fun _ _ _ _ _ _ us hl => match us, hl with | [_], _ => rfl
def mb_sorted_first : DEnv → Option DFlow := (sRet (fBin addD (fTup (fCons (fTup (fCons (rdF 0) (fCons (rdF 1) fNil))) fNil)) (fCB tupleD (fCons (fFrz (nLc (iSeq (rdF 2)) (gSet 3) (fTst (fCmpN neD (fIxN 3 (fC (.int 0))) 0)) (rdF 3) [3])) fNil))))
def m_sorted_first := runF 3 4 mb_sorted_first
theorem sc_sorted_first : FnScope ["column", "direction", "order", "part"] ["column", "direction", "order"] (defScope (topS 58)) := ⟨rfl, rfl, rfl, by decide +kernel, rfl, by decide +kernel, by decide +kernel⟩
theorem bd_sorted_first (T : Tx Lab.T K mg base w) : BodyOk P w K mg base ["column", "direction", "order", "part"] "sorted_first" (topS 58) (T.A 33) (T.FD 33).code 0 mb_sorted_first := by
  have sc := sc_sorted_first
  intro cdv A outer s H E F hcv hW hgd hr
  exact (dss_one (ds_ret (pd_bin od_add (pd_tup (pda_cons (pd_tup (pda_cons (pd_name 0) (pda_cons (pd_name 1) pda_nil))) pda_nil)) (pd_callTy (cd_tuple) T.n_tuple (by decide +kernel) (pda_cons (pn_pd (pn_lc [("part", 3)] sc.nd (di_seq (pd_name 2)) (blkOk_by (own := [("part", 3)]) (by kernel_rfl)) (fun _ _ _ _ _ => (gn_name 3 sc.nd)) (fun _ _ _ _ _ => (dts_one (pdt_cmpN (od_ne hr) neD_scal neD_b (pd_ixN 3 pd_int) 0))) (fun _ _ _ _ _ => (pd_name 3)))) pda_nil)))))
theorem ok_sorted_first (T : Tx Lab.T K mg base w) : FnG P w K mg base 1 (T.A 33) (T.FD 33) ["column", "direction", "order"] (spF K 3 m_sorted_first) :=
  fn_F T.D_sorted_first sc_sorted_first rfl rfl (bd_sorted_first T)
theorem b_sorted_first (T : Tx Lab.T K mg base w) : Binds K (T.FD 33) ["column", "direction", "order"] [] := T.D_sorted_first.binds fun _ _ _ _ _ _ us hl => match us, hl with | [_, _, _], _ => rfl
def mb_after_plain : DEnv → Option DFlow := (sSeq (sIf (fTst (fBin inD (fIxN 0 (fC (.int 0))) (fC cv_DIRECTIONS))) (sRet (fCB m_sorted_first (fCons (fIxN 0 (fC (.int 1))) (fCons (fIxN 0 (fC (.int 0))) (fCons (rdF 1) fNil))))) sNil) (sSeq (sIf (fTst (fBin eqD (fIxN 0 (fC (.int 0))) (fC (.str "reverse")))) (sRet (fCB m_turned (fCons (rdF 1) fNil))) sNil) (sSeq (sIf (fTst (fBin eqD (fIxN 0 (fC (.int 0))) (fC (.str "restore")))) (sRet (fC cv_START)) sNil) (sRet (rdF 1)))))
def m_after_plain := runF 2 2 mb_after_plain
theorem sc_after_plain : FnScope ["command", "order"] ["command", "order"] (defScope (topS 59)) := ⟨rfl, rfl, rfl, by decide +kernel, rfl, by decide +kernel, by decide +kernel⟩
theorem bd_after_plain (T : Tx Lab.T K mg base w) : BodyOk P w K mg base ["command", "order"] "after_plain" (topS 59) (T.A 34) (T.FD 34).code 5 mb_after_plain := by
  have sc := sc_after_plain
  intro cdv A outer s H E F hcv hW hgd hr
  exact (dss_cons (ds_if (pdt_cmp (od_in hr) inD_b (pd_ixN 0 pd_int) (pd_glob (T.c_DIRECTIONS).choose_spec.1 (T.c_DIRECTIONS).choose_spec.2.1 (T.c_DIRECTIONS).choose_spec.2.2)) (dss_one (ds_ret (pd_call ((ok_sorted_first T).mono (by decide)) runF_len hgd hr T.g_sorted_first T.D_sorted_first.kp (b_sorted_first T) (pda_cons (pd_ixN 0 pd_int) (pda_cons (pd_ixN 0 pd_int) (pda_cons (pd_name 1) pda_nil)))))) dss_nil)
    (dss_cons (ds_if (pdt_cmp (od_eq hr) eqD_b (pd_ixN 0 pd_int) pd_str) (dss_one (ds_ret (pd_call ((ok_turned T).mono (by decide)) runF_len hgd hr T.g_turned T.D_turned.kp (b_turned T) (pda_cons (pd_name 1) pda_nil)))) dss_nil)
    (dss_cons (ds_if (pdt_cmp (od_eq hr) eqD_b (pd_ixN 0 pd_int) pd_str) (dss_one (ds_ret (pd_glob (T.c_START).choose_spec.1 (T.c_START).choose_spec.2.1 (T.c_START).choose_spec.2.2))) dss_nil)
    (dss_one (ds_ret (pd_name 1))))))
theorem ok_after_plain (T : Tx Lab.T K mg base w) : FnG P w K mg base 6 (T.A 34) (T.FD 34) ["command", "order"] (spF K 2 m_after_plain) :=
  fn_F T.D_after_plain sc_after_plain rfl rfl (bd_after_plain T)
theorem b_after_plain (T : Tx Lab.T K mg base w) : Binds K (T.FD 34) ["command", "order"] [] := T.D_after_plain.binds fun _ _ _ _ _ _ us hl => match us, hl with | [_, _], _ => rfl
def mb_picks_of_plain : DEnv → Option DFlow := (sSeq (sIf (fTst (fBin eqD (fIxN 0 (fC (.int 0))) (fC (.str "first")))) (sRet (fFrz (fLst (fCons (fTup (fCons (rdF 1) (fCons (fIxN 0 (fC (.int 1))) fNil))) fNil)))) sNil) (sSeq (sIf (fTst (fBin eqD (fIxN 0 (fC (.int 0))) (fC (.str "last")))) (sRet (fFrz (fLst (fCons (fTup (fCons (fCB m_turned (fCons (rdF 1) fNil)) (fCons (fIxN 0 (fC (.int 1))) fNil))) fNil)))) sNil) (sRet (fFrz (fLst fNil)))))
def m_picks_of_plain := runF 2 2 mb_picks_of_plain
theorem sc_picks_of_plain : FnScope ["command", "order"] ["command", "order"] (defScope (topS 60)) := ⟨rfl, rfl, rfl, by decide +kernel, rfl, by decide +kernel, by decide +kernel⟩
theorem bd_picks_of_plain (T : Tx Lab.T K mg base w) : BodyOk P w K mg base ["command", "order"] "picks_of_plain" (topS 60) (T.A 35) (T.FD 35).code 5 mb_picks_of_plain := by
  have sc := sc_picks_of_plain
  intro cdv A outer s H E F hcv hW hgd hr
  exact (dss_cons (ds_if (pdt_cmp (od_eq hr) eqD_b (pd_ixN 0 pd_int) pd_str) (dss_one (ds_ret (pn_pd (pn_lst (pda_cons (pd_tup (pda_cons (pd_name 1) (pda_cons (pd_ixN 0 pd_int) pda_nil))) pda_nil))))) dss_nil)
    (dss_cons (ds_if (pdt_cmp (od_eq hr) eqD_b (pd_ixN 0 pd_int) pd_str) (dss_one (ds_ret (pn_pd (pn_lst (pda_cons (pd_tup (pda_cons (pd_call ((ok_turned T).mono (by decide)) runF_len hgd hr T.g_turned T.D_turned.kp (b_turned T) (pda_cons (pd_name 1) pda_nil)) (pda_cons (pd_ixN 0 pd_int) pda_nil))) pda_nil))))) dss_nil)
    (dss_one (ds_ret (pn_pd (pn_lst pda_nil))))))
theorem ok_picks_of_plain (T : Tx Lab.T K mg base w) : FnG P w K mg base 6 (T.A 35) (T.FD 35) ["command", "order"] (spF K 2 m_picks_of_plain) :=
  fn_F T.D_picks_of_plain sc_picks_of_plain rfl rfl (bd_picks_of_plain T)
theorem b_picks_of_plain (T : Tx Lab.T K mg base w) : Binds K (T.FD 35) ["command", "order"] [] := T.D_picks_of_plain.binds fun _ _ _ _ _ _ us hl => match us, hl with | [_, _], _ => rfl
def mb_after_repeat (rc : Nat → List PyData → Option PyData) : DEnv → Option DFlow := (sSeq (sAsg (fCB (rc 2) (fCons (rdF 1) (fCons (rdF 2) fNil))) (gTupD 2 (gsCons (gSet 3) (gsCons (gSet 2) gsNil)))) (sSeq (sIf (fTst (fBin eqD (fBin modD (rdF 0) (fC (.int 2))) (fC (.int 0)))) (sSet 2 (fBin ixD (fCB (rc 2) (fCons (rdF 1) (fCons (rdF 2) fNil))) (fC (.int 1)))) sNil) (sRet (fTup (fCons (rdF 3) (fCons (rdF 2) fNil))))))
def mb_after_command (rc : Nat → List PyData → Option PyData) : DEnv → Option DFlow := (sSeq (sIf (fTst (fBin eqD (fIxN 0 (fC (.int 0))) (fC (.str "repeat")))) (sRet (fCB (rc 0) (fCons (fIxN 0 (fC (.int 1))) (fCons (fIxN 0 (fC (.int 2))) (fCons (rdF 1) fNil))))) sNil) (sRet (fTup (fCons (fCB m_picks_of_plain (fCons (rdF 0) (fCons (rdF 1) fNil))) (fCons (fCB m_after_plain (fCons (rdF 0) (fCons (rdF 1) fNil))) fNil)))))
def mb_after_program (rc : Nat → List PyData → Option PyData) : DEnv → Option DFlow := (sSeq (sSetN 2 (fLst fNil)) (sSeq (sFor (iSeq (rdF 0)) (gSet 3) (sSeq (sAsg (fCB (rc 1) (fCons (rdF 3) (fCons (rdF 1) fNil))) (gTupD 2 (gsCons (gSet 4) (gsCons (gSet 1) gsNil)))) (sExt 2 (rdF 4)))) (sRet (fTup (fCons (rdF 2) (fCons (rdF 1) fNil))))))
def rc_after_repeat : Nat → Nat → List PyData → Option PyData
  | 0, 0 => runF 3 4 sNone
  | 0, 1 => runF 2 2 sNone
  | 0, 2 => runF 2 5 sNone
  | 0, _ => fun _ => none
  | n + 1, 0 => runF 3 4 (mb_after_repeat (rc_after_repeat n))
  | n + 1, 1 => runF 2 2 (mb_after_command (rc_after_repeat n))
  | n + 1, 2 => runF 2 5 (mb_after_program (rc_after_repeat n))
  | _ + 1, _ => fun _ => none
theorem rcl_after_repeat : ∀ (n : Nat) (ds : List PyData) (r : PyData), rc_after_repeat n 0 ds = some r → ds.length = 3
  | 0, ds, r, h => runF_len ds r h
  | _ + 1, ds, r, h => runF_len ds r h
theorem sc_after_repeat : FnScope ["times", "program", "order", "picks"] ["times", "program", "order"] (defScope (topS 61)) := ⟨rfl, rfl, rfl, by decide +kernel, rfl, by decide +kernel, by decide +kernel⟩
theorem b_after_repeat (T : Tx Lab.T K mg base w) : Binds K (T.FD 36) ["times", "program", "order"] [] := T.D_after_repeat.binds fun _ _ _ _ _ _ us hl => match us, hl with | [_, _, _], _ => rfl
theorem rcl_after_command : ∀ (n : Nat) (ds : List PyData) (r : PyData), rc_after_repeat n 1 ds = some r → ds.length = 2
  | 0, ds, r, h => runF_len ds r h
  | _ + 1, ds, r, h => runF_len ds r h
theorem sc_after_command : FnScope ["command", "order"] ["command", "order"] (defScope (topS 62)) := ⟨rfl, rfl, rfl, by decide +kernel, rfl, by decide +kernel, by decide +kernel⟩
theorem b_after_command (T : Tx Lab.T K mg base w) : Binds K (T.FD 37) ["command", "order"] [] := T.D_after_command.binds fun _ _ _ _ _ _ us hl => match us, hl with | [_, _], _ => rfl
theorem rcl_after_program : ∀ (n : Nat) (ds : List PyData) (r : PyData), rc_after_repeat n 2 ds = some r → ds.length = 2
  | 0, ds, r, h => runF_len ds r h
  | _ + 1, ds, r, h => runF_len ds r h
theorem sc_after_program : FnScope ["program", "order", "picks", "command", "made"] ["program", "order"] (defScope (topS 63)) := ⟨rfl, rfl, rfl, by decide +kernel, rfl, by decide +kernel, by decide +kernel⟩
theorem b_after_program (T : Tx Lab.T K mg base w) : Binds K (T.FD 38) ["program", "order"] [] := T.D_after_program.binds fun _ _ _ _ _ _ us hl => match us, hl with | [_, _], _ => rfl
theorem bd_after_repeat (T : Tx Lab.T K mg base w) (n : Nat) (ih_after_repeat : FnG P w K mg base (7 + n) (T.A 36) (T.FD 36) ["times", "program", "order"] (spF K 3 (rc_after_repeat n 0))) (ih_after_command : FnG P w K mg base (7 + n) (T.A 37) (T.FD 37) ["command", "order"] (spF K 2 (rc_after_repeat n 1))) (ih_after_program : FnG P w K mg base (7 + n) (T.A 38) (T.FD 38) ["program", "order"] (spF K 2 (rc_after_repeat n 2))) : BodyOk P w K mg base ["times", "program", "order", "picks"] "after_repeat" (topS 61) (T.A 36) (T.FD 36).code (7 + n) (mb_after_repeat (rc_after_repeat n)) := by
  have sc := sc_after_repeat
  intro cdv A outer s H E F hcv hW hgd hr
  exact (dss_cons (ds_asg (pd_call (ih_after_program.mono (Nat.le_refl _)) (rcl_after_program n) hgd hr T.g_after_program T.D_after_program.kp (b_after_program T) (pda_cons (pd_name 1) (pda_cons (pd_name 2) pda_nil))) (dg_tup (dgs_cons (dg_name 3 sc.nd) (dgs_cons (dg_name 2 sc.nd) dgs_nil))))
    (dss_cons (ds_if (pdt_cmp (od_eq hr) eqD_b (pd_bin od_mod (pd_name 0) pd_int) pd_int) (dss_one (ds_set 2 (pd_ix (pd_call (ih_after_program.mono (Nat.le_refl _)) (rcl_after_program n) hgd hr T.g_after_program T.D_after_program.kp (b_after_program T) (pda_cons (pd_name 1) (pda_cons (pd_name 2) pda_nil))) pd_int) sc.nd)) dss_nil)
    (dss_one (ds_ret (pd_tup (pda_cons (pd_name 3) (pda_cons (pd_name 2) pda_nil)))))))
theorem bd_after_command (T : Tx Lab.T K mg base w) (n : Nat) (ih_after_repeat : FnG P w K mg base (7 + n) (T.A 36) (T.FD 36) ["times", "program", "order"] (spF K 3 (rc_after_repeat n 0))) (ih_after_command : FnG P w K mg base (7 + n) (T.A 37) (T.FD 37) ["command", "order"] (spF K 2 (rc_after_repeat n 1))) (ih_after_program : FnG P w K mg base (7 + n) (T.A 38) (T.FD 38) ["program", "order"] (spF K 2 (rc_after_repeat n 2))) : BodyOk P w K mg base ["command", "order"] "after_command" (topS 62) (T.A 37) (T.FD 37).code (7 + n) (mb_after_command (rc_after_repeat n)) := by
  have sc := sc_after_command
  intro cdv A outer s H E F hcv hW hgd hr
  exact (dss_cons (ds_if (pdt_cmp (od_eq hr) eqD_b (pd_ixN 0 pd_int) pd_str) (dss_one (ds_ret (pd_call (ih_after_repeat.mono (Nat.le_refl _)) (rcl_after_repeat n) hgd hr T.g_after_repeat T.D_after_repeat.kp (b_after_repeat T) (pda_cons (pd_ixN 0 pd_int) (pda_cons (pd_ixN 0 pd_int) (pda_cons (pd_name 1) pda_nil)))))) dss_nil)
    (dss_one (ds_ret (pd_tup (pda_cons (pd_call ((ok_picks_of_plain T).mono (by omega)) runF_len hgd hr T.g_picks_of_plain T.D_picks_of_plain.kp (b_picks_of_plain T) (pda_cons (pd_name 0) (pda_cons (pd_name 1) pda_nil))) (pda_cons (pd_call ((ok_after_plain T).mono (by omega)) runF_len hgd hr T.g_after_plain T.D_after_plain.kp (b_after_plain T) (pda_cons (pd_name 0) (pda_cons (pd_name 1) pda_nil))) pda_nil))))))
theorem bd_after_program (T : Tx Lab.T K mg base w) (n : Nat) (ih_after_repeat : FnG P w K mg base (7 + n) (T.A 36) (T.FD 36) ["times", "program", "order"] (spF K 3 (rc_after_repeat n 0))) (ih_after_command : FnG P w K mg base (7 + n) (T.A 37) (T.FD 37) ["command", "order"] (spF K 2 (rc_after_repeat n 1))) (ih_after_program : FnG P w K mg base (7 + n) (T.A 38) (T.FD 38) ["program", "order"] (spF K 2 (rc_after_repeat n 2))) : BodyOk P w K mg base ["program", "order", "picks", "command", "made"] "after_program" (topS 63) (T.A 38) (T.FD 38).code (7 + n) (mb_after_program (rc_after_repeat n)) := by
  have sc := sc_after_program
  intro cdv A outer s H E F hcv hW hgd hr
  exact (dss_cons (ds_setN 2 (pn_lst pda_nil) sc.nd)
    (dss_cons (ds_for (di_seq (pd_name 0)) (dg_name 3 sc.nd) (dss_cons (ds_asg (pd_call (ih_after_command.mono (Nat.le_refl _)) (rcl_after_command n) hgd hr T.g_after_command T.D_after_command.kp (b_after_command T) (pda_cons (pd_name 3) (pda_cons (pd_name 1) pda_nil))) (dg_tup (dgs_cons (dg_name 4 sc.nd) (dgs_cons (dg_name 1 sc.nd) dgs_nil))))
      (dss_one (ds_extend 2 (pd_name 4)))))
    (dss_one (ds_ret (pd_tup (pda_cons (pd_name 2) (pda_cons (pd_name 1) pda_nil)))))))
theorem okn_after_repeat (T : Tx Lab.T K mg base w) : ∀ n : Nat, FnG P w K mg base (7 + n) (T.A 36) (T.FD 36) ["times", "program", "order"] (spF K 3 (rc_after_repeat n 0)) ∧ FnG P w K mg base (7 + n) (T.A 37) (T.FD 37) ["command", "order"] (spF K 2 (rc_after_repeat n 1)) ∧ FnG P w K mg base (7 + n) (T.A 38) (T.FD 38) ["program", "order"] (spF K 2 (rc_after_repeat n 2))
  | 0 => ⟨fn_F (k := 6) T.D_after_repeat sc_after_repeat rfl rfl (fun _ _ _ _ _ _ _ _ _ _ _ => dss_never), fn_F (k := 6) T.D_after_command sc_after_command rfl rfl (fun _ _ _ _ _ _ _ _ _ _ _ => dss_never), fn_F (k := 6) T.D_after_program sc_after_program rfl rfl (fun _ _ _ _ _ _ _ _ _ _ _ => dss_never)⟩
  | n + 1 => by
    have h := okn_after_repeat T n
    exact ⟨fn_F T.D_after_repeat sc_after_repeat rfl rfl (bd_after_repeat T n h.1 h.2.1 h.2.2), fn_F T.D_after_command sc_after_command rfl rfl (bd_after_command T n h.1 h.2.1 h.2.2), fn_F T.D_after_program sc_after_program rfl rfl (bd_after_program T n h.1 h.2.1 h.2.2)⟩
def m_after_program := rc_after_repeat 12 2
theorem ok_after_program (T : Tx Lab.T K mg base w) : FnG P w K mg base 19 (T.A 38) (T.FD 38) ["program", "order"] (spF K 2 m_after_program) := (okn_after_repeat T 12).2.2
def mb_check_run : DEnv → Option DFlow := (sSeq (sSetX 2 (fCX m_count_columns (fCons (rdF 0) fNil))) (sSeq (sExprX (fCX m_check_program (fCons (rdF 1) fNil))) (sExpr (fCB m_check_columns_below (fCons (fCB m_program_columns (fCons (rdF 1) fNil)) (fCons (rdF 2) fNil))))))
def m_check_run := runX 2 3 mb_check_run
theorem sc_check_run : FnScope ["table", "program", "width"] ["table", "program"] (defScope (topS 65)) := ⟨rfl, rfl, rfl, by decide +kernel, rfl, by decide +kernel, by decide +kernel⟩
theorem bd_check_run (T : Tx Lab.T K mg base w) : BodyX T.C P w K mg base ["table", "program", "width"] "check_run" (topS 65) (T.A 39) (T.FD 39).code 17 mb_check_run := by
  have sc := sc_check_run
  intro cdv A outer s H E F hcv tk hp hgd hr
  exact (dss_cons (ds_setX 2 (pdx_call tk ((okx_count_columns T).mono (by decide)) runX_len hgd hr T.g_count_columns T.D_count_columns.kp (b_count_columns T) (pda_cons (pd_name 0) pda_nil)) sc.nd)
    (dss_cons (ds_exprX (pdx_call tk ((okx_check_program T).mono (by decide)) runX_len hgd hr T.g_check_program T.D_check_program.kp (b_check_program T) (pda_cons (pd_name 1) pda_nil)))
    (dss_one (ds_expr (pd_call ((ok_check_columns_below T).mono (by decide)) runF_len hgd hr T.g_check_columns_below T.D_check_columns_below.kp (b_check_columns_below T) (pda_cons (pd_call ((ok_program_columns T).mono (by decide)) (rcl_program_columns 12) hgd hr T.g_program_columns T.D_program_columns.kp (b_program_columns T) (pda_cons (pd_name 1) pda_nil)) (pda_cons (pd_name 2) pda_nil)))))))
theorem okx_check_run (T : Tx Lab.T K mg base w) : FnX P w K mg base 18 (T.A 39) (T.FD 39) ["table", "program"] (spX K T.C 2 m_check_run) :=
  fn_X T.D_check_run sc_check_run rfl rfl (bd_check_run T)
theorem b_check_run (T : Tx Lab.T K mg base w) : Binds K (T.FD 39) ["table", "program"] [] := T.D_check_run.binds fun _ _ _ _ _ _ us hl => match us, hl with | [_, _], _ => rfl
def mb_picked : DEnv → Option DFlow := (sSeq (sFor (iSeq (rdF 2)) (gTupD 2 (gsCons (gSet 3) (gsCons (gSet 4) gsNil))) (sSet 1 (fSl (fCB m_sorted_places (fCons (rdF 0) (fCons (rdF 1) (fCons (rdF 3) fNil)))) oNone (oSome (rdF 4))))) (sRet (rdF 1)))
def m_picked := runF 3 5 mb_picked
theorem sc_picked : FnScope ["table", "places", "picks", "order", "size"] ["table", "places", "picks"] (defScope (topS 66)) := ⟨rfl, rfl, rfl, by decide +kernel, rfl, by decide +kernel, by decide +kernel⟩
theorem bd_picked (T : Tx Lab.T K mg base w) : BodyOk P w K mg base ["table", "places", "picks", "order", "size"] "picked" (topS 66) (T.A 40) (T.FD 40).code 5 mb_picked := by
  have sc := sc_picked
  intro cdv A outer s H E F hcv hW hgd hr
  exact (dss_cons (ds_for (di_seq (pd_name 2)) (dg_tup (dgs_cons (dg_name 3 sc.nd) (dgs_cons (dg_name 4 sc.nd) dgs_nil))) (dss_one (ds_set 1 (pd_slice (pd_call ((ok_sorted_places T).mono (by decide)) runF_len hgd hr T.g_sorted_places T.D_sorted_places.kp (b_sorted_places T) (pda_cons (pd_name 0) (pda_cons (pd_name 1) (pda_cons (pd_name 3) pda_nil)))) do_none (do_some (pd_name 4))) sc.nd)))
    (dss_one (ds_ret (pd_name 1))))
theorem ok_picked (T : Tx Lab.T K mg base w) : FnG P w K mg base 6 (T.A 40) (T.FD 40) ["table", "places", "picks"] (spF K 3 m_picked) :=
  fn_F T.D_picked sc_picked rfl rfl (bd_picked T)
theorem b_picked (T : Tx Lab.T K mg base w) : Binds K (T.FD 40) ["table", "places", "picks"] [] := T.D_picked.binds fun _ _ _ _ _ _ us hl => match us, hl with | [_, _, _], _ => rfl
def mb_run_places : DEnv → Option DFlow := (sSeq (sExprX (fCX m_check_run (fCons (rdF 0) (fCons (rdF 1) fNil)))) (sSeq (sAsg (fCB m_after_program (fCons (rdF 1) (fCons (fC cv_START) fNil))) (gTupD 2 (gsCons (gSet 2) (gsCons (gSet 3) gsNil)))) (sRet (fCB m_sorted_places (fCons (rdF 0) (fCons (fCB m_picked (fCons (rdF 0) (fCons (fCB m_every_place (fCons (rdF 0) fNil)) (fCons (rdF 2) fNil)))) (fCons (rdF 3) fNil)))))))
def m_run_places := runX 2 4 mb_run_places
theorem sc_run_places : FnScope ["table", "program", "picks", "order"] ["table", "program"] (defScope (topS 67)) := ⟨rfl, rfl, rfl, by decide +kernel, rfl, by decide +kernel, by decide +kernel⟩
theorem bd_run_places (T : Tx Lab.T K mg base w) : BodyX T.C P w K mg base ["table", "program", "picks", "order"] "run_places" (topS 67) (T.A 41) (T.FD 41).code 19 mb_run_places := by
  have sc := sc_run_places
  intro cdv A outer s H E F hcv tk hp hgd hr
  exact (dss_cons (ds_exprX (pdx_call tk ((okx_check_run T).mono (by decide)) runX_len hgd hr T.g_check_run T.D_check_run.kp (b_check_run T) (pda_cons (pd_name 0) (pda_cons (pd_name 1) pda_nil))))
    (dss_cons (ds_asg (pd_call ((ok_after_program T).mono (by decide)) (rcl_after_program 12) hgd hr T.g_after_program T.D_after_program.kp (b_after_program T) (pda_cons (pd_name 1) (pda_cons (pd_glob (T.c_START).choose_spec.1 (T.c_START).choose_spec.2.1 (T.c_START).choose_spec.2.2) pda_nil))) (dg_tup (dgs_cons (dg_name 2 sc.nd) (dgs_cons (dg_name 3 sc.nd) dgs_nil))))
    (dss_one (ds_ret (pd_call ((ok_sorted_places T).mono (by decide)) runF_len hgd hr T.g_sorted_places T.D_sorted_places.kp (b_sorted_places T) (pda_cons (pd_name 0) (pda_cons (pd_call ((ok_picked T).mono (by decide)) runF_len hgd hr T.g_picked T.D_picked.kp (b_picked T) (pda_cons (pd_name 0) (pda_cons (pd_call ((ok_every_place T).mono (by decide)) runF_len hgd hr T.g_every_place T.D_every_place.kp (b_every_place T) (pda_cons (pd_name 0) pda_nil)) (pda_cons (pd_name 2) pda_nil)))) (pda_cons (pd_name 3) pda_nil))))))))
theorem okx_run_places (T : Tx Lab.T K mg base w) : FnX P w K mg base 20 (T.A 41) (T.FD 41) ["table", "program"] (spX K T.C 2 m_run_places) :=
  fn_X T.D_run_places sc_run_places rfl rfl (bd_run_places T)
def mo_run_places (ds : List PyData) : Option PyData := okX (m_run_places ds)
theorem ok_run_places (T : Tx Lab.T K mg base w) : FnG P w K mg base 20 (T.A 41) (T.FD 41) ["table", "program"] (spF K 2 mo_run_places) := fng_of_x (okx_run_places T) rfl
theorem b_run_places (T : Tx Lab.T K mg base w) : Binds K (T.FD 41) ["table", "program"] [] := T.D_run_places.binds fun _ _ _ _ _ _ us hl => match us, hl with | [_, _], _ => rfl
variable [LabR]
def mb__law_cell : DEnv → Option DFlow := (sSeq (sIf (fTst (fBin ltD (rdF 1) (fLenN 0))) (sRet (fIxN 0 (rdF 1))) sNil) (sSeq (sSet 2 (fBin modD (fBin mulD (fC (.int 60013)) (fBin addD (fBin addD (fBin mulD (rdF 1) (rdF 1)) (fBin mulD (fC (.int 5)) (rdF 1))) (fC (.int 3)))) (fC (.int 2147483249)))) (sSeq (sFor (iSeq (fSl (rdF 0) oNone (oSome (fC (.int 3))))) (gSet 3) (sSet 2 (fBin modD (fBin addD (fBin mulD (rdF 2) (fC (.int 41221))) (rdF 3)) (fC (.int 2147483249))))) (sRet (rdF 2)))))
def m__law_cell := runF 2 4 mb__law_cell
theorem sc__law_cell : FnScope ["_law_script", "_law_k", "_law_state", "_law_figure"] ["_law_script", "_law_k"] (defScope (topS 69)) := ⟨rfl, rfl, rfl, by decide +kernel, rfl, by decide +kernel, by decide +kernel⟩
theorem bd__law_cell (T : Tx Lab.T K mg base w) : BodyOk P w K mg base ["_law_script", "_law_k", "_law_state", "_law_figure"] "_law_cell" (topS 69) (T.A 42) (T.FD 42).code 0 mb__law_cell := by
  have sc := sc__law_cell
  intro cdv A outer s H E F hcv hW hgd hr
  exact (dss_cons (ds_if (pdt_cmp od_lt intD_b (pd_name 1) (pd_lenN 0 T.n_len)) (dss_one (ds_ret (pd_ixN 0 (pd_name 1)))) dss_nil)
    (dss_cons (ds_set 2 (pd_bin od_mod (pd_bin od_mul pd_int (pd_bin od_add (pd_bin od_add (pd_bin od_mul (pd_name 1) (pd_name 1)) (pd_bin od_mul pd_int (pd_name 1))) pd_int)) pd_int) sc.nd)
    (dss_cons (ds_for (di_seq (pd_slice (pd_name 0) do_none (do_some pd_int))) (dg_name 3 sc.nd) (dss_one (ds_set 2 (pd_bin od_mod (pd_bin od_add (pd_bin od_mul (pd_name 2) pd_int) (pd_name 3)) pd_int) sc.nd)))
    (dss_one (ds_ret (pd_name 2))))))
theorem ok__law_cell (T : Tx Lab.T K mg base w) : FnG P w K mg base 1 (T.A 42) (T.FD 42) ["_law_script", "_law_k"] (spF K 2 m__law_cell) :=
  fn_F T.D__law_cell sc__law_cell rfl rfl (bd__law_cell T)
theorem b__law_cell (T : Tx Lab.T K mg base w) : Binds K (T.FD 42) ["_law_script", "_law_k"] [] := T.D__law_cell.binds fun _ _ _ _ _ _ us hl => match us, hl with | [_, _], _ => rfl
def mb__law_pool : DEnv → Option DFlow := (sSeq (sSet 1 (fIf (fOr (fTst (fBin ltD (rdF 0) (fC (.int 0)))) (fTst (fBin geD (rdF 0) (fBin powD (fC (.int 10)) (fC (.int 18)))))) (fCB absD (fCons (rdF 0) fNil)) (fC (.int 0)))) (sRetN (fLst (fCons (fBin modD (rdF 0) (fC (.int 2147483249))) (fCons (rdF 1) (fCons (fC (.int 0)) fNil))))))
def m__law_pool := runN 1 2 mb__law_pool
theorem sc__law_pool : FnScope ["_law_figure", "_law_digits"] ["_law_figure"] (defScope (topS 70)) := ⟨rfl, rfl, rfl, by decide +kernel, rfl, by decide +kernel, by decide +kernel⟩
theorem bd__law_pool (T : Tx Lab.T K mg base w) : BodyOk P w K mg base ["_law_figure", "_law_digits"] "_law_pool" (topS 70) (T.A 43) (T.FD 43).code 0 mb__law_pool := by
  have sc := sc__law_pool
  intro cdv A outer s H E F hcv hW hgd hr
  exact (dss_cons (ds_set 1 (pd_if (pdt_w (pdw_or (pdt_cmp od_lt intD_b (pd_name 0) pd_int) (pdw_or1 (pdt_cmp od_ge intD_b (pd_name 0) (pd_bin od_pow pd_int pd_int))))) (pd_callB (cd_abs) T.n_abs (by decide +kernel) (pda_cons (pd_name 0) pda_nil)) pd_int) sc.nd)
    (dss_one (ds_retN (pn_lst (pda_cons (pd_bin od_mod (pd_name 0) pd_int) (pda_cons (pd_name 1) (pda_cons pd_int pda_nil)))))))
theorem ok__law_pool (T : Tx Lab.T K mg base w) : FnG P w K mg base 1 (T.A 43) (T.FD 43) ["_law_figure"] (spN K 1 m__law_pool) :=
  fn_N T.D__law_pool sc__law_pool rfl rfl (bd__law_pool T)
theorem b__law_pool (T : Tx Lab.T K mg base w) : Binds K (T.FD 43) ["_law_figure"] [] := T.D__law_pool.binds fun _ _ _ _ _ _ us hl => match us, hl with | [_], _ => rfl
def mb__law_draw : DEnv → Option DFlow := (sSeq (sAsg (fBin addD (fIxN 0 (fC (.int 2))) (fC (.int 1))) (gSubD 0 (fC (.int 2)))) (sSeq (sSet 2 (fIxN 0 (fC (.int 0)))) (sSeq (sAsg (fBin modD (fBin addD (fBin mulD (rdF 2) (fBin addD (fBin modD (rdF 2) (fC (.int 50021))) (fC (.int 30011)))) (fBin mulD (fC (.int 80021)) (fIxN 0 (fC (.int 2))))) (fC (.int 2147483249))) (gSubD 0 (fC (.int 0)))) (sSeq (sIf (fTst (fBin gtD (fIxN 0 (fC (.int 1))) (fC (.int 0)))) (sSeq (sAsg (fCB divmodB (fCons (fIxN 0 (fC (.int 1))) (fCons (rdF 1) fNil))) (gTupD 2 (gsCons (gSubD 0 (fC (.int 1))) (gsCons (gSet 3) gsNil)))) (sRet (rdF 3))) sNil) (sRet (fBin modD (fBin fdivD (fIxN 0 (fC (.int 0))) (fC (.int 64))) (rdF 1)))))))
def m__law_draw := runR 2 4 mb__law_draw
theorem sc__law_draw : FnScope ["_law_pool_here", "_law_most", "_law_state", "_law_digit"] ["_law_pool_here", "_law_most"] (defScope (topS 71)) := ⟨rfl, rfl, rfl, by decide +kernel, rfl, by decide +kernel, by decide +kernel⟩
theorem bd__law_draw (T : Tx Lab.T K mg base w) : BodyOk P w K mg base ["_law_pool_here", "_law_most", "_law_state", "_law_digit"] "_law_draw" (topS 71) (T.A 44) (T.FD 44).code 0 mb__law_draw := by
  have sc := sc__law_draw
  intro cdv A outer s H E F hcv hW hgd hr
  exact (dss_cons (ds_asg (pd_bin od_add (pd_ixN 0 pd_int) pd_int) (dg_sub 0 pd_int))
    (dss_cons (ds_set 2 (pd_ixN 0 pd_int) sc.nd)
    (dss_cons (ds_asg (pd_bin od_mod (pd_bin od_add (pd_bin od_mul (pd_name 2) (pd_bin od_add (pd_bin od_mod (pd_name 2) pd_int) pd_int)) (pd_bin od_mul pd_int (pd_ixN 0 pd_int))) pd_int) (dg_sub 0 pd_int))
    (dss_cons (ds_if (pdt_cmp od_gt intD_b (pd_ixN 0 pd_int) pd_int) (dss_cons (ds_asg (pd_callB cd_divmodB T.n_divmod (by decide +kernel) (pda_cons (pd_ixN 0 pd_int) (pda_cons (pd_name 1) pda_nil))) (dg_tup (dgs_cons (dg_sub 0 pd_int) (dgs_cons (dg_name 3 sc.nd) dgs_nil))))
      (dss_one (ds_ret (pd_name 3)))) dss_nil)
    (dss_one (ds_ret (pd_bin od_mod (pd_bin od_fdiv (pd_ixN 0 pd_int) pd_int) (pd_name 1))))))))
theorem ok__law_draw (T : Tx Lab.T K mg base w) : FnG P w K mg base 1 (T.A 44) (T.FD 44) ["_law_pool_here", "_law_most"] (spR K 2 m__law_draw) :=
  fn_R T.D__law_draw sc__law_draw rfl rfl (bd__law_draw T)
theorem b__law_draw (T : Tx Lab.T K mg base w) : Binds K (T.FD 44) ["_law_pool_here", "_law_most"] [] := T.D__law_draw.binds fun _ _ _ _ _ _ us hl => match us, hl with | [_, _], _ => rfl
def mb__law_table : DEnv → Option DFlow := (sSeq (sPar 3 4 (fCons (fBin addD (fC (.int 1)) (fCR 0 m__law_draw (fCons (rdF 2) fNil))) (fCons (fBin addD (fC (.int 1)) (fCR 0 m__law_draw (fCons (rdF 1) fNil))) fNil))) (sSeq (sSet 5 (fBin ixD (fFrz (fLst (fCons (fC (.int 2)) (fCons (fC (.int 3)) (fCons (fC (.int 9)) (fCons (fC (.int 1000)) fNil)))))) (fCR 0 m__law_draw (fCons (fC (.int 4)) fNil)))) (sSeq (sSetN 6 (fLst fNil)) (sSeq (sFor (iArg rng1 (fCons (rdF 4) fNil)) (gSet 7) (sIf (fAnd (fTst (fCmpL neD 6 (fFrz (fLst fNil)))) (fTst (fBin eqD (fCR 0 m__law_draw (fCons (fC (.int 6)) fNil)) (fC (.int 0))))) (sApp 6 (fIxN 6 (fCR 0 m__law_draw (fCons (fLenN 6) fNil)))) (sApp 6 (fCB tupleD (fCons (fFrz (nLc (iArg rng1 (fCons (rdF 3) fNil)) (gSet 8) fYes (fBin subD (fCR 0 m__law_draw (fCons (rdF 5) fNil)) (fBin fdivD (rdF 5) (fC (.int 2)))) [8])) fNil))))) (sRet (fCB tupleD (fCons (rdF 6) fNil)))))))
def m__law_table := runR 3 9 mb__law_table
theorem sc__law_table : FnScope ["_law_pool_here", "_law_most", "_law_wide", "_law_sides", "_law_many", "_law_spread", "_law_found", "_law_turn", "_law_side"] ["_law_pool_here", "_law_most", "_law_wide"] (defScope (topS 72)) := ⟨rfl, rfl, rfl, by decide +kernel, rfl, by decide +kernel, by decide +kernel⟩
theorem bd__law_table (T : Tx Lab.T K mg base w) : BodyOk P w K mg base ["_law_pool_here", "_law_most", "_law_wide", "_law_sides", "_law_many", "_law_spread", "_law_found", "_law_turn", "_law_side"] "_law_table" (topS 72) (T.A 45) (T.FD 45).code 1 mb__law_table := by
  have sc := sc__law_table
  intro cdv A outer s H E F hcv hW hgd hr
  exact (dss_cons (ds_par 3 4 (ps_par (i := 3) (j := 4) rfl sc.nd rfl rfl (by decide) rfl rfl (pda_cons (pd_bin od_add pd_int (pd_callR 0 ((ok__law_draw T).mono (by decide)) runR_len hgd hr T.g__law_draw T.D__law_draw.kp (b__law_draw T) (pda_cons (pd_name 2) pda_nil))) (pda_cons (pd_bin od_add pd_int (pd_callR 0 ((ok__law_draw T).mono (by decide)) runR_len hgd hr T.g__law_draw T.D__law_draw.kp (b__law_draw T) (pda_cons (pd_name 1) pda_nil))) pda_nil)) (by rfl)))
    (dss_cons (ds_set 5 (pd_ix (pn_pd (pn_lst (pda_cons pd_int (pda_cons pd_int (pda_cons pd_int (pda_cons pd_int pda_nil)))))) (pd_callR 0 ((ok__law_draw T).mono (by decide)) runR_len hgd hr T.g__law_draw T.D__law_draw.kp (b__law_draw T) (pda_cons pd_int pda_nil))) sc.nd)
    (dss_cons (ds_setN 6 (pn_lst pda_nil) sc.nd)
    (dss_cons (ds_for (di_range1 T.n_range (pda_cons (pd_name 4) pda_nil)) (dg_name 7 sc.nd) (dss_one (ds_if (pdt_w (pdw_and (pdt_cmpL (od_ne hr) neD_scal neD_b 6 (pn_pd (pn_lst pda_nil))) (pdw_and1 (pdt_cmp (od_eq hr) eqD_b (pd_callR 0 ((ok__law_draw T).mono (by decide)) runR_len hgd hr T.g__law_draw T.D__law_draw.kp (b__law_draw T) (pda_cons pd_int pda_nil)) pd_int)))) (dss_one (ds_append 6 (pd_ixN 6 (pd_callR 0 ((ok__law_draw T).mono (by decide)) runR_len hgd hr T.g__law_draw T.D__law_draw.kp (b__law_draw T) (pda_cons (pd_lenN 6 T.n_len) pda_nil))))) (dss_one (ds_append 6 (pd_callTy (cd_tuple) T.n_tuple (by decide +kernel) (pda_cons (pn_pd (pn_lc [("_law_side", 8)] sc.nd (di_range1 T.n_range (pda_cons (pd_name 3) pda_nil)) (blkOk_by (own := [("_law_side", 8)]) (by kernel_rfl)) (fun _ _ _ _ _ => (gn_name 8 sc.nd)) (fun _ _ _ _ _ => dts_nil) (fun _ _ _ _ _ => (pd_bin od_sub (pd_callR 0 ((ok__law_draw T).mono (by decide)) runR_len hgd hr T.g__law_draw T.D__law_draw.kp (b__law_draw T) (pda_cons (pd_name 5) pda_nil)) (pd_bin od_fdiv (pd_name 5) pd_int))))) pda_nil)))))))
    (dss_one (ds_ret (pd_callTy (cd_tuple) T.n_tuple (by decide +kernel) (pda_cons (pd_name 6) pda_nil))))))))
theorem ok__law_table (T : Tx Lab.T K mg base w) : FnG P w K mg base 2 (T.A 45) (T.FD 45) ["_law_pool_here", "_law_most", "_law_wide"] (spR K 3 m__law_table) :=
  fn_R T.D__law_table sc__law_table rfl rfl (bd__law_table T)
theorem b__law_table (T : Tx Lab.T K mg base w) : Binds K (T.FD 45) ["_law_pool_here", "_law_most", "_law_wide"] [] := T.D__law_table.binds fun _ _ _ _ _ _ us hl => match us, hl with | [_, _, _], _ => rfl
def mb__law_steps : DEnv → Option DFlow := (sSeq (sSetN 4 (fLst fNil)) (sSeq (sFor (iArg rng1 (fCons (fCR 0 m__law_draw (fCons (fBin addD (rdF 1) (fC (.int 1))) fNil)) fNil)) (gSet 5) (sSeq (sPar3 6 7 8 (fCons (fCR 0 m__law_draw (fCons (fC (.int 8)) fNil)) (fCons (fCR 0 m__law_draw (fCons (rdF 2) fNil)) (fCons (fBin addD (fC (.int 2)) (fCR 0 m__law_draw (fCons (fBin subD (rdF 3) (fC (.int 1))) fNil))) fNil)))) (sIf (fTst (fBin ltD (rdF 6) (fC (.int 3)))) (sApp 4 (fTup (fCons (fBin ixD (fFrz (fLst (fCons (fC (.str "up")) (fCons (fC (.str "down")) (fCons (fC (.str "up")) fNil))))) (rdF 6)) (fCons (rdF 7) fNil)))) (sIf (fTst (fBin eqD (rdF 6) (fC (.int 3)))) (sApp 4 (fTup (fCons (fC (.str "reverse")) fNil))) (sIf (fTst (fBin eqD (rdF 6) (fC (.int 4)))) (sApp 4 (fTup (fCons (fC (.str "restore")) fNil))) (sApp 4 (fTup (fCons (fBin ixD (fFrz (fLst (fCons (fC (.str "first")) (fCons (fC (.str "last")) (fCons (fC (.str "first")) fNil))))) (fBin subD (rdF 6) (fC (.int 5)))) (fCons (rdF 8) fNil))))))))) (sRet (fCB tupleD (fCons (rdF 4) fNil)))))
def m__law_steps := runR 4 9 mb__law_steps
theorem sc__law_steps : FnScope ["_law_pool_here", "_law_most", "_law_wide", "_law_size", "_law_found", "_law_turn", "_law_way", "_law_side", "_law_many"] ["_law_pool_here", "_law_most", "_law_wide", "_law_size"] (defScope (topS 73)) := ⟨rfl, rfl, rfl, by decide +kernel, rfl, by decide +kernel, by decide +kernel⟩
theorem bd__law_steps (T : Tx Lab.T K mg base w) : BodyOk P w K mg base ["_law_pool_here", "_law_most", "_law_wide", "_law_size", "_law_found", "_law_turn", "_law_way", "_law_side", "_law_many"] "_law_steps" (topS 73) (T.A 46) (T.FD 46).code 1 mb__law_steps := by
  have sc := sc__law_steps
  intro cdv A outer s H E F hcv hW hgd hr
  exact (dss_cons (ds_setN 4 (pn_lst pda_nil) sc.nd)
    (dss_cons (ds_for (di_range1 T.n_range (pda_cons (pd_callR 0 ((ok__law_draw T).mono (by decide)) runR_len hgd hr T.g__law_draw T.D__law_draw.kp (b__law_draw T) (pda_cons (pd_bin od_add (pd_name 1) pd_int) pda_nil)) pda_nil)) (dg_name 5 sc.nd) (dss_cons (ds_par3 6 7 8 (ps_par3 (i := 6) (j := 7) (l := 8) rfl sc.nd rfl rfl rfl (by decide) (by decide) (by decide) rfl rfl rfl (pda_cons (pd_callR 0 ((ok__law_draw T).mono (by decide)) runR_len hgd hr T.g__law_draw T.D__law_draw.kp (b__law_draw T) (pda_cons pd_int pda_nil)) (pda_cons (pd_callR 0 ((ok__law_draw T).mono (by decide)) runR_len hgd hr T.g__law_draw T.D__law_draw.kp (b__law_draw T) (pda_cons (pd_name 2) pda_nil)) (pda_cons (pd_bin od_add pd_int (pd_callR 0 ((ok__law_draw T).mono (by decide)) runR_len hgd hr T.g__law_draw T.D__law_draw.kp (b__law_draw T) (pda_cons (pd_bin od_sub (pd_name 3) pd_int) pda_nil))) pda_nil))) (by rfl)))
      (dss_one (ds_if (pdt_cmp od_lt intD_b (pd_name 6) pd_int) (dss_one (ds_append 4 (pd_tup (pda_cons (pd_ix (pn_pd (pn_lst (pda_cons pd_str (pda_cons pd_str (pda_cons pd_str pda_nil))))) (pd_name 6)) (pda_cons (pd_name 7) pda_nil))))) (dss_one (ds_if (pdt_cmp (od_eq hr) eqD_b (pd_name 6) pd_int) (dss_one (ds_append 4 (pd_tup (pda_cons pd_str pda_nil)))) (dss_one (ds_if (pdt_cmp (od_eq hr) eqD_b (pd_name 6) pd_int) (dss_one (ds_append 4 (pd_tup (pda_cons pd_str pda_nil)))) (dss_one (ds_append 4 (pd_tup (pda_cons (pd_ix (pn_pd (pn_lst (pda_cons pd_str (pda_cons pd_str (pda_cons pd_str pda_nil))))) (pd_bin od_sub (pd_name 6) pd_int)) (pda_cons (pd_name 8) pda_nil)))))))))))))
    (dss_one (ds_ret (pd_callTy (cd_tuple) T.n_tuple (by decide +kernel) (pda_cons (pd_name 4) pda_nil))))))
theorem ok__law_steps (T : Tx Lab.T K mg base w) : FnG P w K mg base 2 (T.A 46) (T.FD 46) ["_law_pool_here", "_law_most", "_law_wide", "_law_size"] (spR K 4 m__law_steps) :=
  fn_R T.D__law_steps sc__law_steps rfl rfl (bd__law_steps T)
theorem b__law_steps (T : Tx Lab.T K mg base w) : Binds K (T.FD 46) ["_law_pool_here", "_law_most", "_law_wide", "_law_size"] [] := T.D__law_steps.binds fun _ _ _ _ _ _ us hl => match us, hl with | [_, _, _, _], _ => rfl
def mb__law_program : DEnv → Option DFlow := (sSeq (sSet 4 (fCR 0 m__law_steps (fCons (fC (.int 6)) (fCons (rdF 1) (fCons (rdF 2) fNil))))) (sSeq (sFor (iArg rng1 (fCons (fCR 0 m__law_draw (fCons (fC (.int 3)) fNil)) fNil)) (gSet 5) (sSeq (sSet 6 (fCR 0 m__law_steps (fCons (fC (.int 4)) (fCons (rdF 1) (fCons (rdF 2) fNil))))) (sSeq (sIf (fTst (fBin eqD (fCR 0 m__law_draw (fCons (fC (.int 3)) fNil)) (fC (.int 0)))) (sSeq (sSet 8 (fBin addD (fC (.int 1)) (fCR 0 m__law_draw (fCons (rdF 3) fNil)))) (sSet 6 (fBin addD (rdF 6) (fTup (fCons (fTup (fCons (fC (.str "repeat")) (fCons (rdF 8) (fCons (fCR 0 m__law_steps (fCons (fC (.int 3)) (fCons (rdF 1) (fCons (rdF 2) fNil)))) fNil)))) fNil))))) sNil) (sSeq (sSet 7 (fCR 0 m__law_draw (fCons (fBin addD (fLenN 4) (fC (.int 1))) fNil))) (sSet 4 (fBin addD (fBin addD (fSl (rdF 4) oNone (oSome (rdF 7))) (fTup (fCons (fTup (fCons (fC (.str "repeat")) (fCons (fBin addD (fC (.int 1)) (fCR 0 m__law_draw (fCons (rdF 3) fNil))) (fCons (rdF 6) fNil)))) fNil))) (fSl (rdF 4) (oSome (rdF 7)) oNone))))))) (sRet (rdF 4))))
def m__law_program := runR 4 9 mb__law_program
theorem sc__law_program : FnScope ["_law_pool_here", "_law_wide", "_law_size", "_law_times", "_law_found", "_law_turn", "_law_inner", "_law_at", "_law_often"] ["_law_pool_here", "_law_wide", "_law_size", "_law_times"] (defScope (topS 74)) := ⟨rfl, rfl, rfl, by decide +kernel, rfl, by decide +kernel, by decide +kernel⟩
theorem bd__law_program (T : Tx Lab.T K mg base w) : BodyOk P w K mg base ["_law_pool_here", "_law_wide", "_law_size", "_law_times", "_law_found", "_law_turn", "_law_inner", "_law_at", "_law_often"] "_law_program" (topS 74) (T.A 47) (T.FD 47).code 2 mb__law_program := by
  have sc := sc__law_program
  intro cdv A outer s H E F hcv hW hgd hr
  exact (dss_cons (ds_set 4 (pd_callR 0 ((ok__law_steps T).mono (by decide)) runR_len hgd hr T.g__law_steps T.D__law_steps.kp (b__law_steps T) (pda_cons pd_int (pda_cons (pd_name 1) (pda_cons (pd_name 2) pda_nil)))) sc.nd)
    (dss_cons (ds_for (di_range1 T.n_range (pda_cons (pd_callR 0 ((ok__law_draw T).mono (by decide)) runR_len hgd hr T.g__law_draw T.D__law_draw.kp (b__law_draw T) (pda_cons pd_int pda_nil)) pda_nil)) (dg_name 5 sc.nd) (dss_cons (ds_set 6 (pd_callR 0 ((ok__law_steps T).mono (by decide)) runR_len hgd hr T.g__law_steps T.D__law_steps.kp (b__law_steps T) (pda_cons pd_int (pda_cons (pd_name 1) (pda_cons (pd_name 2) pda_nil)))) sc.nd)
      (dss_cons (ds_if (pdt_cmp (od_eq hr) eqD_b (pd_callR 0 ((ok__law_draw T).mono (by decide)) runR_len hgd hr T.g__law_draw T.D__law_draw.kp (b__law_draw T) (pda_cons pd_int pda_nil)) pd_int) (dss_cons (ds_set 8 (pd_bin od_add pd_int (pd_callR 0 ((ok__law_draw T).mono (by decide)) runR_len hgd hr T.g__law_draw T.D__law_draw.kp (b__law_draw T) (pda_cons (pd_name 3) pda_nil))) sc.nd)
        (dss_one (ds_set 6 (pd_bin od_add (pd_name 6) (pd_tup (pda_cons (pd_tup (pda_cons pd_str (pda_cons (pd_name 8) (pda_cons (pd_callR 0 ((ok__law_steps T).mono (by decide)) runR_len hgd hr T.g__law_steps T.D__law_steps.kp (b__law_steps T) (pda_cons pd_int (pda_cons (pd_name 1) (pda_cons (pd_name 2) pda_nil)))) pda_nil)))) pda_nil))) sc.nd))) dss_nil)
      (dss_cons (ds_set 7 (pd_callR 0 ((ok__law_draw T).mono (by decide)) runR_len hgd hr T.g__law_draw T.D__law_draw.kp (b__law_draw T) (pda_cons (pd_bin od_add (pd_lenN 4 T.n_len) pd_int) pda_nil)) sc.nd)
      (dss_one (ds_set 4 (pd_bin od_add (pd_bin od_add (pd_slice (pd_name 4) do_none (do_some (pd_name 7))) (pd_tup (pda_cons (pd_tup (pda_cons pd_str (pda_cons (pd_bin od_add pd_int (pd_callR 0 ((ok__law_draw T).mono (by decide)) runR_len hgd hr T.g__law_draw T.D__law_draw.kp (b__law_draw T) (pda_cons (pd_name 3) pda_nil))) (pda_cons (pd_name 6) pda_nil)))) pda_nil))) (pd_slice (pd_name 4) (do_some (pd_name 7)) do_none)) sc.nd))))))
    (dss_one (ds_ret (pd_name 4)))))
theorem ok__law_program (T : Tx Lab.T K mg base w) : FnG P w K mg base 3 (T.A 47) (T.FD 47) ["_law_pool_here", "_law_wide", "_law_size", "_law_times"] (spR K 4 m__law_program) :=
  fn_R T.D__law_program sc__law_program rfl rfl (bd__law_program T)
theorem b__law_program (T : Tx Lab.T K mg base w) : Binds K (T.FD 47) ["_law_pool_here", "_law_wide", "_law_size", "_law_times"] [] := T.D__law_program.binds fun _ _ _ _ _ _ us hl => match us, hl with | [_, _, _, _], _ => rfl
def mb__law_all_right : DEnv → Option DFlow := (sSeq (sSetN 2 (nLc (iSeq (rdF 1)) (gSet 4) fYes (fCB mo_format_program (fCons (rdF 4) fNil)) [4])) (sSeq (sFor (iArg enumTA (fCons (rdF 1) fNil)) (gTupD 2 (gsCons (gSet 3) (gsCons (gSet 4) gsNil))) (sSeq (sSet 5 (fCB mo_parse_program (fCons (fIxN 2 (rdF 3)) fNil))) (sSeq (sIf (fOr (fTst (fBin neD (fCB reprE (fCons (rdF 5) fNil)) (fCB reprE (fCons (rdF 4) fNil)))) (fTst (fBin neD (fCB mo_format_program (fCons (rdF 5) fNil)) (fIxN 2 (rdF 3))))) (sRet (fC (.bool false))) sNil) (sSeq (sIf (fTst (fCB anyD (fCons (fFrz (nLc (iArg rng1 (fCons (fLenN 1) fNil)) (gSet 6) fYes (fBin neD (fBin eqD (fIxN 2 (rdF 3)) (fIxN 2 (rdF 6))) (fBin eqD (rdF 4) (fIxN 1 (rdF 6)))) [6])) fNil))) (sRet (fC (.bool false))) sNil) (sIf (fOr (fTst (fBin neD (fCB mo_run_places (fCons (rdF 0) (fCons (rdF 5) fNil))) (fCB mo_run_places (fCons (rdF 0) (fCons (rdF 4) fNil))))) (fTst (fBin neD (fCB m_count_commands (fCons (rdF 5) fNil)) (fCB m_count_commands (fCons (rdF 4) fNil))))) (sRet (fC (.bool false))) sNil))))) (sRet (fC (.bool true)))))
def m__law_all_right := runF 2 7 mb__law_all_right
theorem sc__law_all_right : FnScope ["_law_records", "_law_some", "_law_texts", "_law_k", "_law_steps_here", "_law_told", "_law_j"] ["_law_records", "_law_some"] (defScope (topS 75)) := ⟨rfl, rfl, rfl, by decide +kernel, rfl, by decide +kernel, by decide +kernel⟩
theorem bd__law_all_right (T : Tx Lab.T K mg base w) : BodyOk P w K mg base ["_law_records", "_law_some", "_law_texts", "_law_k", "_law_steps_here", "_law_told", "_law_j"] "_law_all_right" (topS 75) (T.A 48) (T.FD 48).code 20 mb__law_all_right := by
  have sc := sc__law_all_right
  intro cdv A outer s H E F hcv hW hgd hr
  exact (dss_cons (ds_setN 2 (pn_lc [("_law_steps_here", 4)] sc.nd (di_seq (pd_name 1)) (blkOk_by (own := [("_law_steps_here", 4)]) (by kernel_rfl)) (fun _ _ _ _ _ => (gn_name 4 sc.nd)) (fun _ _ _ _ _ => dts_nil) (fun _ _ _ _ _ => (pd_call ((ok_format_program T).mono (by decide)) okX_len hgd hr T.g_format_program T.D_format_program.kp (b_format_program T) (pda_cons (pd_name 4) pda_nil)))) sc.nd)
    (dss_cons (ds_for (di_enumA T.n_enumerate (pda_cons (pd_name 1) pda_nil)) (dg_tup (dgs_cons (dg_name 3 sc.nd) (dgs_cons (dg_name 4 sc.nd) dgs_nil))) (dss_cons (ds_set 5 (pd_call ((ok_parse_program T).mono (by decide)) okX_len hgd hr T.g_parse_program T.D_parse_program.kp (b_parse_program T) (pda_cons (pd_ixN 2 (pd_name 3)) pda_nil)) sc.nd)
      (dss_cons (ds_if (pdt_w (pdw_or (pdt_cmp (od_ne hr) neD_b (pd_callB (cd_reprE hr hgd LabR.on) T.n_repr (by decide +kernel) (pda_cons (pd_name 5) pda_nil)) (pd_callB (cd_reprE hr hgd LabR.on) T.n_repr (by decide +kernel) (pda_cons (pd_name 4) pda_nil))) (pdw_or1 (pdt_cmp (od_ne hr) neD_b (pd_call ((ok_format_program T).mono (by decide)) okX_len hgd hr T.g_format_program T.D_format_program.kp (b_format_program T) (pda_cons (pd_name 5) pda_nil)) (pd_ixN 2 (pd_name 3)))))) (dss_one (ds_ret pd_bl)) dss_nil)
      (dss_cons (ds_if (pdt_val (pd_callB (cd_any rfl) T.n_any (by decide +kernel) (pda_cons (pn_pd (pn_lc [("_law_j", 6)] sc.nd (di_range1 T.n_range (pda_cons (pd_lenN 1 T.n_len) pda_nil)) (blkOk_by (own := [("_law_j", 6)]) (by kernel_rfl)) (fun _ _ _ _ _ => (gn_name 6 sc.nd)) (fun _ _ _ _ _ => dts_nil) (fun _ _ _ _ _ => (pd_cmp (od_ne hr) (pd_cmp (od_eq hr) (pd_ixN 2 (pd_name 3)) (pd_ixN 2 (pd_name 6))) (pd_cmp (od_eq hr) (pd_name 4) (pd_ixN 1 (pd_name 6))))))) pda_nil))) (dss_one (ds_ret pd_bl)) dss_nil)
      (dss_one (ds_if (pdt_w (pdw_or (pdt_cmp (od_ne hr) neD_b (pd_call ((ok_run_places T).mono (by decide)) okX_len hgd hr T.g_run_places T.D_run_places.kp (b_run_places T) (pda_cons (pd_name 0) (pda_cons (pd_name 5) pda_nil))) (pd_call ((ok_run_places T).mono (by decide)) okX_len hgd hr T.g_run_places T.D_run_places.kp (b_run_places T) (pda_cons (pd_name 0) (pda_cons (pd_name 4) pda_nil)))) (pdw_or1 (pdt_cmp (od_ne hr) neD_b (pd_call ((ok_count_commands T).mono (by decide)) runF_len hgd hr T.g_count_commands T.D_count_commands.kp (b_count_commands T) (pda_cons (pd_name 5) pda_nil)) (pd_call ((ok_count_commands T).mono (by decide)) runF_len hgd hr T.g_count_commands T.D_count_commands.kp (b_count_commands T) (pda_cons (pd_name 4) pda_nil)))))) (dss_one (ds_ret pd_bl)) dss_nil))))))
    (dss_one (ds_ret pd_bl))))
theorem ok__law_all_right (T : Tx Lab.T K mg base w) : FnG P w K mg base 21 (T.A 48) (T.FD 48) ["_law_records", "_law_some"] (spF K 2 m__law_all_right) :=
  fn_F T.D__law_all_right sc__law_all_right rfl rfl (bd__law_all_right T)
theorem b__law_all_right (T : Tx Lab.T K mg base w) : Binds K (T.FD 48) ["_law_records", "_law_some"] [] := T.D__law_all_right.binds fun _ _ _ _ _ _ us hl => match us, hl with | [_, _], _ => rfl
def mb__law_right : DEnv → Option DFlow := (sSeq (sSet 1 (fCR 0 m__law_table (fCons (fIf (fTst (fBin eqD (fCR 0 m__law_draw (fCons (fC (.int 8)) fNil)) (fC (.int 5)))) (fC (.int 30)) (fC (.int 9))) (fCons (fC (.int 5)) fNil)))) (sSeq (sSet 2 (fCB minD (fCons (fC (.int 4)) (fCons (fCB lenD (fCons (fIxN 1 (fC (.int 0))) fNil)) fNil)))) (sSeq (sPar 3 4 (fCons (fCR 0 m__law_program (fCons (rdF 2) (fCons (fC (.int 29)) (fCons (fC (.int 9)) fNil)))) (fCons (fCR 0 m__law_program (fCons (rdF 2) (fCons (fC (.int 29)) (fCons (fBin powD (fC (.int 10)) (fC (.int 30))) fNil)))) fNil))) (sSeq (sSetN 5 (fLst (fCons (rdF 3) (fCons (rdF 4) (fCons (fBin addD (rdF 3) (rdF 4)) (fCons (fBin addD (rdF 3) (fTup (fCons (fTup (fCons (fC (.str "reverse")) fNil)) fNil))) (fCons (fTup (fCons (fTup (fCons (fC (.str "repeat")) (fCons (fC (.int 1)) (fCons (rdF 4) fNil)))) fNil)) (fCons (fTup (fCons (fTup (fCons (fC (.str "repeat")) (fCons (fBin powD (fC (.int 10)) (fC (.int 30))) (fCons (rdF 4) fNil)))) fNil)) fNil)))))))) (sSeq (sSetN 5 (nAdd (rdF 5) (fFrz (fLst (fCons (fSl (rdF 3) (oSome (fC (.int 1))) oNone) (fCons (fBin repTD (fTup (fCons (fTup (fCons (fC (.str "last")) (fCons (fC (.int 29)) fNil))) (fCons (fTup (fCons (fC (.str "first")) (fCons (fC (.int 29)) fNil))) fNil))) (fC (.int 200))) (fCons (fBin repTD (fTup (fCons (fTup (fCons (fC (.str "down")) (fCons (fC (.int 0)) fNil))) (fCons (fTup (fCons (fC (.str "up")) (fCons (fC (.int 0)) fNil))) fNil))) (fC (.int 200))) fNil))))))) (sSeq (sIf (fNot (fTst (fCB m__law_all_right (fCons (rdF 1) (fCons (rdF 5) fNil))))) (sRet (fC (.bool false))) sNil) (sSeq (sSet 6 (fBin mulS0D (fC (.str " ")) (fCB intOfD (fCons (fAndV (fBin neD (rdF 3) (fTup fNil)) (fBin neD (rdF 4) (fTup fNil))) fNil)))) (sSeq (sSetN 7 (nLc (iSeq (fFrz (fLst (fCons (rdF 3) (fCons (rdF 4) (fCons (fBin addD (rdF 3) (rdF 4)) fNil)))))) (gSet 8) fYes (fCB mo_format_program (fCons (rdF 8) fNil)) [8])) (sRet (fBin eqD (fIxN 7 (fC (.int 2))) (fBin addD (fBin addD (fIxN 7 (fC (.int 0))) (rdF 6)) (fIxN 7 (fC (.int 1))))))))))))))
def m__law_right := runR 1 9 mb__law_right
theorem sc__law_right : FnScope ["_law_pool_here", "_law_records", "_law_wide", "_law_steps_here", "_law_more", "_law_some", "_law_gap", "_law_texts", "_law_one_part"] ["_law_pool_here"] (defScope (topS 76)) := ⟨rfl, rfl, rfl, by decide +kernel, rfl, by decide +kernel, by decide +kernel⟩
theorem bd__law_right (T : Tx Lab.T K mg base w) : BodyOk P w K mg base ["_law_pool_here", "_law_records", "_law_wide", "_law_steps_here", "_law_more", "_law_some", "_law_gap", "_law_texts", "_law_one_part"] "_law_right" (topS 76) (T.A 49) (T.FD 49).code 21 mb__law_right := by
  have sc := sc__law_right
  intro cdv A outer s H E F hcv hW hgd hr
  exact (dss_cons (ds_set 1 (pd_callR 0 ((ok__law_table T).mono (by decide)) runR_len hgd hr T.g__law_table T.D__law_table.kp (b__law_table T) (pda_cons (pd_if (pdt_cmp (od_eq hr) eqD_b (pd_callR 0 ((ok__law_draw T).mono (by decide)) runR_len hgd hr T.g__law_draw T.D__law_draw.kp (b__law_draw T) (pda_cons pd_int pda_nil)) pd_int) pd_int pd_int) (pda_cons pd_int pda_nil))) sc.nd)
    (dss_cons (ds_set 2 (pd_callB (cd_min rfl) T.n_min (by decide +kernel) (pda_cons pd_int (pda_cons (pd_callB (cd_len) T.n_len (by decide +kernel) (pda_cons (pd_ixN 1 pd_int) pda_nil)) pda_nil))) sc.nd)
    (dss_cons (ds_par 3 4 (ps_par (i := 3) (j := 4) rfl sc.nd rfl rfl (by decide) rfl rfl (pda_cons (pd_callR 0 ((ok__law_program T).mono (by decide)) runR_len hgd hr T.g__law_program T.D__law_program.kp (b__law_program T) (pda_cons (pd_name 2) (pda_cons pd_int (pda_cons pd_int pda_nil)))) (pda_cons (pd_callR 0 ((ok__law_program T).mono (by decide)) runR_len hgd hr T.g__law_program T.D__law_program.kp (b__law_program T) (pda_cons (pd_name 2) (pda_cons pd_int (pda_cons (pd_bin od_pow pd_int pd_int) pda_nil)))) pda_nil)) (by rfl)))
    (dss_cons (ds_setN 5 (pn_lst (pda_cons (pd_name 3) (pda_cons (pd_name 4) (pda_cons (pd_bin od_add (pd_name 3) (pd_name 4)) (pda_cons (pd_bin od_add (pd_name 3) (pd_tup (pda_cons (pd_tup (pda_cons pd_str pda_nil)) pda_nil))) (pda_cons (pd_tup (pda_cons (pd_tup (pda_cons pd_str (pda_cons pd_int (pda_cons (pd_name 4) pda_nil)))) pda_nil)) (pda_cons (pd_tup (pda_cons (pd_tup (pda_cons pd_str (pda_cons (pd_bin od_pow pd_int pd_int) (pda_cons (pd_name 4) pda_nil)))) pda_nil)) pda_nil))))))) sc.nd)
    (dss_cons (ds_setN 5 (pn_addL (pd_name 5) (pn_pd (pn_lst (pda_cons (pd_slice (pd_name 3) (do_some pd_int) do_none) (pda_cons (pd_bin od_repT (pd_tup (pda_cons (pd_tup (pda_cons pd_str (pda_cons pd_int pda_nil))) (pda_cons (pd_tup (pda_cons pd_str (pda_cons pd_int pda_nil))) pda_nil))) pd_int) (pda_cons (pd_bin od_repT (pd_tup (pda_cons (pd_tup (pda_cons pd_str (pda_cons pd_int pda_nil))) (pda_cons (pd_tup (pda_cons pd_str (pda_cons pd_int pda_nil))) pda_nil))) pd_int) pda_nil)))))) sc.nd)
    (dss_cons (ds_if (pdt_not (pdt_val (pd_call ((ok__law_all_right T).mono (by decide)) runF_len hgd hr T.g__law_all_right T.D__law_all_right.kp (b__law_all_right T) (pda_cons (pd_name 1) (pda_cons (pd_name 5) pda_nil))))) (dss_one (ds_ret pd_bl)) dss_nil)
    (dss_cons (ds_set 6 (pd_bin od_mulS0 pd_str (pd_callTy (cd_intOf) T.n_int (by decide +kernel) (pda_cons (pd_and (pd_cmp (od_ne hr) (pd_name 3) (pd_tup pda_nil)) (pd_one (pd_cmp (od_ne hr) (pd_name 4) (pd_tup pda_nil)))) pda_nil))) sc.nd)
    (dss_cons (ds_setLc 7 [("_law_one_part", 8)] sc.nd (di_seq (pn_pd (pn_lst (pda_cons (pd_name 3) (pda_cons (pd_name 4) (pda_cons (pd_bin od_add (pd_name 3) (pd_name 4)) pda_nil)))))) (blkOk_by (own := [("_law_one_part", 8)]) (by kernel_rfl)) (fun _ _ _ _ _ => (gn_name 8 sc.nd)) (fun _ _ _ _ _ => dts_nil) (fun _ _ _ _ _ => (pd_call ((ok_format_program T).mono (by decide)) okX_len hgd hr T.g_format_program T.D_format_program.kp (b_format_program T) (pda_cons (pd_name 8) pda_nil))) (sw_true rfl rfl rfl (by decide +kernel)))
    (dss_one (ds_ret (pd_cmp (od_eq hr) (pd_ixN 7 pd_int) (pd_bin od_add (pd_bin od_add (pd_ixN 7 pd_int) (pd_name 6)) (pd_ixN 7 pd_int)))))))))))))
theorem ok__law_right (T : Tx Lab.T K mg base w) : FnG P w K mg base 22 (T.A 49) (T.FD 49) ["_law_pool_here"] (spR K 1 m__law_right) :=
  fn_R T.D__law_right sc__law_right rfl rfl (bd__law_right T)
theorem b__law_right (T : Tx Lab.T K mg base w) : Binds K (T.FD 49) ["_law_pool_here"] [] := T.D__law_right.binds fun _ _ _ _ _ _ us hl => match us, hl with | [_], _ => rfl
def mb_law : DEnv → Option DFlow := (sRet (fCB allD (fCons (fFrz (nLc (iArg rng1 (fCons (fCB maxD (fCons (fC (.int 2)) (fCons (fCB minD (fCons (fLenN 0) (fCons (fC (.int 5)) fNil))) fNil))) fNil)) (gSet 1) fYes (fCRT m__law_right (fCN m__law_pool (fCons (fCB m__law_cell (fCons (rdF 0) (fCons (rdF 1) fNil))) fNil))) [1])) fNil)))
def m_law := runF 1 2 mb_law
theorem sc_law : FnScope ["_law_script", "_law_k"] ["_law_script"] (defScope (topS 77)) := ⟨rfl, rfl, rfl, by decide +kernel, rfl, by decide +kernel, by decide +kernel⟩
theorem bd_law (T : Tx Lab.T K mg base w) : BodyOk P w K mg base ["_law_script", "_law_k"] "law" (topS 77) (T.A 50) (T.FD 50).code 22 mb_law := by
  have sc := sc_law
  intro cdv A outer s H E F hcv hW hgd hr
  exact (dss_one (ds_ret (pd_callB (cd_all rfl) T.n_all (by decide +kernel) (pda_cons (pn_pd (pn_lc [("_law_k", 1)] sc.nd (di_range1 T.n_range (pda_cons (pd_callB (cd_max rfl) T.n_max (by decide +kernel) (pda_cons pd_int (pda_cons (pd_callB (cd_min rfl) T.n_min (by decide +kernel) (pda_cons (pd_lenN 0 T.n_len) (pda_cons pd_int pda_nil))) pda_nil))) pda_nil)) (blkOk_by (own := [("_law_k", 1)]) (by kernel_rfl)) (fun _ _ _ _ _ => (gn_name 1 sc.nd)) (fun _ _ _ _ _ => dts_nil) (fun _ _ _ _ _ => (pd_callRT ((ok__law_right T).mono (by decide)) runR_len hgd hr T.g__law_right T.D__law_right.kp (b__law_right T) (pn_call ((ok__law_pool T).mono (by decide)) runN_len hgd hr T.g__law_pool T.D__law_pool.kp (b__law_pool T) (pda_cons (pd_call ((ok__law_cell T).mono (by decide)) runF_len hgd hr T.g__law_cell T.D__law_cell.kp (b__law_cell T) (pda_cons (pd_name 0) (pda_cons (pd_name 1) pda_nil))) pda_nil)))))) pda_nil))))
theorem ok_law (T : Tx Lab.T K mg base w) : FnG P w K mg base 23 (T.A 50) (T.FD 50) ["_law_script"] (spF K 1 m_law) :=
  fn_F T.D_law sc_law rfl rfl (bd_law T)
end
end DL
end L2


set_option Elab.async false
set_option maxRecDepth 100000
set_option maxHeartbeats 4000000
set_option autoImplicit false
namespace L2
namespace DL
open PySem PySem.Spec PyProof.Rows
local instance labNone_K22P : Lab := { w := none, T := [], gd := True }
def PoolOk (es : List PyData) : Prop := ∃ a b n : Int, es = [.int a, .int b, .int n] ∧ 0 ≤ a ∧ a < 2147483249 ∧ 0 ≤ b
theorem draw_spec {es : List PyData} (h : PoolOk es) {m : Int} (h0 : 0 < m) (h1 : m < 10000000000000000000000000000000000000000) : ∃ r es', m__law_draw es [.int m] = some (.int r, es') ∧ PoolOk es' ∧ 0 ≤ r ∧ r < m := by
  obtain ⟨a, b, n, rfl, ha, ha', hb⟩ := h
  have c1 : a.natAbs < 18446744073709551616 := by omega
  have hM : (0 : Int) < 2147483249 := by decide
  have e1 := Int.emod_nonneg ((a * (a % 50021 + 30011) + 80021 * (n + 1))) (show (2147483249 : Int) ≠ 0 by decide)
  have e2 := Int.emod_lt_of_pos ((a * (a % 50021 + 30011) + 80021 * (n + 1))) hM
  by_cases hpos : 0 < b
  · refine ⟨b % m, [.int ((a * (a % 50021 + 30011) + 80021 * (n + 1)) % 2147483249), .int (b / m), .int (n + 1)], ?_, ⟨_, _, _, rfl, e1, e2, Int.ediv_nonneg hb (by omega)⟩, Int.emod_nonneg _ (by omega), Int.emod_lt_of_pos _ h0⟩
    simp [m__law_draw, runR, mb__law_draw, sSeq, sAsg, sSet, sIf, sRet, sNil, fBin, fIxN, fC, fTst, fCB, fCons, fNil, rdB, rdF, rdO, wrO, gSubD, gSet, gTupD, gsCons, gsNil, addD, modD, mulD, gtD, divmodB, intD, ixD, atI, ixN, startE, rf0, truthD, c1, hpos, h0, h1]
  · have hb0 : b = 0 := by omega
    subst hb0
    refine ⟨(a * (a % 50021 + 30011) + 80021 * (n + 1)) % 2147483249 / 64 % m, [.int ((a * (a % 50021 + 30011) + 80021 * (n + 1)) % 2147483249), .int 0, .int (n + 1)], ?_, ⟨_, _, _, rfl, e1, e2, by omega⟩, Int.emod_nonneg _ (by omega), Int.emod_lt_of_pos _ h0⟩
    simp [m__law_draw, runR, mb__law_draw, sSeq, sAsg, sSet, sIf, sRet, sNil, fBin, fIxN, fC, fTst, fCB, fCons, fNil, rdB, rdF, rdO, wrO, gSubD, gSet, gTupD, gsCons, gsNil, addD, modD, mulD, fdivD, gtD, divmodB, intD, ixD, atI, ixN, startE, rf0, truthD, c1, h0, h1]
theorem pool_spec (c : Int) : ∃ es, m__law_pool [.int c] = some es ∧ PoolOk es := by
  have hM : (0 : Int) < 2147483249 := by decide
  have e1 := Int.emod_nonneg c (show (2147483249 : Int) ≠ 0 by decide)
  have e2 := Int.emod_lt_of_pos c hM
  by_cases h1 : c < 0
  · refine ⟨[.int (c % 2147483249), .int (-c), .int 0], ?_, _, _, _, rfl, e1, e2, by omega⟩
    simp [m__law_pool, runN, mb__law_pool, sSeq, sSet, sRetN, fIf, fOr, fBin, fC, fTst, fCB, fCons, fNil, fLst, rdF, modD, powD, ltD, geD, absD, intD, startE, truthD, h1, lim]
  · by_cases h2 : (1000000000000000000 : Int) ≤ c
    · refine ⟨[.int (c % 2147483249), .int c, .int 0], ?_, _, _, _, rfl, e1, e2, by omega⟩
      simp [m__law_pool, runN, mb__law_pool, sSeq, sSet, sRetN, fIf, fOr, fBin, fC, fTst, fCB, fCons, fNil, fLst, rdF, modD, powD, ltD, geD, absD, intD, startE, truthD, h1, h2, lim]
    · refine ⟨[.int (c % 2147483249), .int 0, .int 0], ?_, _, _, _, rfl, e1, e2, by omega⟩
      simp [m__law_pool, runN, mb__law_pool, sSeq, sSet, sRetN, fIf, fOr, fBin, fC, fTst, fCB, fCons, fNil, fLst, rdF, modD, powD, ltD, geD, absD, intD, startE, truthD, h1, h2, lim]
theorem cell_loop (a b : Option DV) : ∀ (xs : List Int) (s : Int) (z : Option DV), ∃ s' z', forD (gSet 3) (sSet 2 (fBin modD (fBin addD (fBin mulD (rdF 2) (fC (.int 41221))) (rdF 3)) (fC (.int 2147483249)))) (xs.map .int) [a, b, some (.fr (.int s)), z] = some (.nx [a, b, some (.fr (.int s')), z'])
  | [], s, z => ⟨s, z, rfl⟩
  | x :: xs, s, z => by
    obtain ⟨s', z', h⟩ := cell_loop a b xs ((s * 41221 + x) % 2147483249) (some (.fr (.int x)))
    refine ⟨s', z', ?_⟩
    rw [List.map_cons, forD]
    simp [gSet, sSet, fBin, rdF, fC, modD, addD, mulD, intD]
    exact h
theorem map_drop_take (ns : List Int) (i k : Nat) : ((ns.map PyData.int).drop i).take k = ((ns.drop i).take k).map PyData.int := by
  rw [List.map_take, List.map_drop]
theorem cell_spec (ns : List Int) {k : Int} (h0 : 0 ≤ k) (h1 : k ≤ 1000) : ∃ c, m__law_cell [.list (ns.map .int), .int k] = some (.int c) := by
  by_cases hk : k < (ns.length : Int)
  · refine ⟨ns.getD k.toNat 0, ?_⟩
    have hk2 : k.toNat < ns.length := by omega
    simp [m__law_cell, runF, mb__law_cell, sSeq, sIf, sRet, fTst, fBin, rdF, rdB, fLenN, lenD, ltD, intD, truthD, startE, hk, fIxN, ixD, atI, ixN, h0, hk2]
  · have c1 : k.natAbs < 18446744073709551616 := by omega
    obtain ⟨s', z', h⟩ := cell_loop (some (.fr (.list (ns.map .int)))) (some (.fr (.int k))) ((ns.drop 0).take (HT.sIx ns.length ns.length (some 3) - 0)) (60013 * (k * k + 5 * k + 3) % 2147483249) none
    refine ⟨s', ?_⟩
    rw [← map_drop_take] at h
    simp [m__law_cell, runF, mb__law_cell, sSeq, sIf, sRet, sNil, sSet, sFor, iSeq, fSl, slD, cutD, seqD, oNone, oSome, fTst, fBin, rdF, rdB, fLenN, lenD, ltD, mulD, addD, modD, fC, intD, truthD, startE, hk, c1]
    simp [HT.sIx] at h ⊢
    rw [h]
    rfl
/-! ### the checker's ends -/
theorem ev_exX {f : DEnv → Option DX} {env e1 : DEnv} {d : PyData} (h : f env = some (.ok d e1)) : sExprX f env = some (.nx e1) := by unfold sExprX; rw [h]; rfl
theorem ev_stX {f : DEnv → Option DX} {env e1 e2 : DEnv} {d : PyData} {i : Nat} (h : f env = some (.ok d e1)) (he : e1.set i (some (.fr d)) = e2) : sSetX i f env = some (.nx e2) := by unfold sSetX; rw [h, ← he]; rfl
end DL
end L2


set_option Elab.async false
set_option maxRecDepth 100000
set_option maxHeartbeats 4000000
set_option autoImplicit false
namespace L2
namespace DL
open PySem PySem.Spec PyProof.Rows
local instance labNone_K22B : Lab := { w := none, T := [], gd := True }
theorem dir_cases {s : Str} (h : s ∈ dirsD) : s = "up" ∨ s = "down" := by simpa [dirsD] using h
theorem is_key_spec {k : Ky} (h : 0 ≤ k.1 ∧ k.1 < 4 ∧ k.2 ∈ dirsD) : m_is_key [kd k] = some (.bool true) := by
  obtain ⟨c, s⟩ := k
  obtain ⟨h0, h1, h2⟩ := h
  dsimp only at h0 h1 h2
  have hc : c = 0 ∨ c = 1 ∨ c = 2 ∨ c = 3 := by omega
  rcases dir_cases h2 with rfl | rfl <;> rcases hc with rfl | rfl | rfl | rfl <;> kernel_rfl
theorem is_place_spec {s : Str} (h : s ∈ dirsD) : m_is_place_part [plD s] = some (.bool true) := by
  rcases dir_cases h with rfl | rfl <;> kernel_rfl
theorem any_ints (c : Int) : ∀ cs : List Int, ((cs.map PyData.int).any fun z => PyData.eqv z (.int c)) = decide (c ∈ cs)
  | [] => rfl
  | x :: cs => by
    rw [List.map_cons, List.any_cons, any_ints c cs]
    show (decide (x = c) || decide (c ∈ cs)) = _
    by_cases h : x = c
    · subst h; simp
    · rw [decide_eq_false h, Bool.false_or]
      simp only [List.mem_cons]
      rw [decide_eq_decide]
      exact ⟨.inr, fun z => z.elim (fun w => absurd w.symm h) id⟩
theorem in_ints (c : Int) (cs : List Int) : inB (.int c) (.list (cs.map .int)) = some (decide (c ∈ cs)) := by
  show (if shD (.int c) && shD (.list (cs.map .int)) then some ((cs.map PyData.int).any fun z => PyData.eqv z (.int c)) else none) = _
  rw [(ly_int c).sh (by decide), (Ly.list (ly_ints cs)).sh (by decide), any_ints]
  rfl
abbrev chkBody := sSeq (sIf (fOr (fNot (fTst (fCB m_is_key (fCons (rdF 3) fNil)))) (fTst (fCmpN inD (fIxN 3 (fC (.int 0))) 1))) sNone sNil) (sApp 1 (fIxN 3 (fC (.int 0))))
theorem chk_loop (o : Option DV) : ∀ (ks : List Ky) (is : List PyData) (cs : List Int) (z2 z3 : Option DV), is.length = ks.length → (∀ k ∈ ks, 0 ≤ k.1 ∧ k.1 < 4 ∧ k.2 ∈ dirsD) → (∀ c ∈ cs, 0 ≤ c ∧ c < 4) → (cs ++ ks.map (·.1)).Nodup → cs.length + ks.length ≤ 1000 →
    ∃ cs' z2' z3', forD (gTupD 2 (gsCons (gSet 2) (gsCons (gSet 3) gsNil))) chkBody (List.zipWith (fun a b => PyData.tuple [a, b]) is (ks.map kd)) [o, some (.ow (cs.map .int)), z2, z3] = some (.nx [o, some (.ow cs'), z2', z3'])
  | [], is, cs, z2, z3, hl, _, _, _, _ => by
    cases is with
    | nil => exact ⟨_, z2, z3, rfl⟩
    | cons _ _ => cases hl
  | k :: ks, is, cs, z2, z3, hl, hk, hc, nd, hz => by
    cases is with
    | nil => cases hl
    | cons i is =>
      have h1 := hk k List.mem_cons_self
      have hnot : k.1 ∉ cs := fun z => by
        rw [List.map_cons, List.nodup_append] at nd
        exact nd.2.2 k.1 z k.1 List.mem_cons_self rfl
      obtain ⟨cs', z2', z3', e⟩ := chk_loop o ks is (cs ++ [k.1]) (some (.fr i)) (some (.fr (kd k))) (by simpa using hl) (fun x hx => hk x (List.mem_cons_of_mem _ hx)) (fun c hcc => by
        rcases List.mem_append.mp hcc with z | z
        · exact hc c z
        · rw [List.mem_singleton] at z; rw [z]; exact ⟨h1.1, h1.2.1⟩) (by rw [List.append_assoc]; exact nd) (by rw [List.length_append]; rw [List.length_cons] at hz; show cs.length + 1 + ks.length ≤ 1000; omega)
      refine ⟨cs', z2', z3', ?_⟩
      rw [List.map_append] at e
      have e1 := is_key_spec h1
      have e2 := in_ints k.1 cs
      rw [decide_eq_false hnot] at e2
      have hlen : cs.length < 100000 := by rw [List.length_cons] at hz; omega
      rw [List.map_cons, List.zipWith_cons_cons, forD]
      simp [gTupD, gsCons, gSet, gsNil, chkBody, sSeq, sIf, fOr, fNot, fTst, fCB, fCons, fNil, rdF, e1, truthD, fCmpN, fIxN, fC, rdB, ixD, kd, atI, ixN, inD, e2, sNil, sApp, rdO, wrO, lim, hlen]
      simp [kd] at e1 e
      simp [e1, truthD, sSeq, sIf, fOr, fNot, fTst, fCB, fCons, fNil, rdF, fCmpN, fIxN, fC, rdB, ixD, atI, ixN, inD, e2, sNil, sApp, rdO, wrO, lim, hlen]
      exact e
theorem cut_last (xs : List PyData) (x : PyData) : cutD (xs ++ [x]) none (some (-1)) = xs := by
  unfold cutD
  simp [HT.sIx]
  rw [show ((-1 : Int) + (xs.length + 1)).toNat = xs.length by omega]
  simp
theorem check_order_spec {ks : List Ky} {s : Str} (hk : KOk 4 ks) (hs : s ∈ dirsD) (hl : ks.length ≤ 4) : m_check_order [ordD ks s] = some .none := by
  obtain ⟨cs', z2, z3, e⟩ := chk_loop (some (.fr (ordD ks s))) ks (rangeD 0 (ks.map kd).length) [] none none (by rw [rangeD_len, List.length_map]) hk.rg (by simp) (by simpa using hk.nd) (by simp; omega)
  have e2 := is_place_spec hs
  have hc := cut_last (ks.map kd) (plD s)
  have ha : atI (ks.map kd ++ [plD s]) (-1) = some (plD s) := atI_last _ _
  have hl2 : ¬ ((ks.length : Int) + 1 = 0) := by omega
  unfold m_check_order runF mb_check_order
  simp [ordD] at e ⊢
  simp [startE, sSeq, sIf, fOr, fNot, fTst, fIsi, isiT, tyN, rdF, truthD, fBin, fLenN, rdB, lenD, fC, eqD, eqB, hl2, sNil, sSetN, fLst, fNil, lim, sFor, iArg, fCons, fSl, oNone, oSome, fNeg, slD, hc, enumTA, enumD]
  rw [e]
  simp [fCB, fCons, fNil, fIxN, fC, fNeg, rdB, ixD, ha, e2]
def flipS (s : Str) : Str := if s = "up" then "down" else "up"
def flK (k : Ky) : Ky := (k.1, flipS k.2)
theorem opposite_spec {s : Str} (h : s ∈ dirsD) : m_opposite [.str s] = some (.str (flipS s)) := by
  rcases dir_cases h with rfl | rfl <;> kernel_rfl
def pairs (xs : List (PyData × Str)) : List PyData := xs.map fun x => .tuple [x.1, .str x.2]
theorem ordD_pairs (ks : List Ky) (s : Str) : ordD ks s = .tuple (pairs (ks.map (fun k => (.int k.1, k.2)) ++ [(.str "place", s)])) := by
  unfold ordD pairs
  rw [List.map_append, List.map_map]
  rfl
theorem turn_lc (o : Option DV) : ∀ xs : List (PyData × Str), (∀ x ∈ xs, x.2 ∈ dirsD) → lcD (gTupD 2 (gsCons (gSet 1) (gsCons (gSet 2) gsNil))) fYes (fTup (fCons (rdF 1) (fCons (fCB m_opposite (fCons (rdF 2) fNil)) fNil))) [1, 2] (pairs xs) [o, none, none] = some (pairs (xs.map fun x => (x.1, flipS x.2)), [o, none, none])
  | [], _ => rfl
  | x :: xs, h => by
    have e1 := opposite_spec (h x List.mem_cons_self)
    have ih := turn_lc o xs fun y hy => h y (List.mem_cons_of_mem _ hy)
    show lcD _ _ _ _ (.tuple [x.1, .str x.2] :: pairs xs) _ = _
    rw [lcD]
    simp [gTupD, gsCons, gSet, gsNil, fYes, fTup, fCons, rdF, fCB, fNil, e1, lim, wipeE]
    rw [ih]
    exact ⟨_, rfl, rfl⟩
theorem pairs_len (xs : List (PyData × Str)) : (pairs xs).length = xs.length := by unfold pairs; rw [List.length_map]
theorem turned_spec {ks : List Ky} {s : Str} (hk : KOk 4 ks) (hs : s ∈ dirsD) (hl : ks.length ≤ 4) : m_turned [ordD ks s] = some (ordD (ks.map flK) (flipS s)) := by
  have e1 := check_order_spec hk hs hl
  have hx : ∀ x ∈ (ks.map (fun k => (PyData.int k.1, k.2)) ++ [(PyData.str "place", s)]), x.2 ∈ dirsD := fun x hx => by
    rcases List.mem_append.mp hx with z | z
    · obtain ⟨k, h1, rfl⟩ := List.mem_map.mp z
      exact (hk.rg k h1).2.2
    · rw [List.mem_singleton] at z; rw [z]; exact hs
  have e2 := turn_lc (some (.fr (ordD ks s))) _ hx
  have hlen : (pairs (ks.map (fun k => (PyData.int k.1, k.2)) ++ [(PyData.str "place", s)])).length ≤ 100000 := by
    rw [pairs_len, List.length_append, List.length_map]
    show ks.length + 1 ≤ _
    omega
  have eo : ordD (ks.map flK) (flipS s) = .tuple (pairs ((ks.map (fun k => (PyData.int k.1, k.2)) ++ [(PyData.str "place", s)]).map fun x => (x.1, flipS x.2))) := by
    rw [ordD_pairs, List.map_append, List.map_map, List.map_map]
    rfl
  unfold m_turned runF mb_turned
  simp only [startE, List.map_cons, List.map_nil, List.length_cons, List.length_nil, sSeq, sExpr, fCB, fCons, fNil, rdF, List.cons_append, List.nil_append]
  simp [e1, sRet, fFrz, nLc, iSeq, wipeE]
  rw [ordD_pairs] at e2 ⊢
  have hn : nLc (iSeq (rdF 0)) (gTupD 2 (gsCons (gSet 1) (gsCons (gSet 2) gsNil))) fYes (fTup (fCons (rdF 1) (fCons (fCB m_opposite (fCons (rdF 2) fNil)) fNil))) [1, 2]
      [some (.fr (.tuple (pairs (ks.map (fun k => (PyData.int k.1, k.2)) ++ [(PyData.str "place", s)])))), none, none] =
      some (pairs ((ks.map (fun k => (PyData.int k.1, k.2)) ++ [(PyData.str "place", s)]).map fun x => (x.1, flipS x.2)), [some (.fr (.tuple (pairs (ks.map (fun k => (PyData.int k.1, k.2)) ++ [(PyData.str "place", s)])))), none, none]) := by
    show (if (pairs (ks.map (fun k => (PyData.int k.1, k.2)) ++ [(PyData.str "place", s)])).length ≤ lim then _ else none) = _
    rw [if_pos hlen]
    exact e2
  simp [fCB, fCons, fFrz, fNil, hn, tupleD, eo]
/-! ### commands and programs -/
inductive PC : PyData → Prop
  | sort {d : Str} {c : Int} : d ∈ (["down", "up"] : List Str) → 0 ≤ c → c < 4 → PC (.tuple [.str d, .int c])
  | bare {w : Str} : w ∈ (["reverse", "restore"] : List Str) → PC (.tuple [.str w])
  | cut {w : Str} {k : Int} : w ∈ (["first", "last"] : List Str) → 2 ≤ k → k ≤ 29 → PC (.tuple [.str w, .int k])
inductive VL (R : PyData → Nat → Int → Prop) : List PyData → Nat → Int → Prop
  | nil : VL R [] 0 0
  | cons {c : PyData} {cs : List PyData} {a s : Nat} {b k : Int} : R c a b → VL R cs s k → VL R (c :: cs) (a + s) (b + k)
def repC (t : Int) (ps : List PyData) : PyData := .tuple [.str "repeat", .int t, .tuple ps]
/-- a command at most n repeats deep, its size, how many it performs; bounds of times and of what is repeated -/
def VC (tm km : Int) : Nat → PyData → Nat → Int → Prop
  | 0, c, a, b => PC c ∧ a = 1 ∧ b = 1
  | n + 1, c, a, b => (PC c ∧ a = 1 ∧ b = 1) ∨ ∃ (t : Int) (ps : List PyData) (s : Nat) (k : Int), c = repC t ps ∧ 1 ≤ t ∧ t ≤ tm ∧ VL (VC tm km n) ps s k ∧ 0 ≤ k ∧ k ≤ km ∧ a = s + 1 ∧ b = t * k
theorem VL.imp {R S : PyData → Nat → Int → Prop} (h : ∀ c a b, R c a b → S c a b) : ∀ {cs : List PyData} {s : Nat} {k : Int}, VL R cs s k → VL S cs s k
  | _, _, _, .nil => .nil
  | _, _, _, .cons a b => .cons (h _ _ _ a) (VL.imp h b)
theorem VC.up {tm km : Int} : ∀ {n : Nat} {c : PyData} {a : Nat} {b : Int}, VC tm km n c a b → VC tm km (n + 1) c a b
  | 0, _, _, _, h => .inl h
  | n + 1, _, _, _, h => by
    rcases h with h | ⟨t, ps, s, k, e, h1, h2, h3, h4⟩
    · exact .inl h
    · exact .inr ⟨t, ps, s, k, e, h1, h2, h3.imp fun _ _ _ z => VC.up z, h4⟩
theorem VC.mono {tm km tm' km' : Int} (ht : tm ≤ tm') (hk : km ≤ km') : ∀ {n : Nat} {c : PyData} {a : Nat} {b : Int}, VC tm km n c a b → VC tm' km' n c a b
  | 0, _, _, _, h => h
  | n + 1, _, _, _, h => by
    rcases h with h | ⟨t, ps, s, k, e, h1, h2, h3, h4, h5, h6⟩
    · exact .inl h
    · exact .inr ⟨t, ps, s, k, e, h1, Int.le_trans h2 ht, h3.imp fun _ _ _ z => VC.mono ht hk z, h4, Int.le_trans h5 hk, h6⟩
theorem VL.app {R : PyData → Nat → Int → Prop} : ∀ {cs ds : List PyData} {s s' : Nat} {k k' : Int}, VL R cs s k → VL R ds s' k' → VL R (cs ++ ds) (s + s') (k + k')
  | _, _, _, _, _, _, .nil, h => by rw [List.nil_append, Nat.zero_add, Int.zero_add]; exact h
  | _, _, _, _, _, _, .cons a b, h => by
    rw [List.cons_append, Nat.add_assoc, Int.add_assoc]
    exact .cons a (b.app h)
theorem VL.split {R : PyData → Nat → Int → Prop} : ∀ (n : Nat) {cs : List PyData} {s : Nat} {k : Int}, VL R cs s k → ∃ s1 s2 k1 k2, VL R (cs.take n) s1 k1 ∧ VL R (cs.drop n) s2 k2 ∧ s = s1 + s2 ∧ k = k1 + k2
  | 0, _, s, k, h => ⟨0, s, 0, k, .nil, h, by omega, by omega⟩
  | n + 1, _, _, _, .nil => ⟨0, 0, 0, 0, .nil, .nil, rfl, rfl⟩
  | n + 1, _, _, _, .cons (a := a) (b := b) x y => by
    obtain ⟨s1, s2, k1, k2, h1, h2, e1, e2⟩ := VL.split n y
    exact ⟨a + s1, s2, b + k1, k2, .cons x h1, h2, by omega, by omega⟩
theorem VC.one {tm km : Int} {c : PyData} (h : PC c) : ∀ n : Nat, VC tm km n c 1 1
  | 0 => ⟨h, rfl, rfl⟩
  | _ + 1 => .inl ⟨h, rfl, rfl⟩
theorem w_bare : ∀ w ∈ (["reverse", "restore"] : List Str), m_is_word [.str w, cv_BARE_WORDS] = some (.bool true) := by
  intro w h
  simp only [List.mem_cons, List.not_mem_nil, or_false] at h
  rcases h with rfl | rfl <;> kernel_rfl
theorem w_bare0 : ∀ w ∈ (["down", "up", "first", "last", "repeat"] : List Str), m_is_word [.str w, cv_BARE_WORDS] = some (.bool false) := by
  intro w h
  simp only [List.mem_cons, List.not_mem_nil, or_false] at h
  rcases h with rfl | rfl | rfl | rfl | rfl <;> kernel_rfl
theorem w_dir : ∀ w ∈ (["down", "up"] : List Str), m_is_word [.str w, cv_DIRECTIONS] = some (.bool true) := by
  intro w h
  simp only [List.mem_cons, List.not_mem_nil, or_false] at h
  rcases h with rfl | rfl <;> kernel_rfl
theorem w_dir0 : ∀ w ∈ (["first", "last"] : List Str), m_is_word [.str w, cv_DIRECTIONS] = some (.bool false) := by
  intro w h
  simp only [List.mem_cons, List.not_mem_nil, or_false] at h
  rcases h with rfl | rfl <;> kernel_rfl
theorem w_cut : ∀ w ∈ (["first", "last"] : List Str), m_is_word [.str w, cv_CUTS] = some (.bool true) := by
  intro w h
  simp only [List.mem_cons, List.not_mem_nil, or_false] at h
  rcases h with rfl | rfl <;> kernel_rfl
theorem w_rep : m_is_word [.str "repeat", .tuple [.str "repeat"]] = some (.bool true) := by kernel_rfl
theorem int_yes (i : Int) : m_is_integer [.int i] = some (.bool true) := rfl
theorem col_yes {c : Int} (h0 : 0 ≤ c) (h1 : c < 4) : m_is_sort_column [.int c] = some (.bool true) := by
  simp [m_is_sort_column, runF, mb_is_sort_column, sRet, fAndV, fCB, fCons, fNil, rdF, startE, int_yes, fChain, fC, cv_MOST_KEYS, intD, h0, h1]
theorem size_yes {c : Int} (h0 : 2 ≤ c) (h1 : c ≤ 29) : m_is_size [.int c] = some (.bool true) := by
  simp [m_is_size, runF, mb_is_size, sRet, fAndV, fCB, fCons, fNil, rdF, startE, int_yes, fChain, fC, cv_LEAST_SIZE, cv_MOST_SIZE, intD, h0, h1]
theorem times_yes {c : Int} (h0 : 1 ≤ c) (h1 : c ≤ 1000000000000000000000000000000) : m_is_times [.int c] = some (.bool true) := by
  simp [m_is_times, runF, mb_is_times, sRet, fAndV, fCB, fCons, fNil, rdF, startE, int_yes, fChain, fC, cv_MOST_TIMES, intD, h0, h1]
theorem plain_yes {c : PyData} (h : PC c) : m_is_plain_command [c] = some (.bool true) := by
  cases h with
  | @sort d c hd h0 h1 =>
    have e1 := w_bare0 d (by simp only [List.mem_cons, List.not_mem_nil, or_false] at hd ⊢; rcases hd with h | h <;> simp [h])
    simp [m_is_plain_command, runF, mb_is_plain_command, sSeq, sIf, sRet, sNil, fOr, fNot, fTst, fIsi, tyN, isiT, fAndV, fCB, fCons, fNil, rdF, rdB, startE, fLenN, lenD, fBin, fC, fIxN, ixD, atI, ixN, truthD, e1, w_dir d hd, eqD, neD, eqB, col_yes h0 h1]
  | @bare w hw =>
    simp [m_is_plain_command, runF, mb_is_plain_command, sSeq, sIf, sRet, sNil, fOr, fNot, fTst, fIsi, tyN, isiT, fAndV, fCB, fCons, fNil, rdF, rdB, startE, fLenN, lenD, fBin, fC, fIxN, ixD, atI, ixN, truthD, w_bare w hw, eqD, neD, eqB]
  | @cut w k hw h0 h1 =>
    have e1 := w_bare0 w (by simp only [List.mem_cons, List.not_mem_nil, or_false] at hw ⊢; rcases hw with h | h <;> simp [h])
    simp [m_is_plain_command, runF, mb_is_plain_command, sSeq, sIf, sRet, sNil, fOr, fNot, fTst, fIsi, tyN, isiT, fAndV, fCB, fCons, fNil, rdF, rdB, startE, fLenN, lenD, fBin, fC, fIxN, ixD, atI, ixN, truthD, e1, w_dir0 w hw, w_cut w hw, eqD, neD, eqB, size_yes h0 h1]
theorem plain_no (t : Int) (ps : List PyData) : m_is_plain_command [repC t ps] = some (.bool false) := by
  have e1 := w_bare0 "repeat" (by simp)
  simp [repC, m_is_plain_command, runF, mb_is_plain_command, sSeq, sIf, sRet, sNil, fOr, fNot, fTst, fIsi, tyN, isiT, fAndV, fCB, fCons, fNil, rdF, rdB, startE, fLenN, lenD, fBin, fC, fIxN, ixD, atI, ixN, truthD, e1, eqD, neD, eqB]
theorem rep_yes {t : Int} (h0 : 1 ≤ t) (h1 : t ≤ 1000000000000000000000000000000) (ps : List PyData) : m_begins_repeat [repC t ps] = some (.bool true) := by
  simp [repC, m_begins_repeat, runF, mb_begins_repeat, sSeq, sIf, sRet, sNil, fOr, fNot, fTst, fIsi, tyN, isiT, fAndV, fCB, fCons, fNil, fTup, lim, rdF, rdB, startE, fLenN, lenD, fBin, fC, fIxN, ixD, atI, ixN, truthD, w_rep, eqD, neD, eqB, times_yes h0 h1]
theorem PC.head {c : PyData} (h : PC c) : ∃ (w : Str) (r : List PyData), c = .tuple (.str w :: r) ∧ w ≠ "repeat" := by
  cases h with
  | sort hd _ _ =>
    refine ⟨_, _, rfl, ?_⟩
    simp only [List.mem_cons, List.not_mem_nil, or_false] at hd
    rcases hd with rfl | rfl <;> decide
  | bare hd =>
    refine ⟨_, _, rfl, ?_⟩
    simp only [List.mem_cons, List.not_mem_nil, or_false] at hd
    rcases hd with rfl | rfl <;> decide
  | cut hd _ _ =>
    refine ⟨_, _, rfl, ?_⟩
    simp only [List.mem_cons, List.not_mem_nil, or_false] at hd
    rcases hd with rfl | rfl <;> decide
/-! ### orders and plain commands as data -/
theorem PC.of {p : Pl} (h : PlOk p) : PC (plE p) := by
  cases p with
  | sort d c => exact .sort (by cases d <;> simp [dS]) h.1 h.2
  | rev => exact .bare (by simp)
  | res => exact .bare (by simp)
  | cut f k => exact .cut (by cases f <;> simp [cS]) h.1 h.2
theorem PC.to {c : PyData} (h : PC c) : ∃ p, PlOk p ∧ c = plE p := by
  cases h with
  | @sort d c hd h0 h1 =>
    simp only [List.mem_cons, List.not_mem_nil, or_false] at hd
    rcases hd with rfl | rfl
    · exact ⟨.sort false c, ⟨h0, h1⟩, rfl⟩
    · exact ⟨.sort true c, ⟨h0, h1⟩, rfl⟩
  | @bare w hw =>
    simp only [List.mem_cons, List.not_mem_nil, or_false] at hw
    rcases hw with rfl | rfl
    · exact ⟨.rev, trivial, rfl⟩
    · exact ⟨.res, trivial, rfl⟩
  | @cut w k hw h0 h1 =>
    simp only [List.mem_cons, List.not_mem_nil, or_false] at hw
    rcases hw with rfl | rfl
    · exact ⟨.cut true k, ⟨h0, h1⟩, rfl⟩
    · exact ⟨.cut false k, ⟨h0, h1⟩, rfl⟩
theorem pcs_to : ∀ cs : List PyData, (∀ c ∈ cs, PC c) → ∃ ps : List Pl, cs = ps.map plE ∧ ∀ p ∈ ps, PlOk p
  | [], _ => ⟨[], rfl, fun _ h => nomatch h⟩
  | c :: cs, h => by
    obtain ⟨p, hp, rfl⟩ := (h c List.mem_cons_self).to
    obtain ⟨ps, rfl, hps⟩ := pcs_to cs fun x hx => h x (List.mem_cons_of_mem _ hx)
    refine ⟨p :: ps, rfl, fun q hq => ?_⟩
    rcases List.mem_cons.mp hq with rfl | hq
    · exact hp
    · exact hps q hq
/-- a sort is by a column below -/
def ColB (w : Int) (x : PyData) : Prop := ∀ (d : Str) (c : Int), x = .tuple [.str d, .int c] → d ∈ (["down", "up"] : List Str) → c < w
abbrev stBody := (sSeq (sPar3 6 7 8 (fCons (fCR 0 m__law_draw (fCons (fC (.int 8)) fNil)) (fCons (fCR 0 m__law_draw (fCons (rdF 2) fNil)) (fCons (fBin addD (fC (.int 2)) (fCR 0 m__law_draw (fCons (fBin subD (rdF 3) (fC (.int 1))) fNil))) fNil)))) (sIf (fTst (fBin ltD (rdF 6) (fC (.int 3)))) (sApp 4 (fTup (fCons (fBin ixD (fFrz (fLst (fCons (fC (.str "up")) (fCons (fC (.str "down")) (fCons (fC (.str "up")) fNil))))) (rdF 6)) (fCons (rdF 7) fNil)))) (sIf (fTst (fBin eqD (rdF 6) (fC (.int 3)))) (sApp 4 (fTup (fCons (fC (.str "reverse")) fNil))) (sIf (fTst (fBin eqD (rdF 6) (fC (.int 4)))) (sApp 4 (fTup (fCons (fC (.str "restore")) fNil))) (sApp 4 (fTup (fCons (fBin ixD (fFrz (fLst (fCons (fC (.str "first")) (fCons (fC (.str "last")) (fCons (fC (.str "first")) fNil))))) (fBin subD (rdF 6) (fC (.int 5)))) (fCons (rdF 8) fNil))))))))
theorem step_turn {es found : List PyData} {a t w0 s0 m0 : Option DV} {wide size : Int} (hp : PoolOk es) (hw : 0 < wide ∧ wide ≤ 4) (hs : 2 ≤ size ∧ size ≤ 29) (hl : found.length < 100000) :
    ∃ es' c x y z, stBody [some (.rf es), a, some (.fr (.int wide)), some (.fr (.int size)), some (.ow found), t, w0, s0, m0] = some (.nx [some (.rf es'), a, some (.fr (.int wide)), some (.fr (.int size)), some (.ow (found ++ [c])), t, x, y, z]) ∧ PoolOk es' ∧ (PC c ∧ ColB wide c) := by
  obtain ⟨r1, es1, e1, p1, a1, b1⟩ := draw_spec hp (m := 8) (by omega) (by omega)
  obtain ⟨r2, es2, e2, p2, a2, b2⟩ := draw_spec p1 (m := wide) (by omega) (by omega)
  obtain ⟨r3, es3, e3, p3, a3, b3⟩ := draw_spec p2 (m := size - 1) (by omega) (by omega)
  have h0 : sPar3 6 7 8 (fCons (fCR 0 m__law_draw (fCons (fC (.int 8)) fNil)) (fCons (fCR 0 m__law_draw (fCons (rdF 2) fNil)) (fCons (fBin addD (fC (.int 2)) (fCR 0 m__law_draw (fCons (fBin subD (rdF 3) (fC (.int 1))) fNil))) fNil))) [some (.rf es), a, some (.fr (.int wide)), some (.fr (.int size)), some (.ow found), t, w0, s0, m0] = some (.nx [some (.rf es3), a, some (.fr (.int wide)), some (.fr (.int size)), some (.ow found), t, some (.fr (.int r1)), some (.fr (.int r2)), some (.fr (.int (2 + r3)))]) := by
    simp [sPar3, fCons, fCR, rdO, wrO, fC, fNil, rdF, fBin, intD, addD, e1, e2, e3]
  have hr : r1 = 0 ∨ r1 = 1 ∨ r1 = 2 ∨ r1 = 3 ∨ r1 = 4 ∨ r1 = 5 ∨ r1 = 6 ∨ r1 = 7 := by omega
  have fin : ∀ c, (PC c ∧ ColB wide c) → (sIf (fTst (fBin ltD (rdF 6) (fC (.int 3)))) (sApp 4 (fTup (fCons (fBin ixD (fFrz (fLst (fCons (fC (.str "up")) (fCons (fC (.str "down")) (fCons (fC (.str "up")) fNil))))) (rdF 6)) (fCons (rdF 7) fNil)))) (sIf (fTst (fBin eqD (rdF 6) (fC (.int 3)))) (sApp 4 (fTup (fCons (fC (.str "reverse")) fNil))) (sIf (fTst (fBin eqD (rdF 6) (fC (.int 4)))) (sApp 4 (fTup (fCons (fC (.str "restore")) fNil))) (sApp 4 (fTup (fCons (fBin ixD (fFrz (fLst (fCons (fC (.str "first")) (fCons (fC (.str "last")) (fCons (fC (.str "first")) fNil))))) (fBin subD (rdF 6) (fC (.int 5)))) (fCons (rdF 8) fNil))))))) [some (.rf es3), a, some (.fr (.int wide)), some (.fr (.int size)), some (.ow found), t, some (.fr (.int r1)), some (.fr (.int r2)), some (.fr (.int (2 + r3)))] = some (.nx [some (.rf es3), a, some (.fr (.int wide)), some (.fr (.int size)), some (.ow (found ++ [c])), t, some (.fr (.int r1)), some (.fr (.int r2)), some (.fr (.int (2 + r3)))]) → ∃ es' c x y z, stBody [some (.rf es), a, some (.fr (.int wide)), some (.fr (.int size)), some (.ow found), t, w0, s0, m0] = some (.nx [some (.rf es'), a, some (.fr (.int wide)), some (.fr (.int size)), some (.ow (found ++ [c])), t, x, y, z]) ∧ PoolOk es' ∧ (PC c ∧ ColB wide c) := fun c hc e => ⟨es3, c, _, _, _, ev_seq h0 e, p3, hc⟩
  have ps : ∀ d ∈ (["down", "up"] : List Str), (PC (.tuple [.str d, .int r2]) ∧ ColB wide (.tuple [.str d, .int r2])) := fun d hd => ⟨.sort hd a2 (by omega), fun d' c' e => by cases e; exact fun _ => b2⟩
  have pc : ∀ d ∈ (["first", "last"] : List Str), (PC (.tuple [.str d, .int (2 + r3)]) ∧ ColB wide (.tuple [.str d, .int (2 + r3)])) := fun d hd => ⟨.cut hd (by omega) (by omega), fun d' c' e => by
    cases e
    intro hm
    simp only [List.mem_cons, List.not_mem_nil, or_false] at hd hm
    rcases hd with rfl | rfl <;> rcases hm with h | h <;> exact absurd h (by decide)⟩
  rcases hr with rfl | rfl | rfl | rfl | rfl | rfl | rfl | rfl
  · exact fin _ (ps "up" (by simp)) (by simp [sIf, fTst, fBin, rdF, fC, intD, truthD, sApp, rdO, wrO, fTup, fCons, fNil, fFrz, fLst, ixD, atI, ixN, lim, hl])
  · exact fin _ (ps "down" (by simp)) (by simp [sIf, fTst, fBin, rdF, fC, intD, truthD, sApp, rdO, wrO, fTup, fCons, fNil, fFrz, fLst, ixD, atI, ixN, lim, hl])
  · exact fin _ (ps "up" (by simp)) (by simp [sIf, fTst, fBin, rdF, fC, intD, truthD, sApp, rdO, wrO, fTup, fCons, fNil, fFrz, fLst, ixD, atI, ixN, lim, hl])
  · exact fin _ ⟨.bare (w := "reverse") (by simp), fun d c e => by cases e⟩ (by simp [sIf, fTst, fBin, rdF, fC, intD, truthD, sApp, rdO, wrO, fTup, fCons, fNil, fFrz, fLst, ixD, atI, ixN, lim, hl, eqD, eqB])
  · exact fin _ ⟨.bare (w := "restore") (by simp), fun d c e => by cases e⟩ (by simp [sIf, fTst, fBin, rdF, fC, intD, truthD, sApp, rdO, wrO, fTup, fCons, fNil, fFrz, fLst, ixD, atI, ixN, lim, hl, eqD, eqB])
  · exact fin _ (pc "first" (by simp)) (by simp [sIf, fTst, fBin, rdF, fC, intD, truthD, sApp, rdO, wrO, fTup, fCons, fNil, fFrz, fLst, ixD, atI, ixN, lim, hl, eqD, eqB])
  · exact fin _ (pc "last" (by simp)) (by simp [sIf, fTst, fBin, rdF, fC, intD, truthD, sApp, rdO, wrO, fTup, fCons, fNil, fFrz, fLst, ixD, atI, ixN, lim, hl, eqD, eqB])
  · exact fin _ (pc "first" (by simp)) (by simp [sIf, fTst, fBin, rdF, fC, intD, truthD, sApp, rdO, wrO, fTup, fCons, fNil, fFrz, fLst, ixD, atI, ixN, lim, hl, eqD, eqB])
theorem step_loop {a : Option DV} {wide size : Int} (hw : 0 < wide ∧ wide ≤ 4) (hs : 2 ≤ size ∧ size ≤ 29) : ∀ (xs : List PyData) (es found : List PyData) (t w0 s0 m0 : Option DV), PoolOk es → found.length + xs.length ≤ 100000 → (∀ c ∈ found, PC c ∧ ColB wide c) →
    ∃ es' cs t' x y z, forD (gSet 5) stBody xs [some (.rf es), a, some (.fr (.int wide)), some (.fr (.int size)), some (.ow found), t, w0, s0, m0] = some (.nx [some (.rf es'), a, some (.fr (.int wide)), some (.fr (.int size)), some (.ow cs), t', x, y, z]) ∧ PoolOk es' ∧ (∀ c ∈ cs, PC c ∧ ColB wide c) ∧ cs.length = found.length + xs.length
  | [], es, found, t, w0, s0, m0, hp, hl, hf => ⟨es, found, t, w0, s0, m0, by rw [forD], hp, hf, rfl⟩
  | d :: xs, es, found, t, w0, s0, m0, hp, hl, hf => by
    rw [List.length_cons] at hl
    obtain ⟨es1, c, x, y, z, e1, p1, hc⟩ := step_turn (a := a) (t := some (.fr d)) (w0 := w0) (s0 := s0) (m0 := m0) hp hw hs (found := found) (by omega)
    obtain ⟨es', cs, t', x', y', z', e2, p2, hcs, hlen⟩ := step_loop hw hs xs es1 (found ++ [c]) (some (.fr d)) x y z p1 (by rw [List.length_append, List.length_singleton]; omega) (fun k hk => by
      rcases List.mem_append.mp hk with h | h
      · exact hf k h
      · rw [List.mem_singleton] at h; rw [h]; exact hc)
    refine ⟨es', cs, t', x', y', z', ev_forN rfl e1 e2, p2, hcs, ?_⟩
    rw [hlen, List.length_append, List.length_singleton, List.length_cons]
    omega
theorem stepsW_spec {es : List PyData} (hp : PoolOk es) {most wide size : Int} (hm : 0 ≤ most ∧ most ≤ 1000) (hw : 0 < wide ∧ wide ≤ 4) (hs : 2 ≤ size ∧ size ≤ 29) : ∃ cs es', m__law_steps es [.int most, .int wide, .int size] = some (.tuple cs, es') ∧ PoolOk es' ∧ (∀ c ∈ cs, PC c ∧ ColB wide c) ∧ (cs.length : Int) ≤ most := by
  obtain ⟨d, es1, e1, p1, a1, b1⟩ := draw_spec hp (m := most + 1) (by omega) (by omega)
  obtain ⟨es2, cs, t, x, y, z, e2, p2, hcs, hl⟩ := step_loop (a := some (.fr (.int most))) hw hs (rangeD 0 d.toNat) es1 [] none none none none p1 (by rw [rangeD_len, List.length_nil]; omega) (fun _ h => nomatch h)
  rw [rangeD_len, List.length_nil, Nat.zero_add] at hl
  refine ⟨cs, es2, ?_, p2, hcs, by omega⟩
  have hd : d ≤ 1000000 ∧ -1000000 ≤ d := by omega
  have hcl : cs.length ≤ 100000 := by omega
  refine ev_runR rfl (env := [some (.fr (.int most)), some (.fr (.int wide)), some (.fr (.int size)), some (.fr (.list cs)), t, x, y, z]) ?_
  refine ev_seq (e1 := [some (.rf es), some (.fr (.int most)), some (.fr (.int wide)), some (.fr (.int size)), some (.ow []), none, none, none, none]) rfl ?_
  refine ev_seq (ev_for (e1 := [some (.rf es1), some (.fr (.int most)), some (.fr (.int wide)), some (.fr (.int size)), some (.ow []), none, none, none, none]) ?_ e2) ?_
  · simp [iArg, fCons, fCR, rdO, wrO, fBin, addD, rdF, fC, fNil, e1, rng1, hd]
  · simp [sRet, fCB, fCons, rdF, fNil, tupleD]
def PlW (w : Int) : Pl → Prop
  | .sort _ c => c < w
  | _ => True
theorem pcs_toW {w : Int} (cs : List PyData) (h : ∀ c ∈ cs, PC c ∧ ColB w c) : ∃ ps : List Pl, cs = ps.map plE ∧ (∀ p ∈ ps, PlOk p) ∧ ∀ p ∈ ps, PlW w p := by
  obtain ⟨ps, rfl, h1⟩ := pcs_to cs fun c hc => (h c hc).1
  refine ⟨ps, rfl, h1, fun p hp => ?_⟩
  have h2 := (h (plE p) (List.mem_map_of_mem hp)).2
  cases p with
  | sort d c => exact h2 (dS d) c rfl (by cases d <;> simp [dS])
  | _ => trivial
end DL
end L2


set_option Elab.async false
set_option maxRecDepth 100000
set_option maxHeartbeats 4000000
set_option autoImplicit false
namespace L2
namespace DL
open PySem PySem.Spec PyProof.Rows
local instance labNone_K22C : Lab := { w := none, T := [], gd := True }
abbrev rbBody (f : Nat) := (sSeq (sIf (fTst (fBin ltD (rdF 2) (fC (.int 0)))) (sRet (rdF 2)) sNil) (sSet 2 (fCB (rc_room_behind f 1) (fCons (rdF 3) (fCons (rdF 1) (fCons (rdF 2) fNil))))))
theorem mem_le_sum : ∀ {l : List Nat} {x : Nat}, x ∈ l → x ≤ l.sum
  | a :: l, x, h => by
    rw [List.sum_cons]
    rcases List.mem_cons.mp h with rfl | h
    · omega
    · have := mem_le_sum h; omega
theorem roomc_loop {α : Type} {e : α → PyData} {z : α → Nat} {f : Nat} {dp : Int} (P : Option DV) : ∀ {cs : List α}, (∀ c ∈ cs, ∀ room : Int, (z c : Int) ≤ room → rc_room_behind f 1 [e c, .int dp, .int room] = some (.int (room - z c))) →
    ∀ (room : Int) (y : Option DV), ((cs.map z).sum : Int) ≤ room → ∃ y', forD (gSet 3) (rbBody f) (cs.map e) [P, some (.fr (.int dp)), some (.fr (.int room)), y] = some (.nx [P, some (.fr (.int dp)), some (.fr (.int (room - ((cs.map z).sum : Nat)))), y'])
  | [], _, room, y, _ => ⟨y, by rw [List.map_nil, forD]; simp⟩
  | c :: cs, h, room, y, hr => by
    rw [List.map_cons, List.sum_cons] at hr
    obtain ⟨y', e1⟩ := roomc_loop (e := e) (z := z) P (cs := cs) (fun x hx => h x (List.mem_cons_of_mem _ hx)) (room - z c) (some (.fr (e c))) (by omega)
    refine ⟨y', ev_forN (e1 := [P, some (.fr (.int dp)), some (.fr (.int room)), some (.fr (e c))]) rfl (e2 := [P, some (.fr (.int dp)), some (.fr (.int (room - z c))), some (.fr (e c))]) ?_ ?_⟩
    · have h0 : ¬ room < 0 := by omega
      have e2 := h c List.mem_cons_self room (by omega)
      simp [rbBody, sSeq, sIf, fTst, fBin, rdF, fC, intD, truthD, h0, sNil, sSet, fCB, fCons, fNil, e2]
    · rw [e1, List.map_cons, List.sum_cons]
      have : room - (z c : Int) - ((cs.map z).sum : Nat) = room - ((z c + (cs.map z).sum : Nat) : Int) := by omega
      rw [this]
theorem room_pl {p : Pl} (hp : PlOk p) (f : Nat) (dp room : Int) : rc_room_behind (f + 1) 1 [plE p, .int dp, .int room] = some (.int (room - 1)) := by
  show runF 3 3 (mb_room_behind_command (rc_room_behind f)) _ = _
  simp [runF, mb_room_behind_command, sSeq, sIf, sRet, sNil, fTst, fCB, fCons, fNil, rdF, startE, plain_yes (PC.of hp), truthD, fBin, intD, fC]
theorem room_cm {tm : Int} (ht : tm ≤ 1000000000000000000000000000000) : ∀ (n f : Nat), 2 * n + 1 ≤ f → ∀ (c : Cm n), CmOk tm n c → ∀ dp room : Int, dp + n ≤ 4 → (szC n c : Int) ≤ room → rc_room_behind f 1 [cmE n c, .int dp, .int room] = some (.int (room - szC n c))
  | 0, f + 1, _, p, h, dp, room, _, _ => room_pl (p := p) h f dp room
  | n + 1, f + 1, _, .inl p, h, dp, room, _, _ => room_pl (p := p) h f dp room
  | n + 1, f + 2, hf, .inr (t, ps), h, dp, room, hd, hr => by
    have hz : szC (n + 1) (.inr (t, ps)) = 1 + (ps.map (szC n)).sum := rfl
    rw [hz] at hr ⊢
    have e1 : rc_room_behind (f + 1) 0 [.tuple (ps.map (cmE n)), .int (dp + 1), .int (room - 1)] = some (.int (room - 1 - (ps.map (szC n)).sum)) := by
      show runF 3 4 (mb_room_behind (rc_room_behind f)) _ = _
      obtain ⟨z', e⟩ := roomc_loop (e := cmE n) (z := szC n) (f := f) (dp := dp + 1) (some (.fr (.tuple (ps.map (cmE n))))) (cs := ps) (fun c hc room hr => room_cm ht n f (by omega) c (h.2.2 c hc) (dp + 1) room (by omega) hr) (room - 1) none (by omega)
      have h0 : ¬ (4 < dp + 1) := by omega
      refine ev_runF rfl (env := [some (.fr (.tuple (ps.map (cmE n)))), some (.fr (.int (dp + 1))), some (.fr (.int (room - 1 - (ps.map (szC n)).sum))), z']) ?_
      refine ev_seq (e1 := startE 4 [.tuple (ps.map (cmE n)), .int (dp + 1), .int (room - 1)]) ?_ (ev_seq (ev_for (ev_seqI (env := startE 4 [.tuple (ps.map (cmE n)), .int (dp + 1), .int (room - 1)]) rfl rfl) e) rfl)
      simp [sIf, fOr, fNot, fTst, fIsi, tyN, isiT, rdF, startE, truthD, fBin, fC, cv_MOST_NESTED, intD, h0, sNil]
    show runF 3 3 (mb_room_behind_command (rc_room_behind (f + 1))) _ = _
    have e2 := plain_no t (ps.map (cmE n))
    have e3 := rep_yes h.1 (Int.le_trans h.2.1 ht) (ps.map (cmE n))
    have e4 : cmE (n + 1) (.inr (t, ps)) = repC t (ps.map (cmE n)) := rfl
    rw [e4]
    unfold repC at e2 e3 ⊢
    simp [runF, mb_room_behind_command, sSeq, sIf, sRet, sNil, fTst, fCB, fCons, fNil, rdF, rdB, fIxN, ixD, atI, ixN, startE, e2, e3, truthD, fBin, intD, addD, fC, e1]
    omega
abbrev ckBody := (sSeq (sSet 1 (fCB m_room_behind_command (fCons (rdF 3) (fCons (fC (.int 1)) (fCons (rdF 1) fNil))))) (sIf (fTst (fBin ltD (rdF 1) (fC (.int 0)))) (sRaise "InvalidProgram" "index" (rdF 2)) sNil))
theorem checkc_loop {α : Type} {e : α → PyData} {z : α → Nat} (P : Option DV) : ∀ {cs : List α}, (∀ c ∈ cs, ∀ room : Int, (z c : Int) ≤ room → m_room_behind_command [e c, .int 1, .int room] = some (.int (room - z c))) → ∀ (is : List PyData) (room : Int) (z2 z3 : Option DV), is.length = cs.length → ((cs.map z).sum : Int) ≤ room →
    ∃ y2 y3, forD (gTupD 2 (gsCons (gSet 2) (gsCons (gSet 3) gsNil))) ckBody (is.zipWith (fun a b => .tuple [a, b]) (cs.map e)) [P, some (.fr (.int room)), z2, z3] = some (.nx [P, some (.fr (.int (room - ((cs.map z).sum : Nat)))), y2, y3])
  | [], _, is, room, z2, z3, hi, _ => by
    refine ⟨z2, z3, ?_⟩
    rw [List.map_nil, List.zipWith_nil_right, forD]
    simp
  | c :: cs, h, i :: is, room, z2, z3, hi, hr => by
    rw [List.map_cons, List.sum_cons] at hr
    obtain ⟨y2, y3, e1⟩ := checkc_loop (e := e) (z := z) P (cs := cs) (fun x hx => h x (List.mem_cons_of_mem _ hx)) is (room - z c) (some (.fr i)) (some (.fr (e c))) (by simpa using hi) (by omega)
    refine ⟨y2, y3, ?_⟩
    rw [List.map_cons, List.zipWith_cons_cons]
    refine ev_forN (e1 := [P, some (.fr (.int room)), some (.fr i), some (.fr (e c))]) rfl (e2 := [P, some (.fr (.int (room - z c))), some (.fr i), some (.fr (e c))]) ?_ ?_
    · have h0 : ¬ room - (z c : Int) < 0 := by omega
      have e2 := h c List.mem_cons_self room (by omega)
      simp [ckBody, sSeq, sSet, fCB, fCons, fNil, rdF, fC, e2, sIf, fTst, fBin, intD, truthD, h0, sNil]
    · rw [e1, List.map_cons, List.sum_cons]
      have : room - (z c : Int) - ((cs.map z).sum : Nat) = room - ((z c + (cs.map z).sum : Nat) : Int) := by omega
      rw [this]
theorem check_cx {tm : Int} (ht : tm ≤ 1000000000000000000000000000000) {n : Nat} (hn : n ≤ 3) {cs : List (Cm n)} (h : ∀ c ∈ cs, CmOk tm n c) (hs : (cs.map (szC n)).sum ≤ 400) : m_check_program [.tuple (cs.map (cmE n))] = some (.ok .none) := by
  obtain ⟨y2, y3, e⟩ := checkc_loop (e := cmE n) (z := szC n) (some (.fr (.tuple (cs.map (cmE n))))) (cs := cs) (fun c hc room hr => room_cm ht n 12 (by omega) c (h c hc) 1 room (by omega) hr) (rangeD 0 (cs.map (cmE n)).length) 400 none none (by rw [rangeD_len, List.length_map]) (by omega)
  refine ev_runX0 rfl (env := [some (.fr (.tuple (cs.map (cmE n)))), some (.fr (.int (400 - ((cs.map (szC n)).sum : Nat)))), y2, y3]) ?_
  exact ev_seq (e1 := startE 4 [.tuple (cs.map (cmE n))]) rfl (ev_seq (e1 := [some (.fr (.tuple (cs.map (cmE n)))), some (.fr (.int 400)), none, none]) rfl (ev_for (e1 := [some (.fr (.tuple (cs.map (cmE n)))), some (.fr (.int 400)), none, none]) rfl e))

theorem check_cm {tm : Int} (ht : tm ≤ 1000000000000000000000000000000) {n : Nat} (hn : n ≤ 3) {cs : List (Cm n)} (h : ∀ c ∈ cs, CmOk tm n c) (hs : (cs.map (szC n)).sum ≤ 400) : mo_check_program [.tuple (cs.map (cmE n))] = some .none := by
  unfold mo_check_program
  rw [check_cx ht hn h hs]; rfl
end DL
end L2


set_option Elab.async false
set_option maxRecDepth 100000
set_option maxHeartbeats 4000000
set_option autoImplicit false
namespace L2
namespace DL
open PySem PySem.Spec PyProof.Rows
local instance labNone_K22D : Lab := { w := none, T := [], gd := True }
theorem flip_dS (b : Bool) : flipS (dS b) = dS (!b) := by cases b <;> decide
theorem oD_fl (o : Od) : oD (flO o) = ordD ((o.1.map toKy).map flK) (flipS (dS o.2)) := by
  unfold oD flO
  rw [flip_dS, List.map_map, List.map_map]
  congr 1
  refine List.map_congr_left fun k _ => ?_
  show (k.1, dS (!k.2)) = (k.1, flipS (dS k.2))
  rw [flip_dS]
theorem turned_o {o : Od} (h : OOk o) : m_turned [oD o] = some (oD (flO o)) := by
  rw [oD_fl]
  exact turned_spec h.k (dS_in _) (by rw [List.length_map]; exact h.len)
theorem oD_tup (o : Od) : oD o = .tuple ((o.1.map fun k => kd (toKy k)) ++ [plD (dS o.2)]) := by
  unfold oD ordD
  rw [List.map_map]
  rfl
def itE (b : Bool) : Option KB → PyData
  | none => plD (dS b)
  | some k => kd (toKy k)
theorem oD_its (o : Od) : oD o = .tuple ((o.1.map some ++ [none]).map (itE o.2)) := by
  rw [oD_tup, List.map_append, List.map_map]
  rfl
def offB (c : Int) : Option KB → Bool
  | none => true
  | some k => !decide (k.1 = c)
theorem off_its (c : Int) (o : Od) : ((o.1.map some ++ [none]).filter (offB c)).map (itE o.2) = ((offO c o.1).map fun k => kd (toKy k)) ++ [plD (dS o.2)] := by
  rw [List.filter_append, List.map_append, List.filter_map, List.map_map]
  rfl
theorem ne_place (c : Int) : neD (.str "place") (.int c) = some (.bool true) := by
  show (if shD (.str "place") && shD (.int c) then some (PyData.eqv (.str "place") (.int c)) else none).map (fun k => PyData.bool (!k)) = _
  rw [show shD (.str "place") = true by kernel_rfl, (ly_int c).sh (by decide)]
  rfl
theorem sorted_first_spec (c : Int) (d : Bool) {o : Od} (h : OOk o) : m_sorted_first [.int c, .str (dS d), oD o] = some (oD (putO c d o)) := by
  have hl := h.len
  have e := lc_flt (i := 3) (ft := fTst (fCmpN neD (fIxN 3 (fC (.int 0))) 0)) (fe := rdF 3) (e := itE o.2) (q := itE o.2) (p := offB c) (env := [some (.fr (.int c)), some (.fr (.str (dS d))), some (.fr (oD o)), none]) rfl (o.1.map some ++ [none]) (fun x _ => by
    cases x with
    | none => exact ev_tst (ev_cmpN (ev_ixN rfl rfl rfl rfl) rfl (ne_place c)) rfl
    | some k => rfl) fun x _ _ => rfl
  rw [off_its] at e
  have hn : ((o.1.map some ++ [none]).map (itE o.2)).length ≤ lim := by
    simp only [List.length_map, List.length_append, List.length_singleton]
    show _ ≤ 100000
    omega
  have hf : (offO c o.1).length ≤ o.1.length := List.length_filter_le ..
  refine ev_runF rfl (env := [some (.fr (.int c)), some (.fr (.str (dS d))), some (.fr (oD o)), none]) (ev_ret (ev_bin (e1 := startE 4 [.int c, .str (dS d), oD o]) (a := .tuple [kd (toKy (c, d))]) (b := .tuple (((offO c o.1).map fun k => kd (toKy k)) ++ [plD (dS o.2)])) rfl (ev_cb (ev_cons (ev_frz (ev_lc (ev_seqI (e1 := startE 4 [.int c, .str (dS d), oD o]) rfl (by rw [oD_its]; rfl)) hn rfl e)) ev_nil) rfl) ?_))
  rw [oD_tup]
  refine ev_add ?_
  simp only [List.length_singleton, List.length_append, List.length_map]
  show _ ≤ 100000
  omega
theorem eqW {a b : Str} (h : a ≠ b) : eqD (.str a) (.str b) = some (.bool false) := by
  show some (PyData.bool (decide (a = b))) = _
  rw [decide_eq_false h]
theorem after_plain_spec {p : Pl} (hp : PlOk p) {o : Od} (h : OOk o) : m_after_plain [plE p, oD o] = some (oD (semP p o).2) := by
  have e1 := turned_o h
  cases p with
  | sort d c =>
    have e2 := sorted_first_spec c d h
    have w : inD (.str (dS d)) cv_DIRECTIONS = some (.bool true) := by cases d <;> kernel_rfl
    exact ev_runF rfl (env := startE 2 [plE (.sort d c), oD o]) (ev_seqR (ev_ifT (ev_tst (ev_bin (ev_ixN rfl rfl rfl rfl) rfl w) rfl) (ev_ret (ev_cb (ev_cons (ev_ixN rfl rfl rfl rfl) (ev_cons (ev_ixN rfl rfl rfl rfl) (ev_cons rfl ev_nil))) e2))))
  | rev =>
    have w : inD (.str "reverse") cv_DIRECTIONS = some (.bool false) := by kernel_rfl
    exact ev_runF rfl (env := startE 2 [plE .rev, oD o]) (ev_seq (ev_ifF (ev_tst (ev_bin (ev_ixN rfl rfl rfl rfl) rfl w) rfl) rfl) (ev_seqR (ev_ifT (ev_tst (ev_bin (ev_ixN rfl rfl rfl rfl) rfl rfl) rfl) (ev_ret (ev_cb (ev_cons rfl ev_nil) e1)))))
  | res =>
    have w : inD (.str "restore") cv_DIRECTIONS = some (.bool false) := by kernel_rfl
    exact ev_runF rfl (env := startE 2 [plE .res, oD o]) (ev_seq (ev_ifF (ev_tst (ev_bin (ev_ixN rfl rfl rfl rfl) rfl w) rfl) rfl) (ev_seq (ev_ifF (ev_tst (ev_bin (ev_ixN rfl rfl rfl rfl) rfl (eqW (by decide))) rfl) rfl) (ev_seqR (ev_ifT (ev_tst (ev_bin (ev_ixN rfl rfl rfl rfl) rfl rfl) rfl) rfl))))
  | cut f k =>
    have w : inD (.str (cS f)) cv_DIRECTIONS = some (.bool false) := by cases f <;> kernel_rfl
    exact ev_runF rfl (env := startE 2 [plE (.cut f k), oD o]) (ev_seq (ev_ifF (ev_tst (ev_bin (ev_ixN rfl rfl rfl rfl) rfl w) rfl) rfl) (ev_seq (ev_ifF (ev_tst (ev_bin (ev_ixN rfl rfl rfl rfl) rfl (eqW (by cases f <;> decide))) rfl) rfl) (ev_seq (ev_ifF (ev_tst (ev_bin (ev_ixN rfl rfl rfl rfl) rfl (eqW (by cases f <;> decide))) rfl) rfl) rfl)))
theorem picks_of_plain_spec {p : Pl} (hp : PlOk p) {o : Od} (h : OOk o) : m_picks_of_plain [plE p, oD o] = some (.list ((semP p o).1.map pkD)) := by
  have e1 := turned_o h
  cases p with
  | sort d c => exact ev_runF rfl (env := startE 2 [plE (.sort d c), oD o]) (ev_seq (ev_ifF (ev_tst (ev_bin (ev_ixN rfl rfl rfl rfl) rfl (eqW (by cases d <;> decide))) rfl) rfl) (ev_seq (ev_ifF (ev_tst (ev_bin (ev_ixN rfl rfl rfl rfl) rfl (eqW (by cases d <;> decide))) rfl) rfl) rfl))
  | rev => exact ev_runF rfl (env := startE 2 [plE .rev, oD o]) (ev_seq (ev_ifF (ev_tst (ev_bin (ev_ixN rfl rfl rfl rfl) rfl (eqW (by decide))) rfl) rfl) (ev_seq (ev_ifF (ev_tst (ev_bin (ev_ixN rfl rfl rfl rfl) rfl (eqW (by decide))) rfl) rfl) rfl))
  | res => exact ev_runF rfl (env := startE 2 [plE .res, oD o]) (ev_seq (ev_ifF (ev_tst (ev_bin (ev_ixN rfl rfl rfl rfl) rfl (eqW (by decide))) rfl) rfl) (ev_seq (ev_ifF (ev_tst (ev_bin (ev_ixN rfl rfl rfl rfl) rfl (eqW (by decide))) rfl) rfl) rfl))
  | cut f k =>
    cases f with
    | true => exact ev_runF rfl (env := startE 2 [plE (.cut true k), oD o]) (ev_seqR (ev_ifT (ev_tst (ev_bin (ev_ixN rfl rfl rfl rfl) rfl rfl) rfl) rfl))
    | false => exact ev_runF rfl (env := startE 2 [plE (.cut false k), oD o]) (ev_seq (ev_ifF (ev_tst (ev_bin (ev_ixN rfl rfl rfl rfl) rfl (eqW (by decide))) rfl) rfl) (ev_seqR (ev_ifT (ev_tst (ev_bin (ev_ixN rfl rfl rfl rfl) rfl rfl) rfl) (ev_ret (ev_frz (ev_lst (ev_cons (ev_tup (ev_cons (ev_cb (ev_cons rfl ev_nil) e1) (ev_cons (ev_ixN rfl rfl rfl rfl) ev_nil)) (by show (2 : Nat) ≤ 100000; decide)) ev_nil) (by show (1 : Nat) ≤ 100000; decide)))))))
/-! ### commands in general -/
theorem sem_len : ∀ (n : Nat) (c : Cm n) (o : Od), (sem n c o).1.length ≤ szC n c
  | 0, p, o => by cases p <;> simp [sem, semP, szC]
  | n + 1, .inl p, o => by cases p <;> simp [sem, semP, szC]
  | n + 1, .inr (t, ps), o => by
    show (seqS (sem n) ps o).1.length ≤ 1 + (ps.map (szC n)).sum
    have : ∀ (ps : List (Cm n)) (o : Od), (seqS (sem n) ps o).1.length ≤ (ps.map (szC n)).sum := by
      intro ps
      induction ps with
      | nil => exact fun _ => Nat.le_refl _
      | cons c cs ih =>
        intro o
        rw [seqS, List.length_append, List.map_cons, List.sum_cons]
        exact Nat.add_le_add (sem_len n c o) (ih _)
    have := this ps o
    omega
theorem seq_len {n : Nat} : ∀ (ps : List (Cm n)) (o : Od), (seqS (sem n) ps o).1.length ≤ (ps.map (szC n)).sum
  | [], _ => Nat.le_refl _
  | c :: cs, o => by
    rw [seqS, List.length_append, List.map_cons, List.sum_cons]
    exact Nat.add_le_add (sem_len n c o) (seq_len cs _)
abbrev apBody (f : Nat) := (sSeq (sAsg (fCB (rc_after_repeat f 1) (fCons (rdF 3) (fCons (rdF 1) fNil))) (gTupD 2 (gsCons (gSet 4) (gsCons (gSet 1) gsNil)))) (sExt 2 (rdF 4)))
theorem ap_loop {α : Type} {e : α → PyData} {F : α → Od → List Pk × Od} {f : Nat} (P : Option DV) : ∀ {cs : List α}, (∀ c ∈ cs, ∀ o, OOk o → OOk (F c o).2 ∧ rc_after_repeat f 1 [e c, oD o] = some (.tuple [.list ((F c o).1.map pkD), oD (F c o).2])) → ∀ (o : Od) (acc : List Pk) (z w : Option DV), OOk o → acc.length + (seqS F cs o).1.length ≤ 100000 →
    ∃ z' w', forD (gSet 3) (apBody f) (cs.map e) [P, some (.fr (oD o)), some (.ow (acc.map pkD)), z, w] = some (.nx [P, some (.fr (oD (seqS F cs o).2)), some (.ow ((acc ++ (seqS F cs o).1).map pkD)), z', w'])
  | [], _, o, acc, z, w, _, _ => ⟨z, w, by rw [List.map_nil, forD]; simp [seqS]⟩
  | c :: cs, h, o, acc, z, w, ho, hl => by
    obtain ⟨h1, h2⟩ := h c List.mem_cons_self o ho
    rw [seqS, List.length_append] at hl
    obtain ⟨z', w', ih⟩ := ap_loop (e := e) (F := F) P (cs := cs) (fun x hx => h x (List.mem_cons_of_mem _ hx)) (F c o).2 (acc ++ (F c o).1) (some (.fr (e c))) (some (.fr (.list ((F c o).1.map pkD)))) h1 (by rw [List.length_append]; omega)
    refine ⟨z', w', ev_forN (e1 := [P, some (.fr (oD o)), some (.ow (acc.map pkD)), some (.fr (e c)), w]) rfl (e2 := [P, some (.fr (oD (F c o).2)), some (.ow ((acc ++ (F c o).1).map pkD)), some (.fr (e c)), some (.fr (.list ((F c o).1.map pkD)))]) ?_ ?_⟩
    · refine ev_seq (ev_asg2 (e2 := [P, some (.fr (oD (F c o).2)), some (.ow (acc.map pkD)), some (.fr (e c)), some (.fr (.list ((F c o).1.map pkD)))]) (ev_cb (ev_cons rfl (ev_cons rfl ev_nil)) h2) rfl) (ev_ext rfl rfl rfl ?_ ?_)
      · rw [List.length_map, List.length_map]; show _ ≤ 100000; omega
      · rw [List.map_append]; rfl
    · rw [ih, seqS, List.append_assoc]
theorem ap_run {α : Type} {e : α → PyData} {F : α → Od → List Pk × Od} {f : Nat} {cs : List α} (h : ∀ c ∈ cs, ∀ o, OOk o → OOk (F c o).2 ∧ rc_after_repeat f 1 [e c, oD o] = some (.tuple [.list ((F c o).1.map pkD), oD (F c o).2])) {o : Od} (ho : OOk o) (hl : (seqS F cs o).1.length ≤ 100000) :
    rc_after_repeat (f + 1) 2 [.tuple (cs.map e), oD o] = some (.tuple [.list ((seqS F cs o).1.map pkD), oD (seqS F cs o).2]) := by
  obtain ⟨z, w, e1⟩ := ap_loop (e := e) (F := F) (some (.fr (.tuple (cs.map e)))) h o [] none none ho (by simpa using hl)
  rw [List.nil_append] at e1
  show runF 2 5 (mb_after_program (rc_after_repeat f)) _ = _
  exact ev_runF rfl (env := [some (.fr (.tuple (cs.map e))), some (.fr (oD (seqS F cs o).2)), some (.fr (.list ((seqS F cs o).1.map pkD))), z, w]) (ev_seq (e1 := [some (.fr (.tuple (cs.map e))), some (.fr (oD o)), some (.ow []), none, none]) rfl (ev_seq (ev_for (e1 := [some (.fr (.tuple (cs.map e))), some (.fr (oD o)), some (.ow []), none, none]) rfl e1) rfl))
theorem after_pl {p : Pl} (hp : PlOk p) {o : Od} (h : OOk o) (f : Nat) : rc_after_repeat (f + 1) 1 [plE p, oD o] = some (.tuple [.list ((semP p o).1.map pkD), oD (semP p o).2]) := by
  have e1 := picks_of_plain_spec hp h
  have e2 := after_plain_spec hp h
  have e3 : ∃ (w : Str) (r : List PyData), plE p = .tuple (.str w :: r) ∧ w ≠ "repeat" := (PC.of hp).head
  obtain ⟨w, r, e4, e5⟩ := e3
  show runF 2 2 (mb_after_command (rc_after_repeat f)) _ = _
  refine ev_runF rfl (env := startE 2 [plE p, oD o]) (ev_seq (e1 := startE 2 [plE p, oD o]) (ev_ifF (ev_tst (ev_bin (ev_ixN (z := .str w) rfl rfl rfl (by rw [e4]; simp [ixD, atI, ixN])) rfl (eqW e5)) rfl) rfl) (ev_ret (ev_tup (ev_cons (ev_cb (ev_cons rfl (ev_cons rfl ev_nil)) e1) (ev_cons (ev_cb (ev_cons rfl (ev_cons rfl ev_nil)) e2) ev_nil)) (by show (2 : Nat) ≤ 100000; decide))))
theorem mod2 (t : Int) : modD (.int t) (.int 2) = some (.int (t % 2)) := rfl
theorem after_cm {tm : Int} : ∀ (n f : Nat), 3 * n + 1 ≤ f → ∀ (c : Cm n), CmOk tm n c → szC n c ≤ 100000 → ∀ o, OOk o → rc_after_repeat f 1 [cmE n c, oD o] = some (.tuple [.list ((sem n c o).1.map pkD), oD (sem n c o).2])
  | 0, f + 1, _, p, h, _, o, ho => after_pl (p := p) h ho f
  | n + 1, f + 1, _, .inl p, h, _, o, ho => after_pl (p := p) h ho f
  | n + 1, f + 4, hf, .inr (t, ps), h, hs, o, ho => by
    have hs' : (ps.map (szC n)).sum ≤ 100000 := by
      have : szC (n + 1) (.inr (t, ps)) = 1 + (ps.map (szC n)).sum := rfl
      omega
    have q : ∀ c ∈ ps, ∀ o, OOk o → OOk (sem n c o).2 ∧ rc_after_repeat (f + 1) 1 [cmE n c, oD o] = some (.tuple [.list ((sem n c o).1.map pkD), oD (sem n c o).2]) := fun c hc o ho =>
      ⟨(sem_ok (h.2.2 c hc) ho).1, after_cm n (f + 1) (by omega) c (h.2.2 c hc) (Nat.le_trans (mem_le_sum (List.mem_map_of_mem hc)) hs') o ho⟩
    have e1 := ap_run (e := cmE n) q ho (Nat.le_trans (seq_len ps o) hs')
    have ho2 : OOk (seqS (sem n) ps o).2 := (seq_ok (fun c hc o ho => sem_ok (h.2.2 c hc) ho) ho).1
    have e2 := ap_run (e := cmE n) q ho2 (Nat.le_trans (seq_len ps _) hs')
    have e3 : rc_after_repeat (f + 3) 0 [.int t, .tuple (ps.map (cmE n)), oD o] = some (.tuple [.list ((seqS (sem n) ps o).1.map pkD), oD (if t % 2 = 0 then (seqS (sem n) ps (seqS (sem n) ps o).2).2 else (seqS (sem n) ps o).2)]) := by
      show runF 3 4 (mb_after_repeat (rc_after_repeat (f + 2))) _ = _
      by_cases z : t % 2 = 0
      · rw [if_pos z]
        refine ev_runF rfl (env := [some (.fr (.int t)), some (.fr (.tuple (ps.map (cmE n)))), some (.fr (oD (seqS (sem n) ps (seqS (sem n) ps o).2).2)), some (.fr (.list ((seqS (sem n) ps o).1.map pkD)))]) (ev_seq (ev_asg2 (e2 := [some (.fr (.int t)), some (.fr (.tuple (ps.map (cmE n)))), some (.fr (oD (seqS (sem n) ps o).2)), some (.fr (.list ((seqS (sem n) ps o).1.map pkD)))]) (ev_cb (ev_cons rfl (ev_cons rfl ev_nil)) e1) rfl) (ev_seq (ev_ifT (ev_tst (ev_bin (ev_bin rfl rfl (mod2 t)) rfl (by rw [z]; rfl)) rfl) (ev_setE (ev_bin (ev_cb (ev_cons rfl (ev_cons rfl ev_nil)) e2) rfl rfl) rfl)) rfl))
      · rw [if_neg z]
        refine ev_runF rfl (env := [some (.fr (.int t)), some (.fr (.tuple (ps.map (cmE n)))), some (.fr (oD (seqS (sem n) ps o).2)), some (.fr (.list ((seqS (sem n) ps o).1.map pkD)))]) (ev_seq (ev_asg2 (e2 := [some (.fr (.int t)), some (.fr (.tuple (ps.map (cmE n)))), some (.fr (oD (seqS (sem n) ps o).2)), some (.fr (.list ((seqS (sem n) ps o).1.map pkD)))]) (ev_cb (ev_cons rfl (ev_cons rfl ev_nil)) e1) rfl) (ev_seq (ev_ifF (ev_tst (ev_bin (ev_bin rfl rfl (mod2 t)) rfl (by show some (PyData.bool (decide (t % 2 = 0))) = _; rw [decide_eq_false z])) rfl) rfl) rfl))
    show runF 2 2 (mb_after_command (rc_after_repeat (f + 3))) _ = _
    exact ev_runF rfl (env := startE 2 [repE t (ps.map (cmE n)), oD o]) (ev_seqR (ev_ifT (ev_tst (ev_bin (ev_ixN rfl rfl rfl rfl) rfl rfl) rfl) (ev_ret (ev_cb (ev_cons (ev_ixN rfl rfl rfl rfl) (ev_cons (ev_ixN rfl rfl rfl rfl) (ev_cons rfl ev_nil))) e3))))
theorem after_program_spec {tm : Int} {n : Nat} (hn : n ≤ 3) {cs : List (Cm n)} (h : ∀ c ∈ cs, CmOk tm n c) (hs : (cs.map (szC n)).sum ≤ 100000) {o : Od} (ho : OOk o) : m_after_program [.tuple (cs.map (cmE n)), oD o] = some (.tuple [.list ((seqS (sem n) cs o).1.map pkD), oD (seqS (sem n) cs o).2]) :=
  ap_run (f := 11) (e := cmE n) (fun c hc o ho => ⟨(sem_ok (h c hc) ho).1, after_cm n 11 (by omega) c (h c hc) (Nat.le_trans (mem_le_sum (List.mem_map_of_mem hc)) hs) o ho⟩) ho (Nat.le_trans (seq_len cs o) hs)
end DL
end L2


set_option Elab.async false
set_option maxRecDepth 100000
set_option maxHeartbeats 4000000
set_option autoImplicit false
namespace L2
namespace DL
open PySem PySem.Spec PyProof.Rows
/-! ### picks, shortened one by one -/
def stepS (F : List Pk) (p : Pk) : List Pk := match F.getLast? with
  | none => [p]
  | some q => if q.2 ≤ p.2 then F else if q.1 = p.1 then F.dropLast ++ [p] else F ++ [p]
def foldS (F : List Pk) (ps : List Pk) : List Pk := ps.foldl stepS F
theorem foldS_app (F a b : List Pk) : foldS F (a ++ b) = foldS (foldS F a) b := List.foldl_append
theorem foldS_snoc (F a : List Pk) (p : Pk) : foldS F (a ++ [p]) = stepS (foldS F a) p := by rw [foldS_app]; rfl
theorem snoc_or {α : Type} (l : List α) : l = [] ∨ ∃ m x, l = m ++ [x] := by
  rcases l.eq_nil_or_concat with h | ⟨m, x, h⟩
  · exact .inl h
  · exact .inr ⟨m, x, by rw [h, List.concat_eq_append]⟩
def gp (g : Od → Od) (p : Pk) : Pk := (g p.1, p.2)
/-- short is that -/
theorem short_snoc (a : List Pk) {p : Pk} (hp : p.2 < 30) : short (a ++ [p]) = stepS (short a) p := by
  unfold short
  rw [keep_app]
  have hl := keep_last 30 a
  have hd := dedup_last (keep 30 a)
  show dedup (keep 30 a ++ if p.2 < minS 30 a then p :: keep p.2 [] else keep (minS 30 a) []) = _
  unfold stepS
  rw [hd]
  generalize keep 30 a = K at hl hd ⊢
  have e0 : keep p.2 [] = [] := rfl
  have e1 : keep (minS 30 a) [] = [] := rfl
  rw [e0, e1]
  by_cases h : p.2 < minS 30 a
  · rw [if_pos h, dedup_snoc]
    cases hK : K.getLast? with
    | none => rfl
    | some q =>
      rw [hK] at hl
      have hq : minS 30 a = q.2 := hl
      show (if q.1 = p.1 then _ else _) = if q.2 ≤ p.2 then _ else _
      rw [if_neg (show ¬ q.2 ≤ p.2 by omega)]
  · rw [if_neg h, List.append_nil]
    cases hK : K.getLast? with
    | none =>
      rw [hK] at hl
      have hq : minS 30 a = 30 := hl
      omega
    | some q =>
      rw [hK] at hl
      have hq : minS 30 a = q.2 := hl
      show _ = if q.2 ≤ p.2 then _ else _
      rw [if_pos (by omega)]
theorem short_fold : ∀ (n : Nat) (a : List Pk), a.length = n → (∀ p ∈ a, p.2 < 30) → short a = foldS [] a
  | 0, a, h, _ => by rw [List.eq_nil_of_length_eq_zero h]; rfl
  | n + 1, a, h, hp => by
    rcases snoc_or a with rfl | ⟨b, p, rfl⟩
    · rfl
    · rw [short_snoc b (hp p (by simp)), foldS_snoc, short_fold n b (by rw [List.length_append] at h; simpa using h) fun q hq => hp q (List.mem_append_left _ hq)]
theorem short_eq {a : List Pk} (h : ∀ p ∈ a, PkOk p) : short a = foldS [] a := short_fold a.length a rfl fun p hp => by have := (h p hp).2.2; omega
/-! ### the same: orders alike, picks alike whatever was picked before -/
structure Alk (a b : List Pk × Od) : Prop where
  o : a.2 = b.2
  k : ∀ F, foldS F a.1 = foldS F b.1
theorem Alk.refl (a : List Pk × Od) : Alk a a := ⟨rfl, fun _ => rfl⟩
theorem Alk.trans {a b c : List Pk × Od} (h : Alk a b) (h2 : Alk b c) : Alk a c := ⟨h.o.trans h2.o, fun F => (h.k F).trans (h2.k F)⟩
theorem Alk.symm {a b : List Pk × Od} (h : Alk a b) : Alk b a := ⟨h.o.symm, fun F => (h.k F).symm⟩
theorem Alk.short {a b : List Pk × Od} (h : Alk a b) (ha : ∀ p ∈ a.1, PkOk p) (hb : ∀ p ∈ b.1, PkOk p) : short a.1 = short b.1 := by
  rw [short_eq ha, short_eq hb, h.k]
section
variable {α : Type} {f : α → Od → List Pk × Od}
end
end DL
end L2


set_option Elab.async false
set_option maxRecDepth 100000
set_option maxHeartbeats 4000000
set_option autoImplicit false
namespace L2
namespace DL
open PySem PySem.Spec PyProof.Rows
end DL
end L2


set_option Elab.async false
set_option maxRecDepth 100000
set_option maxHeartbeats 4000000
set_option autoImplicit false
namespace L2
namespace DL
open PySem PySem.Spec PyProof.Rows
local instance labNone_K22R : Lab := { w := none, T := [], gd := True }
/-! ### tables told -/
def isInt : PyData → Bool
  | .int _ => true
  | _ => false
def isRec : PyData → Bool
  | .tuple ds => decide (1 ≤ ds.length) && decide (ds.length ≤ 5) && ds.all isInt
  | _ => false
def rowLen : PyData → Nat
  | .tuple ds => ds.length
  | _ => 0
def rowOk (w : Nat) (r : PyData) : Bool := isRec r && (rowLen r == w)
theorem is_integer_spec (d : PyData) : m_is_integer [d] = some (.bool (isInt d)) := by cases d <;> rfl
theorem rec_lc (fe : DEnv → Option (PyData × DEnv)) (hfe : ∀ (o : Option DV) (d : PyData), fe [o, some (.fr d)] = some (.bool (isInt d), [o, some (.fr d)])) (ds : List PyData) (hl : ds.length ≤ 5) :
    fCB allD (fCons (fFrz (nLc (iSeq (rdF 0)) (gSet 1) fYes fe [1])) fNil) [some (.fr (.tuple ds)), none] = some (.bool (ds.all isInt), [some (.fr (.tuple ds)), none]) := by
  refine ev_cb (ev_cons (ev_frz (ds := ds.map fun d => .bool (isInt d)) ?_) ev_nil) (all_map isInt ds)
  show (if ds.length ≤ lim then lcD _ _ _ _ ds [some (.fr (.tuple ds)), none] else none) = _
  rw [if_pos (by show _ ≤ 100000; omega)]
  exact lc_map rfl ds fun d _ => hfe _ d
theorem is_record_spec (d : PyData) : m_is_record [d] = some (.bool (isRec d)) := by
  cases d with
  | tuple ds =>
    by_cases h1 : (1 : Int) ≤ ds.length
    · by_cases h5 : (ds.length : Int) ≤ 5
      · have e := rec_lc (fCB m_is_integer (fCons (rdF 1) fNil)) (fun o d => ev_cb (ev_cons rfl ev_nil) (is_integer_spec d)) ds (by omega)
        refine (ev_runF rfl (ev_seq (e1 := [some (.fr (.tuple ds)), none]) ?_ (ev_ret e))).trans ?_
        · refine ev_ifF (e1 := [some (.fr (.tuple ds)), none]) ?_ rfl
          simp [startE, fOr, fNot, fTst, fIsi, isiT, tyN, rdF, truthD, fChain, fC, fLenN, rdB, lenD, leD, intD, cv_MOST_COLUMNS, h1, h5]
        · have h1' : 1 ≤ ds.length := by omega
          have h5' : ds.length ≤ 5 := by omega
          simp [isRec, h1', h5']
      · have h5' : ¬ ds.length ≤ 5 := by omega
        simp [m_is_record, runF, mb_is_record, sSeq, sIf, sRet, startE, fOr, fNot, fTst, fIsi, isiT, tyN, rdF, truthD, fChain, fC, fLenN, rdB, lenD, leD, intD, cv_MOST_COLUMNS, h1, h5, isRec, h5']
    · have h1' : ds = [] := by
        cases ds with
        | nil => rfl
        | cons _ _ => exact absurd (by rw [List.length_cons]; omega) h1
      subst h1'
      rfl
  | _ => rfl
theorem isRec_tup {d : PyData} (h : isRec d = true) : ∃ ds, d = .tuple ds := by
  cases d with
  | tuple ds => exact ⟨ds, rfl⟩
  | _ => cases h
abbrev chkRow (m : List PyData → Option PyData) (S : DEnv → Option DFlow) := sIf (fOr (fNot (fTst (fCB m (fCons (rdF 2) fNil)))) (fTst (fBin neD (fLenN 2) (fCB lenD (fCons (fIxN 0 (fC (.int 0))) fNil))))) S sNil
abbrev enG := gTupD 2 (gsCons (gSet 1) (gsCons (gSet 2) gsNil))
section
variable {m : List PyData → Option PyData} (hm : ∀ d, m [d] = some (.bool (isRec d))) {S : DEnv → Option DFlow}
include hm
theorem row_good {xs : List PyData} {rest : List PyData} {i r : PyData} (h : rowOk xs.length r = true) : chkRow m S [some (.fr (.tuple (.tuple xs :: rest))), some (.fr i), some (.fr r)] = some (.nx [some (.fr (.tuple (.tuple xs :: rest))), some (.fr i), some (.fr r)]) := by
  rw [rowOk, Bool.and_eq_true] at h
  obtain ⟨h1, h2⟩ := h
  obtain ⟨ys, rfl⟩ := isRec_tup h1
  have h2' : ys.length = xs.length := by simpa [rowLen] using h2
  have e := hm (.tuple ys)
  rw [h1] at e
  simp [chkRow, sIf, fOr, fNot, fTst, fCB, fCons, fNil, rdF, e, truthD, fBin, neD, eqB, fLenN, rdB, lenD, fIxN, ixD, atI, ixN, fC, h2', sNil]
end
/-! ### rows that are ints -/
def RowI (w : Nat) (r : PyData) : Prop := ∃ is : List Int, r = .tuple (is.map .int) ∧ is.length = w
theorem RowI.ok {w : Nat} {r : PyData} (h : RowI w r) (h1 : 1 ≤ w) (h5 : w ≤ 5) : rowOk w r = true ∧ isRec r = true ∧ rowLen r = w := by
  obtain ⟨is, rfl, hl⟩ := h
  have : isRec (.tuple (is.map .int)) = true := by
    have a1 : 1 ≤ is.length := by omega
    have a5 : is.length ≤ 5 := by omega
    simp [isRec, a1, a5, isInt]
  exact ⟨by simp [rowOk, this, rowLen, hl], this, by simp [rowLen, hl]⟩
structure TabI (rs : List PyData) : Prop where
  l1 : 1 ≤ rs.length
  l2 : rs.length ≤ 30
  row : ∃ w, 1 ≤ w ∧ w ≤ 5 ∧ ∀ r ∈ rs, RowI w r
theorem RowI.ly {w : Nat} {r : PyData} (h : RowI w r) : Ly 1 r := by
  obtain ⟨is, rfl, _⟩ := h
  exact Ly.tuple (ly_ints is)

theorem rows_ok {m : List PyData → Option PyData} (hm : ∀ d, m [d] = some (.bool (isRec d))) {S : DEnv → Option DFlow} {xs rest : List PyData} : ∀ (rs : List PyData) (k : Nat) (z1 z2 : Option DV), (∀ r ∈ rs, rowOk xs.length r = true) → ∃ z1' z2', forD enG (chkRow m S) ((rangeD k rs.length).zipWith (fun a b => .tuple [a, b]) rs) [some (.fr (.tuple (.tuple xs :: rest))), z1, z2] = some (.nx [some (.fr (.tuple (.tuple xs :: rest))), z1', z2'])
  | [], k, z1, z2, _ => ⟨z1, z2, rfl⟩
  | r :: rs, k, z1, z2, h => by
    rw [List.length_cons, rangeD_succ, List.zipWith_cons_cons]
    obtain ⟨a, b, e⟩ := rows_ok hm (S := S) (xs := xs) (rest := rest) rs (k + 1) (some (.fr (.int k))) (some (.fr r)) fun x hx => h x (List.mem_cons_of_mem _ hx)
    exact ⟨a, b, ev_forN rfl (row_good hm (h r List.mem_cons_self)) e⟩
theorem check_table_okX {rs : List PyData} (ht : TabI rs) : m_check_table [.tuple rs] = some (.ok .none) := by
  obtain ⟨w, w1, w5, hrow⟩ := ht.row
  obtain ⟨l1, l2⟩ : 1 ≤ rs.length ∧ rs.length ≤ 30 := ⟨ht.l1, ht.l2⟩
  have h1 : (1 : Int) ≤ rs.length := by omega
  have h3 : (rs.length : Int) ≤ 30 := by omega
  have e1 : sIf (fOr (fNot (fTst (fIsi "tuple" (rdF 0)))) (fNot (fTst (fChain leD leD (fC (.int 1)) (fLenN 0) (fC cv_MOST_RECORDS))))) (sRaise "InvalidTable" "index" (fC .none)) sNil [some (.fr (.tuple rs)), none, none] = some (.nx [some (.fr (.tuple rs)), none, none]) := by
    simp [sIf, sNil, fOr, fNot, fTst, fIsi, isiT, tyN, rdF, truthD, fChain, fC, fLenN, rdB, lenD, leD, intD, cv_MOST_RECORDS, h1, h3]
  cases rs with
  | nil => exact absurd l1 (by simp)
  | cons r0 rest =>
    obtain ⟨is, rfl, hl⟩ := hrow r0 List.mem_cons_self
    have hw : (is.map PyData.int).length = w := by rw [List.length_map]; exact hl
    obtain ⟨a, b, e⟩ := rows_ok is_record_spec (S := sRaise "InvalidTable" "index" (rdF 1)) (xs := is.map .int) (rest := rest) (.tuple (is.map .int) :: rest) 0 none none fun r hr => by rw [hw]; exact ((hrow r hr).ok w1 w5).1
    exact ev_runX0 rfl (ev_seq e1 (ev_for rfl e))
theorem TabW.tab {w : Nat} {t : Tab} (h : TabW w t) : TabI (t.map rowD) := by
  refine ⟨by rw [List.length_map]; exact h.l1, by rw [List.length_map]; exact h.l2, w, h.w1, h.w5, fun r hr => ?_⟩
  obtain ⟨is, hi, rfl⟩ := List.mem_map.mp hr
  exact ⟨is, rfl, h.row is hi⟩
theorem rows_of {w : Nat} : ∀ {rs : List PyData}, (∀ r ∈ rs, RowI w r) → ∃ t : Tab, rs = t.map rowD ∧ ∀ r ∈ t, r.length = w
  | [], _ => ⟨[], rfl, fun _ h => nomatch h⟩
  | r :: rs, h => by
    obtain ⟨t, rfl, ht⟩ := rows_of (rs := rs) fun x hx => h x (List.mem_cons_of_mem _ hx)
    obtain ⟨is, rfl, hl⟩ := h r List.mem_cons_self
    refine ⟨is :: t, rfl, fun r hr => ?_⟩
    rcases List.mem_cons.mp hr with rfl | hr
    · exact hl
    · exact ht r hr
theorem TabI.tabW {rs : List PyData} (h : TabI rs) : ∃ w t, rs = List.map rowD t ∧ TabW w t := by
  obtain ⟨w, w1, w5, hr⟩ := h.row
  obtain ⟨t, rfl, ht⟩ := rows_of hr
  have l1 := h.l1
  have l2 := h.l2
  rw [List.length_map] at l1 l2
  exact ⟨w, t, rfl, l1, l2, w1, w5, ht⟩
/-! ### what the program's defs give -/
theorem at_nat {α : Type} {l : List α} {i : Nat} (h : i < l.length) : atI l (i : Int) = some l[i] := by
  have h1 : (i : Int) < (l.length : Int) := by omega
  simp [atI, ixN, h1, h]
theorem at_row {w : Nat} {t : Tab} (h : TabW w t) {i : Nat} (hi : i < t.length) : ixD (tabD t) (.int i) = some (rowD (t.getD i [])) := by
  show atI (t.map rowD) (i : Int) = _
  rw [at_nat (by rw [List.length_map]; exact hi), List.getElem_map]
  congr 2
  rw [List.getD_eq_getElem?_getD, List.getElem?_eq_getElem hi]
  rfl
theorem at_cell {w : Nat} {t : Tab} (h : TabW w t) {i : Nat} (hi : i < t.length) {c : Int} (c0 : 0 ≤ c) (c1 : c < w) : ixD (rowD (t.getD i [])) (.int c) = some (.int (cellT t i c)) := by
  have hr : t.getD i [] ∈ t := by
    rw [List.getD_eq_getElem?_getD, List.getElem?_eq_getElem hi]
    exact List.getElem_mem hi
  have hl := h.row _ hr
  obtain ⟨k, rfl⟩ : ∃ k : Nat, c = k := ⟨c.toNat, by omega⟩
  have hk : k < (t.getD i []).length := by omega
  show atI ((t.getD i []).map PyData.int) (k : Int) = _
  rw [at_nat (by rw [List.length_map]; exact hk), List.getElem_map]
  congr 2
  unfold cellT
  rw [Int.toNat_natCast]
  exact (List.getElem_eq_getD (h := hk) 0)
theorem eq_place (c : Int) : eqD (.int c) (.str "place") = some (.bool false) := by
  have h1 : shD (.int c) = true := (ly_int c).sh (by decide)
  have h2 : shD (.str "place") = true := by decide +kernel
  show ((if shD (.int c) && shD (.str "place") then some (PyData.eqv (.int c) (.str "place")) else none).map PyData.bool) = _
  rw [h1, h2]
  rfl
abbrev svBody := sSeq (sSet 6 (fIf (fTst (fBin eqD (rdF 4) (fC (.str "place")))) (rdF 2) (fBin ixD (fIxN 0 (rdF 2)) (rdF 4)))) (sApp 3 (fIf (fTst (fBin eqD (rdF 5) (fC (.str "up")))) (rdF 6) (fNeg (rdF 6))))
theorem sv_app {a b c d : Option DV} {x : Int} {s : Str} {fs : List PyData} (hl : fs.length < 1000) : sApp 3 (fIf (fTst (fBin eqD (rdF 5) (fC (.str "up")))) (rdF 6) (fNeg (rdF 6))) [a, b, c, some (.ow fs), d, some (.fr (.str s)), some (.fr (.int x))] = some (.nx [a, b, c, some (.ow (fs ++ [.int (sg s x)])), d, some (.fr (.str s)), some (.fr (.int x))]) := by
  have hl' : fs.length < 100000 := by omega
  by_cases h : s = "up"
  · subst h
    simp [sApp, rdO, wrO, fIf, fTst, fBin, eqD, eqB, rdF, fC, truthD, lim, hl', sg]
  · simp [sApp, rdO, wrO, fIf, fTst, fBin, eqD, eqB, rdF, fC, truthD, lim, hl', sg, h, fNeg]
theorem sv_turn {w : Nat} {t : Tab} (ht : TabW w t) {i : Nat} (hi : i < t.length) {o z3 : Option DV} {k : Ky} (h0 : 0 ≤ k.1) (h1 : k.1 < w) {fs : List PyData} (hl : fs.length < 1000) :
    svBody [some (.fr (tabD t)), o, some (.fr (.int i)), some (.ow fs), some (.fr (.int k.1)), some (.fr (.str k.2)), z3] = some (.nx [some (.fr (tabD t)), o, some (.fr (.int i)), some (.ow (fs ++ [.int (sg k.2 (cellT t i k.1))])), some (.fr (.int k.1)), some (.fr (.str k.2)), some (.fr (.int (cellT t i k.1)))]) := by
  refine ev_seq (e1 := [some (.fr (tabD t)), o, some (.fr (.int i)), some (.ow fs), some (.fr (.int k.1)), some (.fr (.str k.2)), some (.fr (.int (cellT t i k.1)))]) ?_ (sv_app hl)
  have e1 := eq_place k.1
  have e2 := at_row ht hi
  have e3 := at_cell ht hi h0 h1
  simp [sSet, fIf, fTst, fBin, rdF, fC, e1, truthD, fIxN, rdB, e2]
  simpa using e3
theorem sv_last {t : Tab} {i : Nat} {o z3 : Option DV} {s : Str} {fs : List PyData} (hl : fs.length < 1000) :
    svBody [some (.fr (tabD t)), o, some (.fr (.int i)), some (.ow fs), some (.fr (.str "place")), some (.fr (.str s)), z3] = some (.nx [some (.fr (tabD t)), o, some (.fr (.int i)), some (.ow (fs ++ [.int (sg s i)])), some (.fr (.str "place")), some (.fr (.str s)), some (.fr (.int i))]) := by
  refine ev_seq (e1 := [some (.fr (tabD t)), o, some (.fr (.int i)), some (.ow fs), some (.fr (.str "place")), some (.fr (.str s)), some (.fr (.int i))]) ?_ (sv_app hl)
  simp [sSet, fIf, fTst, fBin, rdF, fC, eqD, eqB, truthD]
theorem sv_loop {w : Nat} {t : Tab} (ht : TabW w t) {i : Nat} (hi : i < t.length) {o : Option DV} {s : Str} : ∀ (ks : List Ky) (fs : List PyData) (z1 z2 z3 : Option DV), (∀ k ∈ ks, 0 ≤ k.1 ∧ k.1 < (w : Int)) → fs.length + ks.length < 900 →
    ∃ z1' z2' z3', forD (gTupD 2 (gsCons (gSet 4) (gsCons (gSet 5) gsNil))) svBody (ks.map kd ++ [plD s]) [some (.fr (tabD t)), o, some (.fr (.int i)), some (.ow fs), z1, z2, z3] = some (.nx [some (.fr (tabD t)), o, some (.fr (.int i)), some (.ow (fs ++ (kv t ks s i).map .int)), z1', z2', z3'])
  | [], fs, z1, z2, z3, _, hl => ⟨_, _, _, ev_forN rfl (sv_last (by rw [List.length_nil] at hl; omega)) rfl⟩
  | k :: ks, fs, z1, z2, z3, h, hl => by
    rw [List.length_cons] at hl
    obtain ⟨h0, h1⟩ := h k List.mem_cons_self
    obtain ⟨a, b, c, e⟩ := sv_loop ht hi (o := o) (s := s) ks (fs ++ [.int (sg k.2 (cellT t i k.1))]) (some (.fr (.int k.1))) (some (.fr (.str k.2))) (some (.fr (.int (cellT t i k.1)))) (fun x hx => h x (List.mem_cons_of_mem _ hx)) (by rw [List.length_append]; show fs.length + 1 + _ < _; omega)
    refine ⟨a, b, c, ev_forN rfl (sv_turn ht hi h0 h1 (by omega)) (e.trans ?_)⟩
    rw [List.append_assoc]
    rfl
theorem sort_values_spec {w : Nat} {t : Tab} (ht : TabW w t) {i : Nat} (hi : i < t.length) {ks : List Ky} {s : Str} (hk : ∀ k ∈ ks, 0 ≤ k.1 ∧ k.1 < (w : Int)) (hl : ks.length ≤ 4) : m_sort_values [tabD t, ordD ks s, .int i] = some (.tuple ((kv t ks s i).map .int)) := by
  obtain ⟨a, b, c, e⟩ := sv_loop ht hi (o := some (.fr (ordD ks s))) (s := s) ks [] none none none hk (by rw [List.length_nil]; omega)
  refine ev_runF rfl (ev_seq (e1 := [some (.fr (tabD t)), some (.fr (ordD ks s)), some (.fr (.int i)), some (.ow []), none, none, none]) rfl (ev_seq (ev_for rfl e) (ev_ret (e1 := _) (ev_cb (ev_cons rfl ev_nil) ?_))))
  rfl
theorem count_columns_spec {w : Nat} {t : Tab} (ht : TabW w t) : m_count_columns [tabD t] = some (.ok (.int w)) := by
  have e := check_table_okX ht.tab
  have hp : 0 < t.length := ht.l1
  have e2 := at_row ht hp
  have hl : (t.getD 0 []).length = w := ht.row _ (by rw [List.getD_eq_getElem?_getD, List.getElem?_eq_getElem hp]; exact List.getElem_mem hp)
  refine ev_runX rfl (ev_seq (e1 := [some (.fr (tabD t))]) (ev_exX (ev_cX (ev_cons rfl ev_nil) e)) (ev_ret (ev_cb (ev_cons (d := rowD (t.getD 0 [])) (e1 := [some (.fr (tabD t))]) ?_ ev_nil) ?_)))
  · have e3 : ixD (tabD t) (.int 0) = some (rowD (t.getD 0 [])) := e2
    simp [fIxN, rdB, fC, e3]
  · show some (PyData.int ((List.map PyData.int (t.getD 0 [])).length : Int)) = _
    rw [List.length_map, hl]
theorem below_lc (o : Option DV) (w : Int) (z : Option DV) : ∀ cs : List Int, (∀ c ∈ cs, c < w) → lcD (gSet 3) (fTst (fBin geD (rdF 3) (rdF 1))) (rdF 3) [3] (cs.map .int) [o, some (.fr (.int w)), z, none] = some ([], [o, some (.fr (.int w)), z, none])
  | [], _ => rfl
  | c :: cs, h => by
    have ih := below_lc o w z cs fun x hx => h x (List.mem_cons_of_mem _ hx)
    have hc : ¬ w ≤ c := by have := h c List.mem_cons_self; omega
    rw [List.map_cons, lcD]
    simp [gSet, fTst, fBin, geD, intD, rdF, truthD, hc, wipeE]
    exact ih
end DL
end L2


set_option Elab.async false
set_option maxRecDepth 100000
set_option maxHeartbeats 4000000
set_option autoImplicit false
namespace L2
namespace DL
open PySem PySem.Spec PyProof.Rows
local instance labNone_K22S : Lab := { w := none, T := [], gd := True }
/-! ### running: what the program's defs give -/
def placeD (l : List Nat) : PyData := .tuple (l.map fun i : Nat => PyData.int i)
def WO (w : Nat) (o : Od) : Prop := ∀ k ∈ o.1, k.1 < (w : Int)
def colsC : (n : Nat) → Cm n → List Int
  | 0, .sort _ c => [c]
  | 0, _ => []
  | _ + 1, .inl (.sort _ c) => [c]
  | _ + 1, .inl _ => []
  | n + 1, .inr (_, ps) => ps.flatMap (colsC n)
def colP : Pl → List Int
  | .sort _ c => [c]
  | _ => []
theorem cols0 (p : Cm 0) : colsC 0 p = colP p := by cases p <;> rfl
theorem colsI {n : Nat} (p : Pl) : colsC (n + 1) (.inl p) = colP p := by cases p <;> rfl
theorem WO.fl {w : Nat} {o : Od} (h : WO w o) : WO w (flO o) := fun k hk => by
  obtain ⟨x, hx, rfl⟩ := List.mem_map.mp hk
  exact h x hx
theorem WO.semP {w : Nat} {p : Pl} (hp : ∀ c ∈ colP p, c < (w : Int)) {o : Od} (h : WO w o) : WO w (DL.semP p o).2 ∧ ∀ x ∈ (DL.semP p o).1, WO w x.1 := by
  cases p with
  | sort d c =>
    refine ⟨fun k hk => ?_, fun _ z => nomatch z⟩
    rcases List.mem_cons.mp hk with rfl | hk
    · exact hp c List.mem_cons_self
    · exact h k (List.mem_filter.mp hk).1
  | rev => exact ⟨h.fl, fun _ z => nomatch z⟩
  | res => exact ⟨(fun _ z => nomatch z), (fun _ z => nomatch z)⟩
  | cut f k =>
    refine ⟨h, fun x hx => ?_⟩
    rw [show x = (if f then o else flO o, k) from List.mem_singleton.mp hx]
    cases f
    · exact h.fl
    · exact h
theorem WO.seq {w : Nat} {α : Type} {f : α → Od → List Pk × Od} {cs : List α} (h : ∀ c ∈ cs, ∀ o, WO w o → WO w (f c o).2 ∧ ∀ x ∈ (f c o).1, WO w x.1) : ∀ {o : Od}, WO w o → WO w (seqS f cs o).2 ∧ ∀ x ∈ (seqS f cs o).1, WO w x.1 := by
  induction cs with
  | nil => exact fun ho => ⟨ho, fun _ z => nomatch z⟩
  | cons c cs ih =>
    intro o ho
    obtain ⟨a, b⟩ := h c List.mem_cons_self o ho
    obtain ⟨a2, b2⟩ := ih (fun x hx => h x (List.mem_cons_of_mem _ hx)) a
    refine ⟨a2, fun x hx => ?_⟩
    rcases List.mem_append.mp hx with z | z
    · exact b x z
    · exact b2 x z
theorem WO.sem {w : Nat} : ∀ {n : Nat} {c : Cm n}, (∀ x ∈ colsC n c, x < (w : Int)) → ∀ {o : Od}, WO w o → WO w (DL.sem n c o).2 ∧ ∀ x ∈ (DL.sem n c o).1, WO w x.1
  | 0, p, h, o, ho => WO.semP (p := p) (by rw [← cols0]; exact h) ho
  | n + 1, .inl p, h, o, ho => WO.semP (p := p) (by rw [← colsI (n := n)]; exact h) ho
  | n + 1, .inr (t, ps), h, o, ho => by
    have q : ∀ c ∈ ps, ∀ o, WO w o → WO w (DL.sem n c o).2 ∧ ∀ x ∈ (DL.sem n c o).1, WO w x.1 := fun c hc o ho => WO.sem (fun x hx => h x (List.mem_flatMap.mpr ⟨c, hc, hx⟩)) ho
    obtain ⟨a, b⟩ := WO.seq q ho
    refine ⟨?_, b⟩
    show WO w (if t % 2 = 0 then _ else _)
    split
    · exact (WO.seq q a).1
    · exact a
theorem wo_start (w : Nat) : WO w start0 := fun _ h => nomatch h
theorem keys_img {α : Type} {fb : DEnv → Option (PyData × DEnv)} {env : DEnv} {e g : α → PyData} : ∀ xs : List α, (∀ x ∈ xs, keyOf fb env (e x) = some (g x)) → keysD fb env (xs.map e) = some (xs.map g)
  | [], _ => rfl
  | x :: xs, h => by
    rw [List.map_cons, keysD, h x List.mem_cons_self]
    show (keysD fb env (xs.map e)).map _ = _
    rw [keys_img xs fun y hy => h y (List.mem_cons_of_mem _ hy)]
    rfl
theorem sort_img (l : List Nat) (key : Nat → List Int) : sortD (l.map fun i : Nat => PyData.int i) (l.map fun i => .tuple ((key i).map .int)) = (srtP key l).map fun i : Nat => PyData.int i := by
  have e := PySem.W.sort_maps (r := PySem.W.dataLe false fun i : Nat => PyData.tuple ((key i).map .int)) (s := PySem.W.dataLe false fun b : PyData × PyData => b.2) (fun i : Nat => (PyData.int (i : Nat), PyData.tuple ((key i).map .int))) (l := l) fun _ _ _ _ => rfl
  have ez : (l.map fun i : Nat => PyData.int i).zip (l.map fun i => PyData.tuple ((key i).map .int)) = l.map fun i : Nat => (PyData.int (i : Nat), PyData.tuple ((key i).map .int)) := by rw [List.zip_map']
  unfold sortD
  rw [ez, ← e, List.map_map]
  rfl
theorem sorted_places_spec {w : Nat} {t : Tab} (ht : TabW w t) {o : Od} (ho : OOk o) (hw : WO w o) {l : List Nat} (hl : ∀ i ∈ l, i < t.length) : m_sorted_places [tabD t, placeD l, oD o] = some (placeD (srtP (kvO t o) l)) := by
  have ek := keys_img (fb := fCB m_sort_values (fCons (rdF 0) (fCons (rdF 2) (fCons (rdF 3) fNil)))) (env := [some (.fr (tabD t)), some (.fr (placeD l)), some (.fr (oD o))]) (e := fun i : Nat => PyData.int i) (g := fun i => PyData.tuple ((kvO t o i).map .int)) l fun i hi => by
    have e := sort_values_spec ht (i := i) (hl i hi) (ks := o.1.map toKy) (s := dS o.2) (fun k h => by
      obtain ⟨x, hx, rfl⟩ := List.mem_map.mp h
      exact ⟨(ho.rg x hx).1, hw x hx⟩) (by rw [List.length_map]; exact ho.len)
    unfold keyOf
    rw [ev_cb (o := m_sort_values) (ds := [tabD t, oD o, .int i]) (e1 := [some (.fr (tabD t)), some (.fr (placeD l)), some (.fr (oD o)), some (.fr (.int i))]) rfl e]
    rfl
  have ea : (l.map fun i => PyData.tuple ((kvO t o i).map .int)).all intsT = true := by
    rw [List.all_eq_true]
    intro d hd
    obtain ⟨i, hi, rfl⟩ := List.mem_map.mp hd
    cases e : kvO t o i with
    | nil =>
      unfold kvO kv at e
      exact absurd (List.append_eq_nil_iff.mp e).2 (by simp)
    | cons x xs => simp [intsT]
  have es : nSortT (rdF 1) (fCB m_sort_values (fCons (rdF 0) (fCons (rdF 2) (fCons (rdF 3) fNil)))) [some (.fr (tabD t)), some (.fr (placeD l)), some (.fr (oD o))] = some ((srtP (kvO t o) l).map fun i : Nat => PyData.int i, [some (.fr (tabD t)), some (.fr (placeD l)), some (.fr (oD o))]) := by
    show (keysD _ _ (l.map fun i : Nat => PyData.int i)).bind _ = _
    rw [ek]
    show (if _ then _ else none) = _
    rw [if_pos ea, sort_img]
  exact ev_runF (env := [some (.fr (tabD t)), some (.fr (placeD l)), some (.fr (oD o))]) rfl (ev_ret (ev_cb (ev_cons (ev_frz es) ev_nil) rfl))
theorem six_min {n d : Nat} {i : Int} (h0 : 0 ≤ i) : HT.sIx n d (some i) = min i.toNat n := by
  show (if i < 0 then (i + (n : Int)).toNat else min i.toNat n) = _
  rw [if_neg (by omega)]
theorem cut_take {ds : List PyData} {i : Int} (h0 : 0 ≤ i) : cutD ds none (some i) = ds.take i.toNat := by
  unfold cutD
  rw [six_min h0, show HT.sIx ds.length 0 none = 0 by simp [HT.sIx], List.drop_zero, Nat.sub_zero]
  by_cases z : i.toNat ≤ ds.length
  · rw [Nat.min_eq_left z]
  · rw [Nat.min_eq_right (by omega), List.take_of_length_le (Nat.le_refl _), List.take_of_length_le (by omega)]
abbrev pkG := gTupD 2 (gsCons (gSet 3) (gsCons (gSet 4) gsNil))
abbrev pkBody := (sSet 1 (fSl (fCB m_sorted_places (fCons (rdF 0) (fCons (rdF 1) (fCons (rdF 3) fNil)))) oNone (oSome (rdF 4))))
theorem pk_loop {w : Nat} {t : Tab} (ht : TabW w t) (Q : Option DV) : ∀ (ps : List Pk) (l : List Nat) (x y : Option DV), (∀ p ∈ ps, PkOk p ∧ WO w p.1) → (∀ i ∈ l, i < t.length) → ∃ x' y', forD pkG pkBody (ps.map pkD) [some (.fr (tabD t)), some (.fr (placeD l)), Q, x, y] = some (.nx [some (.fr (tabD t)), some (.fr (placeD (pickedP t ps l))), Q, x', y'])
  | [], l, x, y, _, _ => ⟨x, y, by rw [List.map_nil, forD]; rfl⟩
  | p :: ps, l, x, y, h, hl => by
    obtain ⟨h1, h2⟩ := h p List.mem_cons_self
    have e := sorted_places_spec ht h1.1 h2 hl
    obtain ⟨x', y', ih⟩ := pk_loop ht Q ps ((srtP (kvO t p.1) l).take p.2.toNat) (some (.fr (oD p.1))) (some (.fr (.int p.2))) (fun q hq => h q (List.mem_cons_of_mem _ hq)) (fun i hi => hl i ((srtP_perm _ l).mem_iff.mp (List.mem_of_mem_take hi)))
    refine ⟨x', y', ?_⟩
    rw [List.map_cons]
    refine ev_forN (e1 := [some (.fr (tabD t)), some (.fr (placeD l)), Q, some (.fr (oD p.1)), some (.fr (.int p.2))]) rfl (ev_setE (ev_sl (ev_cb (ev_cons rfl (ev_cons rfl (ev_cons rfl ev_nil))) e) rfl (ev_oS rfl) (d := placeD ((srtP (kvO t p.1) l).take p.2.toNat)) ?_) rfl) ih
    show some (PyData.tuple (cutD _ none (some p.2))) = _
    rw [cut_take (by have := h1.2.1; omega), ← List.map_take]
    rfl
theorem picked_spec {w : Nat} {t : Tab} (ht : TabW w t) {ps : List Pk} (h : ∀ p ∈ ps, PkOk p ∧ WO w p.1) {l : List Nat} (hl : ∀ i ∈ l, i < t.length) : m_picked [tabD t, placeD l, .list (ps.map pkD)] = some (placeD (pickedP t ps l)) := by
  obtain ⟨x, y, e⟩ := pk_loop ht (some (.fr (.list (ps.map pkD)))) ps l none none h hl
  exact ev_runF (env := [some (.fr (tabD t)), some (.fr (placeD (pickedP t ps l))), some (.fr (.list (ps.map pkD))), x, y]) rfl (ev_seq (ev_for (e1 := [some (.fr (tabD t)), some (.fr (placeD l)), some (.fr (.list (ps.map pkD))), none, none]) rfl e) rfl)
theorem every_spec {w : Nat} {t : Tab} (ht : TabW w t) : m_every_place [tabD t] = some (placeD (List.range t.length)) := by
  have hl := ht.l2
  refine ev_runF (env := [some (.fr (tabD t))]) rfl (ev_ret ?_)
  show fTupRg (fLenN 0) [some (.fr (tabD t))] = _
  rw [ev_tupRg (j := t.length) (e1 := [some (.fr (tabD t))]) (ev_lenN rfl (by show some (PyData.int ((t.map rowD).length : Nat)) = _; rw [List.length_map])) (by omega)]
  unfold placeD rangeD
  congr 3
  refine List.map_congr_left fun i _ => ?_
  rw [Int.zero_add]
theorem below_spec {cs : List Int} {w : Int} (h : ∀ c ∈ cs, c < w) (hl : cs.length ≤ 100000) : m_check_columns_below [.list (cs.map .int), .int w] = some .none := by
  have e := below_lc (some (.fr (.list (cs.map .int)))) w none cs h
  refine ev_runF0 (env := [some (.fr (.list (cs.map .int))), some (.fr (.int w)), some (.ow []), none]) rfl (ev_seq (e1 := [some (.fr (.list (cs.map .int))), some (.fr (.int w)), some (.ow []), none]) (ev_setN (ev_lc (ev_seqI rfl rfl) (by rw [List.length_map]; exact hl) rfl e) rfl) (ev_ifF (ev_truN rfl rfl) rfl))
abbrev pcBody (f : Nat) := (sIf (fTst (fBin inD (fIxN 2 (fC (.int 0))) (fC cv_DIRECTIONS))) (sApp 1 (fIxN 2 (fC (.int 1)))) (sIf (fTst (fBin eqD (fIxN 2 (fC (.int 0))) (fC (.str "repeat")))) (sExt 1 (fCB (rc_program_columns f 0) (fCons (fIxN 2 (fC (.int 2))) fNil))) sNil))
theorem pc_loop {α : Type} {e : α → PyData} {g : α → List Int} {f : Nat} (P : Option DV) : ∀ {cs : List α}, (∀ c ∈ cs, ∀ acc : List Int, acc.length + (g c).length ≤ 100000 → pcBody f [P, some (.ow (acc.map .int)), some (.fr (e c))] = some (.nx [P, some (.ow ((acc ++ g c).map .int)), some (.fr (e c))])) → ∀ (acc : List Int) (z : Option DV), acc.length + (cs.flatMap g).length ≤ 100000 →
    ∃ z', forD (gSet 2) (pcBody f) (cs.map e) [P, some (.ow (acc.map .int)), z] = some (.nx [P, some (.ow ((acc ++ cs.flatMap g).map .int)), z'])
  | [], _, acc, z, _ => ⟨z, by rw [List.map_nil, forD, List.flatMap_nil, List.append_nil]⟩
  | c :: cs, h, acc, z, hl => by
    rw [List.flatMap_cons, List.length_append] at hl
    obtain ⟨z', ih⟩ := pc_loop (e := e) P (cs := cs) (fun x hx => h x (List.mem_cons_of_mem _ hx)) (acc ++ g c) (some (.fr (e c))) (by rw [List.length_append]; omega)
    rw [List.append_assoc, ← List.flatMap_cons] at ih
    exact ⟨z', ev_forN rfl (h c List.mem_cons_self acc (by omega)) ih⟩
theorem pc_run {α : Type} {e : α → PyData} {g : α → List Int} {f : Nat} {cs : List α} (h : ∀ P, ∀ c ∈ cs, ∀ acc : List Int, acc.length + (g c).length ≤ 100000 → pcBody f [P, some (.ow (acc.map .int)), some (.fr (e c))] = some (.nx [P, some (.ow ((acc ++ g c).map .int)), some (.fr (e c))])) (hl : (cs.flatMap g).length ≤ 100000) :
    rc_program_columns (f + 1) 0 [.tuple (cs.map e)] = some (.list ((cs.flatMap g).map .int)) := by
  obtain ⟨z, e1⟩ := pc_loop (e := e) (g := g) (some (.fr (.tuple (cs.map e)))) (h _) [] none (by simpa using hl)
  rw [List.nil_append] at e1
  show runF 1 3 (mb_program_columns (rc_program_columns f)) _ = _
  exact ev_runF rfl (env := [some (.fr (.tuple (cs.map e))), some (.fr (.list ((cs.flatMap g).map .int))), z]) (ev_seq (e1 := [some (.fr (.tuple (cs.map e))), some (.ow []), none]) rfl (ev_seq (ev_for (e1 := [some (.fr (.tuple (cs.map e))), some (.ow []), none]) rfl e1) rfl))
theorem pc_pl {p : Pl} {f : Nat} {P : Option DV} {acc : List Int} (hl : acc.length + (colP p).length ≤ 100000) : pcBody f [P, some (.ow (acc.map .int)), some (.fr (plE p))] = some (.nx [P, some (.ow ((acc ++ colP p).map .int)), some (.fr (plE p))]) := by
  cases p with
  | sort d c =>
    have w : inD (.str (dS d)) cv_DIRECTIONS = some (.bool true) := by cases d <;> kernel_rfl
    rw [List.map_append]
    exact ev_ifT (ev_tst (ev_bin (ev_ixN rfl rfl rfl rfl) rfl w) rfl) (ev_app rfl (ev_ixN rfl rfl rfl rfl) rfl (by rw [List.length_map]; exact hl) rfl)
  | rev =>
    have w : inD (.str "reverse") cv_DIRECTIONS = some (.bool false) := by kernel_rfl
    rw [show acc ++ colP .rev = acc from List.append_nil _]
    exact ev_ifF (ev_tst (ev_bin (ev_ixN rfl rfl rfl rfl) rfl w) rfl) (ev_ifF (ev_tst (ev_bin (ev_ixN rfl rfl rfl rfl) rfl (eqW (by decide))) rfl) rfl)
  | res =>
    have w : inD (.str "restore") cv_DIRECTIONS = some (.bool false) := by kernel_rfl
    rw [show acc ++ colP .res = acc from List.append_nil _]
    exact ev_ifF (ev_tst (ev_bin (ev_ixN rfl rfl rfl rfl) rfl w) rfl) (ev_ifF (ev_tst (ev_bin (ev_ixN rfl rfl rfl rfl) rfl (eqW (by decide))) rfl) rfl)
  | cut b k =>
    have w : inD (.str (cS b)) cv_DIRECTIONS = some (.bool false) := by cases b <;> kernel_rfl
    rw [show acc ++ colP (.cut b k) = acc from List.append_nil _]
    exact ev_ifF (ev_tst (ev_bin (ev_ixN rfl rfl rfl rfl) rfl w) rfl) (ev_ifF (ev_tst (ev_bin (ev_ixN rfl rfl rfl rfl) rfl (eqW (by cases b <;> decide))) rfl) rfl)
theorem cols_len : ∀ (n : Nat) (c : Cm n), (colsC n c).length ≤ szC n c
  | 0, p => by rw [cols0]; cases p <;> simp [colP, szC]
  | n + 1, .inl p => by rw [colsI]; cases p <;> simp [colP, szC]
  | n + 1, .inr (t, ps) => by
    show (ps.flatMap (colsC n)).length ≤ 1 + (ps.map (szC n)).sum
    have : ∀ qs : List (Cm n), (qs.flatMap (colsC n)).length ≤ (qs.map (szC n)).sum := by
      intro qs
      induction qs with
      | nil => exact Nat.le_refl _
      | cons c cs ih =>
        rw [List.flatMap_cons, List.length_append, List.map_cons, List.sum_cons]
        exact Nat.add_le_add (cols_len n c) ih
    have := this ps
    omega
theorem colss_len {n : Nat} : ∀ (qs : List (Cm n)), (qs.flatMap (colsC n)).length ≤ (qs.map (szC n)).sum
  | [] => Nat.le_refl _
  | c :: cs => by
    rw [List.flatMap_cons, List.length_append, List.map_cons, List.sum_cons]
    exact Nat.add_le_add (cols_len n c) (colss_len cs)
theorem pc_cm : ∀ (n f : Nat), n ≤ f → ∀ (c : Cm n), szC n c ≤ 100000 → ∀ (P : Option DV) (acc : List Int), acc.length + (colsC n c).length ≤ 100000 → pcBody f [P, some (.ow (acc.map .int)), some (.fr (cmE n c))] = some (.nx [P, some (.ow ((acc ++ colsC n c).map .int)), some (.fr (cmE n c))])
  | 0, f, _, p, _, P, acc, hl => by rw [cols0] at hl ⊢; exact pc_pl (p := p) hl
  | n + 1, f, _, .inl p, _, P, acc, hl => by rw [colsI] at hl ⊢; exact pc_pl (p := p) hl
  | n + 1, f + 1, hf, .inr (t, ps), hs, P, acc, hl => by
    have hz : szC (n + 1) (.inr (t, ps)) = 1 + (ps.map (szC n)).sum := rfl
    have hcl := colss_len ps
    have e1 := pc_run (e := cmE n) (g := colsC n) (f := f) (cs := ps) (fun P c hc acc ha => pc_cm n f (by omega) c (by have := mem_le_sum (List.mem_map_of_mem (f := szC n) hc); omega) P acc ha) (by omega)
    have w : inD (.str "repeat") cv_DIRECTIONS = some (.bool false) := by kernel_rfl
    rw [List.map_append]
    exact ev_ifF (ev_tst (ev_bin (ev_ixN rfl rfl rfl rfl) rfl w) rfl) (ev_ifT (ev_tst (ev_bin (ev_ixN rfl rfl rfl rfl) rfl rfl) rfl) (ev_ext rfl (ev_cb (ev_cons (ev_ixN rfl rfl rfl rfl) ev_nil) e1) rfl (by rw [List.length_map, List.length_map]; exact hl) rfl))
theorem program_columns_spec {n : Nat} (hn : n ≤ 11) {cs : List (Cm n)} (hs : (cs.map (szC n)).sum ≤ 100000) : m_program_columns [.tuple (cs.map (cmE n))] = some (.list ((cs.flatMap (colsC n)).map .int)) :=
  pc_run (f := 11) (fun P c hc acc ha => pc_cm n 11 hn c (by have := mem_le_sum (List.mem_map_of_mem (f := szC n) hc); omega) P acc ha) (Nat.le_trans (colss_len cs) hs)
def cpE {n : Nat} (cs : List (Cm n)) : PyData := .tuple (cs.map (cmE n))
/-- a program that fits a table -/
structure Prg (tm : Int) (w n : Nat) (cs : List (Cm n)) : Prop where
  ok : ∀ c ∈ cs, CmOk tm n c
  sz : (cs.map (szC n)).sum ≤ 400
  co : ∀ c ∈ cs, ∀ x ∈ colsC n c, x < (w : Int)
theorem run_places_spec {tm : Int} (htm : tm ≤ 1000000000000000000000000000000) {w : Nat} {t : Tab} (ht : TabW w t) {n : Nat} (hn : n ≤ 3) {cs : List (Cm n)} (h : Prg tm w n cs) : m_run_places [tabD t, cpE cs] = some (.ok (placeD (runP t (seqS (sem n) cs start0)))) := by
  have c1 := count_columns_spec ht
  have c2 := check_cx htm hn h.ok h.sz
  have c3 := program_columns_spec (n := n) (by omega) (cs := cs) (by have := h.sz; omega)
  have c4 := below_spec (cs := cs.flatMap (colsC n)) (w := (w : Int)) (fun x hx => by
    obtain ⟨c, hc, hx⟩ := List.mem_flatMap.mp hx
    exact h.co c hc x hx) (by have := h.sz; have := colss_len cs; omega)
  have e1 : m_check_run [tabD t, cpE cs] = some (.ok .none) := ev_runX0 rfl (env := [some (.fr (tabD t)), some (.fr (cpE cs)), some (.fr (.int w))]) (ev_seq (e1 := [some (.fr (tabD t)), some (.fr (cpE cs)), some (.fr (.int w))]) (ev_stX (ev_cX (ev_cons rfl ev_nil) c1) rfl) (ev_seq (ev_exX (ev_cX (ev_cons rfl ev_nil) c2)) (ev_expr (ev_cb (ev_cons (ev_cb (ev_cons rfl ev_nil) c3) (ev_cons rfl ev_nil)) c4))))
  have e2 := after_program_spec hn h.ok (by have := h.sz; omega) start0_ok
  have q1 := seq_ok (fun c hc o ho => sem_ok (h.ok c hc) ho) start0_ok (cs := cs)
  have q2 := WO.seq (w := w) (f := sem n) (cs := cs) (fun c hc o ho => WO.sem (h.co c hc) ho) (wo_start w)
  have e3 := every_spec ht
  have e4 := picked_spec ht (ps := (seqS (sem n) cs start0).1) (fun p hp => ⟨q1.2 p hp, q2.2 p hp⟩) (l := List.range t.length) fun i hi => List.mem_range.mp hi
  have e5 := sorted_places_spec ht q1.1 q2.1 (l := pickedP t (seqS (sem n) cs start0).1 (List.range t.length)) fun i hi => List.mem_range.mp (pickedP_sub t _ hi)
  exact ev_runX rfl (env := [some (.fr (tabD t)), some (.fr (cpE cs)), some (.fr (.list ((seqS (sem n) cs start0).1.map pkD))), some (.fr (oD (seqS (sem n) cs start0).2))]) (ev_seq (e1 := [some (.fr (tabD t)), some (.fr (cpE cs)), none, none]) (ev_exX (ev_cX (ev_cons rfl (ev_cons rfl ev_nil)) e1)) (ev_seq (ev_asg2 (ev_cb (ev_cons rfl (ev_cons rfl ev_nil)) e2) rfl) (ev_ret (ev_cb (ev_cons rfl (ev_cons (ev_cb (ev_cons rfl (ev_cons (ev_cb (ev_cons rfl ev_nil) e3) (ev_cons rfl ev_nil))) e4) (ev_cons rfl ev_nil))) e5))))
end DL
end L2


set_option Elab.async false
set_option maxRecDepth 100000
set_option maxHeartbeats 4000000
set_option autoImplicit false
namespace L2
namespace DL
open PySem PySem.Spec PyProof.Rows
local instance labNone_K22T : Lab := { w := none, T := [], gd := True }
theorem six_none (n d : Nat) : HT.sIx n d none = d := by simp [HT.sIx]
theorem six_some {n d : Nat} {i : Int} (h0 : 0 ≤ i) (h1 : i ≤ n) : HT.sIx n d (some i) = i.toNat := by
  show (if i < 0 then (i + (n : Int)).toNat else min i.toNat n) = _
  rw [if_neg (by omega), Nat.min_eq_left (by omega)]
theorem cut_lo {ds : List PyData} {i : Int} (h0 : 0 ≤ i) (h1 : i ≤ ds.length) : cutD ds none (some i) = ds.take i.toNat := by
  unfold cutD
  rw [six_none, six_some h0 h1, List.drop_zero, Nat.sub_zero]
theorem cut_hi {ds : List PyData} {i : Int} (h0 : 0 ≤ i) (h1 : i ≤ ds.length) : cutD ds (some i) none = ds.drop i.toNat := by
  unfold cutD
  rw [six_none, six_some h0 h1, List.take_of_length_le]
  rw [List.length_drop]
  exact Nat.le_refl _
/-! ### drawn programs that fit a width -/
def mkR {n : Nat} (t : Int) (qs : List (Cm n)) : Cm (n + 1) := .inr (t, qs)
def mkP {n : Nat} (p : Pl) : Cm (n + 1) := .inl p
def inlE {n : Nat} (ps : List Pl) : List (Cm (n + 1)) := ps.map mkP
theorem inlE_e {n : Nat} (ps : List Pl) : (inlE (n := n) ps).map (cmE (n + 1)) = ps.map plE := by unfold inlE; rw [List.map_map]; rfl
def fm : (n : Nat) → Cm n → Nat
  | 0, _ => 1
  | _ + 1, .inl _ => 1
  | n + 1, .inr (_, ps) => 5 * (ps.map (fm n)).sum
structure DrC (W tm : Int) (n : Nat) (c : Cm n) : Prop where
  ok : CmOk tm n c
  co : ∀ x ∈ colsC n c, x < W
theorem sum_app {α : Type} (f : α → Nat) (a b : List α) : ((a ++ b).map f).sum = (a.map f).sum + (b.map f).sum := by rw [List.map_append, List.sum_append]
theorem sum_ins {α : Type} (f : α → Nat) (l : List α) (i : Nat) (x : α) : ((l.take i ++ [x] ++ l.drop i).map f).sum = (l.map f).sum + f x := by
  have h := sum_app f (l.take i) (l.drop i)
  rw [List.take_append_drop] at h
  rw [sum_app, sum_app, h]
  show _ + (f x + 0) + _ = _
  omega
theorem sum_one {α : Type} {f : α → Nat} : ∀ {l : List α}, (∀ x ∈ l, f x = 1) → (l.map f).sum = l.length
  | [], _ => rfl
  | x :: l, h => by
    rw [List.map_cons, List.sum_cons, sum_one fun y hy => h y (List.mem_cons_of_mem _ hy), h x List.mem_cons_self, List.length_cons]
    omega
theorem szI {n : Nat} (ps : List Pl) : ((inlE (n := n) ps).map (szC (n + 1))).sum = ps.length := by
  rw [sum_one (fun x hx => by obtain ⟨p, _, rfl⟩ := List.mem_map.mp hx; rfl), inlE, List.length_map]
theorem fmI {n : Nat} (ps : List Pl) : ((inlE (n := n) ps).map (fm (n + 1))).sum = ps.length := by
  rw [sum_one (fun x hx => by obtain ⟨p, _, rfl⟩ := List.mem_map.mp hx; rfl), inlE, List.length_map]
theorem fm0 : ∀ ps : List (Cm 0), (ps.map (fm 0)).sum = ps.length
  | [] => rfl
  | _ :: ps => by rw [List.map_cons, List.sum_cons, fm0 ps, List.length_cons]; show 1 + _ = _; omega
theorem sz0 : ∀ ps : List (Cm 0), (ps.map (szC 0)).sum = ps.length
  | [] => rfl
  | _ :: ps => by rw [List.map_cons, List.sum_cons, sz0 ps, List.length_cons]; show 1 + _ = _; omega
def PlF (W : Int) (p : Pl) : Prop := PlOk p ∧ ∀ c ∈ colP p, c < W
theorem drc_inl {W tm : Int} {n : Nat} {ps : List Pl} (h : ∀ p ∈ ps, PlF W p) : ∀ c ∈ inlE (n := n) ps, DrC W tm (n + 1) c := fun c hc => by
  obtain ⟨p, hp, rfl⟩ := List.mem_map.mp hc
  exact ⟨(h p hp).1, fun x hx => (h p hp).2 x (by rw [← colsI (n := n) p]; exact hx)⟩
theorem drc_0 {W tm : Int} {ps : List Pl} (h : ∀ p ∈ ps, PlF W p) : ∀ c ∈ ps, DrC W tm 0 c := fun p hp => ⟨(h p hp).1, fun x hx => (h p hp).2 x (by rw [← cols0 p]; exact hx)⟩
theorem drc_rep {W tm t : Int} {n : Nat} {cs : List (Cm n)} (h1 : 1 ≤ t) (h2 : t ≤ tm) (h : ∀ c ∈ cs, DrC W tm n c) : DrC W tm (n + 1) (mkR t cs) := ⟨⟨h1, h2, fun c hc => (h c hc).ok⟩, fun x hx => by
  obtain ⟨c, hc, hx⟩ := List.mem_flatMap.mp (show x ∈ cs.flatMap (colsC n) from hx)
  exact (h c hc).co x hx⟩
theorem stq_spec {es : List PyData} (hp : PoolOk es) {most W size : Int} (hm : 0 ≤ most ∧ most ≤ 1000) (hw : 0 < W ∧ W ≤ 4) (hs : 2 ≤ size ∧ size ≤ 29) : ∃ (ps : List Pl) (es' : List PyData), m__law_steps es [.int most, .int W, .int size] = some (.tuple (ps.map plE), es') ∧ PoolOk es' ∧ (∀ p ∈ ps, PlF W p) ∧ (ps.length : Int) ≤ most := by
  obtain ⟨cs, es', e, p, h, hl⟩ := stepsW_spec hp hm hw hs
  obtain ⟨ps, rfl, h1, h2⟩ := pcs_toW cs h
  rw [List.length_map] at hl
  refine ⟨ps, es', e, p, fun p hp => ⟨h1 p hp, fun c hc => ?_⟩, hl⟩
  have := h2 p hp
  cases p with
  | sort d c' => rw [List.mem_singleton.mp hc]; exact this
  | _ => exact nomatch hc
theorem add_tup {a b : List PyData} (h : a.length + b.length ≤ 100000) : addD (.tuple a) (.tuple b) = some (.tuple (a ++ b)) := if_pos h
abbrev pgHead (g : DEnv → Option DFlow) := (sSeq (sSet 6 (fCR 0 m__law_steps (fCons (fC (.int 4)) (fCons (rdF 1) (fCons (rdF 2) fNil))))) (sSeq (sIf (fTst (fBin eqD (fCR 0 m__law_draw (fCons (fC (.int 3)) fNil)) (fC (.int 0)))) (sSeq (sSet 8 (fBin addD (fC (.int 1)) (fCR 0 m__law_draw (fCons (rdF 3) fNil)))) (sSet 6 (fBin addD (rdF 6) (fTup (fCons (fTup (fCons (fC (.str "repeat")) (fCons (rdF 8) (fCons (fCR 0 m__law_steps (fCons (fC (.int 3)) (fCons (rdF 1) (fCons (rdF 2) fNil)))) fNil)))) fNil))))) sNil) g))
theorem inner_spec {es : List PyData} {W size tm : Int} {f t i7 i8 : Option DV} {i6 : Option DV} (hp : PoolOk es) (hw : 0 < W ∧ W ≤ 4) (hs : 2 ≤ size ∧ size ≤ 29) (ht : 1 ≤ tm ∧ tm ≤ 1000000000000000000000000000000) :
    ∃ (es' : List PyData) (cs : List (Cm 1)) (i8' : Option DV), (∀ g, pgHead g [some (.rf es), some (.fr (.int W)), some (.fr (.int size)), some (.fr (.int tm)), f, t, i6, i7, i8] = g [some (.rf es'), some (.fr (.int W)), some (.fr (.int size)), some (.fr (.int tm)), f, t, some (.fr (.tuple (cs.map (cmE 1)))), i7, i8']) ∧ PoolOk es' ∧ (∀ c ∈ cs, DrC W tm 1 c) ∧ (cs.map (szC 1)).sum ≤ 8 ∧ (cs.map (fm 1)).sum ≤ 19 := by
  obtain ⟨ps, es1, e1, p1, hc, hl⟩ := stq_spec hp (most := 4) (by omega) hw hs
  obtain ⟨d, es2, e2, p2, a2, b2⟩ := draw_spec p1 (m := 3) (by omega) (by omega)
  by_cases hd : d = 0
  · obtain ⟨o, es3, e3, p3, a3, b3⟩ := draw_spec p2 (m := tm) (by omega) (by omega)
    obtain ⟨qs, es4, e4, p4, hq, hql⟩ := stq_spec p3 (most := 3) (by omega) hw hs
    have hdr := drc_rep (W := W) (tm := tm) (t := 1 + o) (n := 0) (cs := qs) (by omega) (by omega) (drc_0 (tm := tm) hq)
    have z1 : szC 1 (mkR (n := 0) (1 + o) qs) = 1 + List.length (α := Pl) qs := congrArg (1 + ·) (sz0 qs)
    have z2 : fm 1 (mkR (n := 0) (1 + o) qs) = 5 * List.length (α := Pl) qs := congrArg (5 * ·) (fm0 qs)
    refine ⟨es4, inlE (n := 0) ps ++ [mkR (n := 0) (1 + o) qs], some (.fr (.int (1 + o))), fun g => ?_, p4, fun c hc' => ?_, ?_, ?_⟩
    · rw [show (inlE (n := 0) ps ++ [mkR (n := 0) (1 + o) qs]).map (cmE 1) = ps.map plE ++ [.tuple [.str "repeat", .int (1 + o), .tuple (qs.map plE)]] by rw [List.map_append, inlE_e]; rfl]
      have c1 : (ps.map plE).length + 1 ≤ 100000 := by rw [List.length_map]; omega
      generalize ps.map plE = A at e1 c1 ⊢
      generalize qs.map plE = B at e4 ⊢
      simp [sSeq, sSet, sIf, fTst, fBin, fCR, rdO, wrO, fCons, fNil, fC, rdF, e1, e2, e3, e4, hd, eqD, eqB, truthD, addD, fTup, lim, c1]
    · rcases List.mem_append.mp hc' with h | h
      · exact drc_inl hc c h
      · rw [List.mem_singleton.mp h]
        exact hdr
    · rw [sum_app, szI]
      show _ + (szC 1 (mkR (n := 0) (1 + o) qs) + 0) ≤ 8
      omega
    · rw [sum_app, fmI]
      show _ + (fm 1 (mkR (n := 0) (1 + o) qs) + 0) ≤ 19
      omega
  · refine ⟨es2, inlE (n := 0) ps, i8, fun g => ?_, p2, drc_inl hc, by rw [szI]; omega, by rw [fmI]; omega⟩
    rw [inlE_e]
    generalize ps.map plE = A at e1 ⊢
    simp [sSeq, sSet, sIf, fTst, fBin, fCR, rdO, wrO, fCons, fNil, fC, rdF, e1, e2, hd, eqD, eqB, truthD, sNil]
abbrev pgBody := (sSeq (sSet 6 (fCR 0 m__law_steps (fCons (fC (.int 4)) (fCons (rdF 1) (fCons (rdF 2) fNil))))) (sSeq (sIf (fTst (fBin eqD (fCR 0 m__law_draw (fCons (fC (.int 3)) fNil)) (fC (.int 0)))) (sSeq (sSet 8 (fBin addD (fC (.int 1)) (fCR 0 m__law_draw (fCons (rdF 3) fNil)))) (sSet 6 (fBin addD (rdF 6) (fTup (fCons (fTup (fCons (fC (.str "repeat")) (fCons (rdF 8) (fCons (fCR 0 m__law_steps (fCons (fC (.int 3)) (fCons (rdF 1) (fCons (rdF 2) fNil)))) fNil)))) fNil))))) sNil) (sSeq (sSet 7 (fCR 0 m__law_draw (fCons (fBin addD (fLenN 4) (fC (.int 1))) fNil))) (sSet 4 (fBin addD (fBin addD (fSl (rdF 4) oNone (oSome (rdF 7))) (fTup (fCons (fTup (fCons (fC (.str "repeat")) (fCons (fBin addD (fC (.int 1)) (fCR 0 m__law_draw (fCons (rdF 3) fNil))) (fCons (rdF 6) fNil)))) fNil))) (fSl (rdF 4) (oSome (rdF 7)) oNone))))))
theorem prog_turn {es : List PyData} {found : List (Cm 2)} {W size tm : Int} {t i6 i7 i8 : Option DV} (hp : PoolOk es) (hw : 0 < W ∧ W ≤ 4) (hs : 2 ≤ size ∧ size ≤ 29) (ht : 1 ≤ tm ∧ tm ≤ 1000000000000000000000000000000) (hf : ∀ c ∈ found, DrC W tm 2 c) (hl : found.length ≤ 50000) :
    ∃ (es' : List PyData) (found' : List (Cm 2)) (a b c : Option DV), pgBody [some (.rf es), some (.fr (.int W)), some (.fr (.int size)), some (.fr (.int tm)), some (.fr (.tuple (found.map (cmE 2)))), t, i6, i7, i8] = some (.nx [some (.rf es'), some (.fr (.int W)), some (.fr (.int size)), some (.fr (.int tm)), some (.fr (.tuple (found'.map (cmE 2)))), t, a, b, c]) ∧ PoolOk es' ∧ (∀ c ∈ found', DrC W tm 2 c) ∧ found'.length = found.length + 1 ∧ (found'.map (szC 2)).sum ≤ (found.map (szC 2)).sum + 9 ∧ (found'.map (fm 2)).sum ≤ (found.map (fm 2)).sum + 95 := by
  obtain ⟨es1, cs, i8', e1, p1, hc, hs1, hf1⟩ := inner_spec (f := some (.fr (.tuple (found.map (cmE 2))))) (t := t) (i6 := i6) (i7 := i7) (i8 := i8) hp hw hs ht
  obtain ⟨at', es2, e2, p2, a2, b2⟩ := draw_spec p1 (m := (found.length : Int) + 1) (by omega) (by omega)
  obtain ⟨o, es3, e3, p3, a3, b3⟩ := draw_spec p2 (m := tm) (by omega) (by omega)
  have hdr := drc_rep (t := 1 + o) (by omega) (by omega) hc
  have z1 : szC 2 (mkR (1 + o) cs) = 1 + (cs.map (szC 1)).sum := rfl
  have z2 : fm 2 (mkR (1 + o) cs) = 5 * (cs.map (fm 1)).sum := rfl
  refine ⟨es3, found.take at'.toNat ++ [mkR (1 + o) cs] ++ found.drop at'.toNat, some (.fr (.tuple (cs.map (cmE 1)))), some (.fr (.int at')), i8', (e1 _).trans ?_, p3, fun c h => ?_, ?_, ?_, ?_⟩
  · rw [show (found.take at'.toNat ++ [mkR (1 + o) cs] ++ found.drop at'.toNat).map (cmE 2) = (found.map (cmE 2)).take at'.toNat ++ [.tuple [.str "repeat", .int (1 + o), .tuple (cs.map (cmE 1))]] ++ (found.map (cmE 2)).drop at'.toNat by rw [List.map_append, List.map_append, List.map_take, List.map_drop]; rfl]
    have hlm : (found.map (cmE 2)).length = found.length := List.length_map ..
    generalize cs.map (cmE 1) = B at *
    generalize found.map (cmE 2) = A at *
    have t1 : (A.take at'.toNat).length + 1 ≤ 100000 := by rw [List.length_take]; omega
    have t2 : (A.take at'.toNat).length + 1 + (A.drop at'.toNat).length ≤ 100000 := by rw [List.length_take, List.length_drop]; omega
    have c1 := cut_lo (ds := A) a2 (by omega)
    have c2 := cut_hi (ds := A) a2 (by omega)
    have t3 : (A.take at'.toNat ++ [PyData.tuple [.str "repeat", .int (1 + o), .tuple B]]).length + (A.drop at'.toNat).length ≤ 100000 := by rw [List.length_append, List.length_singleton]; exact t2
    rw [← hlm] at e2
    refine ev_seq (e1 := [some (.rf es2), some (.fr (.int W)), some (.fr (.int size)), some (.fr (.int tm)), some (.fr (.tuple A)), t, some (.fr (.tuple B)), some (.fr (.int at')), i8']) (by simp [sSet, fCR, rdO, wrO, fCons, fNil, fBin, fLenN, rdB, lenD, addD, fC, e2]) ?_
    refine ev_setE (e1 := [some (.rf es3), some (.fr (.int W)), some (.fr (.int size)), some (.fr (.int tm)), some (.fr (.tuple A)), t, some (.fr (.tuple B)), some (.fr (.int at')), i8']) (ev_bin (e1 := [some (.rf es3), some (.fr (.int W)), some (.fr (.int size)), some (.fr (.int tm)), some (.fr (.tuple A)), t, some (.fr (.tuple B)), some (.fr (.int at')), i8']) (a := .tuple (A.take at'.toNat ++ [.tuple [.str "repeat", .int (1 + o), .tuple B]])) (b := .tuple (A.drop at'.toNat)) ?_ ?_ (add_tup t3)) rfl
    · refine ev_bin (a := .tuple (A.take at'.toNat)) (b := .tuple [.tuple [.str "repeat", .int (1 + o), .tuple B]]) (e1 := [some (.rf es2), some (.fr (.int W)), some (.fr (.int size)), some (.fr (.int tm)), some (.fr (.tuple A)), t, some (.fr (.tuple B)), some (.fr (.int at')), i8']) ?_ ?_ (add_tup t1)
      · simp [fSl, rdF, oNone, oSome, slD, c1]
      · simp [fTup, fCons, fC, fBin, addD, fCR, rdO, wrO, rdF, fNil, e3, lim]
    · simp [fSl, rdF, oNone, oSome, slD, c2]
  · rcases List.mem_append.mp h with h | h
    · rcases List.mem_append.mp h with h | h
      · exact hf c (List.mem_of_mem_take h)
      · rw [List.mem_singleton.mp h]
        exact hdr
    · exact hf c (List.mem_of_mem_drop h)
  · rw [List.length_append, List.length_append, List.length_singleton, List.length_take, List.length_drop]
    omega
  · rw [sum_ins, z1]
    omega
  · rw [sum_ins, z2]
    omega
theorem prog_loop {W size tm : Int} (hw : 0 < W ∧ W ≤ 4) (hs : 2 ≤ size ∧ size ≤ 29) (ht : 1 ≤ tm ∧ tm ≤ 1000000000000000000000000000000) : ∀ (xs : List PyData) (es : List PyData) (found : List (Cm 2)) (t i6 i7 i8 : Option DV), PoolOk es → (∀ c ∈ found, DrC W tm 2 c) → found.length + xs.length ≤ 50000 →
    ∃ (es' : List PyData) (found' : List (Cm 2)) (t' a b c : Option DV), forD (gSet 5) pgBody xs [some (.rf es), some (.fr (.int W)), some (.fr (.int size)), some (.fr (.int tm)), some (.fr (.tuple (found.map (cmE 2)))), t, i6, i7, i8] = some (.nx [some (.rf es'), some (.fr (.int W)), some (.fr (.int size)), some (.fr (.int tm)), some (.fr (.tuple (found'.map (cmE 2)))), t', a, b, c]) ∧ PoolOk es' ∧ (∀ c ∈ found', DrC W tm 2 c) ∧ found'.length = found.length + xs.length ∧ (found'.map (szC 2)).sum ≤ (found.map (szC 2)).sum + 9 * xs.length ∧ (found'.map (fm 2)).sum ≤ (found.map (fm 2)).sum + 95 * xs.length
  | [], es, found, t, i6, i7, i8, hp, hf, _ => ⟨es, found, t, i6, i7, i8, by rw [forD], hp, hf, rfl, Nat.le_refl _, Nat.le_refl _⟩
  | x :: xs, es, found, t, i6, i7, i8, hp, hf, hl => by
    rw [List.length_cons] at hl
    obtain ⟨es1, f1, a, b, c, e1, p1, g1, g2, g3, g4⟩ := prog_turn (t := some (.fr x)) (i6 := i6) (i7 := i7) (i8 := i8) hp hw hs ht hf (by omega)
    obtain ⟨es', f', t', a', b', c', e2, p2, k1, k2, k3, k4⟩ := prog_loop hw hs ht xs es1 f1 (some (.fr x)) a b c p1 g1 (by omega)
    exact ⟨es', f', t', a', b', c', ev_forN rfl e1 e2, p2, k1, by rw [List.length_cons]; omega, by rw [List.length_cons]; omega, by rw [List.length_cons]; omega⟩
theorem prog_spec {es : List PyData} (hp : PoolOk es) {W size tm : Int} (hw : 0 < W ∧ W ≤ 4) (hs : 2 ≤ size ∧ size ≤ 29) (ht : 1 ≤ tm ∧ tm ≤ 1000000000000000000000000000000) :
    ∃ (cs : List (Cm 2)) (es' : List PyData), m__law_program es [.int W, .int size, .int tm] = some (cpE cs, es') ∧ PoolOk es' ∧ (∀ c ∈ cs, DrC W tm 2 c) ∧ cs.length ≤ 8 ∧ (cs.map (szC 2)).sum ≤ 24 ∧ (cs.map (fm 2)).sum ≤ 196 := by
  obtain ⟨ps, es1, e1, p1, hc, hl⟩ := stq_spec hp (most := 6) (by omega) hw hs
  obtain ⟨d, es2, e2, p2, a2, b2⟩ := draw_spec p1 (m := 3) (by omega) (by omega)
  have hlI : (inlE (n := 1) ps).length = ps.length := List.length_map ..
  obtain ⟨es3, cs, t, a, b, c, e3, p3, h1, h2, h3, h4⟩ := prog_loop hw hs ht (rangeD 0 d.toNat) es2 (inlE (n := 1) ps) none none none none p2 (drc_inl hc) (by rw [rangeD_len]; omega)
  rw [rangeD_len] at h2 h3 h4
  rw [szI] at h3
  rw [fmI] at h4
  rw [inlE_e] at e3
  have hd : d ≤ 1000000 ∧ -1000000 ≤ d := by omega
  refine ⟨cs, es3, ?_, p3, h1, by omega, by omega, by omega⟩
  unfold cpE
  generalize cs.map (cmE 2) = C at e3 ⊢
  generalize ps.map plE = A at e1 e3
  refine ev_runR rfl (env := [some (.fr (.int W)), some (.fr (.int size)), some (.fr (.int tm)), some (.fr (.tuple C)), t, a, b, c]) ?_
  refine ev_seq (e1 := [some (.rf es1), some (.fr (.int W)), some (.fr (.int size)), some (.fr (.int tm)), some (.fr (.tuple A)), none, none, none, none]) ?_ ?_
  · simp [sSet, fCR, rdO, wrO, fCons, fNil, fC, rdF, startE, e1]
  · refine ev_seq (ev_for (e1 := [some (.rf es2), some (.fr (.int W)), some (.fr (.int size)), some (.fr (.int tm)), some (.fr (.tuple A)), none, none, none, none]) ?_ e3) rfl
    simp [iArg, fCons, fCR, rdO, wrO, fC, fNil, e2, rng1, hd]
end DL
end L2


set_option Elab.async false
set_option maxRecDepth 100000
set_option maxHeartbeats 4000000
set_option autoImplicit false
namespace L2
namespace DL
open PySem PySem.Spec PyProof.Rows
local instance labNone_K22E : Lab := { w := none, T := [], gd := True }
/-! ### plain commands in words -/
def numT (i : Int) : Str := Str.ofString (toString i)
def tokP : Pl → Str
  | .sort d c => dS d ++ ":" ++ numT c
  | .rev => "reverse"
  | .res => "restore"
  | .cut f k => cS f ++ ":" ++ numT k
theorem all_pl {P : Pl → Prop} (h1 : P .rev) (h2 : P .res) (h3 : ∀ d, P (.sort d 0) ∧ P (.sort d 1) ∧ P (.sort d 2) ∧ P (.sort d 3))
    (h4 : ∀ f, P (.cut f 2) ∧ P (.cut f 3) ∧ P (.cut f 4) ∧ P (.cut f 5) ∧ P (.cut f 6) ∧ P (.cut f 7) ∧ P (.cut f 8) ∧ P (.cut f 9) ∧ P (.cut f 10) ∧ P (.cut f 11) ∧ P (.cut f 12) ∧ P (.cut f 13) ∧ P (.cut f 14) ∧ P (.cut f 15) ∧ P (.cut f 16) ∧ P (.cut f 17) ∧ P (.cut f 18) ∧ P (.cut f 19) ∧ P (.cut f 20) ∧ P (.cut f 21) ∧ P (.cut f 22) ∧ P (.cut f 23) ∧ P (.cut f 24) ∧ P (.cut f 25) ∧ P (.cut f 26) ∧ P (.cut f 27) ∧ P (.cut f 28) ∧ P (.cut f 29)) {p : Pl} (hp : PlOk p) : P p := by
  match p, hp with
  | .rev, _ => exact h1
  | .res, _ => exact h2
  | .sort d c, hp =>
    obtain ⟨a, b⟩ := hp
    obtain ⟨q0, q1, q2, q3⟩ := h3 d
    have : c = 0 ∨ c = 1 ∨ c = 2 ∨ c = 3 := by omega
    rcases this with rfl | rfl | rfl | rfl <;> assumption
  | .cut f k, hp =>
    obtain ⟨a, b⟩ := hp
    have q := h4 f
    have : k = 2 ∨ k = 3 ∨ k = 4 ∨ k = 5 ∨ k = 6 ∨ k = 7 ∨ k = 8 ∨ k = 9 ∨ k = 10 ∨ k = 11 ∨ k = 12 ∨ k = 13 ∨ k = 14 ∨ k = 15 ∨ k = 16 ∨ k = 17 ∨ k = 18 ∨ k = 19 ∨ k = 20 ∨ k = 21 ∨ k = 22 ∨ k = 23 ∨ k = 24 ∨ k = 25 ∨ k = 26 ∨ k = 27 ∨ k = 28 ∨ k = 29 := by omega
    rcases this with rfl | rfl | rfl | rfl | rfl | rfl | rfl | rfl | rfl | rfl | rfl | rfl | rfl | rfl | rfl | rfl | rfl | rfl | rfl | rfl | rfl | rfl | rfl | rfl | rfl | rfl | rfl | rfl <;> simp only [q]
theorem wc_pl {p : Pl} (hp : PlOk p) (f : Nat) : rc_written_command (f + 1) 0 [plE p] = some (.str (tokP p)) :=
  all_pl (P := fun p => rc_written_command (f + 1) 0 [plE p] = some (.str (tokP p))) (by kernel_rfl) (by kernel_rfl) (fun d => by cases d <;> (and_intros <;> kernel_rfl)) (fun g => by cases g <;> (and_intros <;> kernel_rfl)) hp
theorem rd_pl {p : Pl} (hp : PlOk p) : m_read_command [.str (tokP p)] = some (plE p) :=
  all_pl (P := fun p => m_read_command [.str (tokP p)] = some (plE p)) (by kernel_rfl) (by kernel_rfl) (fun d => by cases d <;> (and_intros <;> kernel_rfl)) (fun g => by cases g <;> (and_intros <;> kernel_rfl)) hp
/-- a word: not empty, no space in it, plain signs, short -/
def wordB (w : Str) : Bool := !w.cps.isEmpty && !w.cps.toList.contains 32 && w.cps.toList.all (· < 128) && decide (w.length ≤ 40)
theorem tk_pl {p : Pl} (hp : PlOk p) : (wordB (tokP p) && !decide (tokP p = "(") && !Txt.startswith (tokP p) ")x") = true :=
  all_pl (P := fun p => (wordB (tokP p) && !decide (tokP p = "(") && !Txt.startswith (tokP p) ")x") = true) (by kernel_rfl) (by kernel_rfl) (fun d => by cases d <;> (and_intros <;> kernel_rfl)) (fun g => by cases g <;> (and_intros <;> kernel_rfl)) hp
end DL
end L2


set_option Elab.async false
set_option maxRecDepth 100000
set_option maxHeartbeats 4000000
set_option autoImplicit false
namespace L2
namespace DL
open PySem PySem.Spec PyProof.Rows
local instance labNone_K22G : Lab := { w := none, T := [], gd := True }
/-! ### numbers in words -/
theorem nm_tl (n : Nat) : TL.tl (numT (n : Int)) = TL.numL n := TL.tl_num n
theorem num_len {n : Nat} (h : n ≤ 1000000000000000000000000000000) : (numT (n : Int)).length ≤ 31 := by
  rw [TL.len_tl, nm_tl]
  exact TL.numL_len (k := 31) (by decide) (by omega)
theorem num_head : ∀ {n : Nat}, 1 ≤ n → ∀ c r, TL.numL n = c :: r → c ≠ 48 := by
  intro n
  induction n using Nat.strongRecOn with
  | _ n ih =>
    intro h c r e
    by_cases h10 : n < 10
    · rw [TL.numL_lt h10] at e
      cases e
      omega
    · rw [TL.numL_step (by omega)] at e
      cases hq : TL.numL (n / 10) with
      | nil => exact absurd hq (TL.numL_ne _)
      | cons c' r' =>
        rw [hq] at e
        cases e
        exact ih (n / 10) (by omega) (by omega) _ _ hq
theorem dig_all : ∀ c : Nat, c < 58 → 48 ≤ c → Unicode.isDigit c = true := by decide +kernel
theorem all_tl (w : Str) (f : Nat → Bool) : w.cps.all f = (TL.tl w).all f := by
  unfold TL.tl
  rw [← Array.all_toList]
theorem ascii_of {w : Str} (h : ∀ c ∈ TL.tl w, c < 128) : Txt.isascii w = true := by
  unfold Txt.isascii
  rw [all_tl, List.all_eq_true]
  exact fun c hc => decide_eq_true (h c hc)
theorem digit_of {w : Str} (hne : TL.tl w ≠ []) (h : ∀ c ∈ TL.tl w, 48 ≤ c ∧ c ≤ 57) : Txt.isdigit w = true := by
  unfold Txt.isdigit
  rw [Bool.and_eq_true, all_tl, List.all_eq_true]
  refine ⟨decide_eq_true ?_, fun c hc => dig_all c (by have := h c hc; omega) (h c hc).1⟩
  rw [TL.len_tl]
  cases e : TL.tl w with
  | nil => exact absurd e hne
  | cons _ _ => simp
theorem num_dig (n : Nat) : ∀ c ∈ TL.tl (numT (n : Int)), 48 ≤ c ∧ c ≤ 57 := fun c hc => by
  rw [nm_tl] at hc
  have := TL.numL_digits n c hc
  omega
theorem rn_num {n : Nat} (h0 : 1 ≤ n) (h1 : n ≤ 1000000000000000000000000000000) : m_read_number [.str (numT (n : Int))] = some (.int n) := by
  let w : Str := numT (n : Int)
  let E : DEnv := [some (.fr (.str w))]
  have hl : w.length ≤ 31 := num_len h1
  have hd := num_dig n
  have hne : TL.tl w ≠ [] := by show TL.tl (numT (n : Int)) ≠ []; rw [nm_tl]; exact TL.numL_ne n
  have t1 : fTst (fTM0 ascG (rdF 0)) E = some (true, E) := ev_tst (d := .bool (Txt.isascii w)) rfl (by rw [ascii_of fun c hc => by have := hd c hc; omega]; rfl)
  have t2 : fTst (fTM0 digG (rdF 0)) E = some (true, E) := ev_tst (d := .bool (Txt.isdigit w)) rfl (by rw [digit_of hne hd]; rfl)
  have tl : fLenN 0 E = some (.int (w.length : Nat), E) := ev_lenN (d := .str w) rfl (if_pos (Nat.le_trans hl (by decide)))
  have t3 : fAnd (fTst (fBin gtD (fLenN 0) (fC (.int 1)))) (fTst (fBin eqD (fBin ixT (rdF 0) (fC (.int 0))) (fC (.str "0")))) E = some (false, E) := by
    by_cases h : (1 : Int) < (w.length : Nat)
    · refine ev_and1 (ev_tst (d := .bool true) (ev_bin tl rfl (by show some (PyData.bool (decide ((1 : Int) < (w.length : Nat)))) = _; rw [decide_eq_true h])) rfl) ?_
      cases e : TL.tl w with
      | nil => exact absurd e hne
      | cons c r =>
        have hc : c ≠ 48 := num_head h0 c r (by rw [← nm_tl]; exact e)
        refine ev_tst (d := .bool false) (ev_bin (a := .str ⟨#[c]⟩) (ev_bin (a := .str w) (b := .int 0) rfl rfl ?_) rfl ?_) rfl
        · show (if w.length ≤ lim then (atI w.cps.toList 0).map fun c => PyData.str ⟨#[c]⟩ else none) = _
          rw [if_pos (Nat.le_trans hl (by decide))]
          have e' : w.cps.toList = c :: r := e
          rw [e']
          unfold atI
          have : ixN (c :: r).length 0 = some 0 := by
            unfold ixN
            rw [if_pos (by decide), if_pos (by rw [List.length_cons]; omega)]
            rfl
          rw [this]
          rfl
        · show some (PyData.bool (decide ((⟨#[c]⟩ : Str) = "0"))) = _
          rw [decide_eq_false]
          intro z
          have := congrArg TL.tl z
          exact hc (List.cons.inj this).1
    · exact ev_and0 (ev_tst (d := .bool false) (ev_bin tl rfl (by show some (PyData.bool (decide ((1 : Int) < (w.length : Nat)))) = _; rw [decide_eq_false h])) rfl)
  have t4 : fTst (fBin gtD (fLenN 0) (fCB lenD (fCons (fCB strC (fCons (fC cv_MOST_TIMES) fNil)) fNil))) E = some (false, E) := by
    refine ev_tst (d := .bool false) (ev_bin (b := .int 31) tl (by kernel_rfl) ?_) rfl
    show some (PyData.bool (decide ((31 : Int) < (w.length : Nat)))) = _
    rw [decide_eq_false (by omega)]
  have t5 : fCB intC (fCons (rdF 0) fNil) E = some (.int n, E) := by
    refine ev_cb (ev_cons rfl ev_nil) ?_
    show (if w.length ≤ 640 then (PySem.intText? w).map PyData.int else none) = _
    rw [if_pos (by omega), show PySem.intText? w = some (n : Int) from TL.int_num (by rw [← nm_tl, ← TL.len_tl]; show w.length ≤ 4300; omega)]
    rfl
  exact ev_runF rfl (ev_seq (ev_ifF (ev_or0 (ev_not t1) (ev_not t2)) rfl) (ev_seq (ev_ifF t3 rfl) (ev_seq (ev_ifF t4 rfl) (ev_ret t5))))
/-! ### the word that ends a repeat -/
def tokR (t : Int) : Str := ")x" ++ numT t
theorem tokR_tl (n : Nat) : TL.tl (tokR n) = 41 :: 120 :: TL.numL n := by
  show TL.tl (")x" ++ numT (n : Int)) = _
  rw [TL.tl_append, nm_tl]
  rfl
theorem tokR_len {n : Nat} (h : n ≤ 1000000000000000000000000000000) : (tokR n).length ≤ 33 := by
  have h1 := num_len h
  rw [TL.len_tl, nm_tl] at h1
  rw [TL.len_tl, tokR_tl, List.length_cons, List.length_cons]
  omega
theorem tokR_word {n : Nat} (h : n ≤ 1000000000000000000000000000000) : wordB (tokR n) = true := by
  have h1 := tokR_tl n
  have hd := TL.numL_digits n
  unfold wordB
  rw [Bool.and_eq_true, Bool.and_eq_true, Bool.and_eq_true]
  have e : (tokR (n : Int)).cps.toList = 41 :: 120 :: TL.numL n := h1
  refine ⟨⟨⟨?_, ?_⟩, ?_⟩, decide_eq_true (Nat.le_trans (tokR_len h) (by decide))⟩
  · rw [Bool.not_eq_true']
    cases hh : (tokR (n : Int)).cps.isEmpty with
    | false => rfl
    | true =>
      rw [Array.isEmpty_iff.mp hh] at e
      cases e
  · rw [e, Bool.not_eq_true']
    cases hh : (41 :: 120 :: TL.numL n).contains 32 with
    | false => rfl
    | true =>
      rw [List.contains_iff_mem] at hh
      rcases List.mem_cons.mp hh with z | hh
      · cases z
      · rcases List.mem_cons.mp hh with z | hh
        · cases z
        · have := hd 32 hh; omega
  · rw [e, List.all_eq_true]
    intro c hc
    rcases List.mem_cons.mp hc with rfl | hc
    · rfl
    · rcases List.mem_cons.mp hc with rfl | hc
      · rfl
      · have := hd c hc
        exact decide_eq_true (by omega)
theorem tokR_ne (n : Nat) : tokR n ≠ "(" := fun z => by
  have := congrArg TL.tl z
  rw [tokR_tl] at this
  have := (List.cons.inj this).1
  cases this
theorem tokR_st (n : Nat) : Txt.startswith (tokR n) ")x" = true := by
  show Txt.startswith (")x" ++ numT (n : Int)) ")x" = true
  rw [PySem.W.KAf.starts_left (Nat.le_refl _)]
  kernel_rfl
theorem tokR_cut (n : Nat) : cutS (tokR n) (some 2) none = numT n := by
  apply TL.ext_tl
  have e := tokR_tl n
  have hl : (tokR (n : Int)).length = (TL.numL n).length + 2 := by rw [TL.len_tl, e]; rfl
  show ((TL.tl (tokR (n : Int))).drop (HT.sIx (tokR (n : Int)).length 0 (some 2))).take (HT.sIx (tokR (n : Int)).length (tokR (n : Int)).length none - HT.sIx (tokR (n : Int)).length 0 (some 2)) = _
  rw [six_none, six_some (by decide) (by omega), e, hl, nm_tl]
  show (TL.numL n).take ((TL.numL n).length + 2 - 2) = _
  rw [Nat.add_sub_cancel, List.take_length]
end DL
end L2


set_option Elab.async false
set_option maxRecDepth 100000
set_option maxHeartbeats 4000000
set_option autoImplicit false
namespace L2
namespace DL
open PySem PySem.Spec PyProof.Rows
local instance labNone_K22H : Lab := { w := none, T := [], gd := True }
/-! ### programs in words -/
def toks : (n : Nat) → Cm n → List Str
  | 0, p => [tokP p]
  | _ + 1, .inl p => [tokP p]
  | n + 1, .inr (t, ps) => "(" :: (ps.flatMap (toks n) ++ [tokR t])
abbrev spS : Str := " "
def jn (ts : List Str) : Str := Txt.join spS ts
theorem tl_jn (ts : List Str) : TL.tl (jn ts) = TL.joinL [32] (ts.map TL.tl) := by
  unfold jn
  rw [TL.join_eq, TL.tl_join]
  rfl
theorem joinL_app (S : List Nat) : ∀ a b : List (List Nat), a ≠ [] → b ≠ [] → TL.joinL S (a ++ b) = TL.joinL S a ++ (S ++ TL.joinL S b)
  | [], _, h, _ => absurd rfl h
  | [p], b, _, hb => by
    cases b with
    | nil => exact absurd rfl hb
    | cons q r => rfl
  | p :: q :: r, b, _, hb => by
    show p ++ (S ++ TL.joinL S ((q :: r) ++ b)) = (p ++ (S ++ TL.joinL S (q :: r))) ++ (S ++ TL.joinL S b)
    rw [joinL_app S (q :: r) b (by simp) hb]
    simp only [List.append_assoc]
/-- joined pieces that are joined themselves -/
theorem joinL_flat (S : List Nat) : ∀ tss : List (List (List Nat)), (∀ ts ∈ tss, ts ≠ []) → TL.joinL S (tss.map (TL.joinL S)) = TL.joinL S tss.flatten
  | [], _ => rfl
  | [ts], _ => by
    show TL.joinL S ts = TL.joinL S (ts ++ [])
    rw [List.append_nil]
  | ts :: us :: r, h => by
    have ih := joinL_flat S (us :: r) fun x hx => h x (List.mem_cons_of_mem _ hx)
    have hu : us ≠ [] := h us (List.mem_cons_of_mem _ List.mem_cons_self)
    show TL.joinL S ts ++ (S ++ TL.joinL S ((us :: r).map (TL.joinL S))) = TL.joinL S (ts ++ (us :: r).flatten)
    rw [ih, joinL_app S ts _ (h ts List.mem_cons_self) (by
      rw [List.flatten_cons]
      intro z
      exact hu (List.append_eq_nil_iff.mp z).1)]
theorem jn_flat (tss : List (List Str)) (h : ∀ ts ∈ tss, ts ≠ []) : jn (tss.map jn) = jn tss.flatten := by
  apply TL.ext_tl
  rw [tl_jn, tl_jn, List.map_map, List.map_flatten, ← joinL_flat [32] (tss.map (List.map TL.tl)) fun ts hts => by
    obtain ⟨us, hus, rfl⟩ := List.mem_map.mp hts
    intro z
    exact h us hus (List.map_eq_nil_iff.mp z), List.map_map]
  congr 1
  exact List.map_congr_left fun ts _ => tl_jn ts
theorem jn_one (t : Str) : jn [t] = t := by
  apply TL.ext_tl
  rw [tl_jn]
  rfl
theorem toks_ne : ∀ (n : Nat) (c : Cm n), toks n c ≠ []
  | 0, _ => List.cons_ne_nil _ _
  | _ + 1, .inl _ => List.cons_ne_nil _ _
  | _ + 1, .inr _ => List.cons_ne_nil _ _
abbrev MX : Int := 1000000000000000000000000000000
theorem rep_nat {t : Int} (h0 : 1 ≤ t) (h1 : t ≤ MX) : ∃ n : Nat, t = n ∧ 1 ≤ n ∧ n ≤ 1000000000000000000000000000000 := by
  have h1 : t ≤ 1000000000000000000000000000000 := h1
  exact ⟨t.toNat, by omega, by omega, by omega⟩
/-- each word is a word; how many there are -/
theorem toks_ok {tm : Int} (ht : tm ≤ MX) : ∀ (n : Nat) (c : Cm n), CmOk tm n c → (∀ w ∈ toks n c, wordB w = true) ∧ (toks n c).length ≤ 2 * szC n c
  | 0, p, h => by
    have := tk_pl (p := p) h
    rw [Bool.and_eq_true, Bool.and_eq_true] at this
    exact ⟨fun w hw => by rw [List.mem_singleton.mp hw]; exact this.1.1, by show 1 ≤ 2; decide⟩
  | _ + 1, .inl p, h => by
    have := tk_pl (p := p) h
    rw [Bool.and_eq_true, Bool.and_eq_true] at this
    exact ⟨fun w hw => by rw [List.mem_singleton.mp hw]; exact this.1.1, by show 1 ≤ 2; decide⟩
  | n + 1, .inr (t, ps), h => by
    obtain ⟨h0, h1, h2⟩ := h
    obtain ⟨k, rfl, k0, k1⟩ := rep_nat h0 (Int.le_trans h1 ht)
    have key : (∀ w ∈ ps.flatMap (toks n), wordB w = true) ∧ (ps.flatMap (toks n)).length ≤ 2 * (ps.map (szC n)).sum := by
      clear h1
      induction ps with
      | nil => exact ⟨fun w hw => (by cases hw), Nat.le_refl _⟩
      | cons c cs ih =>
        obtain ⟨a1, a2⟩ := toks_ok ht n c (h2 c List.mem_cons_self)
        obtain ⟨b1, b2⟩ := ih fun x hx => h2 x (List.mem_cons_of_mem _ hx)
        rw [List.flatMap_cons, List.map_cons, List.sum_cons]
        refine ⟨fun w hw => ?_, by rw [List.length_append]; omega⟩
        rcases List.mem_append.mp hw with z | z
        · exact a1 w z
        · exact b1 w z
    refine ⟨fun w hw => ?_, ?_⟩
    · rcases List.mem_cons.mp hw with rfl | hw
      · kernel_rfl
      · rcases List.mem_append.mp hw with z | z
        · exact key.1 w z
        · rw [List.mem_singleton.mp z]; exact tokR_word k1
    · show ((("(" : Str) :: (ps.flatMap (toks n) ++ [tokR (k : Int)]))).length ≤ 2 * (1 + (ps.map (szC n)).sum)
      rw [List.length_cons, List.length_append, List.length_singleton]
      have := key.2
      omega
theorem tokss_ok {tm : Int} (ht : tm ≤ MX) {n : Nat} : ∀ {cs : List (Cm n)}, (∀ c ∈ cs, CmOk tm n c) → (∀ w ∈ cs.flatMap (toks n), wordB w = true) ∧ (cs.flatMap (toks n)).length ≤ 2 * (cs.map (szC n)).sum
  | [], _ => ⟨fun w hw => (by cases hw), Nat.le_refl _⟩
  | c :: cs, h => by
    obtain ⟨a1, a2⟩ := toks_ok ht n c (h c List.mem_cons_self)
    obtain ⟨b1, b2⟩ := tokss_ok ht (cs := cs) fun x hx => h x (List.mem_cons_of_mem _ hx)
    rw [List.flatMap_cons, List.map_cons, List.sum_cons]
    refine ⟨fun w hw => ?_, by rw [List.length_append]; omega⟩
    rcases List.mem_append.mp hw with z | z
    · exact a1 w z
    · exact b1 w z
theorem word_len {w : Str} (h : wordB w = true) : w.length ≤ 40 := by
  unfold wordB at h
  rw [Bool.and_eq_true] at h
  exact of_decide_eq_true h.2
theorem word_sp {w : Str} (h : wordB w = true) : 32 ∉ TL.tl w := by
  unfold wordB at h
  rw [Bool.and_eq_true, Bool.and_eq_true, Bool.and_eq_true, Bool.not_eq_true', Bool.not_eq_true'] at h
  intro z
  have := List.contains_iff_mem.mpr z
  rw [h.1.1.2] at this
  cases this
theorem word_ne {w : Str} (h : wordB w = true) : TL.tl w ≠ [] := by
  unfold wordB at h
  rw [Bool.and_eq_true, Bool.and_eq_true, Bool.and_eq_true, Bool.not_eq_true'] at h
  intro z
  have z' : w.cps.toList = [] := z
  have := Array.toList_eq_nil_iff.mp z'
  rw [this] at h
  cases h.1.1.1
/-- how long joined words are -/
theorem jn_len : ∀ (ts : List Str), (jn ts).length ≤ (ts.map (·.length)).sum + ts.length
  | [] => Nat.zero_le _
  | [t] => by rw [jn_one]; simp
  | t :: u :: r => by
    have ih := jn_len (u :: r)
    have e : TL.tl (jn (t :: u :: r)) = TL.tl t ++ ([32] ++ TL.tl (jn (u :: r))) := by rw [tl_jn, tl_jn]; rfl
    rw [TL.len_tl, e, List.length_append, List.length_append, ← TL.len_tl, ← TL.len_tl]
    simp only [List.map_cons, List.sum_cons, List.length_cons, List.length_nil] at ih ⊢
    omega
theorem words_sum : ∀ {ts : List Str}, (∀ w ∈ ts, wordB w = true) → (ts.map (·.length)).sum ≤ 40 * ts.length
  | [], _ => Nat.le_refl _
  | t :: ts, h => by
    have h1 := word_len (h t List.mem_cons_self)
    have h2 := words_sum (ts := ts) fun x hx => h x (List.mem_cons_of_mem _ hx)
    rw [List.map_cons, List.sum_cons, List.length_cons]
    omega
theorem jn_le {ts : List Str} (h : ∀ w ∈ ts, wordB w = true) : (jn ts).length ≤ 41 * ts.length := by
  have h1 := jn_len ts
  have h2 := words_sum h
  omega
end DL
end L2


set_option Elab.async false
set_option maxRecDepth 100000
set_option maxHeartbeats 4000000
set_option autoImplicit false
namespace L2
namespace DL
open PySem PySem.Spec PyProof.Rows
local instance labNone_K22I : Lab := { w := none, T := [], gd := True }
/-! ### written_command -/
theorem ev_tm1 {g : Str → PyData → Option PyData} {f fe : DEnv → Option (PyData × DEnv)} {env e1 e2 : DEnv} {a : Str} {b d : PyData} (h : f env = some (.str a, e1)) (h2 : fe e1 = some (b, e2)) (h3 : g a b = some d) : fTM1 g f fe env = some (d, e2) := by
  unfold fTM1; rw [h]; show (fe e1).bind _ = _; rw [h2]; show (g a b).map _ = _; rw [h3]; rfl
theorem ev_fmtI {f : DEnv → Option (PyData × DEnv)} {env e1 : DEnv} {i : Int} (h : f env = some (.int i, e1)) (h2 : i.natAbs.log2 < 1920) : fFmt f env = some (.str (numT i), e1) := by
  unfold fFmt; rw [h]; show (fmtD (.int i)).map _ = _
  have : fmtD (.int i) = some (numT i) := if_pos h2
  rw [this]; rfl
theorem ev_jc {f : DEnv → Option (PyData × DEnv)} {g : DEnv → Option (List Str × DEnv)} {env e1 e2 : DEnv} {y : Str} {ys : List Str} (h : f env = some (.str y, e1)) (h2 : g e1 = some (ys, e2)) : fJCons f g env = some (y :: ys, e2) := by
  unfold fJCons; rw [h]; show (g e1).map _ = _; rw [h2]; rfl
theorem ev_jnd {g : DEnv → Option (List Str × DEnv)} {env e1 : DEnv} {ys : List Str} {s : Str} (h : g env = some (ys, e1)) (h2 : (ys.map (·.length)).sum ≤ lim) (h3 : ys.foldl (· ++ ·) Str.empty = s) : fJoined g env = some (.str s, e1) := by
  unfold fJoined; rw [h]; show (if (ys.map (·.length)).sum ≤ lim then _ else _) = _; rw [if_pos h2, h3]
theorem log_ok {n : Nat} (h : n ≤ 1000000000000000000000000000000) : ((n : Int)).natAbs.log2 < 1920 := by
  rw [Int.natAbs_natCast]
  by_cases h0 : n = 0
  · subst h0; decide
  · rw [Nat.log2_lt h0]
    exact Nat.lt_of_le_of_lt h (by decide +kernel)
theorem joinG_l {ys : List Str} (h : (ys.map (·.length)).sum + ys.length ≤ 100000) : joinG spS (.list (ys.map .str)) = some (.str (jn ys)) := by
  show (strsOf (ys.map PyData.str)).bind _ = _
  rw [strsOf_map]
  show (if (ys.map (·.length)).sum + ys.length * spS.length ≤ lim then some (PyData.str (Txt.join spS ys)) else none) = _
  have : spS.length = 1 := by decide +kernel
  rw [this, Nat.mul_one, if_pos h]
  rfl
theorem sum_jn {tm : Int} (ht : tm ≤ MX) {n : Nat} : ∀ {ps : List (Cm n)}, (∀ c ∈ ps, CmOk tm n c) → ((ps.map fun c => jn (toks n c)).map (·.length)).sum ≤ 82 * (ps.map (szC n)).sum
  | [], _ => Nat.le_refl _
  | c :: cs, h => by
    obtain ⟨a1, a2⟩ := toks_ok ht n c (h c List.mem_cons_self)
    have h1 := jn_le a1
    have h2 := sum_jn ht (ps := cs) fun x hx => h x (List.mem_cons_of_mem _ hx)
    rw [List.map_cons, List.map_cons, List.sum_cons, List.map_cons, List.sum_cons]
    omega
theorem szC_pos : ∀ (n : Nat) (c : Cm n), 1 ≤ szC n c
  | 0, _ => Nat.le_refl _
  | _ + 1, .inl _ => Nat.le_refl _
  | _ + 1, .inr _ => Nat.le_add_right _ _
theorem len_sz {n : Nat} : ∀ ps : List (Cm n), ps.length ≤ (ps.map (szC n)).sum
  | [] => Nat.le_refl _
  | c :: cs => by
    have h1 := szC_pos n c
    have h2 := len_sz cs
    rw [List.length_cons, List.map_cons, List.sum_cons]
    omega
theorem jn_rep {n : Nat} (t : Int) (ps : List (Cm n)) : jn (("(" : Str) :: (ps.map (fun c => jn (toks n c)) ++ [tokR t])) = jn (toks (n + 1) (.inr (t, ps))) := by
  have h := jn_flat ([("(" : Str)] :: (ps.map (toks n) ++ [[tokR t]])) (by
    intro ts hts
    rcases List.mem_cons.mp hts with rfl | hts
    · exact List.cons_ne_nil _ _
    · rcases List.mem_append.mp hts with z | z
      · obtain ⟨c, _, rfl⟩ := List.mem_map.mp z
        exact toks_ne n c
      · rw [List.mem_singleton.mp z]
        exact List.cons_ne_nil _ _)
  rw [List.map_cons, List.map_append, List.map_map, jn_one, List.map_cons, jn_one, List.map_nil] at h
  show jn (("(" : Str) :: (ps.map (jn ∘ toks n) ++ [tokR t])) = _
  rw [h, List.flatten_cons, List.flatten_append, ← List.flatMap_def]
  rfl
theorem wc_cm {tm : Int} (ht : tm ≤ MX) : ∀ (n f : Nat), n + 1 ≤ f → ∀ c : Cm n, CmOk tm n c → szC n c ≤ 400 → rc_written_command f 0 [cmE n c] = some (.str (jn (toks n c)))
  | 0, f, hf, p, h, _ => by
    obtain ⟨g, rfl⟩ : ∃ g, f = g + 1 := ⟨f - 1, by omega⟩
    show rc_written_command (g + 1) 0 [plE p] = some (.str (jn [tokP p]))
    rw [jn_one]
    exact wc_pl h g
  | n + 1, f, hf, .inl p, h, _ => by
    obtain ⟨g, rfl⟩ : ∃ g, f = g + 1 := ⟨f - 1, by omega⟩
    show rc_written_command (g + 1) 0 [plE p] = some (.str (jn [tokP p]))
    rw [jn_one]
    exact wc_pl h g
  | n + 1, f, hf, .inr (t, ps), h, hs => by
    obtain ⟨g, rfl⟩ : ∃ g, f = g + 1 := ⟨f - 1, by omega⟩
    obtain ⟨h0, h1, h2⟩ := h
    obtain ⟨k, rfl, k0, k1⟩ := rep_nat h0 (Int.le_trans h1 ht)
    have hs' : 1 + (ps.map (szC n)).sum ≤ 400 := hs
    have hm : ∀ c ∈ ps, szC n c ≤ 400 := fun c hc => by
      have := mem_le_sum (List.mem_map.mpr ⟨c, hc, rfl⟩ : szC n c ∈ ps.map (szC n))
      omega
    have hl := len_sz ps
    let X : List PyData := ps.map (cmE n)
    let Y : List Str := ps.map fun c => jn (toks n c)
    let E0 : DEnv := [some (.fr (.tuple [.str "repeat", .int (k : Nat), .tuple X])), none, none]
    let E1 : DEnv := [some (.fr (.tuple [.str "repeat", .int (k : Nat), .tuple X])), some (.ow (Y.map .str)), none]
    have t1 : fTst (fBin inD (fIxN 0 (fC (.int 0))) (fC cv_BARE_WORDS)) E0 = some (false, E0) := ev_tst (d := .bool false) (ev_bin (a := .str "repeat") (ev_ixN (i := .int 0) (d0 := .tuple [.str "repeat", .int (k : Nat), .tuple X]) (d := .tuple [.str "repeat", .int (k : Nat), .tuple X]) rfl rfl rfl rfl) rfl (by kernel_rfl)) rfl
    have t2 : fTst (fBin eqD (fIxN 0 (fC (.int 0))) (fC (.str "repeat"))) E0 = some (true, E0) := ev_tst (d := .bool true) (ev_bin (a := .str "repeat") (ev_ixN (i := .int 0) (d0 := .tuple [.str "repeat", .int (k : Nat), .tuple X]) (d := .tuple [.str "repeat", .int (k : Nat), .tuple X]) rfl rfl rfl rfl) rfl (by kernel_rfl)) rfl
    have t3 : nLc (iSeq (fIxN 0 (fC (.int 2)))) (gSet 2) fYes (fCB (rc_written_command g 0) (fCons (rdF 2) fNil)) [2] E0 = some (Y.map .str, E0) := by
      refine ev_lc (ds := X) (ev_seqI (ev_ixN (i := .int 2) (d0 := .tuple [.str "repeat", .int (k : Nat), .tuple X]) (d := .tuple [.str "repeat", .int (k : Nat), .tuple X]) rfl rfl rfl rfl) rfl) (by show (ps.map (cmE n)).length ≤ 100000; rw [List.length_map]; omega) rfl ?_
      have := lc_img (i := 2) (fe := fCB (rc_written_command g 0) (fCons (rdF 2) fNil)) (e := cmE n) (q := fun c => .str (jn (toks n c))) (env := E0) rfl ps fun c hc => ev_cb (ev_cons rfl ev_nil) (wc_cm ht n g (by omega) c (h2 c hc) (hm c hc))
      refine this.trans ?_
      show some (ps.map _, E0) = some ((ps.map _).map _, E0)
      rw [List.map_map]
      rfl
    let E2 : DEnv := [some (.fr (.tuple [.str "repeat", .int (k : Nat), .tuple X])), some (.fr (.list (Y.map .str))), none]
    have t4 : fJoined (fJCons (fC (.str ")x")) (fJCons (fFmt (fIxN 0 (fC (.int 1)))) fJNil)) E2 = some (.str (tokR k), E2) := by
      refine ev_jnd (ys := [")x", numT k]) (ev_jc rfl (ev_jc (ev_fmtI (i := (k : Nat)) (ev_ixN (i := .int 1) (d0 := .tuple [.str "repeat", .int (k : Nat), .tuple X]) (d := .tuple [.str "repeat", .int (k : Nat), .tuple X]) rfl rfl rfl rfl) (log_ok k1)) rfl)) ?_ ?_
      · have := num_len k1
        show (")x" : Str).length + ((numT k).length + 0) ≤ 100000
        have h2 : (")x" : Str).length = 2 := by decide +kernel
        omega
      · apply TL.ext_tl
        show TL.tl ((Str.empty ++ ")x") ++ numT k) = TL.tl (")x" ++ numT k)
        rw [TL.tl_append, TL.tl_append, TL.tl_append]
        rfl
    have hY := sum_jn ht h2
    have hYl : Y.length = ps.length := List.length_map ..
    refine ev_runF rfl (ev_seq (ev_ifF t1 rfl) (ev_seqR (ev_ifT t2 (ev_seq (e1 := E1) (ev_setN t3 rfl) (ev_ret (ev_tm1 (a := spS) rfl (ev_frz (ev_nAdd (a := (("(" : Str) :: Y).map .str) (b := [.str (tokR k)]) (ev_frz (ev_nAdd (a := [.str "("]) (b := Y.map .str) (ev_frz (ev_lst (ev_cons rfl ev_nil) (by show 1 ≤ 100000; decide))) rfl ?_)) (ev_frz (ev_lst (ev_cons t4 ev_nil) (by show 1 ≤ 100000; decide))) ?_)) ?_))))))
    · show 1 + (Y.map _).length ≤ 100000
      rw [List.length_map, hYl]; omega
    · show ((("(" : Str) :: Y).map PyData.str).length + 1 ≤ 100000
      rw [List.length_map, List.length_cons, hYl]; omega
    · have e : (("(" : Str) :: Y).map PyData.str ++ [.str (tokR k)] = ((("(" : Str) :: (Y ++ [tokR (k : Int)]))).map PyData.str := by
        rw [List.map_cons, List.map_cons, List.map_append]; rfl
      rw [e, joinG_l, jn_rep]
      have h3 := tokR_len k1
      have h4 : ("(" : Str).length = 1 := by decide +kernel
      rw [List.map_cons, List.sum_cons, List.map_append, List.sum_append, List.length_cons, List.length_append, hYl]
      show _ + (_ + ((tokR (k : Int)).length + 0)) + (ps.length + 1 + 1) ≤ _
      have h5 : (Y.map (·.length)).sum ≤ 82 * (ps.map (szC n)).sum := hY
      omega
end DL
end L2


set_option Elab.async false
set_option maxRecDepth 100000
set_option maxHeartbeats 4000000
set_option autoImplicit false
namespace L2
namespace DL
open PySem PySem.Spec PyProof.Rows
local instance labNone_K22J : Lab := { w := none, T := [], gd := True }
theorem ly_dS (b : Bool) : Ly 0 (.str (dS b)) := by cases b <;> exact ⟨by kernel_rfl, rfl, Nat.le_refl _⟩
theorem mem2 {P : PyData → Prop} {a b : PyData} (ha : P a) (hb : P b) : ∀ d ∈ [a, b], P d := fun d hd => by
  rcases List.mem_cons.mp hd with rfl | hd
  · exact ha
  · rw [List.mem_singleton.mp hd]; exact hb
/-! ### commands may be compared -/
theorem ly_w {s : Str} (h : (PyData.str s).canLay0 = true) : Ly 0 (.str s) := ⟨h, rfl, Nat.le_refl _⟩
theorem mem1 {k : Nat} {a : PyData} (h : Ly k a) : ∀ d ∈ [a], Ly k d := fun d hd => by rw [List.mem_singleton.mp hd]; exact h
theorem ly_cS (b : Bool) : Ly 0 (.str (cS b)) := by cases b <;> exact ly_w (by kernel_rfl)
theorem ly_plE : ∀ p : Pl, Ly 1 (plE p)
  | .sort d c => Ly.tuple (mem2 (ly_dS d) (ly_int c))
  | .rev => Ly.tuple (mem1 (ly_w (by kernel_rfl)))
  | .res => Ly.tuple (mem1 (ly_w (by kernel_rfl)))
  | .cut f k => Ly.tuple (mem2 (ly_cS f) (ly_int k))
theorem nb_plE : ∀ p : Pl, nbD (plE p) = true
  | .sort d c => rfl
  | .rev => rfl
  | .res => rfl
  | .cut f k => rfl
theorem ly_cm : ∀ (n : Nat) (c : Cm n), Ly (2 * n + 1) (cmE n c) ∧ nbD (cmE n c) = true
  | 0, p => ⟨ly_plE p, nb_plE p⟩
  | n + 1, .inl p => ⟨(ly_plE p).mono (by omega), nb_plE p⟩
  | n + 1, .inr (t, ps) => by
    have h1 : Ly (2 * n + 2) (.tuple (ps.map (cmE n))) := Ly.tuple fun d hd => by
      obtain ⟨c, _, rfl⟩ := List.mem_map.mp hd
      exact (ly_cm n c).1
    have h2 : nbDs (ps.map (cmE n)) = true := nbDs_all fun d hd => by
      obtain ⟨c, _, rfl⟩ := List.mem_map.mp hd
      exact (ly_cm n c).2
    refine ⟨?_, ?_⟩
    · refine (Ly.tuple (k := 2 * n + 2) fun d hd => ?_).mono (by omega)
      simp only [List.mem_cons, List.not_mem_nil, or_false] at hd
      rcases hd with rfl | rfl | rfl
      · exact (ly_w (by kernel_rfl)).mono (Nat.zero_le _)
      · exact (ly_int t).mono (Nat.zero_le _)
      · exact h1
    · show (true && (true && (nbDs (ps.map (cmE n)) && true))) = true
      rw [h2]; rfl
theorem ly_cp {n : Nat} (cs : List (Cm n)) : Ly (2 * n + 2) (cpE cs) ∧ nbD (cpE cs) = true :=
  ⟨Ly.tuple fun d hd => by
    obtain ⟨c, _, rfl⟩ := List.mem_map.mp hd
    exact (ly_cm n c).1, nbDs_all fun d hd => by
    obtain ⟨c, _, rfl⟩ := List.mem_map.mp hd
    exact (ly_cm n c).2⟩
theorem eq_cp {n : Nat} (hn : n ≤ 3) (cs ds : List (Cm n)) : ∃ r, eqD (cpE cs) (cpE ds) = some (.bool r) ∧ neD (cpE cs) (cpE ds) = some (.bool (!r)) ∧ (r = true ↔ cpE cs = cpE ds) := by
  obtain ⟨r, e, h⟩ := eqB_nb (ly_cp cs).1 (ly_cp ds).1 (by omega) (by omega) (ly_cp cs).2 (ly_cp ds).2
  exact ⟨r, by unfold eqD; rw [e]; rfl, by unfold neD; rw [e]; rfl, h⟩
end DL
end L2


set_option Elab.async false
set_option maxRecDepth 100000
set_option maxHeartbeats 4000000
set_option autoImplicit false
namespace L2
namespace DL
open PySem PySem.Spec PyProof.Rows
local instance labNone_K22L : Lab := { w := none, T := [], gd := True }
theorem flatMap_ne {n : Nat} {c : Cm n} {cs : List (Cm n)} : (c :: cs).flatMap (toks n) ≠ [] := by
  rw [List.flatMap_cons]
  intro z
  exact toks_ne n c (List.append_eq_nil_iff.mp z).1
theorem rwS (mN mC : List PyData → Option PyData) (w : Str) (ws cur : List PyData) (up : List (List PyData)) : rwRun mN mC (.str w :: ws) cur up =
    (if w = "(" then (if up.length < lim then rwRun mN mC ws [] (cur :: up) else none)
    else if Txt.startswith w ")x" = true then match up with
      | [] => some .none
      | c2 :: up2 => if w.length ≤ lim then (mN [.str (cutS w (some 2) none)]).bind fun n => if c2.length < lim then rwRun mN mC ws (c2 ++ [.tuple [.str "repeat", n, .tuple cur]]) up2 else none else none
    else (mC [.str w]).bind fun c => if cur.length < lim then rwRun mN mC ws (cur ++ [c]) up else none) := rfl
theorem rw_pl {p : Pl} (hp : PlOk p) (rest cur : List PyData) (up : List (List PyData)) (hc : cur.length < 100000) : rwRun m_read_number m_read_command (.str (tokP p) :: rest) cur up = rwRun m_read_number m_read_command rest (cur ++ [plE p]) up := by
  have h := tk_pl hp
  rw [Bool.and_eq_true, Bool.and_eq_true, Bool.not_eq_true', Bool.not_eq_true'] at h
  rw [rwS, if_neg (of_decide_eq_false h.1.2), h.2, if_neg (by decide), rd_pl hp]
  show (if cur.length < lim then _ else _) = _
  rw [if_pos hc]
theorem rw_toks {tm : Int} (ht : tm ≤ MX) : ∀ (n : Nat) (c : Cm n), CmOk tm n c → szC n c ≤ 400 → ∀ (rest cur : List PyData) (up : List (List PyData)), cur.length < 50000 → up.length < 50000 → up.length + n < 50000 →
    rwRun m_read_number m_read_command ((toks n c).map .str ++ rest) cur up = rwRun m_read_number m_read_command rest (cur ++ [cmE n c]) up
  | 0, p, h, _, rest, cur, up, hc, _, _ => rw_pl (p := p) h rest cur up (by omega)
  | n + 1, .inl p, h, _, rest, cur, up, hc, _, _ => rw_pl (p := p) h rest cur up (by omega)
  | n + 1, .inr (t, ps), h, hs, rest, cur, up, hc, hu, hun => by
    obtain ⟨h0, h1, h2⟩ := h
    obtain ⟨k, rfl, k0, k1⟩ := rep_nat h0 (Int.le_trans h1 ht)
    have hsz : 1 + (ps.map (szC n)).sum ≤ 400 := hs
    have inner : ∀ (ps : List (Cm n)), (∀ c ∈ ps, CmOk tm n c) → (ps.map (szC n)).sum ≤ 400 → ∀ (rest cur : List PyData) (up : List (List PyData)), cur.length + ps.length < 50000 → up.length + n < 50000 →
        rwRun m_read_number m_read_command ((ps.flatMap (toks n)).map .str ++ rest) cur up = rwRun m_read_number m_read_command rest (cur ++ ps.map (cmE n)) up := by
      intro ps
      induction ps with
      | nil => intro _ _ rest cur up _ _; rw [List.map_nil, List.append_nil]; rfl
      | cons c cs ih =>
        intro hc hs rest cur up hl hu
        rw [List.map_cons, List.sum_cons] at hs
        rw [List.length_cons] at hl
        rw [List.flatMap_cons, List.map_append, List.append_assoc, rw_toks ht n c (hc c List.mem_cons_self) (by omega) _ _ _ (by omega) (by omega) hu,
          ih (fun x hx => hc x (List.mem_cons_of_mem _ hx)) (by omega) rest _ up (by rw [List.length_append, List.length_singleton]; omega) hu, List.append_assoc]
        rfl
    have hlen := len_sz ps
    show rwRun m_read_number m_read_command (.str "(" :: ((ps.flatMap (toks n) ++ [tokR (k : Int)]).map .str ++ rest)) cur up = _
    rw [rwS, if_pos rfl, if_pos (show up.length < 100000 by omega), List.map_append, List.append_assoc, inner ps h2 (by omega) _ [] (cur :: up) (by show 0 + _ < _; omega) (by rw [List.length_cons]; omega), List.nil_append]
    show rwRun m_read_number m_read_command (.str (tokR (k : Int)) :: rest) (ps.map (cmE n)) (cur :: up) = _
    rw [rwS, if_neg (tokR_ne k), tokR_st, if_pos rfl]
    dsimp only
    have hl := tokR_len k1
    rw [if_pos (show (tokR (k : Int)).length ≤ 100000 by omega), tokR_cut, rn_num k0 k1]
    show (if cur.length < lim then _ else _) = _
    rw [if_pos (show cur.length < 100000 by omega)]
    rfl
theorem rw_prog {tm : Int} (ht : tm ≤ MX) {n : Nat} : ∀ {cs : List (Cm n)}, (∀ c ∈ cs, CmOk tm n c) → (cs.map (szC n)).sum ≤ 400 → n ≤ 3 → ∀ (cur : List PyData), cur.length + cs.length < 50000 →
    rwRun m_read_number m_read_command ((cs.flatMap (toks n)).map .str) cur [] = some (.tuple (cur ++ cs.map (cmE n)))
  | [], _, _, _, cur, _ => by rw [List.map_nil, List.append_nil]; rfl
  | c :: cs, h, hs, hn, cur, hl => by
    rw [List.map_cons, List.sum_cons] at hs
    rw [List.length_cons] at hl
    rw [List.flatMap_cons, List.map_append, rw_toks ht n c (h c List.mem_cons_self) (by omega) _ _ _ (by omega) (by show 0 < 50000; decide) (by show 0 + n < _; omega),
      rw_prog ht (cs := cs) (fun x hx => h x (List.mem_cons_of_mem _ hx)) (by omega) hn _ (by rw [List.length_append, List.length_singleton]; omega), List.append_assoc]
    rfl

end DL
end L2


set_option Elab.async false
set_option maxRecDepth 100000
set_option maxHeartbeats 4000000
set_option autoImplicit false
namespace L2
namespace DL
open PySem PySem.Spec PyProof.Rows
local instance labNone_K22M : Lab := { w := none, T := [], gd := True }
/-! ### is_program, format_program, parse_program -/
structure PgO (n : Nat) (cs : List (Cm n)) : Prop where
  n3 : n ≤ 3
  ok : ∀ c ∈ cs, CmOk MX n c
  sz : (cs.map (szC n)).sum ≤ 400
def txt {n : Nat} (cs : List (Cm n)) : Str := jn (cs.flatMap (toks n))
section
variable {n : Nat} {cs : List (Cm n)}
theorem isprog (h : PgO n cs) : mo_is_program [cpE cs] = some (.bool true) := by
  have hc := check_cx (tm := MX) (Int.le_refl _) h.n3 h.ok h.sz
  let E : DEnv := [some (.fr (cpE cs))]
  have e : m_is_program [cpE cs] = some (.ok (.bool true)) := by
    refine ev_runX rfl (ev_seq (e1 := E) ?_ rfl)
    have h2 : fCX m_check_program (fCons (rdF 0) fNil) E = some (.ok .none E) := ev_cX rfl hc
    show ((fCX m_check_program (fCons (rdF 0) fNil) E).map _).bind _ = _
    rw [h2]; rfl
  show okX (m_is_program [cpE cs]) = _
  rw [e]; rfl
theorem fmt_prog (h : PgO n cs) : mo_format_program [cpE cs] = some (.str (txt cs)) := by
  have hc := check_cx (tm := MX) (Int.le_refl _) h.n3 h.ok h.sz
  have hsz := h.sz
  have hn := h.n3
  have hl := len_sz cs
  let E : DEnv := [some (.fr (cpE cs)), none]
  have e : m_format_program [cpE cs] = some (.ok (.str (txt cs))) := by
    have h2 : fCX m_check_program (fCons (rdF 0) fNil) E = some (.ok .none E) := ev_cX rfl hc
    have h3 : nLc (iSeq (rdF 0)) (gSet 1) fYes (fCB m_written_command (fCons (rdF 1) fNil)) [1] E = some ((cs.map fun c => jn (toks n c)).map .str, E) := by
      refine ev_lc (ds := cs.map (cmE n)) rfl (by show (cs.map (cmE n)).length ≤ 100000; rw [List.length_map]; omega) rfl ?_
      have := lc_img (i := 1) (fe := fCB m_written_command (fCons (rdF 1) fNil)) (e := cmE n) (q := fun c => .str (jn (toks n c))) (env := E) rfl cs fun c hc => ev_cb (ev_cons rfl ev_nil) (wc_cm (Int.le_refl _) n 12 (by omega) c (h.ok c hc) (by
        have := mem_le_sum (List.mem_map.mpr ⟨c, hc, rfl⟩ : szC n c ∈ cs.map (szC n))
        omega))
      refine this.trans ?_
      rw [List.map_map]
      rfl
    refine ev_runX rfl (ev_seq (e1 := E) ?_ (ev_ret (ev_tm1 (a := spS) rfl (ev_frz h3) ?_)))
    · show ((fCX m_check_program (fCons (rdF 0) fNil) E).map _) = _
      rw [h2]; rfl
    · have hs := sum_jn (Int.le_refl MX) h.ok
      rw [joinG_l (by rw [List.length_map]; omega)]
      have hj := jn_flat (cs.map (toks n)) fun ts hts => by
        obtain ⟨c, _, rfl⟩ := List.mem_map.mp hts
        exact toks_ne n c
      rw [List.map_map] at hj
      show some (PyData.str (jn (cs.map (jn ∘ toks n)))) = some (.str (txt cs))
      rw [hj, ← List.flatMap_def]
      rfl
  show okX (m_format_program [cpE cs]) = _
  rw [e]; rfl
theorem txt_le (h : PgO n cs) : (txt cs).length ≤ 32800 := by
  obtain ⟨a1, a2⟩ := tokss_ok (Int.le_refl MX) h.ok
  have := jn_le a1
  have := h.sz
  unfold txt
  omega
theorem parse_prog (h : PgO n cs) : mo_parse_program [.str (txt cs)] = some (cpE cs) := by
  have hsz := h.sz
  have hl := len_sz cs
  have hlen := txt_le h
  obtain ⟨a1, a2⟩ := tokss_ok (Int.le_refl MX) h.ok
  let E0 : DEnv := [some (.fr (.str (txt cs))), none]
  let E1 : DEnv := [some (.fr (.str (txt cs))), some (.fr (cpE cs))]
  have e : m_parse_program [.str (txt cs)] = some (.ok (cpE cs)) := by
    refine ev_runX rfl (ev_seq (e1 := E0) (ev_ifF (ev_not (ev_tst (d := .bool true) rfl rfl)) rfl) (ev_seq (e1 := E1) (ev_setE (e1 := E0) ?_ rfl) (ev_seq (e1 := E1) (ev_ifF (ev_not (ev_tst (d := .bool true) (ev_cb (ev_cons rfl ev_nil) (isprog h)) rfl)) rfl) (ev_ret rfl))))
    cases hcs : cs with
    | nil =>
      subst hcs
      refine ev_iff (k := false) (e1 := E0) (ev_tst (d := .bool false) (ev_bin rfl rfl ?_) rfl) rfl
      show some (PyData.bool (!decide ((txt ([] : List (Cm n))) = ""))) = _
      have : txt ([] : List (Cm n)) = "" := by
        apply TL.ext_tl
        show TL.tl (jn []) = _
        rw [tl_jn]; rfl
      rw [decide_eq_true this]; rfl
    | cons c cs' =>
      have hne : cs.flatMap (toks n) ≠ [] := by rw [hcs]; exact flatMap_ne
      rw [← hcs]
      have hw : TL.tl (txt cs) ≠ [] := by
        show TL.tl (jn (cs.flatMap (toks n))) ≠ []
        rw [tl_jn]
        cases ht : cs.flatMap (toks n) with
        | nil => exact absurd ht hne
        | cons t ts =>
          have hwt := word_ne (a1 t (by rw [ht]; exact List.mem_cons_self))
          cases ts with
          | nil => exact hwt
          | cons u us =>
            show TL.tl t ++ _ ≠ []
            intro z
            exact hwt (List.append_eq_nil_iff.mp z).1
      refine ev_iff (k := true) (e1 := E0) (ev_tst (d := .bool true) (ev_bin rfl rfl ?_) rfl) ?_
      · show some (PyData.bool (!decide (txt cs = ""))) = _
        rw [decide_eq_false]
        · rfl
        · intro z
          rw [z] at hw
          exact hw rfl
      · show fCB m_read_words (fCons (fTM1 splitG (rdF 0) (fC (.str " "))) fNil) E0 = some (cpE cs, E0)
        refine ev_cb (ev_cons (ev_tm1 (a := txt cs) (b := .str spS) (d := .list ((cs.flatMap (toks n)).map .str)) rfl rfl ?_) ev_nil) ?_
        · show (if spS.length ≠ 0 ∧ (txt cs).length ≤ lim then some (PyData.list ((Txt.split (txt cs) spS).map .str)) else none) = _
          rw [if_pos ⟨by decide +kernel, Nat.le_trans hlen (by decide)⟩]
          have hsp : Txt.split (txt cs) spS = cs.flatMap (toks n) := TL.split_join (s := 32) (S := []) rfl (by decide +kernel) hne fun p hp => word_sp (a1 p hp)
          rw [hsp]
        · have := rw_prog (Int.le_refl MX) h.ok h.sz h.n3 [] (by show 0 + _ < _; omega)
          refine ev_runF (env := [some (.fr (.list ((cs.flatMap (toks n)).map .str))), none, none, none]) rfl ?_
          show (rwRun m_read_number m_read_command ((cs.flatMap (toks n)).map .str) [] []).map _ = _
          rw [this]
          rfl
  show okX (m_parse_program [.str (txt cs)]) = _
  rw [e]; rfl
end
end DL
end L2


set_option Elab.async false
set_option maxRecDepth 100000
set_option maxHeartbeats 4000000
set_option autoImplicit false
namespace L2
namespace DL
open PySem PySem.Spec PyProof.Rows
local instance labNone_K22N : Lab := { w := none, T := [], gd := True }
/-! ### what is shown -/
theorem pl_shown {p : Pl} (hp : PlOk p) : ((plE p).showable && emD (plE p) && decide ((plE p).shown.length ≤ 110)) = true :=
  all_pl (P := fun p => ((plE p).showable && emD (plE p) && decide ((plE p).shown.length ≤ 110)) = true) (by kernel_rfl) (by kernel_rfl) (fun d => by cases d <;> (and_intros <;> kernel_rfl)) (fun g => by cases g <;> (and_intros <;> kernel_rfl)) hp
structure Shw (B : Nat) (d : PyData) : Prop where
  sh : d.showable = true
  em : emD d = true
  ln : d.shown.length ≤ B
theorem shw_all : ∀ {ds : List PyData} {B : Nat}, (∀ d ∈ ds, d.showable = true ∧ emD d = true) → PyData.showableAll ds = true ∧ emDs ds = true
  | [], _, _ => ⟨rfl, rfl⟩
  | d :: ds, B, h => by
    obtain ⟨a1, a2⟩ := h d List.mem_cons_self
    obtain ⟨b1, b2⟩ := shw_all (B := B) (ds := ds) fun x hx => h x (List.mem_cons_of_mem _ hx)
    exact ⟨by show (d.showable && PyData.showableAll ds) = true; rw [a1, b1]; rfl, by show (emD d && emDs ds) = true; rw [a2, b2]; rfl⟩
theorem shw_cm : ∀ (n : Nat) (c : Cm n), CmOk MX n c → Shw ((120 + 2 * n) * szC n c) (cmE n c)
  | 0, p, h => by
    have := pl_shown (p := p) h
    rw [Bool.and_eq_true, Bool.and_eq_true] at this
    exact ⟨this.1.1, this.1.2, Nat.le_trans (of_decide_eq_true this.2) (by show 110 ≤ (120 + 2 * 0) * 1; decide)⟩
  | n + 1, .inl p, h => by
    have := pl_shown (p := p) h
    rw [Bool.and_eq_true, Bool.and_eq_true] at this
    exact ⟨this.1.1, this.1.2, Nat.le_trans (of_decide_eq_true this.2) (by show 110 ≤ (120 + 2 * (n + 1)) * 1; omega)⟩
  | n + 1, .inr (t, ps), h => by
    obtain ⟨h0, h1, h2⟩ := h
    obtain ⟨k, rfl, k0, k1⟩ := rep_nat h0 h1
    have inner : (PyData.showableAll (ps.map (cmE n)) = true ∧ emDs (ps.map (cmE n)) = true) ∧ ((PyData.shownAll (ps.map (cmE n))).map (·.length)).sum + 2 * (PyData.shownAll (ps.map (cmE n))).length ≤ (122 + 2 * n) * (ps.map (szC n)).sum := by
      clear h1
      induction ps with
      | nil => exact ⟨⟨rfl, rfl⟩, Nat.le_refl _⟩
      | cons c cs ih =>
        obtain ⟨a1, a2, a3⟩ := shw_cm n c (h2 c List.mem_cons_self)
        obtain ⟨⟨b1, b2⟩, b3⟩ := ih fun x hx => h2 x (List.mem_cons_of_mem _ hx)
        have hp := szC_pos n c
        refine ⟨⟨by show ((cmE n c).showable && PyData.showableAll (cs.map (cmE n))) = true; rw [a1, b1]; rfl, by show (emD (cmE n c) && emDs (cs.map (cmE n))) = true; rw [a2, b2]; rfl⟩, ?_⟩
        show ((cmE n c).shown.length + ((PyData.shownAll (cs.map (cmE n))).map (·.length)).sum) + 2 * ((PyData.shownAll (cs.map (cmE n))).length + 1) ≤ (122 + 2 * n) * (szC n c + (cs.map (szC n)).sum)
        have e1 : (122 + 2 * n) * (szC n c + (cs.map (szC n)).sum) = (120 + 2 * n) * szC n c + 2 * szC n c + (122 + 2 * n) * (cs.map (szC n)).sum := by rw [Nat.mul_add, show 122 + 2 * n = (120 + 2 * n) + 2 by omega, Nat.add_mul]
        omega
    obtain ⟨⟨i1, i2⟩, i3⟩ := inner
    have hrep : (reprText "repeat").length = 8 := by decide +kernel
    have hk : (PyData.shown (.int (k : Nat))).length ≤ 31 := num_len k1
    have hki : (PyData.int (k : Nat)).showable = true := decide_eq_true (log_ok k1)
    have ht := tupleText_len_le (PyData.shownAll (ps.map (cmE n)))
    refine ⟨?_, ?_, ?_⟩
    · show (true && ((PyData.int (k : Nat)).showable && (PyData.showableAll (ps.map (cmE n)) && true))) = true
      rw [hki, i1]; rfl
    · show (true && (true && (emDs (ps.map (cmE n)) && true))) = true
      rw [i2]; rfl
    · have h3 := tupleText_len_le [reprText "repeat", PyData.shown (.int (k : Nat)), tupleText (PyData.shownAll (ps.map (cmE n)))]
      show (tupleText [reprText "repeat", PyData.shown (.int (k : Nat)), tupleText (PyData.shownAll (ps.map (cmE n)))]).length ≤ (120 + 2 * (n + 1)) * (1 + (ps.map (szC n)).sum)
      have e : ([reprText "repeat", PyData.shown (.int (k : Nat)), tupleText (PyData.shownAll (ps.map (cmE n)))].map (·.length)).sum = (reprText "repeat").length + ((PyData.shown (.int (k : Nat))).length + ((tupleText (PyData.shownAll (ps.map (cmE n)))).length + 0)) := rfl
      rw [e, hrep] at h3
      have e2 : (120 + 2 * (n + 1)) * (1 + (ps.map (szC n)).sum) = (122 + 2 * n) + (122 + 2 * n) * (ps.map (szC n)).sum := by rw [show 120 + 2 * (n + 1) = 122 + 2 * n by omega, Nat.mul_add, Nat.mul_one]
      rw [e2]
      have e3 : [reprText "repeat", PyData.shown (.int (k : Nat)), tupleText (PyData.shownAll (ps.map (cmE n)))].length = 3 := rfl
      rw [e3] at h3
      omega
theorem shw_cp {n : Nat} {cs : List (Cm n)} (h : PgO n cs) : Shw 60000 (cpE cs) := by
  have hsz := h.sz
  have hn := h.n3
  obtain ⟨a1, a2⟩ := shw_all (B := 0) (ds := cs.map (cmE n)) fun d hd => by
    obtain ⟨c, hc, rfl⟩ := List.mem_map.mp hd
    exact ⟨(shw_cm n c (h.ok c hc)).sh, (shw_cm n c (h.ok c hc)).em⟩
  refine ⟨a1, a2, ?_⟩
  have key : ∀ cs : List (Cm n), (∀ c ∈ cs, CmOk MX n c) → ((PyData.shownAll (cs.map (cmE n))).map (·.length)).sum + 2 * (PyData.shownAll (cs.map (cmE n))).length ≤ (122 + 2 * n) * (cs.map (szC n)).sum := by
    intro cs
    induction cs with
    | nil => intro _; exact Nat.le_refl _
    | cons c cs ih =>
      intro hc
      have a3 := (shw_cm n c (hc c List.mem_cons_self)).ln
      have b3 := ih fun x hx => hc x (List.mem_cons_of_mem _ hx)
      have hp := szC_pos n c
      show ((cmE n c).shown.length + ((PyData.shownAll (cs.map (cmE n))).map (·.length)).sum) + 2 * ((PyData.shownAll (cs.map (cmE n))).length + 1) ≤ (122 + 2 * n) * (szC n c + (cs.map (szC n)).sum)
      have e1 : (122 + 2 * n) * (szC n c + (cs.map (szC n)).sum) = (120 + 2 * n) * szC n c + 2 * szC n c + (122 + 2 * n) * (cs.map (szC n)).sum := by rw [Nat.mul_add, show 122 + 2 * n = (120 + 2 * n) + 2 by omega, Nat.add_mul]
      omega
  have h1 := key cs h.ok
  have h2 := tupleText_len_le (PyData.shownAll (cs.map (cmE n)))
  have h3 : (122 + 2 * n) * (cs.map (szC n)).sum ≤ 128 * 400 := Nat.mul_le_mul (by omega) hsz
  show (tupleText (PyData.shownAll (cs.map (cmE n)))).length ≤ _
  omega
theorem repr_ok {B : Nat} {d : PyData} (h : Shw B d) (hB : B ≤ 1000000) (hd : d.depth ≤ 64) : reprE [d] = some (.str d.shown) := by
  show (if reprOkE d then some (PyData.str d.shown) else none) = _
  rw [if_pos]
  simp only [reprOkE, Bool.and_eq_true, decide_eq_true_eq]
  have h1 := h.ln
  exact ⟨⟨⟨h.sh, h.em⟩, by rw [sizeLine_eq]; omega⟩, hd⟩
end DL
end L2


set_option Elab.async false
set_option maxRecDepth 100000
set_option maxHeartbeats 4000000
set_option autoImplicit false
namespace L2
namespace DL
open PySem PySem.Spec PyProof.Rows
local instance labNone_K22O : Lab := { w := none, T := [], gd := True }
/-- its ints are not great -/
def RowC (r : PyData) : Prop := ∃ is : List Int, r = .tuple (is.map .int) ∧ ∀ i ∈ is, -1000 ≤ i ∧ i ≤ 1000
def RowJ (w : Nat) (r : PyData) : Prop := RowI w r ∧ RowC r
/-! ### tables drawn -/
abbrev tabEl := fBin subD (fCR 0 m__law_draw (fCons (rdF 5) fNil)) (fBin fdivD (rdF 5) (fC (.int 2)))
theorem tab_lc {sp : Int} (h0 : 0 < sp) (h1 : sp ≤ 1000) (b c d e f g : Option DV) : ∀ (xs es : List PyData), PoolOk es → ∃ (es' : List PyData) (is : List Int), lcD (gSet 8) fYes tabEl [8] xs [some (.rf es), b, c, d, e, some (.fr (.int sp)), f, g, none] = some (is.map PyData.int, [some (.rf es'), b, c, d, e, some (.fr (.int sp)), f, g, none]) ∧ PoolOk es' ∧ is.length = xs.length ∧ ∀ i ∈ is, -1000 ≤ i ∧ i ≤ 1000
  | [], es, hp => ⟨es, [], rfl, hp, rfl, fun _ h => nomatch h⟩
  | x :: xs, es, hp => by
    obtain ⟨r1, es1, e1, p1, a1, b1⟩ := draw_spec hp h0 (by omega)
    obtain ⟨es2, is, e2, p2, l2, b2⟩ := tab_lc h0 h1 b c d e f g xs es1 p1
    refine ⟨es2, (r1 - sp / 2) :: is, ?_, p2, by simp [l2], fun i hi => ?_⟩
    case refine_2 =>
      rcases List.mem_cons.mp hi with rfl | hi
      · omega
      · exact b2 i hi
    have h1' : sp < 1073741824 := by omega
    rw [lcD]
    simp [gSet, fYes, tabEl, fBin, fCR, rdO, wrO, rdF, fCons, fNil, fC, e1, subD, fdivD, intD, wipeE]
    exact e2
theorem ne_nil {k : Nat} {r : PyData} {rs : List PyData} (h : ∀ d ∈ r :: rs, Ly k d) (hk : k < 64) : neD (.list (r :: rs)) (.list []) = some (.bool true) := by
  have s1 := (Ly.list h).sh hk
  have s2 : shD (.list []) = true := rfl
  show ((if shD (.list (r :: rs)) && shD (.list []) then some (PyData.eqv (.list (r :: rs)) (.list [])) else none).map fun k => PyData.bool (!k)) = _
  rw [s1, s2]
  rfl
abbrev tabBody := sIf (fAnd (fTst (fCmpL neD 6 (fFrz (fLst fNil)))) (fTst (fBin eqD (fCR 0 m__law_draw (fCons (fC (.int 6)) fNil)) (fC (.int 0))))) (sApp 6 (fIxN 6 (fCR 0 m__law_draw (fCons (fLenN 6) fNil)))) (sApp 6 (fCB tupleD (fCons (fFrz (nLc (iArg rng1 (fCons (rdF 3) fNil)) (gSet 8) fYes tabEl [8])) fNil)))
theorem tab_new {w : Nat} (hw : w ≤ 5) {sp : Int} (h0 : 0 < sp) (h1 : sp ≤ 1000) {b c e g : Option DV} {es found : List PyData} (hp : PoolOk es) (hl : found.length < 1000) :
    ∃ es' r, sApp 6 (fCB tupleD (fCons (fFrz (nLc (iArg rng1 (fCons (rdF 3) fNil)) (gSet 8) fYes tabEl [8])) fNil)) [some (.rf es), b, c, some (.fr (.int w)), e, some (.fr (.int sp)), some (.ow found), g, none] = some (.nx [some (.rf es'), b, c, some (.fr (.int w)), e, some (.fr (.int sp)), some (.ow (found ++ [r])), g, none]) ∧ PoolOk es' ∧ RowJ w r := by
  obtain ⟨es1, is, e1, p1, l1, b1⟩ := tab_lc h0 h1 b c (some (.fr (.int w))) e (some (.ow found)) g (rangeD 0 w) es hp
  rw [rangeD_len] at l1
  refine ⟨es1, .tuple (is.map .int), ?_, p1, ⟨is, rfl, l1⟩, is, rfl, b1⟩
  have hw2 : (w : Int) ≤ 1000000 ∧ -1000000 ≤ (w : Int) := by omega
  have hl2 : found.length < 100000 := by omega
  have hr : (rangeD 0 w).length ≤ 100000 := by rw [rangeD_len]; omega
  simp [sApp, rdO, fCB, fCons, fFrz, nLc, iArg, rdF, fNil, rng1, hw2, lim, hr, wipeE]
  rw [e1]
  simp [tupleD, wrO, hl2]
theorem tab_turn {w : Nat} (hw : w ≤ 5) {sp : Int} (h0 : 0 < sp) (h1 : sp ≤ 1000) {b c e g : Option DV} {es found : List PyData} (hp : PoolOk es) (hf : ∀ r ∈ found, RowJ w r) (hl : found.length < 1000) :
    ∃ es' r, tabBody [some (.rf es), b, c, some (.fr (.int w)), e, some (.fr (.int sp)), some (.ow found), g, none] = some (.nx [some (.rf es'), b, c, some (.fr (.int w)), e, some (.fr (.int sp)), some (.ow (found ++ [r])), g, none]) ∧ PoolOk es' ∧ RowJ w r := by
  cases found with
  | nil =>
    obtain ⟨es1, r, e1, p1, hr⟩ := tab_new (found := []) hw h0 h1 (b := b) (c := c) (e := e) (g := g) hp hl
    exact ⟨es1, r, ev_ifF (ev_and0 rfl) e1, p1, hr⟩
  | cons r0 rs =>
    have hn := ne_nil (k := 1) (fun d hd => (hf d hd).1.ly) (by decide)
    obtain ⟨r1, es1, e1, p1, a1, b1⟩ := draw_spec hp (m := 6) (by decide) (by decide)
    have t1 : fTst (fCmpL neD 6 (fFrz (fLst fNil))) [some (.rf es), b, c, some (.fr (.int w)), e, some (.fr (.int sp)), some (.ow (r0 :: rs)), g, none] = some (true, [some (.rf es), b, c, some (.fr (.int w)), e, some (.fr (.int sp)), some (.ow (r0 :: rs)), g, none]) := by
      simp [fTst, fCmpL, rdB, fFrz, fLst, fNil, hn, truthD]
    have t2 : fTst (fBin eqD (fCR 0 m__law_draw (fCons (fC (.int 6)) fNil)) (fC (.int 0))) [some (.rf es), b, c, some (.fr (.int w)), e, some (.fr (.int sp)), some (.ow (r0 :: rs)), g, none] = some (decide (r1 = 0), [some (.rf es1), b, c, some (.fr (.int w)), e, some (.fr (.int sp)), some (.ow (r0 :: rs)), g, none]) := by
      simp [fTst, fBin, fCR, rdO, wrO, fCons, fNil, fC, e1, eqD, eqB, truthD]
    by_cases hz : r1 = 0
    · rw [decide_eq_true hz] at t2
      obtain ⟨r2, es2, e2, p2, a2, b2⟩ := draw_spec p1 (m := ((r0 :: rs).length : Int)) (by rw [List.length_cons]; omega) (by omega)
      have hj : r2.toNat < (r0 :: rs).length := by omega
      refine ⟨es2, (r0 :: rs)[r2.toNat], ev_ifT (ev_and1 t1 t2) ?_, p2, hf _ (List.getElem_mem hj)⟩
      have e2' := e2
      rw [List.length_cons] at e2'
      have b2' : r2 < (rs.length : Int) + 1 := by rw [List.length_cons] at b2; omega
      have hl' : rs.length + 1 < 100000 := by rw [List.length_cons] at hl; omega
      have hj' : r2.toNat < rs.length + 1 := hj
      simp [sApp, rdO, wrO, fIxN, rdB, fCR, fCons, fLenN, lenD, fNil] at e2' ⊢
      simp [e2', ixD, atI, ixN, a2, b2', hj', hl', lim]
    · rw [decide_eq_false hz] at t2
      obtain ⟨es2, r, e2, p2, hr⟩ := tab_new (found := r0 :: rs) hw h0 h1 (b := b) (c := c) (e := e) (g := g) p1 hl
      exact ⟨es2, r, ev_ifF (ev_and1 t1 t2) e2, p2, hr⟩
theorem tab_for {w : Nat} (hw : w ≤ 5) {sp : Int} (h0 : 0 < sp) (h1 : sp ≤ 1000) {b c e : Option DV} : ∀ (xs : List PyData) (es found : List PyData) (g : Option DV), PoolOk es → (∀ r ∈ found, RowJ w r) → found.length + xs.length < 1000 →
    ∃ es' found' g', forD (gSet 7) tabBody xs [some (.rf es), b, c, some (.fr (.int w)), e, some (.fr (.int sp)), some (.ow found), g, none] = some (.nx [some (.rf es'), b, c, some (.fr (.int w)), e, some (.fr (.int sp)), some (.ow found'), g', none]) ∧ PoolOk es' ∧ (∀ r ∈ found', RowJ w r) ∧ found'.length = found.length + xs.length
  | [], es, found, g, hp, hf, _ => ⟨es, found, g, rfl, hp, hf, rfl⟩
  | x :: xs, es, found, g, hp, hf, hl => by
    rw [List.length_cons] at hl
    obtain ⟨es1, r, e1, p1, hr⟩ := tab_turn hw h0 h1 (b := b) (c := c) (e := e) (g := some (.fr x)) hp hf (by omega)
    obtain ⟨es2, f2, g2, e2, p2, hf2, l2⟩ := tab_for hw h0 h1 (b := b) (c := c) (e := e) xs es1 (found ++ [r]) (some (.fr x)) p1 (fun y hy => by
      rcases List.mem_append.mp hy with z | z
      · exact hf y z
      · rw [List.mem_singleton] at z; rw [z]; exact hr) (by rw [List.length_append]; show found.length + 1 + xs.length < 1000; omega)
    refine ⟨es2, f2, g2, ev_forN rfl e1 e2, p2, hf2, ?_⟩
    rw [l2]
    simp only [List.length_append, List.length_cons, List.length_nil]
    omega
theorem spread4 {r : Int} (h0 : 0 ≤ r) (h1 : r < 4) : ∃ sp : Int, ixD (.list [.int 2, .int 3, .int 9, .int 1000]) (.int r) = some (.int sp) ∧ 0 < sp ∧ sp ≤ 1000 := by
  have : r = 0 ∨ r = 1 ∨ r = 2 ∨ r = 3 := by omega
  rcases this with rfl | rfl | rfl | rfl
  · exact ⟨2, rfl, by decide, by decide⟩
  · exact ⟨3, rfl, by decide, by decide⟩
  · exact ⟨9, rfl, by decide, by decide⟩
  · exact ⟨1000, rfl, by decide, by decide⟩
theorem table_spec {most : Int} (hm0 : 0 < most) (hm1 : most ≤ 30) {es : List PyData} (hp : PoolOk es) : ∃ rs es', m__law_table es [.int most, .int 5] = some (.tuple rs, es') ∧ PoolOk es' ∧ TabI rs ∧ ∀ r ∈ rs, RowC r := by
  obtain ⟨r1, es1, e1, p1, a1, b1⟩ := draw_spec hp (m := 5) (by decide) (by decide)
  obtain ⟨r2, es2, e2, p2, a2, b2⟩ := draw_spec p1 (m := most) hm0 (by omega)
  obtain ⟨r3, es3, e3, p3, a3, b3⟩ := draw_spec p2 (m := 4) (by decide) (by decide)
  obtain ⟨sp, e4, s0, s1⟩ := spread4 a3 b3
  obtain ⟨w, hw⟩ : ∃ w : Nat, 1 + r1 = (w : Int) := ⟨(1 + r1).toNat, by omega⟩
  obtain ⟨es5, rs, g, e5, p5, hr, l5⟩ := tab_for (w := w) (by omega) s0 s1 (b := some (.fr (.int most))) (c := some (.fr (.int 5))) (e := some (.fr (.int (1 + r2)))) (rangeD 0 (1 + r2).toNat) es3 [] none p3 (fun r h => nomatch h) (by rw [rangeD_len]; show 0 + _ < 1000; omega)
  rw [rangeD_len, List.length_nil] at l5
  refine ⟨rs, es5, ?_, p5, ⟨by omega, by omega, w, by omega, by omega, fun r h => (hr r h).1⟩, fun r h => (hr r h).2⟩
  have hd : 1 + r2 ≤ 1000000 ∧ -1000000 ≤ 1 + r2 := by omega
  simp [m__law_table, runR, mb__law_table, sSeq, sPar, fCons, fBin, fC, fCR, rdO, wrO, rdF, fNil, startE, e1, e2, addD, sSet, fFrz, fLst, lim, e3, e4, sSetN, sFor, iArg, rng1, hd, hw]
  rw [e5]
  simp [sRet, fCB, fCons, rdF, fNil, tupleD, rf0]
end DL
end L2


set_option Elab.async false
set_option maxRecDepth 100000
set_option maxHeartbeats 4000000
set_option autoImplicit false
namespace L2
namespace DL
open PySem PySem.Spec PyProof.Rows
local instance labNone_K22V : Lab := { w := none, T := [], gd := True }
theorem ints_map : ∀ bs : List Int, intsD (bs.map .int) = some bs
  | [] => rfl
  | b :: bs => by
    show (intsD (bs.map .int)).map _ = _
    rw [ints_map bs]
    rfl
/-! ### how many commands -/
def cnt : (n : Nat) → Cm n → Int
  | 0, _ => 1
  | _ + 1, .inl _ => 1
  | n + 1, .inr (t, ps) => t * (ps.map (cnt n)).sum
theorem cnts_b {n : Nat} {B : Int} (hB : 0 ≤ B) : ∀ {ps : List (Cm n)}, (∀ c ∈ ps, 0 ≤ cnt n c ∧ cnt n c ≤ (szC n c : Int) * B) → 0 ≤ (ps.map (cnt n)).sum ∧ (ps.map (cnt n)).sum ≤ ((ps.map (szC n)).sum : Nat) * B
  | [], _ => ⟨Int.le_refl _, by show (0 : Int) ≤ ((0 : Nat) : Int) * B; rw [Int.natCast_zero, Int.zero_mul]; exact Int.le_refl _⟩
  | c :: cs, h => by
    obtain ⟨a1, a2⟩ := h c List.mem_cons_self
    obtain ⟨b1, b2⟩ := cnts_b hB (ps := cs) fun x hx => h x (List.mem_cons_of_mem _ hx)
    rw [List.map_cons, List.sum_cons, List.map_cons, List.sum_cons, Int.natCast_add, Int.add_mul]
    omega
theorem cnt_b : ∀ (n : Nat) (c : Cm n), CmOk MX n c → 0 ≤ cnt n c ∧ cnt n c ≤ (szC n c : Int) * MX ^ n
  | 0, _, _ => ⟨show (0 : Int) ≤ 1 by decide, show (1 : Int) ≤ ((1 : Nat) : Int) * MX ^ 0 by decide⟩
  | n + 1, .inl p, _ => by
    refine ⟨show (0 : Int) ≤ 1 by decide, ?_⟩
    show (1 : Int) ≤ ((1 : Nat) : Int) * MX ^ (n + 1)
    rw [Int.natCast_one, Int.one_mul]
    have : (0 : Int) < MX ^ (n + 1) := Int.pow_pos (by decide)
    omega
  | n + 1, .inr (t, ps), h => by
    obtain ⟨h0, h1, h2⟩ := h
    have hB : (0 : Int) < MX ^ n := Int.pow_pos (by decide)
    obtain ⟨b1, b2⟩ := cnts_b (Int.le_of_lt hB) fun c hc => cnt_b n c (h2 c hc)
    refine ⟨Int.mul_nonneg (by omega) b1, ?_⟩
    show t * (ps.map (cnt n)).sum ≤ ((1 + (ps.map (szC n)).sum : Nat) : Int) * MX ^ (n + 1)
    have e1 : t * (ps.map (cnt n)).sum ≤ MX * (((ps.map (szC n)).sum : Nat) * MX ^ n) := Int.mul_le_mul h1 b2 b1 (by decide)
    have e2 : MX * ((((ps.map (szC n)).sum : Nat) : Int) * MX ^ n) = (((ps.map (szC n)).sum : Nat) : Int) * MX ^ (n + 1) := by
      rw [Int.pow_succ, Int.mul_left_comm, Int.mul_comm MX (MX ^ n)]
    have e3 : ((1 + (ps.map (szC n)).sum : Nat) : Int) * MX ^ (n + 1) = MX ^ (n + 1) + (((ps.map (szC n)).sum : Nat) : Int) * MX ^ (n + 1) := by
      rw [Int.natCast_add, Int.natCast_one, Int.add_mul, Int.one_mul]
    have : (0 : Int) < MX ^ (n + 1) := Int.pow_pos (by decide)
    omega
theorem cnt_big {n : Nat} (hn : n ≤ 3) {ps : List (Cm n)} (h : ∀ c ∈ ps, CmOk MX n c) (hs : (ps.map (szC n)).sum ≤ 400) : ((ps.map (cnt n)).sum).natAbs < 10 ^ 200 := by
  have hB : (0 : Int) < MX ^ n := Int.pow_pos (by decide)
  obtain ⟨b1, b2⟩ := cnts_b (Int.le_of_lt hB) fun c hc => cnt_b n c (h c hc)
  have e1 : (((ps.map (szC n)).sum : Nat) : Int) * MX ^ n ≤ 400 * MX ^ n := Int.mul_le_mul_of_nonneg_right (by omega) (Int.le_of_lt hB)
  have e2 : (400 : Int) * MX ^ n < 10 ^ 200 := by
    have : n = 0 ∨ n = 1 ∨ n = 2 ∨ n = 3 := by omega
    rcases this with rfl | rfl | rfl | rfl <;> decide +kernel
  have e3 : (((ps.map (cnt n)).sum).natAbs : Int) < ((10 ^ 200 : Nat) : Int) := by
    rw [Int.natAbs_of_nonneg b1]
    have : ((10 ^ 200 : Nat) : Int) = 10 ^ 200 := by decide +kernel
    omega
  exact Int.ofNat_lt.mp e3
theorem cp_pl {p : Pl} (hp : PlOk p) (f : Nat) : rc_count_performed (f + 1) 0 [plE p] = some (.int 1) := by
  cases p with
  | sort d c => cases d <;> kernel_rfl
  | rev => kernel_rfl
  | res => kernel_rfl
  | cut g k => cases g <;> kernel_rfl
theorem cp_cm : ∀ (n f : Nat), n + 1 ≤ f → n ≤ 3 → ∀ c : Cm n, CmOk MX n c → szC n c ≤ 400 → rc_count_performed f 0 [cmE n c] = some (.int (cnt n c))
  | 0, f, hf, _, p, h, _ => by
    obtain ⟨g, rfl⟩ : ∃ g, f = g + 1 := ⟨f - 1, by omega⟩
    exact cp_pl (p := p) h g
  | n + 1, f, hf, _, .inl p, h, _ => by
    obtain ⟨g, rfl⟩ : ∃ g, f = g + 1 := ⟨f - 1, by omega⟩
    exact cp_pl (p := p) h g
  | n + 1, f, hf, hn, .inr (t, ps), h, hs => by
    obtain ⟨g, rfl⟩ : ∃ g, f = g + 1 := ⟨f - 1, by omega⟩
    obtain ⟨h0, h1, h2⟩ := h
    have hs' : 1 + (ps.map (szC n)).sum ≤ 400 := hs
    have hl := len_sz ps
    let X : List PyData := ps.map (cmE n)
    let R : PyData := .tuple [.str "repeat", .int t, .tuple X]
    let E0 : DEnv := [some (.fr R), none]
    have t2 : fTst (fBin eqD (fIxN 0 (fC (.int 0))) (fC (.str "repeat"))) E0 = some (true, E0) := ev_tst (d := .bool true) (ev_bin (a := .str "repeat") (ev_ixN (i := .int 0) (d0 := R) (d := R) rfl rfl rfl rfl) rfl (by kernel_rfl)) rfl
    have t3 : nLc (iSeq (fIxN 0 (fC (.int 2)))) (gSet 1) fYes (fCB (rc_count_performed g 0) (fCons (rdF 1) fNil)) [1] E0 = some ((ps.map (cnt n)).map .int, E0) := by
      refine ev_lc (ds := X) (ev_seqI (ev_ixN (i := .int 2) (d0 := R) (d := R) rfl rfl rfl rfl) rfl) (by show (ps.map (cmE n)).length ≤ 100000; rw [List.length_map]; omega) rfl ?_
      have := lc_img (i := 1) (fe := fCB (rc_count_performed g 0) (fCons (rdF 1) fNil)) (e := cmE n) (q := fun c => .int (cnt n c)) (env := E0) rfl ps fun c hc => ev_cb (ev_cons rfl ev_nil) (cp_cm n g (by omega) (by omega) c (h2 c hc) (by
        have := mem_le_sum (List.mem_map.mpr ⟨c, hc, rfl⟩ : szC n c ∈ ps.map (szC n))
        omega))
      refine this.trans ?_
      rw [List.map_map]
      rfl
    have b2 := cnt_big (by omega) h2 (by omega)
    have b1 : t.natAbs < 10 ^ 200 := by
      have h1' : t ≤ 1000000000000000000000000000000 := h1
      have p : (1000000000000000000000000000000 : Nat) < 10 ^ 200 := by decide +kernel
      omega
    refine ev_runF rfl (ev_seqR (ev_ifT t2 (ev_ret (ev_bin (a := .int t) (b := .int (ps.map (cnt n)).sum) (ev_ixN (i := .int 1) (d0 := R) (d := R) rfl rfl rfl rfl) (ev_cb (ev_cons (ev_frz t3) ev_nil) ?_) ?_))))
    · show (intsD ((ps.map (cnt n)).map .int)).map _ = _
      rw [ints_map]; rfl
    · exact if_pos (by unfold cMulB; rw [Bool.and_eq_true, decide_eq_true_eq, decide_eq_true_eq]; exact ⟨b1, b2⟩)
theorem cc_spec {n : Nat} {cs : List (Cm n)} (h : PgO n cs) : m_count_commands [cpE cs] = some (.int (cs.map (cnt n)).sum) := by
  have hc := check_cm (tm := MX) (Int.le_refl _) h.n3 h.ok h.sz
  have hsz := h.sz
  have hn := h.n3
  have hl := len_sz cs
  let E : DEnv := [some (.fr (cpE cs)), none]
  have h3 : nLc (iSeq (rdF 0)) (gSet 1) fYes (fCB m_count_performed (fCons (rdF 1) fNil)) [1] E = some ((cs.map (cnt n)).map .int, E) := by
    refine ev_lc (ds := cs.map (cmE n)) rfl (by show (cs.map (cmE n)).length ≤ 100000; rw [List.length_map]; omega) rfl ?_
    have := lc_img (i := 1) (fe := fCB m_count_performed (fCons (rdF 1) fNil)) (e := cmE n) (q := fun c => .int (cnt n c)) (env := E) rfl cs fun c hc => ev_cb (ev_cons rfl ev_nil) (cp_cm n 12 (by omega) hn c (h.ok c hc) (by
      have := mem_le_sum (List.mem_map.mpr ⟨c, hc, rfl⟩ : szC n c ∈ cs.map (szC n))
      omega))
    refine this.trans ?_
    rw [List.map_map]
    rfl
  refine ev_runF rfl (ev_seq (e1 := E) (ev_expr (ev_cb (ev_cons rfl ev_nil) hc)) (ev_ret (ev_cb (ev_cons (ev_frz h3) ev_nil) ?_)))
  show (intsD ((cs.map (cnt n)).map .int)).map _ = _
  rw [ints_map]; rfl
end DL
end L2


set_option Elab.async false
set_option maxRecDepth 100000
set_option maxHeartbeats 4000000
set_option autoImplicit false
namespace L2
namespace DL
open PySem PySem.Spec PyProof.Rows
local instance labNone_K22W : Lab := { w := none, T := [], gd := True }
/-! ### what is read back -/
structure Gd (t : Tab) (x : PyData × Str) : Prop where
  fm : mo_format_program [x.1] = some (.str x.2)
  ps : mo_parse_program [.str x.2] = some x.1
  rp : reprE [x.1] = some (.str x.1.shown)
  ly : Ly 8 x.1
  nb : nbD x.1 = true
  rn : ∃ v, mo_run_places [tabD t, x.1] = some v ∧ neD v v = some (.bool false)
  ct : ∃ k : Int, m_count_commands [x.1] = some (.int k)
theorem neS (s : Str) : neD (.str s) (.str s) = some (.bool false) := by
  show some (PyData.bool (!decide (s = s))) = _
  rw [decide_eq_true rfl]; rfl
theorem neI (k : Int) : neD (.int k) (.int k) = some (.bool false) := by
  show some (PyData.bool (!decide (k = k))) = _
  rw [decide_eq_true rfl]; rfl
theorem range_int (n : Nat) : rangeD 0 n = (List.range n).map fun i : Nat => PyData.int i := by
  unfold rangeD
  exact List.map_congr_left fun i _ => by show PyData.int ((0 : Int) + (i : Nat)) = .int (i : Nat); rw [Int.zero_add]
theorem gd_same {t : Tab} {x y : PyData × Str} (hx : Gd t x) (hy : Gd t y) : ∃ b : Bool, eqD (.str x.2) (.str y.2) = some (.bool b) ∧ eqD x.1 y.1 = some (.bool b) := by
  obtain ⟨r, e, h⟩ := eqB_nb hx.ly hy.ly (by decide) (by decide) hx.nb hy.nb
  have e2 : eqD (.str x.2) (.str y.2) = some (.bool (decide (x.2 = y.2))) := rfl
  have : decide (x.2 = y.2) = r := by
    cases r with
    | true =>
      have hxy := h.mp rfl
      have := hx.fm
      rw [hxy, hy.fm] at this
      injection this with this
      injection this with this
      exact decide_eq_true this.symm
    | false =>
      refine decide_eq_false fun z => ?_
      have := hx.ps
      rw [z, hy.ps] at this
      injection this with this
      have := h.mpr this.symm
      cases this
  exact ⟨r, by rw [e2, this], by unfold eqD; rw [e]; rfl⟩
theorem neB (b : Bool) : neD (.bool b) (.bool b) = some (.bool false) := by cases b <;> kernel_rfl
abbrev arE (t : Tab) (xs : List (PyData × Str)) (a b c d : Option DV) : DEnv := [some (.fr (tabD t)), some (.fr (.list (xs.map (·.1)))), some (.ow (xs.map fun x => .str x.2)), a, b, c, d]
abbrev arBody := (sSeq (sSet 5 (fCB mo_parse_program (fCons (fIxN 2 (rdF 3)) fNil))) (sSeq (sIf (fOr (fTst (fBin neD (fCB reprE (fCons (rdF 5) fNil)) (fCB reprE (fCons (rdF 4) fNil)))) (fTst (fBin neD (fCB mo_format_program (fCons (rdF 5) fNil)) (fIxN 2 (rdF 3))))) (sRet (fC (.bool false))) sNil) (sSeq (sIf (fTst (fCB anyD (fCons (fFrz (nLc (iArg rng1 (fCons (fLenN 1) fNil)) (gSet 6) fYes (fBin neD (fBin eqD (fIxN 2 (rdF 3)) (fIxN 2 (rdF 6))) (fBin eqD (rdF 4) (fIxN 1 (rdF 6)))) [6])) fNil))) (sRet (fC (.bool false))) sNil) (sIf (fOr (fTst (fBin neD (fCB mo_run_places (fCons (rdF 0) (fCons (rdF 5) fNil))) (fCB mo_run_places (fCons (rdF 0) (fCons (rdF 4) fNil))))) (fTst (fBin neD (fCB m_count_commands (fCons (rdF 5) fNil)) (fCB m_count_commands (fCons (rdF 4) fNil))))) (sRet (fC (.bool false))) sNil))))
theorem any_false {α : Type} (l : List α) : anyD [.list (l.map fun _ => .bool false)] = some (.bool false) := by
  have h : ∀ l : List α, boolsD (l.map fun _ => PyData.bool false) = some (l.map fun _ => false) := by
    intro l
    induction l with
    | nil => rfl
    | cons a l ih =>
      show (boolsD (l.map fun _ => PyData.bool false)).map _ = _
      rw [ih]; rfl
  show (boolsD (l.map fun _ => PyData.bool false)).map _ = _
  rw [h]
  show some (PyData.bool ((l.map fun _ => false).any id)) = _
  congr 2
  induction l with
  | nil => rfl
  | cons a l ih => exact ih
theorem ar_turn {t : Tab} {xs : List (PyData × Str)} (hx : ∀ x ∈ xs, Gd t x) (hl : xs.length ≤ 1000) {i : Nat} (hi : i < xs.length) (c : Option DV) : ∃ c', arBody (arE t xs (some (.fr (.int i))) (some (.fr xs[i].1)) c none) = some (.nx (arE t xs (some (.fr (.int i))) (some (.fr xs[i].1)) c' none)) := by
  have hg := hx xs[i] (List.getElem_mem hi)
  obtain ⟨v, hv, hvv⟩ := hg.rn
  obtain ⟨k, hk⟩ := hg.ct
  let E1 : DEnv := arE t xs (some (.fr (.int i))) (some (.fr xs[i].1)) (some (.fr xs[i].1)) none
  have tx : ∀ (j : Nat) (hj : j < xs.length), ixD (.list (xs.map fun x => .str x.2)) (.int (j : Nat)) = some (.str xs[j].2) := fun j hj => by
    show atI (xs.map fun x => PyData.str x.2) (j : Int) = _
    rw [at_nat (by rw [List.length_map]; exact hj), List.getElem_map]
  have px : ∀ (j : Nat) (hj : j < xs.length), ixD (.list (xs.map (·.1))) (.int (j : Nat)) = some xs[j].1 := fun j hj => by
    show atI (xs.map (·.1)) (j : Int) = _
    rw [at_nat (by rw [List.length_map]; exact hj), List.getElem_map]
  have ti : ∀ c d, fIxN 2 (rdF 3) (arE t xs (some (.fr (.int i))) (some (.fr xs[i].1)) c d) = some (.str xs[i].2, arE t xs (some (.fr (.int i))) (some (.fr xs[i].1)) c d) := fun c d => ev_ixN (i := .int (i : Nat)) (d0 := .list (xs.map fun x => .str x.2)) (d := .list (xs.map fun x => .str x.2)) rfl rfl rfl (tx i hi)
  have t1 : fTst (fBin neD (fCB reprE (fCons (rdF 5) fNil)) (fCB reprE (fCons (rdF 4) fNil))) E1 = some (false, E1) := ev_tst (d := .bool false) (ev_bin (ev_cb (ev_cons rfl ev_nil) hg.rp) (ev_cb (ev_cons rfl ev_nil) hg.rp) (neS _)) rfl
  have t2 : fTst (fBin neD (fCB mo_format_program (fCons (rdF 5) fNil)) (fIxN 2 (rdF 3))) E1 = some (false, E1) := ev_tst (d := .bool false) (ev_bin (ev_cb (ev_cons rfl ev_nil) hg.fm) (ti _ _) (neS _)) rfl
  have t3 : nLc (iArg rng1 (fCons (fLenN 1) fNil)) (gSet 6) fYes (fBin neD (fBin eqD (fIxN 2 (rdF 3)) (fIxN 2 (rdF 6))) (fBin eqD (rdF 4) (fIxN 1 (rdF 6)))) [6] E1 = some ((List.range xs.length).map fun _ => .bool false, E1) := by
    have e1 : iArg rng1 (fCons (fLenN 1) fNil) E1 = some ((List.range xs.length).map fun i : Nat => PyData.int i, E1) := by
      refine ev_iArg (ds := [.int (xs.length : Nat)]) (ev_cons (ev_lenN (d := .list (xs.map (·.1))) rfl (by show some (PyData.int ((xs.map (·.1)).length : Nat)) = _; rw [List.length_map])) ev_nil) ?_
      show (if ((xs.length : Nat) : Int) ≤ 1000000 ∧ -1000000 ≤ ((xs.length : Nat) : Int) then some (rangeD 0 ((xs.length : Nat) : Int).toNat) else none) = _
      rw [if_pos ⟨by omega, by omega⟩, Int.toNat_natCast, range_int]
    refine ev_lc e1 (by show ((List.range xs.length).map _).length ≤ 100000; rw [List.length_map, List.length_range]; omega) rfl ?_
    refine (lc_img (i := 6) (e := fun j : Nat => PyData.int j) (q := fun _ => .bool false) (env := E1) rfl (List.range xs.length) fun j hj => ?_)
    have hj' := List.mem_range.mp hj
    obtain ⟨b, h1, h2⟩ := gd_same hg (hx xs[j] (List.getElem_mem hj'))
    let E2 : DEnv := arE t xs (some (.fr (.int i))) (some (.fr xs[i].1)) (some (.fr xs[i].1)) (some (.fr (.int j)))
    have a1 : fIxN 2 (rdF 6) E2 = some (.str xs[j].2, E2) := ev_ixN (i := .int (j : Nat)) (d0 := .list (xs.map fun x => .str x.2)) (d := .list (xs.map fun x => .str x.2)) rfl rfl rfl (tx j hj')
    have a2 : fIxN 1 (rdF 6) E2 = some (xs[j].1, E2) := ev_ixN (i := .int (j : Nat)) (d0 := .list (xs.map (·.1))) (d := .list (xs.map (·.1))) rfl rfl rfl (px j hj')
    exact ev_bin (ev_bin (ti _ _) a1 h1) (ev_bin (e1 := E2) rfl a2 h2) (neB b)
  exact ⟨some (.fr xs[i].1), ev_seq (e1 := E1) (ev_setE (ev_cb (ev_cons (ti _ _) ev_nil) hg.ps) rfl) (ev_seq (e1 := E1) (ev_ifF (ev_or0 t1 t2) rfl) (ev_seq (e1 := E1) (ev_ifF (ev_tst (d := .bool false) (ev_cb (ev_cons (ev_frz t3) ev_nil) (any_false _)) rfl) rfl)
    (ev_ifF (ev_or0 (ev_tst (d := .bool false) (ev_bin (ev_cb (ev_cons rfl (ev_cons rfl ev_nil)) hv) (ev_cb (ev_cons rfl (ev_cons rfl ev_nil)) hv) hvv) rfl) (ev_tst (d := .bool false) (ev_bin (ev_cb (ev_cons rfl ev_nil) hk) (ev_cb (ev_cons rfl ev_nil) hk) (neI k)) rfl)) rfl)))⟩
theorem ar_loop {t : Tab} {xs : List (PyData × Str)} (hx : ∀ x ∈ xs, Gd t x) (hl : xs.length ≤ 1000) : ∀ (m i : Nat) (a b c : Option DV), i + m = xs.length → ∃ a' b' c', forD (gTupD 2 (gsCons (gSet 3) (gsCons (gSet 4) gsNil))) arBody ((enumD (xs.map (·.1))).drop i) (arE t xs a b c none) = some (.nx (arE t xs a' b' c' none))
  | 0, i, a, b, c, h => ⟨a, b, c, by rw [List.drop_eq_nil_of_le (by rw [enumD_len, List.length_map]; omega)]; rfl⟩
  | m + 1, i, a, b, c, h => by
    have hi : i < xs.length := by omega
    have hd : (enumD (xs.map (·.1)))[i]? = some (.tuple [.int (i : Nat), xs[i].1]) := enumD_get (by rw [List.getElem?_map, List.getElem?_eq_getElem hi]; rfl)
    have ed : (enumD (xs.map (·.1))).drop i = .tuple [.int (i : Nat), xs[i].1] :: (enumD (xs.map (·.1))).drop (i + 1) := by
      obtain ⟨h1, h2⟩ := List.getElem?_eq_some_iff.mp hd
      rw [← h2]
      exact List.drop_eq_getElem_cons h1
    obtain ⟨c1, e1⟩ := ar_turn hx hl hi c
    obtain ⟨a', b', c', e2⟩ := ar_loop hx hl m (i + 1) (some (.fr (.int i))) (some (.fr xs[i].1)) c1 (by omega)
    rw [ed]
    exact ⟨a', b', c', ev_forN rfl e1 e2⟩
theorem all_right {t : Tab} {xs : List (PyData × Str)} (hx : ∀ x ∈ xs, Gd t x) (hl : xs.length ≤ 1000) : m__law_all_right [tabD t, .list (xs.map (·.1))] = some (.bool true) := by
  let E0 : DEnv := [some (.fr (tabD t)), some (.fr (.list (xs.map (·.1)))), none, none, none, none, none]
  have t1 : nLc (iSeq (rdF 1)) (gSet 4) fYes (fCB mo_format_program (fCons (rdF 4) fNil)) [4] E0 = some (xs.map fun x => .str x.2, E0) :=
    ev_lc (ds := xs.map (·.1)) rfl (by show (xs.map (·.1)).length ≤ 100000; rw [List.length_map]; omega) rfl (lc_img (i := 4) (e := (·.1)) (q := fun x : PyData × Str => .str x.2) (env := E0) rfl xs fun x h => ev_cb (ev_cons rfl ev_nil) (hx x h).fm)
  obtain ⟨a, b, c, e⟩ := ar_loop hx hl xs.length 0 none none none (by omega)
  rw [List.drop_zero] at e
  exact ev_runF rfl (ev_seq (e1 := arE t xs none none none none) (ev_setN t1 rfl) (ev_seq (e1 := arE t xs a b c none) (ev_for (ev_iArg (ev_cons rfl ev_nil) rfl) e) (ev_ret rfl)))
end DL
end L2


set_option Elab.async false
set_option maxRecDepth 100000
set_option maxHeartbeats 4000000
set_option autoImplicit false
namespace L2
namespace DL
open PySem PySem.Spec PyProof.Rows
local instance labNone_K22X : Lab := { w := none, T := [], gd := True }
/-! ### right -/
theorem plD_ly (l : List Nat) : Ly 1 (placeD l) ∧ nbD (placeD l) = true := ⟨Ly.tuple fun d hd => by
  obtain ⟨i, _, rfl⟩ := List.mem_map.mp hd
  exact ly_int _, nbDs_all fun d hd => by
  obtain ⟨i, _, rfl⟩ := List.mem_map.mp hd
  rfl⟩
theorem gd_of {w : Nat} {t : Tab} (ht : TabW w t) {n : Nat} {cs : List (Cm n)} (h : PgO n cs) (hc : ∀ c ∈ cs, ∀ x ∈ colsC n c, x < (w : Int)) : Gd t (cpE cs, txt cs) := by
  have hn := h.n3
  obtain ⟨l1, l2⟩ := ly_cp cs
  have hr := run_places_spec (tm := MX) (Int.le_refl _) ht h.n3 (cs := cs) ⟨h.ok, h.sz, hc⟩
  generalize runP t (seqS (sem n) cs start0) = R at hr
  obtain ⟨r, e, hh⟩ := eqB_nb (plD_ly R).1 (plD_ly R).1 (by decide) (by decide) (plD_ly R).2 (plD_ly R).2
  refine ⟨fmt_prog h, parse_prog h, repr_ok (shw_cp h) (by decide) (Nat.le_trans l1.dp (by omega)), l1.mono (by omega), l2, ⟨_, (by show okX (m_run_places [tabD t, cpE cs]) = _; rw [hr]; rfl), ?_⟩, ⟨_, cc_spec h⟩⟩
  unfold neD
  rw [e, hh.mpr rfl]; rfl
theorem pgo_app {n : Nat} {a b : List (Cm n)} (ha : PgO n a) (hb : PgO n b) (hs : (a.map (szC n)).sum + (b.map (szC n)).sum ≤ 400) : PgO n (a ++ b) :=
  ⟨ha.n3, fun c hc => (List.mem_append.mp hc).elim (ha.ok c) (hb.ok c), by rw [List.map_append, List.sum_append]; exact hs⟩
theorem pgo_drop {n : Nat} {a : List (Cm n)} (ha : PgO n a) (k : Nat) : PgO n (a.drop k) := by
  refine ⟨ha.n3, fun c hc => ha.ok c (List.mem_of_mem_drop hc), ?_⟩
  have h1 := ha.sz
  have h2 : (a.map (szC n)).sum = ((a.take k).map (szC n)).sum + ((a.drop k).map (szC n)).sum := by rw [← List.sum_append, ← List.map_append, List.take_append_drop]
  omega
theorem pgo_rep {n : Nat} (hn : n + 1 ≤ 3) {a : List (Cm n)} (ha : PgO n a) {t : Int} (h0 : 1 ≤ t) (h1 : t ≤ MX) (hs : (a.map (szC n)).sum ≤ 399) : PgO (n + 1) [(.inr (t, a) : Cm (n + 1))] := by
  refine ⟨hn, fun c hc => ?_, ?_⟩
  · rw [List.mem_singleton.mp hc]; exact ⟨h0, h1, ha.ok⟩
  · show (1 + (a.map (szC n)).sum) + 0 ≤ 400
    omega
def twos (p q : Pl) : List (Cm 0) := (List.replicate 200 [p, q]).flatten
theorem twos_mem {p q : Pl} {c : Cm 0} (h : c ∈ twos p q) : c = p ∨ c = q := by
  obtain ⟨l, hl, hc⟩ := List.mem_flatten.mp h
  rw [List.eq_of_mem_replicate hl] at hc
  rcases List.mem_cons.mp hc with e | hc
  · exact .inl e
  · exact .inr (List.mem_singleton.mp hc)
theorem twos_pgo {p q : Pl} (hp : PlOk p) (hq : PlOk q) : PgO 0 (twos p q) := by
  refine ⟨by decide, fun c hc => ?_, ?_⟩
  · rcases twos_mem hc with rfl | rfl
    · exact hp
    · exact hq
  · rw [sz0]
    show ((List.replicate 200 [p, q]).flatten).length ≤ 400
    rw [List.length_flatten, List.map_replicate, List.sum_replicate_nat]
    show 200 * 2 ≤ 400
    decide
theorem twos_e (p q : Pl) : cpE (twos p q) = .tuple (List.replicate 200 [plE p, plE q]).flatten := by
  show PyData.tuple ((List.replicate 200 [p, q]).flatten.map plE) = _
  rw [List.map_flatten, List.map_replicate]
  rfl
theorem rep200 (x y : PyData) : repTD (.tuple [x, y]) (.int 200) = some (.tuple (List.replicate 200 [x, y]).flatten) := by
  show (if ([x, y] : List PyData) ≠ [] ∧ (2 : Int) ≤ 200 ∧ (200 : Int) ≤ 1000 ∧ ([x, y] : List PyData).length ≤ 1000 then some (PyData.tuple (List.replicate (200 : Int).toNat [x, y]).flatten) else none) = _
  exact if_pos ⟨by simp, by decide, by decide, by show 2 ≤ 1000; decide⟩
theorem cut_1 (ds : List PyData) : cutD ds (some 1) none = ds.drop 1 := by
  unfold cutD
  rw [six_none, six_min (by decide)]
  cases ds with
  | nil => rfl
  | cons d ds =>
    have : min (1 : Int).toNat (d :: ds).length = 1 := by
      show min 1 ((d :: ds).length) = 1
      rw [List.length_cons]; omega
    rw [this, List.length_cons]
    show (ds).take (ds.length + 1 - 1) = ds
    rw [Nat.add_sub_cancel, List.take_length]
/-- the texts of two programs, one behind the other -/
theorem txt_app {n : Nat} (a b : List (Cm n)) : txt (a ++ b) = (txt a ++ (if a.isEmpty || b.isEmpty then Str.empty else " ")) ++ txt b := by
  have em : TL.tl (txt ([] : List (Cm n))) = [] := by show TL.tl (jn []) = _; rw [tl_jn]; rfl
  apply TL.ext_tl
  rw [TL.tl_append, TL.tl_append]
  cases a with
  | nil =>
    rw [em]
    show TL.tl (txt b) = ([] ++ []) ++ TL.tl (txt b)
    rfl
  | cons c cs =>
    cases b with
    | nil =>
      rw [em, List.append_nil]
      show TL.tl (txt (c :: cs)) = (TL.tl (txt (c :: cs)) ++ []) ++ []
      rw [List.append_nil, List.append_nil]
    | cons d ds =>
      show TL.tl (jn (((c :: cs) ++ (d :: ds)).flatMap (toks n))) = (TL.tl (jn ((c :: cs).flatMap (toks n))) ++ [32]) ++ TL.tl (jn ((d :: ds).flatMap (toks n)))
      rw [tl_jn, tl_jn, tl_jn, List.flatMap_append, List.map_append, joinL_app _ _ _ (by intro z; exact flatMap_ne (List.map_eq_nil_iff.mp z)) (by intro z; exact flatMap_ne (List.map_eq_nil_iff.mp z)), List.append_assoc]
theorem neq_emp {n : Nat} (hn : n ≤ 3) (ps : List (Cm n)) : neD (.tuple (ps.map (cmE n))) (.tuple []) = some (.bool (!ps.isEmpty)) := by
  obtain ⟨r, _, e2, h⟩ := eq_cp hn ps []
  have : (r = true ↔ ps = []) := by
    rw [h]
    constructor
    · intro z
      injection z with z
      exact List.map_eq_nil_iff.mp z
    · rintro rfl; rfl
  have e3 : neD (.tuple (ps.map (cmE n))) (.tuple []) = some (.bool (!r)) := e2
  rw [e3]
  congr 2
  cases r with
  | true => rw [this.mp rfl]; rfl
  | false =>
    cases ps with
    | nil => exact absurd (this.mpr rfl) (by decide)
    | cons _ _ => rfl
theorem cmok_mx {tm : Int} (h : tm ≤ MX) : ∀ (n : Nat) (c : Cm n), CmOk tm n c → CmOk MX n c
  | 0, _, hc => hc
  | _ + 1, .inl _, hc => hc
  | n + 1, .inr (t, ps), hc => ⟨hc.1, Int.le_trans hc.2.1 h, fun c hm => cmok_mx h n c (hc.2.2 c hm)⟩
theorem row0 {w : Nat} {t : Tab} (ht : TabW w t) : ∃ r, ixD (tabD t) (.int 0) = some (rowD r) ∧ lenD [rowD r] = some (.int w) := by
  have h1 := ht.l1
  refine ⟨t.getD 0 [], at_row ht (i := 0) (by omega), ?_⟩
  show some (PyData.int (((t.getD 0 []).map PyData.int).length : Nat)) = _
  rw [List.length_map, ht.row (t.getD 0 []) (by rw [List.getD_eq_getElem?_getD, List.getElem?_eq_getElem (by omega)]; exact List.getElem_mem _)]
abbrev tblEl := (fCR 0 m__law_table (fCons (fIf (fTst (fBin eqD (fCR 0 m__law_draw (fCons (fC (.int 8)) fNil)) (fC (.int 5)))) (fC (.int 30)) (fC (.int 9))) (fCons (fC (.int 5)) fNil)))
theorem tab_22 {most : Int} (hm0 : 0 < most) (hm1 : most ≤ 30) {es : List PyData} (hp : PoolOk es) : ∃ (w : Nat) (t : Tab) (es' : List PyData), m__law_table es [.int most, .int 5] = some (tabD t, es') ∧ PoolOk es' ∧ TabW w t := by
  obtain ⟨rs, es', e, p, h, _⟩ := table_spec hm0 hm1 hp
  obtain ⟨w, t, rfl, ht⟩ := h.tabW
  exact ⟨w, t, es', e, p, ht⟩
theorem tbl_22 {es : List PyData} (hp : PoolOk es) {env : DEnv} : ∃ (w : Nat) (t : Tab) (es' : List PyData), tblEl (some (.rf es) :: env) = some (tabD t, some (.rf es') :: env) ∧ PoolOk es' ∧ TabW w t := by
  obtain ⟨r, es1, e1, p1, _, _⟩ := draw_spec hp (m := 8) (by decide) (by decide)
  have hd : fTst (fBin eqD (fCR 0 m__law_draw (fCons (fC (.int 8)) fNil)) (fC (.int 5))) (some (.rf es) :: env) = some (decide (r = 5), some (.rf es1) :: env) := ev_tst (ev_bin (ev_crE rfl (ev_cons rfl ev_nil) rfl e1 rfl) rfl rfl) rfl
  by_cases h5 : r = 5
  · obtain ⟨w, t, es2, e2, p2, h1⟩ := tab_22 (most := 30) (by decide) (by decide) p1
    rw [decide_eq_true h5] at hd
    exact ⟨w, t, es2, ev_crE rfl (ev_cons (ev_iff hd rfl) (ev_cons rfl ev_nil)) rfl e2 rfl, p2, h1⟩
  · obtain ⟨w, t, es2, e2, p2, h1⟩ := tab_22 (most := 9) (by decide) (by decide) p1
    rw [decide_eq_false h5] at hd
    exact ⟨w, t, es2, ev_crE rfl (ev_cons (ev_iff hd rfl) (ev_cons rfl ev_nil)) rfl e2 rfl, p2, h1⟩
theorem add_cp {n : Nat} {a b : List (Cm n)} (h : a.length + b.length ≤ 100000) : addD (cpE a) (cpE b) = some (cpE (a ++ b)) := by
  show addD (.tuple (a.map (cmE n))) (.tuple (b.map (cmE n))) = some (.tuple ((a ++ b).map (cmE n)))
  rw [List.map_append]
  exact add_tup (by rw [List.length_map, List.length_map]; exact h)
theorem gap_ev {n : Nat} (hn : n ≤ 3) (a b : List (Cm n)) (e0 e1 e2 e5 : Option DV) : fBin mulS0D (fC (.str " ")) (fCB intOfD (fCons (fAndV (fBin neD (rdF 3) (fTup fNil)) (fBin neD (rdF 4) (fTup fNil))) fNil)) [e0, e1, e2, some (.fr (cpE a)), some (.fr (cpE b)), e5, none, none, none] = some (.str (if a.isEmpty || b.isEmpty then Str.empty else " "), [e0, e1, e2, some (.fr (cpE a)), some (.fr (cpE b)), e5, none, none, none]) := by
  have ha := neq_emp hn a
  have hb := neq_emp hn b
  let E : DEnv := [e0, e1, e2, some (.fr (cpE a)), some (.fr (cpE b)), e5, none, none, none]
  have ta : fBin neD (rdF 3) (fTup fNil) E = some (.bool (!a.isEmpty), E) := ev_bin rfl rfl ha
  have tb : fBin neD (rdF 4) (fTup fNil) E = some (.bool (!b.isEmpty), E) := ev_bin rfl rfl hb
  have key : fAndV (fBin neD (rdF 3) (fTup fNil)) (fBin neD (rdF 4) (fTup fNil)) E = some (.bool (!(a.isEmpty || b.isEmpty)), E) := by
    cases h : a.isEmpty with
    | true => rw [h] at ta; exact ev_andV0 ta
    | false => rw [h] at ta; rw [Bool.false_or]; exact ev_andV ta tb
  refine ev_bin rfl (ev_cb (ev_cons key ev_nil) rfl) ?_
  cases (a.isEmpty || b.isEmpty) <;> kernel_rfl
theorem minD_2 {w : Nat} (h1 : 1 ≤ w) : ∃ W : Int, minD [.int 4, .int w] = some (.int W) ∧ 0 < W ∧ W ≤ 4 ∧ W ≤ w := by
  refine ⟨if (w : Int) < 4 then (w : Int) else 4, rfl, ?_, ?_, ?_⟩ <;> split <;> omega
def rvC : List (Cm 2) := [.inl .rev]
def rpC (t : Int) (b : List (Cm 2)) : List (Cm 3) := [.inr (t, b)]
theorem right_spec {p : List PyData} (hp : PoolOk p) : ∃ p', m__law_right p [] = some (.bool true, p') := by
  obtain ⟨w, t, es1, e1, p1, ht⟩ := tbl_22 hp (env := [none, none, none, none, none, none, none, none])
  obtain ⟨r0, f1, g1⟩ := row0 ht
  have hw1 := ht.w1
  obtain ⟨W, m1, W0, W4, Ww⟩ := minD_2 hw1
  obtain ⟨a, es2, e2, p2, ha, la, sa, _⟩ := prog_spec p1 (W := W) (size := 29) (tm := 9) ⟨W0, W4⟩ (by omega) ⟨by decide, by decide⟩
  obtain ⟨b, es3, e3, p3, hb, lb, sb, _⟩ := prog_spec p2 (W := W) (size := 29) (tm := MX) ⟨W0, W4⟩ (by omega) ⟨by decide, by decide⟩
  have A : PgO 2 a := ⟨by decide, fun c hm => cmok_mx (by decide) 2 c (ha c hm).ok, by omega⟩
  have B : PgO 2 b := ⟨by decide, fun c hm => (hb c hm).ok, by omega⟩
  have ca : ∀ c ∈ a, ∀ x ∈ colsC 2 c, x < (w : Int) := fun c hc x hx => by have := (ha c hc).co x hx; omega
  have cb : ∀ c ∈ b, ∀ x ∈ colsC 2 c, x < (w : Int) := fun c hc x hx => by have := (hb c hc).co x hx; omega
  have R : PgO 2 rvC := ⟨by decide, fun c hc => by rw [List.mem_singleton.mp hc]; trivial, by decide⟩
  have cr : ∀ t0 : Int, ∀ c ∈ rpC t0 b, ∀ x ∈ colsC 3 c, x < (w : Int) := fun t0 c hc x hx => by
    rw [List.mem_singleton.mp hc] at hx
    obtain ⟨c', hc', hx'⟩ := List.mem_flatMap.mp (show x ∈ b.flatMap (colsC 2) from hx)
    exact cb c' hc' x hx'
  have G1 := gd_of ht A ca
  have G2 := gd_of ht B cb
  have G3 := gd_of ht (pgo_app A B (by omega)) fun c hc => (List.mem_append.mp hc).elim (ca c) (cb c)
  have G4 := gd_of ht (pgo_app A R (by show (a.map (szC 2)).sum + 1 ≤ 400; omega)) fun c hc => (List.mem_append.mp hc).elim (ca c) fun hc x hx => by
    rw [List.mem_singleton.mp hc] at hx; cases hx
  have G5 := gd_of ht (cs := rpC 1 b) (pgo_rep (by decide) B (t := 1) (by decide) (by decide) (by omega)) (cr 1)
  have G6 := gd_of ht (cs := rpC MX b) (pgo_rep (by decide) B (t := MX) (by decide) (by decide) (by omega)) (cr MX)
  have G7 := gd_of ht (pgo_drop A 1) fun c hc => ca c (List.mem_of_mem_drop hc)
  have G8 := gd_of ht (twos_pgo (p := .cut false 29) (q := .cut true 29) (show (2 : Int) ≤ 29 ∧ (29 : Int) ≤ 29 from ⟨by decide, by decide⟩) (show (2 : Int) ≤ 29 ∧ (29 : Int) ≤ 29 from ⟨by decide, by decide⟩)) fun c hc x hx => by
    rcases twos_mem hc with rfl | rfl <;> cases hx
  have G9 := gd_of ht (twos_pgo (p := .sort false 0) (q := .sort true 0) (show (0 : Int) ≤ 0 ∧ (0 : Int) < 4 from ⟨by decide, by decide⟩) (show (0 : Int) ≤ 0 ∧ (0 : Int) < 4 from ⟨by decide, by decide⟩)) fun c hc x hx => by
    rcases twos_mem hc with rfl | rfl
    · rw [List.mem_singleton.mp hx]; omega
    · rw [List.mem_singleton.mp hx]; omega
  have hab := add_cp (a := a) (b := b) (by omega)
  have har := add_cp (a := a) (b := rvC) (by show a.length + 1 ≤ _; omega)
  have hsl : slD (cpE a) (some 1) none = some (cpE (a.drop 1)) := by
    show some (PyData.tuple (cutD (a.map (cmE 2)) (some 1) none)) = some (.tuple ((a.drop 1).map (cmE 2)))
    rw [cut_1, List.map_drop]
  have h8 : repTD (.tuple [.tuple [.str "last", .int 29], .tuple [.str "first", .int 29]]) (.int 200) = some (cpE (twos (.cut false 29) (.cut true 29))) := (rep200 _ _).trans (by rw [twos_e]; rfl)
  have h9 : repTD (.tuple [.tuple [.str "down", .int 0], .tuple [.str "up", .int 0]]) (.int 200) = some (cpE (twos (.sort false 0) (.sort true 0))) := (rep200 _ _).trans (by rw [twos_e]; rfl)
  have hg := gap_ev (n := 2) (by decide) a b
  have htx := txt_app a b
  have lt1 := txt_le A
  have lt2 := txt_le B
  let L : List (PyData × Str) := [(cpE a, txt a), (cpE b, txt b), (cpE (a ++ b), txt (a ++ b)), (cpE (a ++ rvC), txt (a ++ rvC)), (cpE (rpC 1 b), txt (rpC 1 b)), (cpE (rpC MX b), txt (rpC MX b)),
    (cpE (a.drop 1), txt (a.drop 1)), (cpE (twos (.cut false 29) (.cut true 29)), txt (twos (.cut false 29) (.cut true 29))), (cpE (twos (.sort false 0) (.sort true 0)), txt (twos (.sort false 0) (.sort true 0)))]
  have hL : ∀ x ∈ L, Gd t x := by
    intro x hx
    simp only [L, List.mem_cons, List.not_mem_nil, or_false] at hx
    rcases hx with rfl | rfl | rfl | rfl | rfl | rfl | rfl | rfl | rfl <;> assumption
  have hall : m__law_all_right [tabD t, .list [cpE a, cpE b, cpE (a ++ b), cpE (a ++ rvC), cpE (rpC 1 b), cpE (rpC MX b), cpE (a.drop 1), cpE (twos (.cut false 29) (.cut true 29)), cpE (twos (.sort false 0) (.sort true 0))]] = some (.bool true) := all_right hL (by show 9 ≤ 1000; decide)
  have hr1 : PyData.tuple [.tuple [.str "repeat", .int 1, cpE b]] = cpE (rpC 1 b) := rfl
  have hr2 : PyData.tuple [.tuple [.str "repeat", .int 1000000000000000000000000000000, cpE b]] = cpE (rpC MX b) := rfl
  have hrv : PyData.tuple [.tuple [.str "reverse"]] = cpE rvC := rfl
  have F1 := G1.fm
  have F2 := G2.fm
  have F3 := G3.fm
  dsimp only at F1 F2 F3
  have lgap : (if a.isEmpty || b.isEmpty then Str.empty else (" " : Str)).length ≤ 1 := by
    cases (a.isEmpty || b.isEmpty) <;> decide +kernel
  clear_value L
  clear hL G1 G2 G3 G4 G5 G6 G7 G8 G9
  generalize (if a.isEmpty || b.isEmpty then Str.empty else (" " : Str)) = gp at hg htx lgap
  generalize cpE (twos (.cut false 29) (.cut true 29)) = C2 at *
  generalize cpE (twos (.sort false 0) (.sort true 0)) = S2 at *
  generalize cpE (a ++ b) = AB at *
  generalize cpE (a ++ rvC) = AR at *
  generalize cpE (a.drop 1) = AD at *
  generalize cpE (rpC 1 b) = R1 at *
  generalize cpE (rpC MX b) = RM at *
  generalize cpE rvC = RV at *
  generalize cpE a = PA at *
  generalize cpE b = PB at *
  generalize txt (a ++ b) = tAB at *
  generalize txt a = tA at *
  generalize txt b = tB at *
  generalize tabD t = T at *
  let L6 : List PyData := [PA, PB, AB, AR, R1, RM]
  let L9 : List PyData := [PA, PB, AB, AR, R1, RM, AD, C2, S2]
  let X (es : List PyData) (d e f g : Option DV) : DEnv := [some (.rf es), some (.fr T), some (.fr (.int W)), d, e, f, g, none, none]
  have n1 : (1 : Nat) ≤ lim := by decide
  have n2 : (2 : Nat) ≤ lim := by decide
  have n3 : (3 : Nat) ≤ lim := by decide
  have s0 : (sSet 1 (fCR 0 m__law_table (fCons (fIf (fTst (fBin eqD (fCR 0 m__law_draw (fCons (fC (.int 8)) fNil)) (fC (.int 5)))) (fC (.int 30)) (fC (.int 9))) (fCons (fC (.int 5)) fNil)))) [some (.rf p), none, none, none, none, none, none, none, none] = some (.nx [some (.rf es1), some (.fr T), none, none, none, none, none, none, none]) := ev_setE e1 rfl
  have s1 : (sSet 2 (fCB minD (fCons (fC (.int 4)) (fCons (fCB lenD (fCons (fIxN 1 (fC (.int 0))) fNil)) fNil)))) [some (.rf es1), some (.fr T), none, none, none, none, none, none, none] = some (.nx (X es1 none none none none)) := ev_setE (ev_cb (ev_cons rfl (ev_cons (ev_cb (ev_cons (ev_ixN rfl rfl rfl f1) ev_nil) g1) ev_nil)) m1) rfl
  have s2 : (sPar 3 4 (fCons (fCR 0 m__law_program (fCons (rdF 2) (fCons (fC (.int 29)) (fCons (fC (.int 9)) fNil)))) (fCons (fCR 0 m__law_program (fCons (rdF 2) (fCons (fC (.int 29)) (fCons (fBin powD (fC (.int 10)) (fC (.int 30))) fNil)))) fNil))) (X es1 none none none none) = some (.nx (X es3 (some (.fr PA)) (some (.fr PB)) none none)) :=
    ev_par (ev_cons (ev_crE rfl (ev_cons rfl (ev_cons rfl (ev_cons rfl ev_nil))) rfl e2 rfl) (ev_cons (ev_crE rfl (ev_cons rfl (ev_cons rfl (ev_cons (ev_bin (a := .int 10) (b := .int 30) (d := .int MX) rfl rfl (by kernel_rfl)) ev_nil))) rfl e3 rfl) ev_nil)) rfl
  let Y (f g : Option DV) : DEnv := X es3 (some (.fr PA)) (some (.fr PB)) f g
  have q4 : fBin addD (rdF 3) (fTup (fCons (fTup (fCons (fC (.str "reverse")) fNil)) fNil)) (Y none none) = some (AR, Y none none) := by
    refine ev_bin (a := PA) (b := RV) rfl ?_ har
    rw [← hrv]
    exact ev_tup (ev_cons (ev_tup (ev_cons rfl ev_nil) n1) ev_nil) n1
  have q5 : fTup (fCons (fTup (fCons (fC (.str "repeat")) (fCons (fC (.int 1)) (fCons (rdF 4) fNil)))) fNil) (Y none none) = some (R1, Y none none) := by
    rw [← hr1]
    exact ev_tup (ev_cons (ev_tup (ev_cons rfl (ev_cons rfl (ev_cons rfl ev_nil))) n3) ev_nil) n1
  have q6 : fTup (fCons (fTup (fCons (fC (.str "repeat")) (fCons (fBin powD (fC (.int 10)) (fC (.int 30))) (fCons (rdF 4) fNil)))) fNil) (Y none none) = some (RM, Y none none) := by
    rw [← hr2]
    exact ev_tup (ev_cons (ev_tup (ev_cons rfl (ev_cons (ev_bin (a := .int 10) (b := .int 30) rfl rfl (by kernel_rfl)) (ev_cons rfl ev_nil))) n3) ev_nil) n1
  have s3 : (sSetN 5 (fLst (fCons (rdF 3) (fCons (rdF 4) (fCons (fBin addD (rdF 3) (rdF 4)) (fCons (fBin addD (rdF 3) (fTup (fCons (fTup (fCons (fC (.str "reverse")) fNil)) fNil))) (fCons (fTup (fCons (fTup (fCons (fC (.str "repeat")) (fCons (fC (.int 1)) (fCons (rdF 4) fNil)))) fNil)) (fCons (fTup (fCons (fTup (fCons (fC (.str "repeat")) (fCons (fBin powD (fC (.int 10)) (fC (.int 30))) (fCons (rdF 4) fNil)))) fNil)) fNil)))))))) (Y none none) = some (.nx (Y (some (.ow L6)) none)) :=
    ev_setN (e1 := Y none none) (ev_lst (ds := L6) (ev_cons rfl (ev_cons rfl (ev_cons (ev_bin rfl rfl hab) (ev_cons q4 (ev_cons q5 (ev_cons q6 ev_nil)))))) (by show 6 ≤ 100000; decide)) rfl
  let Z : DEnv := Y (some (.fr (.list L6))) none
  have q7 : fSl (rdF 3) (oSome (fC (.int 1))) oNone Z = some (AD, Z) := ev_sl rfl (ev_oS rfl) rfl hsl
  have q8 : fBin repTD (fTup (fCons (fTup (fCons (fC (.str "last")) (fCons (fC (.int 29)) fNil))) (fCons (fTup (fCons (fC (.str "first")) (fCons (fC (.int 29)) fNil))) fNil))) (fC (.int 200)) Z = some (C2, Z) :=
    ev_bin (ev_tup (ev_cons (ev_tup (ev_cons rfl (ev_cons rfl ev_nil)) n2) (ev_cons (ev_tup (ev_cons rfl (ev_cons rfl ev_nil)) n2) ev_nil)) n2) rfl h8
  have q9 : fBin repTD (fTup (fCons (fTup (fCons (fC (.str "down")) (fCons (fC (.int 0)) fNil))) (fCons (fTup (fCons (fC (.str "up")) (fCons (fC (.int 0)) fNil))) fNil))) (fC (.int 200)) Z = some (S2, Z) :=
    ev_bin (ev_tup (ev_cons (ev_tup (ev_cons rfl (ev_cons rfl ev_nil)) n2) (ev_cons (ev_tup (ev_cons rfl (ev_cons rfl ev_nil)) n2) ev_nil)) n2) rfl h9
  have s4 : (sSetN 5 (nAdd (rdF 5) (fFrz (fLst (fCons (fSl (rdF 3) (oSome (fC (.int 1))) oNone) (fCons (fBin repTD (fTup (fCons (fTup (fCons (fC (.str "last")) (fCons (fC (.int 29)) fNil))) (fCons (fTup (fCons (fC (.str "first")) (fCons (fC (.int 29)) fNil))) fNil))) (fC (.int 200))) (fCons (fBin repTD (fTup (fCons (fTup (fCons (fC (.str "down")) (fCons (fC (.int 0)) fNil))) (fCons (fTup (fCons (fC (.str "up")) (fCons (fC (.int 0)) fNil))) fNil))) (fC (.int 200))) fNil))))))) (Y (some (.ow L6)) none) = some (.nx (Y (some (.ow L9)) none)) :=
    ev_setN (e1 := Z) (ev_nAdd (a := L6) (b := [AD, C2, S2]) (e1 := Z) rfl (ev_frz (ev_lst (ev_cons q7 (ev_cons q8 (ev_cons q9 ev_nil))) n3)) (by show 9 ≤ 100000; decide)) rfl
  have s5 : (sIf (fNot (fTst (fCB m__law_all_right (fCons (rdF 1) (fCons (rdF 5) fNil))))) (sRet (fC (.bool false))) sNil) (Y (some (.ow L9)) none) = some (.nx (Y (some (.fr (.list L9))) none)) := ev_ifF (ev_not (ev_tst (d := .bool true) (ev_cb (ev_cons rfl (ev_cons rfl ev_nil)) hall) rfl)) rfl
  have s6 : (sSet 6 (fBin mulS0D (fC (.str " ")) (fCB intOfD (fCons (fAndV (fBin neD (rdF 3) (fTup fNil)) (fBin neD (rdF 4) (fTup fNil))) fNil)))) (Y (some (.fr (.list L9))) none) = some (.nx (Y (some (.fr (.list L9))) (some (.fr (.str gp))))) := ev_setE (hg _ _ _ _) rfl
  let E7 : DEnv := Y (some (.fr (.list L9))) (some (.fr (.str gp)))
  have s7 : (sSetN 7 (nLc (iSeq (fFrz (fLst (fCons (rdF 3) (fCons (rdF 4) (fCons (fBin addD (rdF 3) (rdF 4)) fNil)))))) (gSet 8) fYes (fCB mo_format_program (fCons (rdF 8) fNil)) [8])) E7 = some (.nx (E7.set 7 (some (.ow [.str tA, .str tB, .str tAB])))) := by
    refine ev_setN (ev_lc (ds := [PA, PB, AB]) (e1 := E7) (e2 := E7) (ev_seqI (ev_frz (ev_lst (ev_cons rfl (ev_cons rfl (ev_cons (ev_bin rfl rfl hab) ev_nil))) n3)) rfl) n3 rfl ?_) rfl
    exact lc_img (i := 8) (e := fun x : PyData × Str => x.1) (q := fun x => .str x.2) (env := E7) rfl [(PA, tA), (PB, tB), (AB, tAB)] fun x hx => by
      simp only [List.mem_cons, List.not_mem_nil, or_false] at hx
      rcases hx with rfl | rfl | rfl
      · exact ev_cb (ev_cons rfl ev_nil) F1
      · exact ev_cb (ev_cons rfl ev_nil) F2
      · exact ev_cb (ev_cons rfl ev_nil) F3
  have lA : ∀ x y : Str, (x ++ y).length = x.length + y.length := fun x y => by rw [TL.len_tl, TL.tl_append, List.length_append, ← TL.len_tl, ← TL.len_tl]
  refine ⟨es3, ev_runR rfl (env := (E7.set 7 (some (.ow [.str tA, .str tB, .str tAB]))).tail) (ev_seq s0 (ev_seq s1 (ev_seq s2 (ev_seq s3 (ev_seq s4 (ev_seq s5 (ev_seq s6 (ev_seq s7 (ev_ret (ev_bin (a := .str tAB) (b := .str ((tA ++ gp) ++ tB)) (ev_ixN rfl rfl rfl rfl) (ev_bin (a := .str (tA ++ gp)) (b := .str tB) (ev_bin (a := .str tA) (b := .str gp) (ev_ixN rfl rfl rfl rfl) rfl ?_) (ev_ixN rfl rfl rfl rfl) ?_) ?_))))))))))⟩
  · exact if_pos (show tA.length + gp.length ≤ 100000 by omega)
  · exact if_pos (show (tA ++ gp).length + tB.length ≤ 100000 by rw [lA]; omega)
  · show some (PyData.bool (decide (tAB = (tA ++ gp) ++ tB))) = _
    rw [decide_eq_true htx]
/-! ### the law -/
theorem law_spec (ns : List Int) : m_law [.list (ns.map .int)] = some (.bool true) := by
  let S : PyData := .list (ns.map .int)
  let E : DEnv := [some (.fr S), none]
  refine ev_runF rfl (env := E) (law_fin (PO := PoolOk) (fun k h0 h1 => cell_spec ns h0 h1) pool_spec (fun es h => right_spec h) (v := 1) ?_ rfl (fun _ => rfl) (fun _ => rfl))
  obtain ⟨m, e, m1, m2⟩ := mm_b (a := 5) (by decide) (env := E) (n := ns.length) (by
    refine ev_lenN (d := .list (ns.map .int)) rfl ?_
    show some (PyData.int ((ns.map PyData.int).length : Nat)) = _
    rw [List.length_map])
  exact ⟨m, e, m1, by omega⟩
end DL
end L2


set_option Elab.async false
set_option maxRecDepth 100000
set_option maxHeartbeats 4000000
set_option autoImplicit false
namespace L2
namespace DL
open PySem PySem.Spec PyProof.Rows
def mkTx [Lab] {w : World} (hw : LabW.w = some w) {K : PySem.W.Frag} {h base : Heap} {mg : Str → Option Value} (X : K.In h) (G : h.Ns mainGlobals mg)
    {f0 : Addr} {od0 an0 : Option Addr} {sl0 : Array (Option Value)} {oc0 kV0 dc0 pm0 cd0 ct0 : Value}
    {f1 : Addr} {od1 an1 : Option Addr} {sl1 : Array (Option Value)} {oc1 kV1 dc1 pm1 cd1 ct1 : Value}
    {f2 : Addr} {od2 an2 : Option Addr} {sl2 : Array (Option Value)} {oc2 kV2 dc2 pm2 cd2 ct2 : Value}
    {f3 : Addr} {od3 an3 : Option Addr} {sl3 : Array (Option Value)} {oc3 kV3 dc3 pm3 cd3 ct3 : Value}
    {f4 : Addr} {od4 an4 : Option Addr} {sl4 : Array (Option Value)} {oc4 kV4 dc4 pm4 cd4 ct4 : Value}
    {f5 : Addr} {od5 an5 : Option Addr} {sl5 : Array (Option Value)} {oc5 kV5 dc5 pm5 cd5 ct5 : Value}
    {f6 : Addr} {od6 an6 : Option Addr} {sl6 : Array (Option Value)} {oc6 kV6 dc6 pm6 cd6 ct6 : Value}
    {f7 : Addr} {od7 an7 : Option Addr} {sl7 : Array (Option Value)} {oc7 kV7 dc7 pm7 cd7 ct7 : Value}
    {f8 : Addr} {od8 an8 : Option Addr} {sl8 : Array (Option Value)} {oc8 kV8 dc8 pm8 cd8 ct8 : Value}
    {f9 : Addr} {od9 an9 : Option Addr} {sl9 : Array (Option Value)} {oc9 kV9 dc9 pm9 cd9 ct9 : Value}
    {f10 : Addr} {od10 an10 : Option Addr} {sl10 : Array (Option Value)} {oc10 kV10 dc10 pm10 cd10 ct10 : Value}
    {f11 : Addr} {od11 an11 : Option Addr} {sl11 : Array (Option Value)} {oc11 kV11 dc11 pm11 cd11 ct11 : Value}
    {f12 : Addr} {od12 an12 : Option Addr} {sl12 : Array (Option Value)} {oc12 kV12 dc12 pm12 cd12 ct12 : Value}
    {f13 : Addr} {od13 an13 : Option Addr} {sl13 : Array (Option Value)} {oc13 kV13 dc13 pm13 cd13 ct13 : Value}
    {f14 : Addr} {od14 an14 : Option Addr} {sl14 : Array (Option Value)} {oc14 kV14 dc14 pm14 cd14 ct14 : Value}
    {f15 : Addr} {od15 an15 : Option Addr} {sl15 : Array (Option Value)} {oc15 kV15 dc15 pm15 cd15 ct15 : Value}
    {f16 : Addr} {od16 an16 : Option Addr} {sl16 : Array (Option Value)} {oc16 kV16 dc16 pm16 cd16 ct16 : Value}
    {f17 : Addr} {od17 an17 : Option Addr} {sl17 : Array (Option Value)} {oc17 kV17 dc17 pm17 cd17 ct17 : Value}
    {f18 : Addr} {od18 an18 : Option Addr} {sl18 : Array (Option Value)} {oc18 kV18 dc18 pm18 cd18 ct18 : Value}
    {f19 : Addr} {od19 an19 : Option Addr} {sl19 : Array (Option Value)} {oc19 kV19 dc19 pm19 cd19 ct19 : Value}
    {f20 : Addr} {od20 an20 : Option Addr} {sl20 : Array (Option Value)} {oc20 kV20 dc20 pm20 cd20 ct20 : Value}
    {f21 : Addr} {od21 an21 : Option Addr} {sl21 : Array (Option Value)} {oc21 kV21 dc21 pm21 cd21 ct21 : Value}
    {f22 : Addr} {od22 an22 : Option Addr} {sl22 : Array (Option Value)} {oc22 kV22 dc22 pm22 cd22 ct22 : Value}
    {f23 : Addr} {od23 an23 : Option Addr} {sl23 : Array (Option Value)} {oc23 kV23 dc23 pm23 cd23 ct23 : Value}
    {f24 : Addr} {od24 an24 : Option Addr} {sl24 : Array (Option Value)} {oc24 kV24 dc24 pm24 cd24 ct24 : Value}
    {f25 : Addr} {od25 an25 : Option Addr} {sl25 : Array (Option Value)} {oc25 kV25 dc25 pm25 cd25 ct25 : Value}
    {f26 : Addr} {od26 an26 : Option Addr} {sl26 : Array (Option Value)} {oc26 kV26 dc26 pm26 cd26 ct26 : Value}
    {f27 : Addr} {od27 an27 : Option Addr} {sl27 : Array (Option Value)} {oc27 kV27 dc27 pm27 cd27 ct27 : Value}
    {f28 : Addr} {od28 an28 : Option Addr} {sl28 : Array (Option Value)} {oc28 kV28 dc28 pm28 cd28 ct28 : Value}
    {f29 : Addr} {od29 an29 : Option Addr} {sl29 : Array (Option Value)} {oc29 kV29 dc29 pm29 cd29 ct29 : Value}
    {f30 : Addr} {od30 an30 : Option Addr} {sl30 : Array (Option Value)} {oc30 kV30 dc30 pm30 cd30 ct30 : Value}
    {f31 : Addr} {od31 an31 : Option Addr} {sl31 : Array (Option Value)} {oc31 kV31 dc31 pm31 cd31 ct31 : Value}
    {f32 : Addr} {od32 an32 : Option Addr} {sl32 : Array (Option Value)} {oc32 kV32 dc32 pm32 cd32 ct32 : Value}
    {f33 : Addr} {od33 an33 : Option Addr} {sl33 : Array (Option Value)} {oc33 kV33 dc33 pm33 cd33 ct33 : Value}
    {f34 : Addr} {od34 an34 : Option Addr} {sl34 : Array (Option Value)} {oc34 kV34 dc34 pm34 cd34 ct34 : Value}
    {f35 : Addr} {od35 an35 : Option Addr} {sl35 : Array (Option Value)} {oc35 kV35 dc35 pm35 cd35 ct35 : Value}
    {f36 : Addr} {od36 an36 : Option Addr} {sl36 : Array (Option Value)} {oc36 kV36 dc36 pm36 cd36 ct36 : Value}
    {f37 : Addr} {od37 an37 : Option Addr} {sl37 : Array (Option Value)} {oc37 kV37 dc37 pm37 cd37 ct37 : Value}
    {f38 : Addr} {od38 an38 : Option Addr} {sl38 : Array (Option Value)} {oc38 kV38 dc38 pm38 cd38 ct38 : Value}
    {f39 : Addr} {od39 an39 : Option Addr} {sl39 : Array (Option Value)} {oc39 kV39 dc39 pm39 cd39 ct39 : Value}
    {f40 : Addr} {od40 an40 : Option Addr} {sl40 : Array (Option Value)} {oc40 kV40 dc40 pm40 cd40 ct40 : Value}
    {f41 : Addr} {od41 an41 : Option Addr} {sl41 : Array (Option Value)} {oc41 kV41 dc41 pm41 cd41 ct41 : Value}
    {f42 : Addr} {od42 an42 : Option Addr} {sl42 : Array (Option Value)} {oc42 kV42 dc42 pm42 cd42 ct42 : Value}
    {f43 : Addr} {od43 an43 : Option Addr} {sl43 : Array (Option Value)} {oc43 kV43 dc43 pm43 cd43 ct43 : Value}
    {f44 : Addr} {od44 an44 : Option Addr} {sl44 : Array (Option Value)} {oc44 kV44 dc44 pm44 cd44 ct44 : Value}
    {f45 : Addr} {od45 an45 : Option Addr} {sl45 : Array (Option Value)} {oc45 kV45 dc45 pm45 cd45 ct45 : Value}
    {f46 : Addr} {od46 an46 : Option Addr} {sl46 : Array (Option Value)} {oc46 kV46 dc46 pm46 cd46 ct46 : Value}
    {f47 : Addr} {od47 an47 : Option Addr} {sl47 : Array (Option Value)} {oc47 kV47 dc47 pm47 cd47 ct47 : Value}
    {f48 : Addr} {od48 an48 : Option Addr} {sl48 : Array (Option Value)} {oc48 kV48 dc48 pm48 cd48 ct48 : Value}
    {f49 : Addr} {od49 an49 : Option Addr} {sl49 : Array (Option Value)} {oc49 kV49 dc49 pm49 cd49 ct49 : Value}
    {f50 : Addr} {od50 an50 : Option Addr} {sl50 : Array (Option Value)} {oc50 kV50 dc50 pm50 cd50 ct50 : Value}
    {C_InvalidTable : Addr}
    {C_InvalidProgram : Addr}
    {C_InvalidText : Addr}
    {FI_InvalidTable : Addr} {xod_InvalidTable xan_InvalidTable : Option Addr} {xsl_InvalidTable : Array (Option Value)} {xoc_InvalidTable xkV_InvalidTable xdc_InvalidTable xpm_InvalidTable xcd_InvalidTable xct_InvalidTable : Value}
    {FI_InvalidProgram : Addr} {xod_InvalidProgram xan_InvalidProgram : Option Addr} {xsl_InvalidProgram : Array (Option Value)} {xoc_InvalidProgram xkV_InvalidProgram xdc_InvalidProgram xpm_InvalidProgram xcd_InvalidProgram xct_InvalidProgram : Value}
    {FI_InvalidText : Addr} {xod_InvalidText xan_InvalidText : Option Addr} {xsl_InvalidText : Array (Option Value)} {xoc_InvalidText xkV_InvalidText xdc_InvalidText xpm_InvalidText xcd_InvalidText xct_InvalidText : Value}
    {c_sorted_places P_sorted_places : Addr}
    (a0 : PySem.W.nsIn K mainGlobals "is_integer" = some (some (.ref f0))) (l0 : K.lookup f0 = some ⟨oc0, od0, .func (PySem.W.fnOf "is_integer" "is_integer" (defArgs (topS 16)) (defBody (topS 16)) (defScope (topS 16)) .none kV0 dc0 pm0 an0 cd0 ct0), sl0⟩) (c0 : PySem.W.codeIn K cd0 "is_integer" = true) (k0 : PySem.W.keepIn K (.ref f0) = true)
    (a1 : PySem.W.nsIn K mainGlobals "is_record" = some (some (.ref f1))) (l1 : K.lookup f1 = some ⟨oc1, od1, .func (PySem.W.fnOf "is_record" "is_record" (defArgs (topS 17)) (defBody (topS 17)) (defScope (topS 17)) .none kV1 dc1 pm1 an1 cd1 ct1), sl1⟩) (c1 : PySem.W.codeIn K cd1 "is_record" = true) (k1 : PySem.W.keepIn K (.ref f1) = true)
    (a2 : PySem.W.nsIn K mainGlobals "check_table" = some (some (.ref f2))) (l2 : K.lookup f2 = some ⟨oc2, od2, .func (PySem.W.fnOf "check_table" "check_table" (defArgs (topS 18)) (defBody (topS 18)) (defScope (topS 18)) .none kV2 dc2 pm2 an2 cd2 ct2), sl2⟩) (c2 : PySem.W.codeIn K cd2 "check_table" = true) (k2 : PySem.W.keepIn K (.ref f2) = true)
    (a3 : PySem.W.nsIn K mainGlobals "count_columns" = some (some (.ref f3))) (l3 : K.lookup f3 = some ⟨oc3, od3, .func (PySem.W.fnOf "count_columns" "count_columns" (defArgs (topS 19)) (defBody (topS 19)) (defScope (topS 19)) .none kV3 dc3 pm3 an3 cd3 ct3), sl3⟩) (c3 : PySem.W.codeIn K cd3 "count_columns" = true) (k3 : PySem.W.keepIn K (.ref f3) = true)
    (a4 : PySem.W.nsIn K mainGlobals "every_place" = some (some (.ref f4))) (l4 : K.lookup f4 = some ⟨oc4, od4, .func (PySem.W.fnOf "every_place" "every_place" (defArgs (topS 20)) (defBody (topS 20)) (defScope (topS 20)) .none kV4 dc4 pm4 an4 cd4 ct4), sl4⟩) (c4 : PySem.W.codeIn K cd4 "every_place" = true) (k4 : PySem.W.keepIn K (.ref f4) = true)
    (a5 : PySem.W.nsIn K mainGlobals "check_columns_below" = some (some (.ref f5))) (l5 : K.lookup f5 = some ⟨oc5, od5, .func (PySem.W.fnOf "check_columns_below" "check_columns_below" (defArgs (topS 21)) (defBody (topS 21)) (defScope (topS 21)) .none kV5 dc5 pm5 an5 cd5 ct5), sl5⟩) (c5 : PySem.W.codeIn K cd5 "check_columns_below" = true) (k5 : PySem.W.keepIn K (.ref f5) = true)
    (a6 : PySem.W.nsIn K mainGlobals "is_word" = some (some (.ref f6))) (l6 : K.lookup f6 = some ⟨oc6, od6, .func (PySem.W.fnOf "is_word" "is_word" (defArgs (topS 24)) (defBody (topS 24)) (defScope (topS 24)) .none kV6 dc6 pm6 an6 cd6 ct6), sl6⟩) (c6 : PySem.W.codeIn K cd6 "is_word" = true) (k6 : PySem.W.keepIn K (.ref f6) = true)
    (a7 : PySem.W.nsIn K mainGlobals "is_pair" = some (some (.ref f7))) (l7 : K.lookup f7 = some ⟨oc7, od7, .func (PySem.W.fnOf "is_pair" "is_pair" (defArgs (topS 25)) (defBody (topS 25)) (defScope (topS 25)) .none kV7 dc7 pm7 an7 cd7 ct7), sl7⟩) (c7 : PySem.W.codeIn K cd7 "is_pair" = true) (k7 : PySem.W.keepIn K (.ref f7) = true)
    (a8 : PySem.W.nsIn K mainGlobals "is_sort_column" = some (some (.ref f8))) (l8 : K.lookup f8 = some ⟨oc8, od8, .func (PySem.W.fnOf "is_sort_column" "is_sort_column" (defArgs (topS 26)) (defBody (topS 26)) (defScope (topS 26)) .none kV8 dc8 pm8 an8 cd8 ct8), sl8⟩) (c8 : PySem.W.codeIn K cd8 "is_sort_column" = true) (k8 : PySem.W.keepIn K (.ref f8) = true)
    (a9 : PySem.W.nsIn K mainGlobals "is_key" = some (some (.ref f9))) (l9 : K.lookup f9 = some ⟨oc9, od9, .func (PySem.W.fnOf "is_key" "is_key" (defArgs (topS 27)) (defBody (topS 27)) (defScope (topS 27)) .none kV9 dc9 pm9 an9 cd9 ct9), sl9⟩) (c9 : PySem.W.codeIn K cd9 "is_key" = true) (k9 : PySem.W.keepIn K (.ref f9) = true)
    (a10 : PySem.W.nsIn K mainGlobals "is_place_part" = some (some (.ref f10))) (l10 : K.lookup f10 = some ⟨oc10, od10, .func (PySem.W.fnOf "is_place_part" "is_place_part" (defArgs (topS 28)) (defBody (topS 28)) (defScope (topS 28)) .none kV10 dc10 pm10 an10 cd10 ct10), sl10⟩) (c10 : PySem.W.codeIn K cd10 "is_place_part" = true) (k10 : PySem.W.keepIn K (.ref f10) = true)
    (a11 : PySem.W.nsIn K mainGlobals "check_order" = some (some (.ref f11))) (l11 : K.lookup f11 = some ⟨oc11, od11, .func (PySem.W.fnOf "check_order" "check_order" (defArgs (topS 29)) (defBody (topS 29)) (defScope (topS 29)) .none kV11 dc11 pm11 an11 cd11 ct11), sl11⟩) (c11 : PySem.W.codeIn K cd11 "check_order" = true) (k11 : PySem.W.keepIn K (.ref f11) = true)
    (a12 : PySem.W.nsIn K mainGlobals "opposite" = some (some (.ref f12))) (l12 : K.lookup f12 = some ⟨oc12, od12, .func (PySem.W.fnOf "opposite" "opposite" (defArgs (topS 30)) (defBody (topS 30)) (defScope (topS 30)) .none kV12 dc12 pm12 an12 cd12 ct12), sl12⟩) (c12 : PySem.W.codeIn K cd12 "opposite" = true) (k12 : PySem.W.keepIn K (.ref f12) = true)
    (a13 : PySem.W.nsIn K mainGlobals "turned" = some (some (.ref f13))) (l13 : K.lookup f13 = some ⟨oc13, od13, .func (PySem.W.fnOf "turned" "turned" (defArgs (topS 31)) (defBody (topS 31)) (defScope (topS 31)) .none kV13 dc13 pm13 an13 cd13 ct13), sl13⟩) (c13 : PySem.W.codeIn K cd13 "turned" = true) (k13 : PySem.W.keepIn K (.ref f13) = true)
    (a14 : PySem.W.nsIn K mainGlobals "sort_values" = some (some (.ref f14))) (l14 : K.lookup f14 = some ⟨oc14, od14, .func (PySem.W.fnOf "sort_values" "sort_values" (defArgs (topS 32)) (defBody (topS 32)) (defScope (topS 32)) .none kV14 dc14 pm14 an14 cd14 ct14), sl14⟩) (c14 : PySem.W.codeIn K cd14 "sort_values" = true) (k14 : PySem.W.keepIn K (.ref f14) = true)
    (a15 : PySem.W.nsIn K mainGlobals "sorted_places" = some (some (.ref f15))) (l15 : K.lookup f15 = some ⟨oc15, od15, .func (PySem.W.fnOf "sorted_places" "sorted_places" (defArgs (topS 33)) (defBody (topS 33)) (defScope (topS 33)) .none kV15 dc15 pm15 an15 cd15 ct15), sl15⟩) (c15 : PySem.W.codeIn K cd15 "sorted_places" = true) (k15 : PySem.W.keepIn K (.ref f15) = true)
    (a16 : PySem.W.nsIn K mainGlobals "is_size" = some (some (.ref f16))) (l16 : K.lookup f16 = some ⟨oc16, od16, .func (PySem.W.fnOf "is_size" "is_size" (defArgs (topS 38)) (defBody (topS 38)) (defScope (topS 38)) .none kV16 dc16 pm16 an16 cd16 ct16), sl16⟩) (c16 : PySem.W.codeIn K cd16 "is_size" = true) (k16 : PySem.W.keepIn K (.ref f16) = true)
    (a17 : PySem.W.nsIn K mainGlobals "is_times" = some (some (.ref f17))) (l17 : K.lookup f17 = some ⟨oc17, od17, .func (PySem.W.fnOf "is_times" "is_times" (defArgs (topS 39)) (defBody (topS 39)) (defScope (topS 39)) .none kV17 dc17 pm17 an17 cd17 ct17), sl17⟩) (c17 : PySem.W.codeIn K cd17 "is_times" = true) (k17 : PySem.W.keepIn K (.ref f17) = true)
    (a18 : PySem.W.nsIn K mainGlobals "is_plain_command" = some (some (.ref f18))) (l18 : K.lookup f18 = some ⟨oc18, od18, .func (PySem.W.fnOf "is_plain_command" "is_plain_command" (defArgs (topS 40)) (defBody (topS 40)) (defScope (topS 40)) .none kV18 dc18 pm18 an18 cd18 ct18), sl18⟩) (c18 : PySem.W.codeIn K cd18 "is_plain_command" = true) (k18 : PySem.W.keepIn K (.ref f18) = true)
    (a19 : PySem.W.nsIn K mainGlobals "begins_repeat" = some (some (.ref f19))) (l19 : K.lookup f19 = some ⟨oc19, od19, .func (PySem.W.fnOf "begins_repeat" "begins_repeat" (defArgs (topS 41)) (defBody (topS 41)) (defScope (topS 41)) .none kV19 dc19 pm19 an19 cd19 ct19), sl19⟩) (c19 : PySem.W.codeIn K cd19 "begins_repeat" = true) (k19 : PySem.W.keepIn K (.ref f19) = true)
    (a20 : PySem.W.nsIn K mainGlobals "room_behind" = some (some (.ref f20))) (l20 : K.lookup f20 = some ⟨oc20, od20, .func (PySem.W.fnOf "room_behind" "room_behind" (defArgs (topS 42)) (defBody (topS 42)) (defScope (topS 42)) .none kV20 dc20 pm20 an20 cd20 ct20), sl20⟩) (c20 : PySem.W.codeIn K cd20 "room_behind" = true) (k20 : PySem.W.keepIn K (.ref f20) = true)
    (a21 : PySem.W.nsIn K mainGlobals "room_behind_command" = some (some (.ref f21))) (l21 : K.lookup f21 = some ⟨oc21, od21, .func (PySem.W.fnOf "room_behind_command" "room_behind_command" (defArgs (topS 43)) (defBody (topS 43)) (defScope (topS 43)) .none kV21 dc21 pm21 an21 cd21 ct21), sl21⟩) (c21 : PySem.W.codeIn K cd21 "room_behind_command" = true) (k21 : PySem.W.keepIn K (.ref f21) = true)
    (a22 : PySem.W.nsIn K mainGlobals "check_program" = some (some (.ref f22))) (l22 : K.lookup f22 = some ⟨oc22, od22, .func (PySem.W.fnOf "check_program" "check_program" (defArgs (topS 44)) (defBody (topS 44)) (defScope (topS 44)) .none kV22 dc22 pm22 an22 cd22 ct22), sl22⟩) (c22 : PySem.W.codeIn K cd22 "check_program" = true) (k22 : PySem.W.keepIn K (.ref f22) = true)
    (a23 : PySem.W.nsIn K mainGlobals "is_program" = some (some (.ref f23))) (l23 : K.lookup f23 = some ⟨oc23, od23, .func (PySem.W.fnOf "is_program" "is_program" (defArgs (topS 45)) (defBody (topS 45)) (defScope (topS 45)) .none kV23 dc23 pm23 an23 cd23 ct23), sl23⟩) (c23 : PySem.W.codeIn K cd23 "is_program" = true) (k23 : PySem.W.keepIn K (.ref f23) = true)
    (a24 : PySem.W.nsIn K mainGlobals "count_performed" = some (some (.ref f24))) (l24 : K.lookup f24 = some ⟨oc24, od24, .func (PySem.W.fnOf "count_performed" "count_performed" (defArgs (topS 46)) (defBody (topS 46)) (defScope (topS 46)) .none kV24 dc24 pm24 an24 cd24 ct24), sl24⟩) (c24 : PySem.W.codeIn K cd24 "count_performed" = true) (k24 : PySem.W.keepIn K (.ref f24) = true)
    (a25 : PySem.W.nsIn K mainGlobals "count_commands" = some (some (.ref f25))) (l25 : K.lookup f25 = some ⟨oc25, od25, .func (PySem.W.fnOf "count_commands" "count_commands" (defArgs (topS 47)) (defBody (topS 47)) (defScope (topS 47)) .none kV25 dc25 pm25 an25 cd25 ct25), sl25⟩) (c25 : PySem.W.codeIn K cd25 "count_commands" = true) (k25 : PySem.W.keepIn K (.ref f25) = true)
    (a26 : PySem.W.nsIn K mainGlobals "program_columns" = some (some (.ref f26))) (l26 : K.lookup f26 = some ⟨oc26, od26, .func (PySem.W.fnOf "program_columns" "program_columns" (defArgs (topS 48)) (defBody (topS 48)) (defScope (topS 48)) .none kV26 dc26 pm26 an26 cd26 ct26), sl26⟩) (c26 : PySem.W.codeIn K cd26 "program_columns" = true) (k26 : PySem.W.keepIn K (.ref f26) = true)
    (a27 : PySem.W.nsIn K mainGlobals "written_command" = some (some (.ref f27))) (l27 : K.lookup f27 = some ⟨oc27, od27, .func (PySem.W.fnOf "written_command" "written_command" (defArgs (topS 50)) (defBody (topS 50)) (defScope (topS 50)) .none kV27 dc27 pm27 an27 cd27 ct27), sl27⟩) (c27 : PySem.W.codeIn K cd27 "written_command" = true) (k27 : PySem.W.keepIn K (.ref f27) = true)
    (a28 : PySem.W.nsIn K mainGlobals "format_program" = some (some (.ref f28))) (l28 : K.lookup f28 = some ⟨oc28, od28, .func (PySem.W.fnOf "format_program" "format_program" (defArgs (topS 51)) (defBody (topS 51)) (defScope (topS 51)) .none kV28 dc28 pm28 an28 cd28 ct28), sl28⟩) (c28 : PySem.W.codeIn K cd28 "format_program" = true) (k28 : PySem.W.keepIn K (.ref f28) = true)
    (a29 : PySem.W.nsIn K mainGlobals "read_number" = some (some (.ref f29))) (l29 : K.lookup f29 = some ⟨oc29, od29, .func (PySem.W.fnOf "read_number" "read_number" (defArgs (topS 52)) (defBody (topS 52)) (defScope (topS 52)) .none kV29 dc29 pm29 an29 cd29 ct29), sl29⟩) (c29 : PySem.W.codeIn K cd29 "read_number" = true) (k29 : PySem.W.keepIn K (.ref f29) = true)
    (a30 : PySem.W.nsIn K mainGlobals "read_command" = some (some (.ref f30))) (l30 : K.lookup f30 = some ⟨oc30, od30, .func (PySem.W.fnOf "read_command" "read_command" (defArgs (topS 53)) (defBody (topS 53)) (defScope (topS 53)) .none kV30 dc30 pm30 an30 cd30 ct30), sl30⟩) (c30 : PySem.W.codeIn K cd30 "read_command" = true) (k30 : PySem.W.keepIn K (.ref f30) = true)
    (a31 : PySem.W.nsIn K mainGlobals "read_words" = some (some (.ref f31))) (l31 : K.lookup f31 = some ⟨oc31, od31, .func (PySem.W.fnOf "read_words" "read_words" (defArgs (topS 54)) (defBody (topS 54)) (defScope (topS 54)) .none kV31 dc31 pm31 an31 cd31 ct31), sl31⟩) (c31 : PySem.W.codeIn K cd31 "read_words" = true) (k31 : PySem.W.keepIn K (.ref f31) = true)
    (a32 : PySem.W.nsIn K mainGlobals "parse_program" = some (some (.ref f32))) (l32 : K.lookup f32 = some ⟨oc32, od32, .func (PySem.W.fnOf "parse_program" "parse_program" (defArgs (topS 55)) (defBody (topS 55)) (defScope (topS 55)) .none kV32 dc32 pm32 an32 cd32 ct32), sl32⟩) (c32 : PySem.W.codeIn K cd32 "parse_program" = true) (k32 : PySem.W.keepIn K (.ref f32) = true)
    (a33 : PySem.W.nsIn K mainGlobals "sorted_first" = some (some (.ref f33))) (l33 : K.lookup f33 = some ⟨oc33, od33, .func (PySem.W.fnOf "sorted_first" "sorted_first" (defArgs (topS 58)) (defBody (topS 58)) (defScope (topS 58)) .none kV33 dc33 pm33 an33 cd33 ct33), sl33⟩) (c33 : PySem.W.codeIn K cd33 "sorted_first" = true) (k33 : PySem.W.keepIn K (.ref f33) = true)
    (a34 : PySem.W.nsIn K mainGlobals "after_plain" = some (some (.ref f34))) (l34 : K.lookup f34 = some ⟨oc34, od34, .func (PySem.W.fnOf "after_plain" "after_plain" (defArgs (topS 59)) (defBody (topS 59)) (defScope (topS 59)) .none kV34 dc34 pm34 an34 cd34 ct34), sl34⟩) (c34 : PySem.W.codeIn K cd34 "after_plain" = true) (k34 : PySem.W.keepIn K (.ref f34) = true)
    (a35 : PySem.W.nsIn K mainGlobals "picks_of_plain" = some (some (.ref f35))) (l35 : K.lookup f35 = some ⟨oc35, od35, .func (PySem.W.fnOf "picks_of_plain" "picks_of_plain" (defArgs (topS 60)) (defBody (topS 60)) (defScope (topS 60)) .none kV35 dc35 pm35 an35 cd35 ct35), sl35⟩) (c35 : PySem.W.codeIn K cd35 "picks_of_plain" = true) (k35 : PySem.W.keepIn K (.ref f35) = true)
    (a36 : PySem.W.nsIn K mainGlobals "after_repeat" = some (some (.ref f36))) (l36 : K.lookup f36 = some ⟨oc36, od36, .func (PySem.W.fnOf "after_repeat" "after_repeat" (defArgs (topS 61)) (defBody (topS 61)) (defScope (topS 61)) .none kV36 dc36 pm36 an36 cd36 ct36), sl36⟩) (c36 : PySem.W.codeIn K cd36 "after_repeat" = true) (k36 : PySem.W.keepIn K (.ref f36) = true)
    (a37 : PySem.W.nsIn K mainGlobals "after_command" = some (some (.ref f37))) (l37 : K.lookup f37 = some ⟨oc37, od37, .func (PySem.W.fnOf "after_command" "after_command" (defArgs (topS 62)) (defBody (topS 62)) (defScope (topS 62)) .none kV37 dc37 pm37 an37 cd37 ct37), sl37⟩) (c37 : PySem.W.codeIn K cd37 "after_command" = true) (k37 : PySem.W.keepIn K (.ref f37) = true)
    (a38 : PySem.W.nsIn K mainGlobals "after_program" = some (some (.ref f38))) (l38 : K.lookup f38 = some ⟨oc38, od38, .func (PySem.W.fnOf "after_program" "after_program" (defArgs (topS 63)) (defBody (topS 63)) (defScope (topS 63)) .none kV38 dc38 pm38 an38 cd38 ct38), sl38⟩) (c38 : PySem.W.codeIn K cd38 "after_program" = true) (k38 : PySem.W.keepIn K (.ref f38) = true)
    (a39 : PySem.W.nsIn K mainGlobals "check_run" = some (some (.ref f39))) (l39 : K.lookup f39 = some ⟨oc39, od39, .func (PySem.W.fnOf "check_run" "check_run" (defArgs (topS 65)) (defBody (topS 65)) (defScope (topS 65)) .none kV39 dc39 pm39 an39 cd39 ct39), sl39⟩) (c39 : PySem.W.codeIn K cd39 "check_run" = true) (k39 : PySem.W.keepIn K (.ref f39) = true)
    (a40 : PySem.W.nsIn K mainGlobals "picked" = some (some (.ref f40))) (l40 : K.lookup f40 = some ⟨oc40, od40, .func (PySem.W.fnOf "picked" "picked" (defArgs (topS 66)) (defBody (topS 66)) (defScope (topS 66)) .none kV40 dc40 pm40 an40 cd40 ct40), sl40⟩) (c40 : PySem.W.codeIn K cd40 "picked" = true) (k40 : PySem.W.keepIn K (.ref f40) = true)
    (a41 : PySem.W.nsIn K mainGlobals "run_places" = some (some (.ref f41))) (l41 : K.lookup f41 = some ⟨oc41, od41, .func (PySem.W.fnOf "run_places" "run_places" (defArgs (topS 67)) (defBody (topS 67)) (defScope (topS 67)) .none kV41 dc41 pm41 an41 cd41 ct41), sl41⟩) (c41 : PySem.W.codeIn K cd41 "run_places" = true) (k41 : PySem.W.keepIn K (.ref f41) = true)
    (a42 : PySem.W.nsIn K mainGlobals "_law_cell" = some (some (.ref f42))) (l42 : K.lookup f42 = some ⟨oc42, od42, .func (PySem.W.fnOf "_law_cell" "_law_cell" (defArgs (topS 69)) (defBody (topS 69)) (defScope (topS 69)) .none kV42 dc42 pm42 an42 cd42 ct42), sl42⟩) (c42 : PySem.W.codeIn K cd42 "_law_cell" = true) (k42 : PySem.W.keepIn K (.ref f42) = true)
    (a43 : PySem.W.nsIn K mainGlobals "_law_pool" = some (some (.ref f43))) (l43 : K.lookup f43 = some ⟨oc43, od43, .func (PySem.W.fnOf "_law_pool" "_law_pool" (defArgs (topS 70)) (defBody (topS 70)) (defScope (topS 70)) .none kV43 dc43 pm43 an43 cd43 ct43), sl43⟩) (c43 : PySem.W.codeIn K cd43 "_law_pool" = true) (k43 : PySem.W.keepIn K (.ref f43) = true)
    (a44 : PySem.W.nsIn K mainGlobals "_law_draw" = some (some (.ref f44))) (l44 : K.lookup f44 = some ⟨oc44, od44, .func (PySem.W.fnOf "_law_draw" "_law_draw" (defArgs (topS 71)) (defBody (topS 71)) (defScope (topS 71)) .none kV44 dc44 pm44 an44 cd44 ct44), sl44⟩) (c44 : PySem.W.codeIn K cd44 "_law_draw" = true) (k44 : PySem.W.keepIn K (.ref f44) = true)
    (a45 : PySem.W.nsIn K mainGlobals "_law_table" = some (some (.ref f45))) (l45 : K.lookup f45 = some ⟨oc45, od45, .func (PySem.W.fnOf "_law_table" "_law_table" (defArgs (topS 72)) (defBody (topS 72)) (defScope (topS 72)) .none kV45 dc45 pm45 an45 cd45 ct45), sl45⟩) (c45 : PySem.W.codeIn K cd45 "_law_table" = true) (k45 : PySem.W.keepIn K (.ref f45) = true)
    (a46 : PySem.W.nsIn K mainGlobals "_law_steps" = some (some (.ref f46))) (l46 : K.lookup f46 = some ⟨oc46, od46, .func (PySem.W.fnOf "_law_steps" "_law_steps" (defArgs (topS 73)) (defBody (topS 73)) (defScope (topS 73)) .none kV46 dc46 pm46 an46 cd46 ct46), sl46⟩) (c46 : PySem.W.codeIn K cd46 "_law_steps" = true) (k46 : PySem.W.keepIn K (.ref f46) = true)
    (a47 : PySem.W.nsIn K mainGlobals "_law_program" = some (some (.ref f47))) (l47 : K.lookup f47 = some ⟨oc47, od47, .func (PySem.W.fnOf "_law_program" "_law_program" (defArgs (topS 74)) (defBody (topS 74)) (defScope (topS 74)) .none kV47 dc47 pm47 an47 cd47 ct47), sl47⟩) (c47 : PySem.W.codeIn K cd47 "_law_program" = true) (k47 : PySem.W.keepIn K (.ref f47) = true)
    (a48 : PySem.W.nsIn K mainGlobals "_law_all_right" = some (some (.ref f48))) (l48 : K.lookup f48 = some ⟨oc48, od48, .func (PySem.W.fnOf "_law_all_right" "_law_all_right" (defArgs (topS 75)) (defBody (topS 75)) (defScope (topS 75)) .none kV48 dc48 pm48 an48 cd48 ct48), sl48⟩) (c48 : PySem.W.codeIn K cd48 "_law_all_right" = true) (k48 : PySem.W.keepIn K (.ref f48) = true)
    (a49 : PySem.W.nsIn K mainGlobals "_law_right" = some (some (.ref f49))) (l49 : K.lookup f49 = some ⟨oc49, od49, .func (PySem.W.fnOf "_law_right" "_law_right" (defArgs (topS 76)) (defBody (topS 76)) (defScope (topS 76)) .none kV49 dc49 pm49 an49 cd49 ct49), sl49⟩) (c49 : PySem.W.codeIn K cd49 "_law_right" = true) (k49 : PySem.W.keepIn K (.ref f49) = true)
    (a50 : PySem.W.nsIn K mainGlobals "law" = some (some (.ref f50))) (l50 : K.lookup f50 = some ⟨oc50, od50, .func (PySem.W.fnOf "law" "law" (defArgs (topS 77)) (defBody (topS 77)) (defScope (topS 77)) .none kV50 dc50 pm50 an50 cd50 ct50), sl50⟩) (c50 : PySem.W.codeIn K cd50 "law" = true) (k50 : PySem.W.keepIn K (.ref f50) = true)
    (n_abs : PySem.W.nsIn K mainGlobals "abs" = some none)
    (n_all : PySem.W.nsIn K mainGlobals "all" = some none)
    (n_any : PySem.W.nsIn K mainGlobals "any" = some none)
    (n_bool : PySem.W.nsIn K mainGlobals "bool" = some none)
    (n_divmod : PySem.W.nsIn K mainGlobals "divmod" = some none)
    (n_enumerate : PySem.W.nsIn K mainGlobals "enumerate" = some none)
    (n_int : PySem.W.nsIn K mainGlobals "int" = some none)
    (n_isinstance : PySem.W.nsIn K mainGlobals "isinstance" = some none)
    (n_len : PySem.W.nsIn K mainGlobals "len" = some none)
    (n_max : PySem.W.nsIn K mainGlobals "max" = some none)
    (n_min : PySem.W.nsIn K mainGlobals "min" = some none)
    (n_range : PySem.W.nsIn K mainGlobals "range" = some none)
    (n_repr : PySem.W.nsIn K mainGlobals "repr" = some none)
    (n_sorted : PySem.W.nsIn K mainGlobals "sorted" = some none)
    (n_str : PySem.W.nsIn K mainGlobals "str" = some none)
    (n_sum : PySem.W.nsIn K mainGlobals "sum" = some none)
    (n_tuple : PySem.W.nsIn K mainGlobals "tuple" = some none)
    (c_MOST_COLUMNS : ∀ [LabW], ∃ uv : Value × V, mg "MOST_COLUMNS" = some uv.1 ∧ RelV uv.2 uv.1 ∧ ∀ Z, DD K Z uv.2 cv_MOST_COLUMNS)
    (c_MOST_RECORDS : ∀ [LabW], ∃ uv : Value × V, mg "MOST_RECORDS" = some uv.1 ∧ RelV uv.2 uv.1 ∧ ∀ Z, DD K Z uv.2 cv_MOST_RECORDS)
    (c_MOST_KEYS : ∀ [LabW], ∃ uv : Value × V, mg "MOST_KEYS" = some uv.1 ∧ RelV uv.2 uv.1 ∧ ∀ Z, DD K Z uv.2 cv_MOST_KEYS)
    (c_DIRECTIONS : ∀ [LabW], ∃ uv : Value × V, mg "DIRECTIONS" = some uv.1 ∧ RelV uv.2 uv.1 ∧ ∀ Z, DD K Z uv.2 cv_DIRECTIONS)
    (c_LEAST_SIZE : ∀ [LabW], ∃ uv : Value × V, mg "LEAST_SIZE" = some uv.1 ∧ RelV uv.2 uv.1 ∧ ∀ Z, DD K Z uv.2 cv_LEAST_SIZE)
    (c_MOST_SIZE : ∀ [LabW], ∃ uv : Value × V, mg "MOST_SIZE" = some uv.1 ∧ RelV uv.2 uv.1 ∧ ∀ Z, DD K Z uv.2 cv_MOST_SIZE)
    (c_MOST_TIMES : ∀ [LabW], ∃ uv : Value × V, mg "MOST_TIMES" = some uv.1 ∧ RelV uv.2 uv.1 ∧ ∀ Z, DD K Z uv.2 cv_MOST_TIMES)
    (c_CUTS : ∀ [LabW], ∃ uv : Value × V, mg "CUTS" = some uv.1 ∧ RelV uv.2 uv.1 ∧ ∀ Z, DD K Z uv.2 cv_CUTS)
    (c_BARE_WORDS : ∀ [LabW], ∃ uv : Value × V, mg "BARE_WORDS" = some uv.1 ∧ RelV uv.2 uv.1 ∧ ∀ Z, DD K Z uv.2 cv_BARE_WORDS)
    (c_MOST_NESTED : ∀ [LabW], ∃ uv : Value × V, mg "MOST_NESTED" = some uv.1 ∧ RelV uv.2 uv.1 ∧ ∀ Z, DD K Z uv.2 cv_MOST_NESTED)
    (c_MOST_COMMANDS : ∀ [LabW], ∃ uv : Value × V, mg "MOST_COMMANDS" = some uv.1 ∧ RelV uv.2 uv.1 ∧ ∀ Z, DD K Z uv.2 cv_MOST_COMMANDS)
    (c_START : ∀ [LabW], ∃ uv : Value × V, mg "START" = some uv.1 ∧ RelV uv.2 uv.1 ∧ ∀ Z, DD K Z uv.2 cv_START)
    (xa_InvalidTable : PySem.W.nsIn K mainGlobals "InvalidTable" = some (some (.ref C_InvalidTable)))
    (xa_InvalidProgram : PySem.W.nsIn K mainGlobals "InvalidProgram" = some (some (.ref C_InvalidProgram)))
    (xa_InvalidText : PySem.W.nsIn K mainGlobals "InvalidText" = some (some (.ref C_InvalidText)))
    (xi_InvalidTable : PySem.W.findIn K (.ref C_InvalidTable) "__init__" = some (some (.ref FI_InvalidTable))) (xt_InvalidTable : PySem.W.typeIn K (.ref FI_InvalidTable) = some (.type "function")) (xn_InvalidTable : PySem.W.findIn K (.ref C_InvalidTable) "index" = some none) (xl_InvalidTable : K.lookup FI_InvalidTable = some ⟨xoc_InvalidTable, xod_InvalidTable, .func (PySem.W.fnOf "__init__" "InvalidTable.__init__" (defArgs (inS 2 0)) (defBody (inS 2 0)) (defScope (inS 2 0)) .none xkV_InvalidTable xdc_InvalidTable xpm_InvalidTable xan_InvalidTable xcd_InvalidTable xct_InvalidTable), xsl_InvalidTable⟩) (xc_InvalidTable : PySem.W.codeIn K xcd_InvalidTable "InvalidTable.__init__" = true) (xk_InvalidTable : PySem.W.keepIn K (.ref FI_InvalidTable) = true) (x_InvalidTable : OexC K C_InvalidTable)
    (xi_InvalidProgram : PySem.W.findIn K (.ref C_InvalidProgram) "__init__" = some (some (.ref FI_InvalidProgram))) (xt_InvalidProgram : PySem.W.typeIn K (.ref FI_InvalidProgram) = some (.type "function")) (xn_InvalidProgram : PySem.W.findIn K (.ref C_InvalidProgram) "index" = some none) (xl_InvalidProgram : K.lookup FI_InvalidProgram = some ⟨xoc_InvalidProgram, xod_InvalidProgram, .func (PySem.W.fnOf "__init__" "InvalidProgram.__init__" (defArgs (inS 4 0)) (defBody (inS 4 0)) (defScope (inS 4 0)) .none xkV_InvalidProgram xdc_InvalidProgram xpm_InvalidProgram xan_InvalidProgram xcd_InvalidProgram xct_InvalidProgram), xsl_InvalidProgram⟩) (xc_InvalidProgram : PySem.W.codeIn K xcd_InvalidProgram "InvalidProgram.__init__" = true) (xk_InvalidProgram : PySem.W.keepIn K (.ref FI_InvalidProgram) = true) (x_InvalidProgram : OexC K C_InvalidProgram)
    (xi_InvalidText : PySem.W.findIn K (.ref C_InvalidText) "__init__" = some (some (.ref FI_InvalidText))) (xt_InvalidText : PySem.W.typeIn K (.ref FI_InvalidText) = some (.type "function")) (xn_InvalidText : PySem.W.findIn K (.ref C_InvalidText) "text" = some none) (xl_InvalidText : K.lookup FI_InvalidText = some ⟨xoc_InvalidText, xod_InvalidText, .func (PySem.W.fnOf "__init__" "InvalidText.__init__" (defArgs (inS 5 0)) (defBody (inS 5 0)) (defScope (inS 5 0)) .none xkV_InvalidText xdc_InvalidText xpm_InvalidText xan_InvalidText xcd_InvalidText xct_InvalidText), xsl_InvalidText⟩) (xc_InvalidText : PySem.W.codeIn K xcd_InvalidText "InvalidText.__init__" = true) (xk_InvalidText : PySem.W.keepIn K (.ref FI_InvalidText) = true) (x_InvalidText : OexC K C_InvalidText)
    (xe_InvalidTable_InvalidProgram : PySem.W.exmOne K (.ref C_InvalidTable) (.ref C_InvalidProgram) = some false)
    (xe_InvalidProgram_InvalidProgram : PySem.W.exmOne K (.ref C_InvalidProgram) (.ref C_InvalidProgram) = some true)
    (xe_InvalidText_InvalidProgram : PySem.W.exmOne K (.ref C_InvalidText) (.ref C_InvalidProgram) = some false)
    (cq_sorted_places : cd15 = .ref c_sorted_places) (tbx_sorted_places : LamX.TabB base mg c_sorted_places P_sorted_places) (lbx_sorted_places : (P_sorted_places, ("sorted_places" ++ ".<locals>." : Str) ++ "<lambda>") ∈ Lab.T) (lux_sorted_places : ∀ p ∈ Lab.T, p.1 = P_sorted_places → p.2 = ("sorted_places" ++ ".<locals>." : Str) ++ "<lambda>") : Tx Lab.T K mg base w where
  hw := hw
  A := fun i => match i with
    | 0 => f0
    | 1 => f1
    | 2 => f2
    | 3 => f3
    | 4 => f4
    | 5 => f5
    | 6 => f6
    | 7 => f7
    | 8 => f8
    | 9 => f9
    | 10 => f10
    | 11 => f11
    | 12 => f12
    | 13 => f13
    | 14 => f14
    | 15 => f15
    | 16 => f16
    | 17 => f17
    | 18 => f18
    | 19 => f19
    | 20 => f20
    | 21 => f21
    | 22 => f22
    | 23 => f23
    | 24 => f24
    | 25 => f25
    | 26 => f26
    | 27 => f27
    | 28 => f28
    | 29 => f29
    | 30 => f30
    | 31 => f31
    | 32 => f32
    | 33 => f33
    | 34 => f34
    | 35 => f35
    | 36 => f36
    | 37 => f37
    | 38 => f38
    | 39 => f39
    | 40 => f40
    | 41 => f41
    | 42 => f42
    | 43 => f43
    | 44 => f44
    | 45 => f45
    | 46 => f46
    | 47 => f47
    | 48 => f48
    | 49 => f49
    | 50 => f50
    | _ => f0
  FD := fun i => match i with
    | 0 => (PySem.W.fnOf "is_integer" "is_integer" (defArgs (topS 16)) (defBody (topS 16)) (defScope (topS 16)) .none kV0 dc0 pm0 an0 cd0 ct0)
    | 1 => (PySem.W.fnOf "is_record" "is_record" (defArgs (topS 17)) (defBody (topS 17)) (defScope (topS 17)) .none kV1 dc1 pm1 an1 cd1 ct1)
    | 2 => (PySem.W.fnOf "check_table" "check_table" (defArgs (topS 18)) (defBody (topS 18)) (defScope (topS 18)) .none kV2 dc2 pm2 an2 cd2 ct2)
    | 3 => (PySem.W.fnOf "count_columns" "count_columns" (defArgs (topS 19)) (defBody (topS 19)) (defScope (topS 19)) .none kV3 dc3 pm3 an3 cd3 ct3)
    | 4 => (PySem.W.fnOf "every_place" "every_place" (defArgs (topS 20)) (defBody (topS 20)) (defScope (topS 20)) .none kV4 dc4 pm4 an4 cd4 ct4)
    | 5 => (PySem.W.fnOf "check_columns_below" "check_columns_below" (defArgs (topS 21)) (defBody (topS 21)) (defScope (topS 21)) .none kV5 dc5 pm5 an5 cd5 ct5)
    | 6 => (PySem.W.fnOf "is_word" "is_word" (defArgs (topS 24)) (defBody (topS 24)) (defScope (topS 24)) .none kV6 dc6 pm6 an6 cd6 ct6)
    | 7 => (PySem.W.fnOf "is_pair" "is_pair" (defArgs (topS 25)) (defBody (topS 25)) (defScope (topS 25)) .none kV7 dc7 pm7 an7 cd7 ct7)
    | 8 => (PySem.W.fnOf "is_sort_column" "is_sort_column" (defArgs (topS 26)) (defBody (topS 26)) (defScope (topS 26)) .none kV8 dc8 pm8 an8 cd8 ct8)
    | 9 => (PySem.W.fnOf "is_key" "is_key" (defArgs (topS 27)) (defBody (topS 27)) (defScope (topS 27)) .none kV9 dc9 pm9 an9 cd9 ct9)
    | 10 => (PySem.W.fnOf "is_place_part" "is_place_part" (defArgs (topS 28)) (defBody (topS 28)) (defScope (topS 28)) .none kV10 dc10 pm10 an10 cd10 ct10)
    | 11 => (PySem.W.fnOf "check_order" "check_order" (defArgs (topS 29)) (defBody (topS 29)) (defScope (topS 29)) .none kV11 dc11 pm11 an11 cd11 ct11)
    | 12 => (PySem.W.fnOf "opposite" "opposite" (defArgs (topS 30)) (defBody (topS 30)) (defScope (topS 30)) .none kV12 dc12 pm12 an12 cd12 ct12)
    | 13 => (PySem.W.fnOf "turned" "turned" (defArgs (topS 31)) (defBody (topS 31)) (defScope (topS 31)) .none kV13 dc13 pm13 an13 cd13 ct13)
    | 14 => (PySem.W.fnOf "sort_values" "sort_values" (defArgs (topS 32)) (defBody (topS 32)) (defScope (topS 32)) .none kV14 dc14 pm14 an14 cd14 ct14)
    | 15 => (PySem.W.fnOf "sorted_places" "sorted_places" (defArgs (topS 33)) (defBody (topS 33)) (defScope (topS 33)) .none kV15 dc15 pm15 an15 cd15 ct15)
    | 16 => (PySem.W.fnOf "is_size" "is_size" (defArgs (topS 38)) (defBody (topS 38)) (defScope (topS 38)) .none kV16 dc16 pm16 an16 cd16 ct16)
    | 17 => (PySem.W.fnOf "is_times" "is_times" (defArgs (topS 39)) (defBody (topS 39)) (defScope (topS 39)) .none kV17 dc17 pm17 an17 cd17 ct17)
    | 18 => (PySem.W.fnOf "is_plain_command" "is_plain_command" (defArgs (topS 40)) (defBody (topS 40)) (defScope (topS 40)) .none kV18 dc18 pm18 an18 cd18 ct18)
    | 19 => (PySem.W.fnOf "begins_repeat" "begins_repeat" (defArgs (topS 41)) (defBody (topS 41)) (defScope (topS 41)) .none kV19 dc19 pm19 an19 cd19 ct19)
    | 20 => (PySem.W.fnOf "room_behind" "room_behind" (defArgs (topS 42)) (defBody (topS 42)) (defScope (topS 42)) .none kV20 dc20 pm20 an20 cd20 ct20)
    | 21 => (PySem.W.fnOf "room_behind_command" "room_behind_command" (defArgs (topS 43)) (defBody (topS 43)) (defScope (topS 43)) .none kV21 dc21 pm21 an21 cd21 ct21)
    | 22 => (PySem.W.fnOf "check_program" "check_program" (defArgs (topS 44)) (defBody (topS 44)) (defScope (topS 44)) .none kV22 dc22 pm22 an22 cd22 ct22)
    | 23 => (PySem.W.fnOf "is_program" "is_program" (defArgs (topS 45)) (defBody (topS 45)) (defScope (topS 45)) .none kV23 dc23 pm23 an23 cd23 ct23)
    | 24 => (PySem.W.fnOf "count_performed" "count_performed" (defArgs (topS 46)) (defBody (topS 46)) (defScope (topS 46)) .none kV24 dc24 pm24 an24 cd24 ct24)
    | 25 => (PySem.W.fnOf "count_commands" "count_commands" (defArgs (topS 47)) (defBody (topS 47)) (defScope (topS 47)) .none kV25 dc25 pm25 an25 cd25 ct25)
    | 26 => (PySem.W.fnOf "program_columns" "program_columns" (defArgs (topS 48)) (defBody (topS 48)) (defScope (topS 48)) .none kV26 dc26 pm26 an26 cd26 ct26)
    | 27 => (PySem.W.fnOf "written_command" "written_command" (defArgs (topS 50)) (defBody (topS 50)) (defScope (topS 50)) .none kV27 dc27 pm27 an27 cd27 ct27)
    | 28 => (PySem.W.fnOf "format_program" "format_program" (defArgs (topS 51)) (defBody (topS 51)) (defScope (topS 51)) .none kV28 dc28 pm28 an28 cd28 ct28)
    | 29 => (PySem.W.fnOf "read_number" "read_number" (defArgs (topS 52)) (defBody (topS 52)) (defScope (topS 52)) .none kV29 dc29 pm29 an29 cd29 ct29)
    | 30 => (PySem.W.fnOf "read_command" "read_command" (defArgs (topS 53)) (defBody (topS 53)) (defScope (topS 53)) .none kV30 dc30 pm30 an30 cd30 ct30)
    | 31 => (PySem.W.fnOf "read_words" "read_words" (defArgs (topS 54)) (defBody (topS 54)) (defScope (topS 54)) .none kV31 dc31 pm31 an31 cd31 ct31)
    | 32 => (PySem.W.fnOf "parse_program" "parse_program" (defArgs (topS 55)) (defBody (topS 55)) (defScope (topS 55)) .none kV32 dc32 pm32 an32 cd32 ct32)
    | 33 => (PySem.W.fnOf "sorted_first" "sorted_first" (defArgs (topS 58)) (defBody (topS 58)) (defScope (topS 58)) .none kV33 dc33 pm33 an33 cd33 ct33)
    | 34 => (PySem.W.fnOf "after_plain" "after_plain" (defArgs (topS 59)) (defBody (topS 59)) (defScope (topS 59)) .none kV34 dc34 pm34 an34 cd34 ct34)
    | 35 => (PySem.W.fnOf "picks_of_plain" "picks_of_plain" (defArgs (topS 60)) (defBody (topS 60)) (defScope (topS 60)) .none kV35 dc35 pm35 an35 cd35 ct35)
    | 36 => (PySem.W.fnOf "after_repeat" "after_repeat" (defArgs (topS 61)) (defBody (topS 61)) (defScope (topS 61)) .none kV36 dc36 pm36 an36 cd36 ct36)
    | 37 => (PySem.W.fnOf "after_command" "after_command" (defArgs (topS 62)) (defBody (topS 62)) (defScope (topS 62)) .none kV37 dc37 pm37 an37 cd37 ct37)
    | 38 => (PySem.W.fnOf "after_program" "after_program" (defArgs (topS 63)) (defBody (topS 63)) (defScope (topS 63)) .none kV38 dc38 pm38 an38 cd38 ct38)
    | 39 => (PySem.W.fnOf "check_run" "check_run" (defArgs (topS 65)) (defBody (topS 65)) (defScope (topS 65)) .none kV39 dc39 pm39 an39 cd39 ct39)
    | 40 => (PySem.W.fnOf "picked" "picked" (defArgs (topS 66)) (defBody (topS 66)) (defScope (topS 66)) .none kV40 dc40 pm40 an40 cd40 ct40)
    | 41 => (PySem.W.fnOf "run_places" "run_places" (defArgs (topS 67)) (defBody (topS 67)) (defScope (topS 67)) .none kV41 dc41 pm41 an41 cd41 ct41)
    | 42 => (PySem.W.fnOf "_law_cell" "_law_cell" (defArgs (topS 69)) (defBody (topS 69)) (defScope (topS 69)) .none kV42 dc42 pm42 an42 cd42 ct42)
    | 43 => (PySem.W.fnOf "_law_pool" "_law_pool" (defArgs (topS 70)) (defBody (topS 70)) (defScope (topS 70)) .none kV43 dc43 pm43 an43 cd43 ct43)
    | 44 => (PySem.W.fnOf "_law_draw" "_law_draw" (defArgs (topS 71)) (defBody (topS 71)) (defScope (topS 71)) .none kV44 dc44 pm44 an44 cd44 ct44)
    | 45 => (PySem.W.fnOf "_law_table" "_law_table" (defArgs (topS 72)) (defBody (topS 72)) (defScope (topS 72)) .none kV45 dc45 pm45 an45 cd45 ct45)
    | 46 => (PySem.W.fnOf "_law_steps" "_law_steps" (defArgs (topS 73)) (defBody (topS 73)) (defScope (topS 73)) .none kV46 dc46 pm46 an46 cd46 ct46)
    | 47 => (PySem.W.fnOf "_law_program" "_law_program" (defArgs (topS 74)) (defBody (topS 74)) (defScope (topS 74)) .none kV47 dc47 pm47 an47 cd47 ct47)
    | 48 => (PySem.W.fnOf "_law_all_right" "_law_all_right" (defArgs (topS 75)) (defBody (topS 75)) (defScope (topS 75)) .none kV48 dc48 pm48 an48 cd48 ct48)
    | 49 => (PySem.W.fnOf "_law_right" "_law_right" (defArgs (topS 76)) (defBody (topS 76)) (defScope (topS 76)) .none kV49 dc49 pm49 an49 cd49 ct49)
    | 50 => (PySem.W.fnOf "law" "law" (defArgs (topS 77)) (defBody (topS 77)) (defScope (topS 77)) .none kV50 dc50 pm50 an50 cd50 ct50)
    | _ => (PySem.W.fnOf "is_integer" "is_integer" (defArgs (topS 16)) (defBody (topS 16)) (defScope (topS 16)) .none kV0 dc0 pm0 an0 cd0 ct0)
  D_is_integer := fun_mk (st := (topS 16)) l0 c0 k0
  g_is_integer := PySem.W.mg_of X G a0
  D_is_record := fun_mk (st := (topS 17)) l1 c1 k1
  g_is_record := PySem.W.mg_of X G a1
  D_check_table := fun_mk (st := (topS 18)) l2 c2 k2
  g_check_table := PySem.W.mg_of X G a2
  D_count_columns := fun_mk (st := (topS 19)) l3 c3 k3
  g_count_columns := PySem.W.mg_of X G a3
  D_every_place := fun_mk (st := (topS 20)) l4 c4 k4
  g_every_place := PySem.W.mg_of X G a4
  D_check_columns_below := fun_mk (st := (topS 21)) l5 c5 k5
  g_check_columns_below := PySem.W.mg_of X G a5
  D_is_word := fun_mk (st := (topS 24)) l6 c6 k6
  g_is_word := PySem.W.mg_of X G a6
  D_is_pair := fun_mk (st := (topS 25)) l7 c7 k7
  g_is_pair := PySem.W.mg_of X G a7
  D_is_sort_column := fun_mk (st := (topS 26)) l8 c8 k8
  g_is_sort_column := PySem.W.mg_of X G a8
  D_is_key := fun_mk (st := (topS 27)) l9 c9 k9
  g_is_key := PySem.W.mg_of X G a9
  D_is_place_part := fun_mk (st := (topS 28)) l10 c10 k10
  g_is_place_part := PySem.W.mg_of X G a10
  D_check_order := fun_mk (st := (topS 29)) l11 c11 k11
  g_check_order := PySem.W.mg_of X G a11
  D_opposite := fun_mk (st := (topS 30)) l12 c12 k12
  g_opposite := PySem.W.mg_of X G a12
  D_turned := fun_mk (st := (topS 31)) l13 c13 k13
  g_turned := PySem.W.mg_of X G a13
  D_sort_values := fun_mk (st := (topS 32)) l14 c14 k14
  g_sort_values := PySem.W.mg_of X G a14
  D_sorted_places := fun_mk (st := (topS 33)) l15 c15 k15
  g_sorted_places := PySem.W.mg_of X G a15
  D_is_size := fun_mk (st := (topS 38)) l16 c16 k16
  g_is_size := PySem.W.mg_of X G a16
  D_is_times := fun_mk (st := (topS 39)) l17 c17 k17
  g_is_times := PySem.W.mg_of X G a17
  D_is_plain_command := fun_mk (st := (topS 40)) l18 c18 k18
  g_is_plain_command := PySem.W.mg_of X G a18
  D_begins_repeat := fun_mk (st := (topS 41)) l19 c19 k19
  g_begins_repeat := PySem.W.mg_of X G a19
  D_room_behind := fun_mk (st := (topS 42)) l20 c20 k20
  g_room_behind := PySem.W.mg_of X G a20
  D_room_behind_command := fun_mk (st := (topS 43)) l21 c21 k21
  g_room_behind_command := PySem.W.mg_of X G a21
  D_check_program := fun_mk (st := (topS 44)) l22 c22 k22
  g_check_program := PySem.W.mg_of X G a22
  D_is_program := fun_mk (st := (topS 45)) l23 c23 k23
  g_is_program := PySem.W.mg_of X G a23
  D_count_performed := fun_mk (st := (topS 46)) l24 c24 k24
  g_count_performed := PySem.W.mg_of X G a24
  D_count_commands := fun_mk (st := (topS 47)) l25 c25 k25
  g_count_commands := PySem.W.mg_of X G a25
  D_program_columns := fun_mk (st := (topS 48)) l26 c26 k26
  g_program_columns := PySem.W.mg_of X G a26
  D_written_command := fun_mk (st := (topS 50)) l27 c27 k27
  g_written_command := PySem.W.mg_of X G a27
  D_format_program := fun_mk (st := (topS 51)) l28 c28 k28
  g_format_program := PySem.W.mg_of X G a28
  D_read_number := fun_mk (st := (topS 52)) l29 c29 k29
  g_read_number := PySem.W.mg_of X G a29
  D_read_command := fun_mk (st := (topS 53)) l30 c30 k30
  g_read_command := PySem.W.mg_of X G a30
  D_read_words := fun_mk (st := (topS 54)) l31 c31 k31
  g_read_words := PySem.W.mg_of X G a31
  D_parse_program := fun_mk (st := (topS 55)) l32 c32 k32
  g_parse_program := PySem.W.mg_of X G a32
  D_sorted_first := fun_mk (st := (topS 58)) l33 c33 k33
  g_sorted_first := PySem.W.mg_of X G a33
  D_after_plain := fun_mk (st := (topS 59)) l34 c34 k34
  g_after_plain := PySem.W.mg_of X G a34
  D_picks_of_plain := fun_mk (st := (topS 60)) l35 c35 k35
  g_picks_of_plain := PySem.W.mg_of X G a35
  D_after_repeat := fun_mk (st := (topS 61)) l36 c36 k36
  g_after_repeat := PySem.W.mg_of X G a36
  D_after_command := fun_mk (st := (topS 62)) l37 c37 k37
  g_after_command := PySem.W.mg_of X G a37
  D_after_program := fun_mk (st := (topS 63)) l38 c38 k38
  g_after_program := PySem.W.mg_of X G a38
  D_check_run := fun_mk (st := (topS 65)) l39 c39 k39
  g_check_run := PySem.W.mg_of X G a39
  D_picked := fun_mk (st := (topS 66)) l40 c40 k40
  g_picked := PySem.W.mg_of X G a40
  D_run_places := fun_mk (st := (topS 67)) l41 c41 k41
  g_run_places := PySem.W.mg_of X G a41
  D__law_cell := fun_mk (st := (topS 69)) l42 c42 k42
  g__law_cell := PySem.W.mg_of X G a42
  D__law_pool := fun_mk (st := (topS 70)) l43 c43 k43
  g__law_pool := PySem.W.mg_of X G a43
  D__law_draw := fun_mk (st := (topS 71)) l44 c44 k44
  g__law_draw := PySem.W.mg_of X G a44
  D__law_table := fun_mk (st := (topS 72)) l45 c45 k45
  g__law_table := PySem.W.mg_of X G a45
  D__law_steps := fun_mk (st := (topS 73)) l46 c46 k46
  g__law_steps := PySem.W.mg_of X G a46
  D__law_program := fun_mk (st := (topS 74)) l47 c47 k47
  g__law_program := PySem.W.mg_of X G a47
  D__law_all_right := fun_mk (st := (topS 75)) l48 c48 k48
  g__law_all_right := PySem.W.mg_of X G a48
  D__law_right := fun_mk (st := (topS 76)) l49 c49 k49
  g__law_right := PySem.W.mg_of X G a49
  D_law := fun_mk (st := (topS 77)) l50 c50 k50
  g_law := PySem.W.mg_of X G a50
  n_abs := PySem.W.mg_none_of X G n_abs
  n_all := PySem.W.mg_none_of X G n_all
  n_any := PySem.W.mg_none_of X G n_any
  n_bool := PySem.W.mg_none_of X G n_bool
  n_divmod := PySem.W.mg_none_of X G n_divmod
  n_enumerate := PySem.W.mg_none_of X G n_enumerate
  n_int := PySem.W.mg_none_of X G n_int
  n_isinstance := PySem.W.mg_none_of X G n_isinstance
  n_len := PySem.W.mg_none_of X G n_len
  n_max := PySem.W.mg_none_of X G n_max
  n_min := PySem.W.mg_none_of X G n_min
  n_range := PySem.W.mg_none_of X G n_range
  n_repr := PySem.W.mg_none_of X G n_repr
  n_sorted := PySem.W.mg_none_of X G n_sorted
  n_str := PySem.W.mg_none_of X G n_str
  n_sum := PySem.W.mg_none_of X G n_sum
  n_tuple := PySem.W.mg_none_of X G n_tuple
  c_MOST_COLUMNS := c_MOST_COLUMNS
  c_MOST_RECORDS := c_MOST_RECORDS
  c_MOST_KEYS := c_MOST_KEYS
  c_DIRECTIONS := c_DIRECTIONS
  c_LEAST_SIZE := c_LEAST_SIZE
  c_MOST_SIZE := c_MOST_SIZE
  c_MOST_TIMES := c_MOST_TIMES
  c_CUTS := c_CUTS
  c_BARE_WORDS := c_BARE_WORDS
  c_MOST_NESTED := c_MOST_NESTED
  c_MOST_COMMANDS := c_MOST_COMMANDS
  c_START := c_START
  xm_InvalidTable := PySem.W.mg_of X G xa_InvalidTable
  xm_InvalidProgram := PySem.W.mg_of X G xa_InvalidProgram
  xm_InvalidText := PySem.W.mg_of X G xa_InvalidText
  xi_InvalidTable := xi_InvalidTable
  xt_InvalidTable := xt_InvalidTable
  xn_InvalidTable := xn_InvalidTable
  xD_InvalidTable := fun_mk (st := (inS 2 0)) xl_InvalidTable xc_InvalidTable xk_InvalidTable
  x_InvalidTable := x_InvalidTable
  xi_InvalidProgram := xi_InvalidProgram
  xt_InvalidProgram := xt_InvalidProgram
  xn_InvalidProgram := xn_InvalidProgram
  xD_InvalidProgram := fun_mk (st := (inS 4 0)) xl_InvalidProgram xc_InvalidProgram xk_InvalidProgram
  x_InvalidProgram := x_InvalidProgram
  xi_InvalidText := xi_InvalidText
  xt_InvalidText := xt_InvalidText
  xn_InvalidText := xn_InvalidText
  xD_InvalidText := fun_mk (st := (inS 5 0)) xl_InvalidText xc_InvalidText xk_InvalidText
  x_InvalidText := x_InvalidText
  xe_InvalidTable_InvalidProgram := xe_InvalidTable_InvalidProgram
  xe_InvalidProgram_InvalidProgram := xe_InvalidProgram_InvalidProgram
  xe_InvalidText_InvalidProgram := xe_InvalidText_InvalidProgram
  C := clsOf [("InvalidTable", C_InvalidTable), ("InvalidProgram", C_InvalidProgram), ("InvalidText", C_InvalidText)] 0
  FI := clsOf [("InvalidTable", FI_InvalidTable), ("InvalidProgram", FI_InvalidProgram), ("InvalidText", FI_InvalidText)] 0
  FDI := clsOf [("InvalidTable", (PySem.W.fnOf "__init__" "InvalidTable.__init__" (defArgs (inS 2 0)) (defBody (inS 2 0)) (defScope (inS 2 0)) .none xkV_InvalidTable xdc_InvalidTable xpm_InvalidTable xan_InvalidTable xcd_InvalidTable xct_InvalidTable)), ("InvalidProgram", (PySem.W.fnOf "__init__" "InvalidProgram.__init__" (defArgs (inS 4 0)) (defBody (inS 4 0)) (defScope (inS 4 0)) .none xkV_InvalidProgram xdc_InvalidProgram xpm_InvalidProgram xan_InvalidProgram xcd_InvalidProgram xct_InvalidProgram)), ("InvalidText", (PySem.W.fnOf "__init__" "InvalidText.__init__" (defArgs (inS 5 0)) (defBody (inS 5 0)) (defScope (inS 5 0)) .none xkV_InvalidText xdc_InvalidText xpm_InvalidText xan_InvalidText xcd_InvalidText xct_InvalidText))] (PySem.W.fnOf "__init__" "InvalidTable.__init__" (defArgs (inS 2 0)) (defBody (inS 2 0)) (defScope (inS 2 0)) .none xkV_InvalidTable xdc_InvalidTable xpm_InvalidTable xan_InvalidTable xcd_InvalidTable xct_InvalidTable)
  cP_sorted_places := (c_sorted_places, P_sorted_places)
  tb_sorted_places := tbx_sorted_places
  cd_sorted_places := (show cd15 = .ref c_sorted_places from cq_sorted_places)
  lb_sorted_places := lbx_sorted_places
  lu_sorted_places := lux_sorted_places
theorem all_mk {l : PySem.W.OpenLaw} {w : World} {K : PySem.W.Frag} {h : Heap} {mg : Str → Option Value} {fa : Addr} (X : K.In h) (G : h.Ns mainGlobals mg) (hfa : mg "law" = some (.ref fa))
    {f0 : Addr} {od0 an0 : Option Addr} {sl0 : Array (Option Value)} {oc0 kV0 dc0 pm0 cd0 ct0 : Value}
    {f1 : Addr} {od1 an1 : Option Addr} {sl1 : Array (Option Value)} {oc1 kV1 dc1 pm1 cd1 ct1 : Value}
    {f2 : Addr} {od2 an2 : Option Addr} {sl2 : Array (Option Value)} {oc2 kV2 dc2 pm2 cd2 ct2 : Value}
    {f3 : Addr} {od3 an3 : Option Addr} {sl3 : Array (Option Value)} {oc3 kV3 dc3 pm3 cd3 ct3 : Value}
    {f4 : Addr} {od4 an4 : Option Addr} {sl4 : Array (Option Value)} {oc4 kV4 dc4 pm4 cd4 ct4 : Value}
    {f5 : Addr} {od5 an5 : Option Addr} {sl5 : Array (Option Value)} {oc5 kV5 dc5 pm5 cd5 ct5 : Value}
    {f6 : Addr} {od6 an6 : Option Addr} {sl6 : Array (Option Value)} {oc6 kV6 dc6 pm6 cd6 ct6 : Value}
    {f7 : Addr} {od7 an7 : Option Addr} {sl7 : Array (Option Value)} {oc7 kV7 dc7 pm7 cd7 ct7 : Value}
    {f8 : Addr} {od8 an8 : Option Addr} {sl8 : Array (Option Value)} {oc8 kV8 dc8 pm8 cd8 ct8 : Value}
    {f9 : Addr} {od9 an9 : Option Addr} {sl9 : Array (Option Value)} {oc9 kV9 dc9 pm9 cd9 ct9 : Value}
    {f10 : Addr} {od10 an10 : Option Addr} {sl10 : Array (Option Value)} {oc10 kV10 dc10 pm10 cd10 ct10 : Value}
    {f11 : Addr} {od11 an11 : Option Addr} {sl11 : Array (Option Value)} {oc11 kV11 dc11 pm11 cd11 ct11 : Value}
    {f12 : Addr} {od12 an12 : Option Addr} {sl12 : Array (Option Value)} {oc12 kV12 dc12 pm12 cd12 ct12 : Value}
    {f13 : Addr} {od13 an13 : Option Addr} {sl13 : Array (Option Value)} {oc13 kV13 dc13 pm13 cd13 ct13 : Value}
    {f14 : Addr} {od14 an14 : Option Addr} {sl14 : Array (Option Value)} {oc14 kV14 dc14 pm14 cd14 ct14 : Value}
    {f15 : Addr} {od15 an15 : Option Addr} {sl15 : Array (Option Value)} {oc15 kV15 dc15 pm15 cd15 ct15 : Value}
    {f16 : Addr} {od16 an16 : Option Addr} {sl16 : Array (Option Value)} {oc16 kV16 dc16 pm16 cd16 ct16 : Value}
    {f17 : Addr} {od17 an17 : Option Addr} {sl17 : Array (Option Value)} {oc17 kV17 dc17 pm17 cd17 ct17 : Value}
    {f18 : Addr} {od18 an18 : Option Addr} {sl18 : Array (Option Value)} {oc18 kV18 dc18 pm18 cd18 ct18 : Value}
    {f19 : Addr} {od19 an19 : Option Addr} {sl19 : Array (Option Value)} {oc19 kV19 dc19 pm19 cd19 ct19 : Value}
    {f20 : Addr} {od20 an20 : Option Addr} {sl20 : Array (Option Value)} {oc20 kV20 dc20 pm20 cd20 ct20 : Value}
    {f21 : Addr} {od21 an21 : Option Addr} {sl21 : Array (Option Value)} {oc21 kV21 dc21 pm21 cd21 ct21 : Value}
    {f22 : Addr} {od22 an22 : Option Addr} {sl22 : Array (Option Value)} {oc22 kV22 dc22 pm22 cd22 ct22 : Value}
    {f23 : Addr} {od23 an23 : Option Addr} {sl23 : Array (Option Value)} {oc23 kV23 dc23 pm23 cd23 ct23 : Value}
    {f24 : Addr} {od24 an24 : Option Addr} {sl24 : Array (Option Value)} {oc24 kV24 dc24 pm24 cd24 ct24 : Value}
    {f25 : Addr} {od25 an25 : Option Addr} {sl25 : Array (Option Value)} {oc25 kV25 dc25 pm25 cd25 ct25 : Value}
    {f26 : Addr} {od26 an26 : Option Addr} {sl26 : Array (Option Value)} {oc26 kV26 dc26 pm26 cd26 ct26 : Value}
    {f27 : Addr} {od27 an27 : Option Addr} {sl27 : Array (Option Value)} {oc27 kV27 dc27 pm27 cd27 ct27 : Value}
    {f28 : Addr} {od28 an28 : Option Addr} {sl28 : Array (Option Value)} {oc28 kV28 dc28 pm28 cd28 ct28 : Value}
    {f29 : Addr} {od29 an29 : Option Addr} {sl29 : Array (Option Value)} {oc29 kV29 dc29 pm29 cd29 ct29 : Value}
    {f30 : Addr} {od30 an30 : Option Addr} {sl30 : Array (Option Value)} {oc30 kV30 dc30 pm30 cd30 ct30 : Value}
    {f31 : Addr} {od31 an31 : Option Addr} {sl31 : Array (Option Value)} {oc31 kV31 dc31 pm31 cd31 ct31 : Value}
    {f32 : Addr} {od32 an32 : Option Addr} {sl32 : Array (Option Value)} {oc32 kV32 dc32 pm32 cd32 ct32 : Value}
    {f33 : Addr} {od33 an33 : Option Addr} {sl33 : Array (Option Value)} {oc33 kV33 dc33 pm33 cd33 ct33 : Value}
    {f34 : Addr} {od34 an34 : Option Addr} {sl34 : Array (Option Value)} {oc34 kV34 dc34 pm34 cd34 ct34 : Value}
    {f35 : Addr} {od35 an35 : Option Addr} {sl35 : Array (Option Value)} {oc35 kV35 dc35 pm35 cd35 ct35 : Value}
    {f36 : Addr} {od36 an36 : Option Addr} {sl36 : Array (Option Value)} {oc36 kV36 dc36 pm36 cd36 ct36 : Value}
    {f37 : Addr} {od37 an37 : Option Addr} {sl37 : Array (Option Value)} {oc37 kV37 dc37 pm37 cd37 ct37 : Value}
    {f38 : Addr} {od38 an38 : Option Addr} {sl38 : Array (Option Value)} {oc38 kV38 dc38 pm38 cd38 ct38 : Value}
    {f39 : Addr} {od39 an39 : Option Addr} {sl39 : Array (Option Value)} {oc39 kV39 dc39 pm39 cd39 ct39 : Value}
    {f40 : Addr} {od40 an40 : Option Addr} {sl40 : Array (Option Value)} {oc40 kV40 dc40 pm40 cd40 ct40 : Value}
    {f41 : Addr} {od41 an41 : Option Addr} {sl41 : Array (Option Value)} {oc41 kV41 dc41 pm41 cd41 ct41 : Value}
    {f42 : Addr} {od42 an42 : Option Addr} {sl42 : Array (Option Value)} {oc42 kV42 dc42 pm42 cd42 ct42 : Value}
    {f43 : Addr} {od43 an43 : Option Addr} {sl43 : Array (Option Value)} {oc43 kV43 dc43 pm43 cd43 ct43 : Value}
    {f44 : Addr} {od44 an44 : Option Addr} {sl44 : Array (Option Value)} {oc44 kV44 dc44 pm44 cd44 ct44 : Value}
    {f45 : Addr} {od45 an45 : Option Addr} {sl45 : Array (Option Value)} {oc45 kV45 dc45 pm45 cd45 ct45 : Value}
    {f46 : Addr} {od46 an46 : Option Addr} {sl46 : Array (Option Value)} {oc46 kV46 dc46 pm46 cd46 ct46 : Value}
    {f47 : Addr} {od47 an47 : Option Addr} {sl47 : Array (Option Value)} {oc47 kV47 dc47 pm47 cd47 ct47 : Value}
    {f48 : Addr} {od48 an48 : Option Addr} {sl48 : Array (Option Value)} {oc48 kV48 dc48 pm48 cd48 ct48 : Value}
    {f49 : Addr} {od49 an49 : Option Addr} {sl49 : Array (Option Value)} {oc49 kV49 dc49 pm49 cd49 ct49 : Value}
    {f50 : Addr} {od50 an50 : Option Addr} {sl50 : Array (Option Value)} {oc50 kV50 dc50 pm50 cd50 ct50 : Value}
    {C_InvalidTable : Addr}
    {C_InvalidProgram : Addr}
    {C_InvalidText : Addr}
    {FI_InvalidTable : Addr} {xod_InvalidTable xan_InvalidTable : Option Addr} {xsl_InvalidTable : Array (Option Value)} {xoc_InvalidTable xkV_InvalidTable xdc_InvalidTable xpm_InvalidTable xcd_InvalidTable xct_InvalidTable : Value}
    {FI_InvalidProgram : Addr} {xod_InvalidProgram xan_InvalidProgram : Option Addr} {xsl_InvalidProgram : Array (Option Value)} {xoc_InvalidProgram xkV_InvalidProgram xdc_InvalidProgram xpm_InvalidProgram xcd_InvalidProgram xct_InvalidProgram : Value}
    {FI_InvalidText : Addr} {xod_InvalidText xan_InvalidText : Option Addr} {xsl_InvalidText : Array (Option Value)} {xoc_InvalidText xkV_InvalidText xdc_InvalidText xpm_InvalidText xcd_InvalidText xct_InvalidText : Value}
    {c_sorted_places P_sorted_places : Addr} {moc_sorted_places : Value} {mod_sorted_places : Option Addr} {mvs_sorted_places : Array Value} {msl_sorted_places : Array (Option Value)}
    (a0 : PySem.W.nsIn K mainGlobals "is_integer" = some (some (.ref f0))) (l0 : K.lookup f0 = some ⟨oc0, od0, .func (PySem.W.fnOf "is_integer" "is_integer" (defArgs (topS 16)) (defBody (topS 16)) (defScope (topS 16)) .none kV0 dc0 pm0 an0 cd0 ct0), sl0⟩) (c0 : PySem.W.codeIn K cd0 "is_integer" = true) (k0 : PySem.W.keepIn K (.ref f0) = true)
    (a1 : PySem.W.nsIn K mainGlobals "is_record" = some (some (.ref f1))) (l1 : K.lookup f1 = some ⟨oc1, od1, .func (PySem.W.fnOf "is_record" "is_record" (defArgs (topS 17)) (defBody (topS 17)) (defScope (topS 17)) .none kV1 dc1 pm1 an1 cd1 ct1), sl1⟩) (c1 : PySem.W.codeIn K cd1 "is_record" = true) (k1 : PySem.W.keepIn K (.ref f1) = true)
    (a2 : PySem.W.nsIn K mainGlobals "check_table" = some (some (.ref f2))) (l2 : K.lookup f2 = some ⟨oc2, od2, .func (PySem.W.fnOf "check_table" "check_table" (defArgs (topS 18)) (defBody (topS 18)) (defScope (topS 18)) .none kV2 dc2 pm2 an2 cd2 ct2), sl2⟩) (c2 : PySem.W.codeIn K cd2 "check_table" = true) (k2 : PySem.W.keepIn K (.ref f2) = true)
    (a3 : PySem.W.nsIn K mainGlobals "count_columns" = some (some (.ref f3))) (l3 : K.lookup f3 = some ⟨oc3, od3, .func (PySem.W.fnOf "count_columns" "count_columns" (defArgs (topS 19)) (defBody (topS 19)) (defScope (topS 19)) .none kV3 dc3 pm3 an3 cd3 ct3), sl3⟩) (c3 : PySem.W.codeIn K cd3 "count_columns" = true) (k3 : PySem.W.keepIn K (.ref f3) = true)
    (a4 : PySem.W.nsIn K mainGlobals "every_place" = some (some (.ref f4))) (l4 : K.lookup f4 = some ⟨oc4, od4, .func (PySem.W.fnOf "every_place" "every_place" (defArgs (topS 20)) (defBody (topS 20)) (defScope (topS 20)) .none kV4 dc4 pm4 an4 cd4 ct4), sl4⟩) (c4 : PySem.W.codeIn K cd4 "every_place" = true) (k4 : PySem.W.keepIn K (.ref f4) = true)
    (a5 : PySem.W.nsIn K mainGlobals "check_columns_below" = some (some (.ref f5))) (l5 : K.lookup f5 = some ⟨oc5, od5, .func (PySem.W.fnOf "check_columns_below" "check_columns_below" (defArgs (topS 21)) (defBody (topS 21)) (defScope (topS 21)) .none kV5 dc5 pm5 an5 cd5 ct5), sl5⟩) (c5 : PySem.W.codeIn K cd5 "check_columns_below" = true) (k5 : PySem.W.keepIn K (.ref f5) = true)
    (a6 : PySem.W.nsIn K mainGlobals "is_word" = some (some (.ref f6))) (l6 : K.lookup f6 = some ⟨oc6, od6, .func (PySem.W.fnOf "is_word" "is_word" (defArgs (topS 24)) (defBody (topS 24)) (defScope (topS 24)) .none kV6 dc6 pm6 an6 cd6 ct6), sl6⟩) (c6 : PySem.W.codeIn K cd6 "is_word" = true) (k6 : PySem.W.keepIn K (.ref f6) = true)
    (a7 : PySem.W.nsIn K mainGlobals "is_pair" = some (some (.ref f7))) (l7 : K.lookup f7 = some ⟨oc7, od7, .func (PySem.W.fnOf "is_pair" "is_pair" (defArgs (topS 25)) (defBody (topS 25)) (defScope (topS 25)) .none kV7 dc7 pm7 an7 cd7 ct7), sl7⟩) (c7 : PySem.W.codeIn K cd7 "is_pair" = true) (k7 : PySem.W.keepIn K (.ref f7) = true)
    (a8 : PySem.W.nsIn K mainGlobals "is_sort_column" = some (some (.ref f8))) (l8 : K.lookup f8 = some ⟨oc8, od8, .func (PySem.W.fnOf "is_sort_column" "is_sort_column" (defArgs (topS 26)) (defBody (topS 26)) (defScope (topS 26)) .none kV8 dc8 pm8 an8 cd8 ct8), sl8⟩) (c8 : PySem.W.codeIn K cd8 "is_sort_column" = true) (k8 : PySem.W.keepIn K (.ref f8) = true)
    (a9 : PySem.W.nsIn K mainGlobals "is_key" = some (some (.ref f9))) (l9 : K.lookup f9 = some ⟨oc9, od9, .func (PySem.W.fnOf "is_key" "is_key" (defArgs (topS 27)) (defBody (topS 27)) (defScope (topS 27)) .none kV9 dc9 pm9 an9 cd9 ct9), sl9⟩) (c9 : PySem.W.codeIn K cd9 "is_key" = true) (k9 : PySem.W.keepIn K (.ref f9) = true)
    (a10 : PySem.W.nsIn K mainGlobals "is_place_part" = some (some (.ref f10))) (l10 : K.lookup f10 = some ⟨oc10, od10, .func (PySem.W.fnOf "is_place_part" "is_place_part" (defArgs (topS 28)) (defBody (topS 28)) (defScope (topS 28)) .none kV10 dc10 pm10 an10 cd10 ct10), sl10⟩) (c10 : PySem.W.codeIn K cd10 "is_place_part" = true) (k10 : PySem.W.keepIn K (.ref f10) = true)
    (a11 : PySem.W.nsIn K mainGlobals "check_order" = some (some (.ref f11))) (l11 : K.lookup f11 = some ⟨oc11, od11, .func (PySem.W.fnOf "check_order" "check_order" (defArgs (topS 29)) (defBody (topS 29)) (defScope (topS 29)) .none kV11 dc11 pm11 an11 cd11 ct11), sl11⟩) (c11 : PySem.W.codeIn K cd11 "check_order" = true) (k11 : PySem.W.keepIn K (.ref f11) = true)
    (a12 : PySem.W.nsIn K mainGlobals "opposite" = some (some (.ref f12))) (l12 : K.lookup f12 = some ⟨oc12, od12, .func (PySem.W.fnOf "opposite" "opposite" (defArgs (topS 30)) (defBody (topS 30)) (defScope (topS 30)) .none kV12 dc12 pm12 an12 cd12 ct12), sl12⟩) (c12 : PySem.W.codeIn K cd12 "opposite" = true) (k12 : PySem.W.keepIn K (.ref f12) = true)
    (a13 : PySem.W.nsIn K mainGlobals "turned" = some (some (.ref f13))) (l13 : K.lookup f13 = some ⟨oc13, od13, .func (PySem.W.fnOf "turned" "turned" (defArgs (topS 31)) (defBody (topS 31)) (defScope (topS 31)) .none kV13 dc13 pm13 an13 cd13 ct13), sl13⟩) (c13 : PySem.W.codeIn K cd13 "turned" = true) (k13 : PySem.W.keepIn K (.ref f13) = true)
    (a14 : PySem.W.nsIn K mainGlobals "sort_values" = some (some (.ref f14))) (l14 : K.lookup f14 = some ⟨oc14, od14, .func (PySem.W.fnOf "sort_values" "sort_values" (defArgs (topS 32)) (defBody (topS 32)) (defScope (topS 32)) .none kV14 dc14 pm14 an14 cd14 ct14), sl14⟩) (c14 : PySem.W.codeIn K cd14 "sort_values" = true) (k14 : PySem.W.keepIn K (.ref f14) = true)
    (a15 : PySem.W.nsIn K mainGlobals "sorted_places" = some (some (.ref f15))) (l15 : K.lookup f15 = some ⟨oc15, od15, .func (PySem.W.fnOf "sorted_places" "sorted_places" (defArgs (topS 33)) (defBody (topS 33)) (defScope (topS 33)) .none kV15 dc15 pm15 an15 cd15 ct15), sl15⟩) (c15 : PySem.W.codeIn K cd15 "sorted_places" = true) (k15 : PySem.W.keepIn K (.ref f15) = true)
    (a16 : PySem.W.nsIn K mainGlobals "is_size" = some (some (.ref f16))) (l16 : K.lookup f16 = some ⟨oc16, od16, .func (PySem.W.fnOf "is_size" "is_size" (defArgs (topS 38)) (defBody (topS 38)) (defScope (topS 38)) .none kV16 dc16 pm16 an16 cd16 ct16), sl16⟩) (c16 : PySem.W.codeIn K cd16 "is_size" = true) (k16 : PySem.W.keepIn K (.ref f16) = true)
    (a17 : PySem.W.nsIn K mainGlobals "is_times" = some (some (.ref f17))) (l17 : K.lookup f17 = some ⟨oc17, od17, .func (PySem.W.fnOf "is_times" "is_times" (defArgs (topS 39)) (defBody (topS 39)) (defScope (topS 39)) .none kV17 dc17 pm17 an17 cd17 ct17), sl17⟩) (c17 : PySem.W.codeIn K cd17 "is_times" = true) (k17 : PySem.W.keepIn K (.ref f17) = true)
    (a18 : PySem.W.nsIn K mainGlobals "is_plain_command" = some (some (.ref f18))) (l18 : K.lookup f18 = some ⟨oc18, od18, .func (PySem.W.fnOf "is_plain_command" "is_plain_command" (defArgs (topS 40)) (defBody (topS 40)) (defScope (topS 40)) .none kV18 dc18 pm18 an18 cd18 ct18), sl18⟩) (c18 : PySem.W.codeIn K cd18 "is_plain_command" = true) (k18 : PySem.W.keepIn K (.ref f18) = true)
    (a19 : PySem.W.nsIn K mainGlobals "begins_repeat" = some (some (.ref f19))) (l19 : K.lookup f19 = some ⟨oc19, od19, .func (PySem.W.fnOf "begins_repeat" "begins_repeat" (defArgs (topS 41)) (defBody (topS 41)) (defScope (topS 41)) .none kV19 dc19 pm19 an19 cd19 ct19), sl19⟩) (c19 : PySem.W.codeIn K cd19 "begins_repeat" = true) (k19 : PySem.W.keepIn K (.ref f19) = true)
    (a20 : PySem.W.nsIn K mainGlobals "room_behind" = some (some (.ref f20))) (l20 : K.lookup f20 = some ⟨oc20, od20, .func (PySem.W.fnOf "room_behind" "room_behind" (defArgs (topS 42)) (defBody (topS 42)) (defScope (topS 42)) .none kV20 dc20 pm20 an20 cd20 ct20), sl20⟩) (c20 : PySem.W.codeIn K cd20 "room_behind" = true) (k20 : PySem.W.keepIn K (.ref f20) = true)
    (a21 : PySem.W.nsIn K mainGlobals "room_behind_command" = some (some (.ref f21))) (l21 : K.lookup f21 = some ⟨oc21, od21, .func (PySem.W.fnOf "room_behind_command" "room_behind_command" (defArgs (topS 43)) (defBody (topS 43)) (defScope (topS 43)) .none kV21 dc21 pm21 an21 cd21 ct21), sl21⟩) (c21 : PySem.W.codeIn K cd21 "room_behind_command" = true) (k21 : PySem.W.keepIn K (.ref f21) = true)
    (a22 : PySem.W.nsIn K mainGlobals "check_program" = some (some (.ref f22))) (l22 : K.lookup f22 = some ⟨oc22, od22, .func (PySem.W.fnOf "check_program" "check_program" (defArgs (topS 44)) (defBody (topS 44)) (defScope (topS 44)) .none kV22 dc22 pm22 an22 cd22 ct22), sl22⟩) (c22 : PySem.W.codeIn K cd22 "check_program" = true) (k22 : PySem.W.keepIn K (.ref f22) = true)
    (a23 : PySem.W.nsIn K mainGlobals "is_program" = some (some (.ref f23))) (l23 : K.lookup f23 = some ⟨oc23, od23, .func (PySem.W.fnOf "is_program" "is_program" (defArgs (topS 45)) (defBody (topS 45)) (defScope (topS 45)) .none kV23 dc23 pm23 an23 cd23 ct23), sl23⟩) (c23 : PySem.W.codeIn K cd23 "is_program" = true) (k23 : PySem.W.keepIn K (.ref f23) = true)
    (a24 : PySem.W.nsIn K mainGlobals "count_performed" = some (some (.ref f24))) (l24 : K.lookup f24 = some ⟨oc24, od24, .func (PySem.W.fnOf "count_performed" "count_performed" (defArgs (topS 46)) (defBody (topS 46)) (defScope (topS 46)) .none kV24 dc24 pm24 an24 cd24 ct24), sl24⟩) (c24 : PySem.W.codeIn K cd24 "count_performed" = true) (k24 : PySem.W.keepIn K (.ref f24) = true)
    (a25 : PySem.W.nsIn K mainGlobals "count_commands" = some (some (.ref f25))) (l25 : K.lookup f25 = some ⟨oc25, od25, .func (PySem.W.fnOf "count_commands" "count_commands" (defArgs (topS 47)) (defBody (topS 47)) (defScope (topS 47)) .none kV25 dc25 pm25 an25 cd25 ct25), sl25⟩) (c25 : PySem.W.codeIn K cd25 "count_commands" = true) (k25 : PySem.W.keepIn K (.ref f25) = true)
    (a26 : PySem.W.nsIn K mainGlobals "program_columns" = some (some (.ref f26))) (l26 : K.lookup f26 = some ⟨oc26, od26, .func (PySem.W.fnOf "program_columns" "program_columns" (defArgs (topS 48)) (defBody (topS 48)) (defScope (topS 48)) .none kV26 dc26 pm26 an26 cd26 ct26), sl26⟩) (c26 : PySem.W.codeIn K cd26 "program_columns" = true) (k26 : PySem.W.keepIn K (.ref f26) = true)
    (a27 : PySem.W.nsIn K mainGlobals "written_command" = some (some (.ref f27))) (l27 : K.lookup f27 = some ⟨oc27, od27, .func (PySem.W.fnOf "written_command" "written_command" (defArgs (topS 50)) (defBody (topS 50)) (defScope (topS 50)) .none kV27 dc27 pm27 an27 cd27 ct27), sl27⟩) (c27 : PySem.W.codeIn K cd27 "written_command" = true) (k27 : PySem.W.keepIn K (.ref f27) = true)
    (a28 : PySem.W.nsIn K mainGlobals "format_program" = some (some (.ref f28))) (l28 : K.lookup f28 = some ⟨oc28, od28, .func (PySem.W.fnOf "format_program" "format_program" (defArgs (topS 51)) (defBody (topS 51)) (defScope (topS 51)) .none kV28 dc28 pm28 an28 cd28 ct28), sl28⟩) (c28 : PySem.W.codeIn K cd28 "format_program" = true) (k28 : PySem.W.keepIn K (.ref f28) = true)
    (a29 : PySem.W.nsIn K mainGlobals "read_number" = some (some (.ref f29))) (l29 : K.lookup f29 = some ⟨oc29, od29, .func (PySem.W.fnOf "read_number" "read_number" (defArgs (topS 52)) (defBody (topS 52)) (defScope (topS 52)) .none kV29 dc29 pm29 an29 cd29 ct29), sl29⟩) (c29 : PySem.W.codeIn K cd29 "read_number" = true) (k29 : PySem.W.keepIn K (.ref f29) = true)
    (a30 : PySem.W.nsIn K mainGlobals "read_command" = some (some (.ref f30))) (l30 : K.lookup f30 = some ⟨oc30, od30, .func (PySem.W.fnOf "read_command" "read_command" (defArgs (topS 53)) (defBody (topS 53)) (defScope (topS 53)) .none kV30 dc30 pm30 an30 cd30 ct30), sl30⟩) (c30 : PySem.W.codeIn K cd30 "read_command" = true) (k30 : PySem.W.keepIn K (.ref f30) = true)
    (a31 : PySem.W.nsIn K mainGlobals "read_words" = some (some (.ref f31))) (l31 : K.lookup f31 = some ⟨oc31, od31, .func (PySem.W.fnOf "read_words" "read_words" (defArgs (topS 54)) (defBody (topS 54)) (defScope (topS 54)) .none kV31 dc31 pm31 an31 cd31 ct31), sl31⟩) (c31 : PySem.W.codeIn K cd31 "read_words" = true) (k31 : PySem.W.keepIn K (.ref f31) = true)
    (a32 : PySem.W.nsIn K mainGlobals "parse_program" = some (some (.ref f32))) (l32 : K.lookup f32 = some ⟨oc32, od32, .func (PySem.W.fnOf "parse_program" "parse_program" (defArgs (topS 55)) (defBody (topS 55)) (defScope (topS 55)) .none kV32 dc32 pm32 an32 cd32 ct32), sl32⟩) (c32 : PySem.W.codeIn K cd32 "parse_program" = true) (k32 : PySem.W.keepIn K (.ref f32) = true)
    (a33 : PySem.W.nsIn K mainGlobals "sorted_first" = some (some (.ref f33))) (l33 : K.lookup f33 = some ⟨oc33, od33, .func (PySem.W.fnOf "sorted_first" "sorted_first" (defArgs (topS 58)) (defBody (topS 58)) (defScope (topS 58)) .none kV33 dc33 pm33 an33 cd33 ct33), sl33⟩) (c33 : PySem.W.codeIn K cd33 "sorted_first" = true) (k33 : PySem.W.keepIn K (.ref f33) = true)
    (a34 : PySem.W.nsIn K mainGlobals "after_plain" = some (some (.ref f34))) (l34 : K.lookup f34 = some ⟨oc34, od34, .func (PySem.W.fnOf "after_plain" "after_plain" (defArgs (topS 59)) (defBody (topS 59)) (defScope (topS 59)) .none kV34 dc34 pm34 an34 cd34 ct34), sl34⟩) (c34 : PySem.W.codeIn K cd34 "after_plain" = true) (k34 : PySem.W.keepIn K (.ref f34) = true)
    (a35 : PySem.W.nsIn K mainGlobals "picks_of_plain" = some (some (.ref f35))) (l35 : K.lookup f35 = some ⟨oc35, od35, .func (PySem.W.fnOf "picks_of_plain" "picks_of_plain" (defArgs (topS 60)) (defBody (topS 60)) (defScope (topS 60)) .none kV35 dc35 pm35 an35 cd35 ct35), sl35⟩) (c35 : PySem.W.codeIn K cd35 "picks_of_plain" = true) (k35 : PySem.W.keepIn K (.ref f35) = true)
    (a36 : PySem.W.nsIn K mainGlobals "after_repeat" = some (some (.ref f36))) (l36 : K.lookup f36 = some ⟨oc36, od36, .func (PySem.W.fnOf "after_repeat" "after_repeat" (defArgs (topS 61)) (defBody (topS 61)) (defScope (topS 61)) .none kV36 dc36 pm36 an36 cd36 ct36), sl36⟩) (c36 : PySem.W.codeIn K cd36 "after_repeat" = true) (k36 : PySem.W.keepIn K (.ref f36) = true)
    (a37 : PySem.W.nsIn K mainGlobals "after_command" = some (some (.ref f37))) (l37 : K.lookup f37 = some ⟨oc37, od37, .func (PySem.W.fnOf "after_command" "after_command" (defArgs (topS 62)) (defBody (topS 62)) (defScope (topS 62)) .none kV37 dc37 pm37 an37 cd37 ct37), sl37⟩) (c37 : PySem.W.codeIn K cd37 "after_command" = true) (k37 : PySem.W.keepIn K (.ref f37) = true)
    (a38 : PySem.W.nsIn K mainGlobals "after_program" = some (some (.ref f38))) (l38 : K.lookup f38 = some ⟨oc38, od38, .func (PySem.W.fnOf "after_program" "after_program" (defArgs (topS 63)) (defBody (topS 63)) (defScope (topS 63)) .none kV38 dc38 pm38 an38 cd38 ct38), sl38⟩) (c38 : PySem.W.codeIn K cd38 "after_program" = true) (k38 : PySem.W.keepIn K (.ref f38) = true)
    (a39 : PySem.W.nsIn K mainGlobals "check_run" = some (some (.ref f39))) (l39 : K.lookup f39 = some ⟨oc39, od39, .func (PySem.W.fnOf "check_run" "check_run" (defArgs (topS 65)) (defBody (topS 65)) (defScope (topS 65)) .none kV39 dc39 pm39 an39 cd39 ct39), sl39⟩) (c39 : PySem.W.codeIn K cd39 "check_run" = true) (k39 : PySem.W.keepIn K (.ref f39) = true)
    (a40 : PySem.W.nsIn K mainGlobals "picked" = some (some (.ref f40))) (l40 : K.lookup f40 = some ⟨oc40, od40, .func (PySem.W.fnOf "picked" "picked" (defArgs (topS 66)) (defBody (topS 66)) (defScope (topS 66)) .none kV40 dc40 pm40 an40 cd40 ct40), sl40⟩) (c40 : PySem.W.codeIn K cd40 "picked" = true) (k40 : PySem.W.keepIn K (.ref f40) = true)
    (a41 : PySem.W.nsIn K mainGlobals "run_places" = some (some (.ref f41))) (l41 : K.lookup f41 = some ⟨oc41, od41, .func (PySem.W.fnOf "run_places" "run_places" (defArgs (topS 67)) (defBody (topS 67)) (defScope (topS 67)) .none kV41 dc41 pm41 an41 cd41 ct41), sl41⟩) (c41 : PySem.W.codeIn K cd41 "run_places" = true) (k41 : PySem.W.keepIn K (.ref f41) = true)
    (a42 : PySem.W.nsIn K mainGlobals "_law_cell" = some (some (.ref f42))) (l42 : K.lookup f42 = some ⟨oc42, od42, .func (PySem.W.fnOf "_law_cell" "_law_cell" (defArgs (topS 69)) (defBody (topS 69)) (defScope (topS 69)) .none kV42 dc42 pm42 an42 cd42 ct42), sl42⟩) (c42 : PySem.W.codeIn K cd42 "_law_cell" = true) (k42 : PySem.W.keepIn K (.ref f42) = true)
    (a43 : PySem.W.nsIn K mainGlobals "_law_pool" = some (some (.ref f43))) (l43 : K.lookup f43 = some ⟨oc43, od43, .func (PySem.W.fnOf "_law_pool" "_law_pool" (defArgs (topS 70)) (defBody (topS 70)) (defScope (topS 70)) .none kV43 dc43 pm43 an43 cd43 ct43), sl43⟩) (c43 : PySem.W.codeIn K cd43 "_law_pool" = true) (k43 : PySem.W.keepIn K (.ref f43) = true)
    (a44 : PySem.W.nsIn K mainGlobals "_law_draw" = some (some (.ref f44))) (l44 : K.lookup f44 = some ⟨oc44, od44, .func (PySem.W.fnOf "_law_draw" "_law_draw" (defArgs (topS 71)) (defBody (topS 71)) (defScope (topS 71)) .none kV44 dc44 pm44 an44 cd44 ct44), sl44⟩) (c44 : PySem.W.codeIn K cd44 "_law_draw" = true) (k44 : PySem.W.keepIn K (.ref f44) = true)
    (a45 : PySem.W.nsIn K mainGlobals "_law_table" = some (some (.ref f45))) (l45 : K.lookup f45 = some ⟨oc45, od45, .func (PySem.W.fnOf "_law_table" "_law_table" (defArgs (topS 72)) (defBody (topS 72)) (defScope (topS 72)) .none kV45 dc45 pm45 an45 cd45 ct45), sl45⟩) (c45 : PySem.W.codeIn K cd45 "_law_table" = true) (k45 : PySem.W.keepIn K (.ref f45) = true)
    (a46 : PySem.W.nsIn K mainGlobals "_law_steps" = some (some (.ref f46))) (l46 : K.lookup f46 = some ⟨oc46, od46, .func (PySem.W.fnOf "_law_steps" "_law_steps" (defArgs (topS 73)) (defBody (topS 73)) (defScope (topS 73)) .none kV46 dc46 pm46 an46 cd46 ct46), sl46⟩) (c46 : PySem.W.codeIn K cd46 "_law_steps" = true) (k46 : PySem.W.keepIn K (.ref f46) = true)
    (a47 : PySem.W.nsIn K mainGlobals "_law_program" = some (some (.ref f47))) (l47 : K.lookup f47 = some ⟨oc47, od47, .func (PySem.W.fnOf "_law_program" "_law_program" (defArgs (topS 74)) (defBody (topS 74)) (defScope (topS 74)) .none kV47 dc47 pm47 an47 cd47 ct47), sl47⟩) (c47 : PySem.W.codeIn K cd47 "_law_program" = true) (k47 : PySem.W.keepIn K (.ref f47) = true)
    (a48 : PySem.W.nsIn K mainGlobals "_law_all_right" = some (some (.ref f48))) (l48 : K.lookup f48 = some ⟨oc48, od48, .func (PySem.W.fnOf "_law_all_right" "_law_all_right" (defArgs (topS 75)) (defBody (topS 75)) (defScope (topS 75)) .none kV48 dc48 pm48 an48 cd48 ct48), sl48⟩) (c48 : PySem.W.codeIn K cd48 "_law_all_right" = true) (k48 : PySem.W.keepIn K (.ref f48) = true)
    (a49 : PySem.W.nsIn K mainGlobals "_law_right" = some (some (.ref f49))) (l49 : K.lookup f49 = some ⟨oc49, od49, .func (PySem.W.fnOf "_law_right" "_law_right" (defArgs (topS 76)) (defBody (topS 76)) (defScope (topS 76)) .none kV49 dc49 pm49 an49 cd49 ct49), sl49⟩) (c49 : PySem.W.codeIn K cd49 "_law_right" = true) (k49 : PySem.W.keepIn K (.ref f49) = true)
    (a50 : PySem.W.nsIn K mainGlobals "law" = some (some (.ref f50))) (l50 : K.lookup f50 = some ⟨oc50, od50, .func (PySem.W.fnOf "law" "law" (defArgs (topS 77)) (defBody (topS 77)) (defScope (topS 77)) .none kV50 dc50 pm50 an50 cd50 ct50), sl50⟩) (c50 : PySem.W.codeIn K cd50 "law" = true) (k50 : PySem.W.keepIn K (.ref f50) = true)
    (n_abs : PySem.W.nsIn K mainGlobals "abs" = some none)
    (n_all : PySem.W.nsIn K mainGlobals "all" = some none)
    (n_any : PySem.W.nsIn K mainGlobals "any" = some none)
    (n_bool : PySem.W.nsIn K mainGlobals "bool" = some none)
    (n_divmod : PySem.W.nsIn K mainGlobals "divmod" = some none)
    (n_enumerate : PySem.W.nsIn K mainGlobals "enumerate" = some none)
    (n_int : PySem.W.nsIn K mainGlobals "int" = some none)
    (n_isinstance : PySem.W.nsIn K mainGlobals "isinstance" = some none)
    (n_len : PySem.W.nsIn K mainGlobals "len" = some none)
    (n_max : PySem.W.nsIn K mainGlobals "max" = some none)
    (n_min : PySem.W.nsIn K mainGlobals "min" = some none)
    (n_range : PySem.W.nsIn K mainGlobals "range" = some none)
    (n_repr : PySem.W.nsIn K mainGlobals "repr" = some none)
    (n_sorted : PySem.W.nsIn K mainGlobals "sorted" = some none)
    (n_str : PySem.W.nsIn K mainGlobals "str" = some none)
    (n_sum : PySem.W.nsIn K mainGlobals "sum" = some none)
    (n_tuple : PySem.W.nsIn K mainGlobals "tuple" = some none)
    (c_MOST_COLUMNS : ∀ [LabW], ∃ uv : Value × V, mg "MOST_COLUMNS" = some uv.1 ∧ RelV uv.2 uv.1 ∧ ∀ Z, DD K Z uv.2 cv_MOST_COLUMNS)
    (c_MOST_RECORDS : ∀ [LabW], ∃ uv : Value × V, mg "MOST_RECORDS" = some uv.1 ∧ RelV uv.2 uv.1 ∧ ∀ Z, DD K Z uv.2 cv_MOST_RECORDS)
    (c_MOST_KEYS : ∀ [LabW], ∃ uv : Value × V, mg "MOST_KEYS" = some uv.1 ∧ RelV uv.2 uv.1 ∧ ∀ Z, DD K Z uv.2 cv_MOST_KEYS)
    (c_DIRECTIONS : ∀ [LabW], ∃ uv : Value × V, mg "DIRECTIONS" = some uv.1 ∧ RelV uv.2 uv.1 ∧ ∀ Z, DD K Z uv.2 cv_DIRECTIONS)
    (c_LEAST_SIZE : ∀ [LabW], ∃ uv : Value × V, mg "LEAST_SIZE" = some uv.1 ∧ RelV uv.2 uv.1 ∧ ∀ Z, DD K Z uv.2 cv_LEAST_SIZE)
    (c_MOST_SIZE : ∀ [LabW], ∃ uv : Value × V, mg "MOST_SIZE" = some uv.1 ∧ RelV uv.2 uv.1 ∧ ∀ Z, DD K Z uv.2 cv_MOST_SIZE)
    (c_MOST_TIMES : ∀ [LabW], ∃ uv : Value × V, mg "MOST_TIMES" = some uv.1 ∧ RelV uv.2 uv.1 ∧ ∀ Z, DD K Z uv.2 cv_MOST_TIMES)
    (c_CUTS : ∀ [LabW], ∃ uv : Value × V, mg "CUTS" = some uv.1 ∧ RelV uv.2 uv.1 ∧ ∀ Z, DD K Z uv.2 cv_CUTS)
    (c_BARE_WORDS : ∀ [LabW], ∃ uv : Value × V, mg "BARE_WORDS" = some uv.1 ∧ RelV uv.2 uv.1 ∧ ∀ Z, DD K Z uv.2 cv_BARE_WORDS)
    (c_MOST_NESTED : ∀ [LabW], ∃ uv : Value × V, mg "MOST_NESTED" = some uv.1 ∧ RelV uv.2 uv.1 ∧ ∀ Z, DD K Z uv.2 cv_MOST_NESTED)
    (c_MOST_COMMANDS : ∀ [LabW], ∃ uv : Value × V, mg "MOST_COMMANDS" = some uv.1 ∧ RelV uv.2 uv.1 ∧ ∀ Z, DD K Z uv.2 cv_MOST_COMMANDS)
    (c_START : ∀ [LabW], ∃ uv : Value × V, mg "START" = some uv.1 ∧ RelV uv.2 uv.1 ∧ ∀ Z, DD K Z uv.2 cv_START)
    (xa_InvalidTable : PySem.W.nsIn K mainGlobals "InvalidTable" = some (some (.ref C_InvalidTable)))
    (xa_InvalidProgram : PySem.W.nsIn K mainGlobals "InvalidProgram" = some (some (.ref C_InvalidProgram)))
    (xa_InvalidText : PySem.W.nsIn K mainGlobals "InvalidText" = some (some (.ref C_InvalidText)))
    (xi_InvalidTable : PySem.W.findIn K (.ref C_InvalidTable) "__init__" = some (some (.ref FI_InvalidTable))) (xt_InvalidTable : PySem.W.typeIn K (.ref FI_InvalidTable) = some (.type "function")) (xn_InvalidTable : PySem.W.findIn K (.ref C_InvalidTable) "index" = some none) (xl_InvalidTable : K.lookup FI_InvalidTable = some ⟨xoc_InvalidTable, xod_InvalidTable, .func (PySem.W.fnOf "__init__" "InvalidTable.__init__" (defArgs (inS 2 0)) (defBody (inS 2 0)) (defScope (inS 2 0)) .none xkV_InvalidTable xdc_InvalidTable xpm_InvalidTable xan_InvalidTable xcd_InvalidTable xct_InvalidTable), xsl_InvalidTable⟩) (xc_InvalidTable : PySem.W.codeIn K xcd_InvalidTable "InvalidTable.__init__" = true) (xk_InvalidTable : PySem.W.keepIn K (.ref FI_InvalidTable) = true) (x_InvalidTable : OexC K C_InvalidTable)
    (xi_InvalidProgram : PySem.W.findIn K (.ref C_InvalidProgram) "__init__" = some (some (.ref FI_InvalidProgram))) (xt_InvalidProgram : PySem.W.typeIn K (.ref FI_InvalidProgram) = some (.type "function")) (xn_InvalidProgram : PySem.W.findIn K (.ref C_InvalidProgram) "index" = some none) (xl_InvalidProgram : K.lookup FI_InvalidProgram = some ⟨xoc_InvalidProgram, xod_InvalidProgram, .func (PySem.W.fnOf "__init__" "InvalidProgram.__init__" (defArgs (inS 4 0)) (defBody (inS 4 0)) (defScope (inS 4 0)) .none xkV_InvalidProgram xdc_InvalidProgram xpm_InvalidProgram xan_InvalidProgram xcd_InvalidProgram xct_InvalidProgram), xsl_InvalidProgram⟩) (xc_InvalidProgram : PySem.W.codeIn K xcd_InvalidProgram "InvalidProgram.__init__" = true) (xk_InvalidProgram : PySem.W.keepIn K (.ref FI_InvalidProgram) = true) (x_InvalidProgram : OexC K C_InvalidProgram)
    (xi_InvalidText : PySem.W.findIn K (.ref C_InvalidText) "__init__" = some (some (.ref FI_InvalidText))) (xt_InvalidText : PySem.W.typeIn K (.ref FI_InvalidText) = some (.type "function")) (xn_InvalidText : PySem.W.findIn K (.ref C_InvalidText) "text" = some none) (xl_InvalidText : K.lookup FI_InvalidText = some ⟨xoc_InvalidText, xod_InvalidText, .func (PySem.W.fnOf "__init__" "InvalidText.__init__" (defArgs (inS 5 0)) (defBody (inS 5 0)) (defScope (inS 5 0)) .none xkV_InvalidText xdc_InvalidText xpm_InvalidText xan_InvalidText xcd_InvalidText xct_InvalidText), xsl_InvalidText⟩) (xc_InvalidText : PySem.W.codeIn K xcd_InvalidText "InvalidText.__init__" = true) (xk_InvalidText : PySem.W.keepIn K (.ref FI_InvalidText) = true) (x_InvalidText : OexC K C_InvalidText)
    (xe_InvalidTable_InvalidProgram : PySem.W.exmOne K (.ref C_InvalidTable) (.ref C_InvalidProgram) = some false)
    (xe_InvalidProgram_InvalidProgram : PySem.W.exmOne K (.ref C_InvalidProgram) (.ref C_InvalidProgram) = some true)
    (xe_InvalidText_InvalidProgram : PySem.W.exmOne K (.ref C_InvalidText) (.ref C_InvalidProgram) = some false)
    (cq_sorted_places : cd15 = .ref c_sorted_places) (lk_sorted_places : K.lookup c_sorted_places = some ⟨moc_sorted_places, mod_sorted_places, .fields mvs_sorted_places, msl_sorted_places⟩) (pv_sorted_places : mvs_sorted_places[11]? = some (.ref P_sorted_places)) (hd_sorted_places : PySem.W.codeHdIn K c_sorted_places P_sorted_places = true) (kn_sorted_places : K.lookup P_sorted_places = none) (gt_sorted_places : h.get? P_sorted_places = some { cls := .none, data := .fields #[] }) :
    LawG l w K 23 "_law_script" m_law mg fa h := by
  have e := hfa.symm.trans (PySem.W.mg_of X G a50)
  cases e
  refine ⟨(PySem.W.fnOf "law" "law" (defArgs (topS 77)) (defBody (topS 77)) (defScope (topS 77)) .none kV50 dc50 pm50 an50 cd50 ct50), [(c_sorted_places, P_sorted_places)], { w := some w, T := [(P_sorted_places, ("sorted_places" ++ ".<locals>." : Str) ++ "<lambda>")], gd := True }, fun c q hc => ?_, fun q hq => ?_, fun s v => .of_eq rfl, fun base hK hG hT => ?_⟩
  · simp only [List.mem_cons, List.not_mem_nil, or_false, Prod.mk.injEq] at hc
    obtain ⟨rfl, rfl⟩ := hc
    exact ⟨gt_sorted_places, kn_sorted_places, PySem.W.codeHd_of_K X hd_sorted_places⟩
  · simp only [List.mem_cons, List.not_mem_nil, or_false] at hq
    subst hq
    exact ⟨c_sorted_places, by simp⟩
  · letI : Lab := { w := some w, T := [(P_sorted_places, ("sorted_places" ++ ".<locals>." : Str) ++ "<lambda>")], gd := True }
    haveI : LabR := ⟨trivial⟩
    exact ok_law (mkTx rfl X G a0 l0 c0 k0 a1 l1 c1 k1 a2 l2 c2 k2 a3 l3 c3 k3 a4 l4 c4 k4 a5 l5 c5 k5 a6 l6 c6 k6 a7 l7 c7 k7 a8 l8 c8 k8 a9 l9 c9 k9 a10 l10 c10 k10 a11 l11 c11 k11 a12 l12 c12 k12 a13 l13 c13 k13 a14 l14 c14 k14 a15 l15 c15 k15 a16 l16 c16 k16 a17 l17 c17 k17 a18 l18 c18 k18 a19 l19 c19 k19 a20 l20 c20 k20 a21 l21 c21 k21 a22 l22 c22 k22 a23 l23 c23 k23 a24 l24 c24 k24 a25 l25 c25 k25 a26 l26 c26 k26 a27 l27 c27 k27 a28 l28 c28 k28 a29 l29 c29 k29 a30 l30 c30 k30 a31 l31 c31 k31 a32 l32 c32 k32 a33 l33 c33 k33 a34 l34 c34 k34 a35 l35 c35 k35 a36 l36 c36 k36 a37 l37 c37 k37 a38 l38 c38 k38 a39 l39 c39 k39 a40 l40 c40 k40 a41 l41 c41 k41 a42 l42 c42 k42 a43 l43 c43 k43 a44 l44 c44 k44 a45 l45 c45 k45 a46 l46 c46 k46 a47 l47 c47 k47 a48 l48 c48 k48 a49 l49 c49 k49 a50 l50 c50 k50 n_abs n_all n_any n_bool n_divmod n_enumerate n_int n_isinstance n_len n_max n_min n_range n_repr n_sorted n_str n_sum n_tuple c_MOST_COLUMNS c_MOST_RECORDS c_MOST_KEYS c_DIRECTIONS c_LEAST_SIZE c_MOST_SIZE c_MOST_TIMES c_CUTS c_BARE_WORDS c_MOST_NESTED c_MOST_COMMANDS c_START xa_InvalidTable xa_InvalidProgram xa_InvalidText xi_InvalidTable xt_InvalidTable xn_InvalidTable xl_InvalidTable xc_InvalidTable xk_InvalidTable x_InvalidTable xi_InvalidProgram xt_InvalidProgram xn_InvalidProgram xl_InvalidProgram xc_InvalidProgram xk_InvalidProgram x_InvalidProgram xi_InvalidText xt_InvalidText xn_InvalidText xl_InvalidText xc_InvalidText xk_InvalidText x_InvalidText xe_InvalidTable_InvalidProgram xe_InvalidProgram_InvalidProgram xe_InvalidText_InvalidProgram cq_sorted_places (hT c_sorted_places P_sorted_places (by simp)) (show (P_sorted_places, ("sorted_places" ++ ".<locals>." : Str) ++ "<lambda>") ∈ ([(P_sorted_places, ("sorted_places" ++ ".<locals>." : Str) ++ "<lambda>")] : List (Addr × Str)) by simp) (fun p hp e => by
      change p ∈ ([(P_sorted_places, ("sorted_places" ++ ".<locals>." : Str) ++ "<lambda>")] : List (Addr × Str)) at hp
      simp only [List.mem_cons, List.not_mem_nil, or_false] at hp
      rw [hp]))
end DL
end L2
open PySem PySem.W PyProof.Rows
set_option maxHeartbeats 0 in
theorem PySem.Challenge.cw_sortcuts_k22_whole_texts_read_back_and_r_holds : PySem.Challenge.rw_sortcuts_k22_whole_texts_read_back_and_r.Holds := by
  w_on; o_law; k_head; (case hw => w_witness2)
  k_fill
  refine L2.DL.walk_g (l := PySem.Challenge.rw_sortcuts_k22_whole_texts_read_back_and_r) (n := 63) (k := 23) (x := "_law_script") (m := L2.DL.m_law) rfl (by decide) rfl ⟨rfl, by decide, by decide⟩ (fun w h Y => PySem.W.km_in_of Y) ?F (fun ns _ => L2.DL.law_spec ns)
  case F =>
    intro w mg fa h Y KX G hmg
    refine' L2.DL.all_mk KX G hmg ?a0 ?l0 ?c0 ?k0 ?a1 ?l1 ?c1 ?k1 ?a2 ?l2 ?c2 ?k2 ?a3 ?l3 ?c3 ?k3 ?a4 ?l4 ?c4 ?k4 ?a5 ?l5 ?c5 ?k5 ?a6 ?l6 ?c6 ?k6 ?a7 ?l7 ?c7 ?k7 ?a8 ?l8 ?c8 ?k8 ?a9 ?l9 ?c9 ?k9 ?a10 ?l10 ?c10 ?k10 ?a11 ?l11 ?c11 ?k11 ?a12 ?l12 ?c12 ?k12 ?a13 ?l13 ?c13 ?k13 ?a14 ?l14 ?c14 ?k14 ?a15 ?l15 ?c15 ?k15 ?a16 ?l16 ?c16 ?k16 ?a17 ?l17 ?c17 ?k17 ?a18 ?l18 ?c18 ?k18 ?a19 ?l19 ?c19 ?k19 ?a20 ?l20 ?c20 ?k20 ?a21 ?l21 ?c21 ?k21 ?a22 ?l22 ?c22 ?k22 ?a23 ?l23 ?c23 ?k23 ?a24 ?l24 ?c24 ?k24 ?a25 ?l25 ?c25 ?k25 ?a26 ?l26 ?c26 ?k26 ?a27 ?l27 ?c27 ?k27 ?a28 ?l28 ?c28 ?k28 ?a29 ?l29 ?c29 ?k29 ?a30 ?l30 ?c30 ?k30 ?a31 ?l31 ?c31 ?k31 ?a32 ?l32 ?c32 ?k32 ?a33 ?l33 ?c33 ?k33 ?a34 ?l34 ?c34 ?k34 ?a35 ?l35 ?c35 ?k35 ?a36 ?l36 ?c36 ?k36 ?a37 ?l37 ?c37 ?k37 ?a38 ?l38 ?c38 ?k38 ?a39 ?l39 ?c39 ?k39 ?a40 ?l40 ?c40 ?k40 ?a41 ?l41 ?c41 ?k41 ?a42 ?l42 ?c42 ?k42 ?a43 ?l43 ?c43 ?k43 ?a44 ?l44 ?c44 ?k44 ?a45 ?l45 ?c45 ?k45 ?a46 ?l46 ?c46 ?k46 ?a47 ?l47 ?c47 ?k47 ?a48 ?l48 ?c48 ?k48 ?a49 ?l49 ?c49 ?k49 ?a50 ?l50 ?c50 ?k50 ?n_abs ?n_all ?n_any ?n_bool ?n_divmod ?n_enumerate ?n_int ?n_isinstance ?n_len ?n_max ?n_min ?n_range ?n_repr ?n_sorted ?n_str ?n_sum ?n_tuple ?c_MOST_COLUMNS ?c_MOST_RECORDS ?c_MOST_KEYS ?c_DIRECTIONS ?c_LEAST_SIZE ?c_MOST_SIZE ?c_MOST_TIMES ?c_CUTS ?c_BARE_WORDS ?c_MOST_NESTED ?c_MOST_COMMANDS ?c_START ?xa_InvalidTable ?xa_InvalidProgram ?xa_InvalidText ?xi_InvalidTable ?xt_InvalidTable ?xn_InvalidTable ?xl_InvalidTable ?xc_InvalidTable ?xk_InvalidTable ?x_InvalidTable ?xi_InvalidProgram ?xt_InvalidProgram ?xn_InvalidProgram ?xl_InvalidProgram ?xc_InvalidProgram ?xk_InvalidProgram ?x_InvalidProgram ?xi_InvalidText ?xt_InvalidText ?xn_InvalidText ?xl_InvalidText ?xc_InvalidText ?xk_InvalidText ?x_InvalidText ?xe_InvalidTable_InvalidProgram ?xe_InvalidProgram_InvalidProgram ?xe_InvalidText_InvalidProgram ?cq_sorted_places ?lk_sorted_places ?pv_sorted_places ?hd_sorted_places ?kn_sorted_places ?gt_sorted_places
    (case a0 => k_is)
    (case l0 => k_is)
    (case c0 => k_is)
    (case k0 => k_is)
    (case a1 => k_is)
    (case l1 => k_is)
    (case c1 => k_is)
    (case k1 => k_is)
    (case a2 => k_is)
    (case l2 => k_is)
    (case c2 => k_is)
    (case k2 => k_is)
    (case a3 => k_is)
    (case l3 => k_is)
    (case c3 => k_is)
    (case k3 => k_is)
    (case a4 => k_is)
    (case l4 => k_is)
    (case c4 => k_is)
    (case k4 => k_is)
    (case a5 => k_is)
    (case l5 => k_is)
    (case c5 => k_is)
    (case k5 => k_is)
    (case a6 => k_is)
    (case l6 => k_is)
    (case c6 => k_is)
    (case k6 => k_is)
    (case a7 => k_is)
    (case l7 => k_is)
    (case c7 => k_is)
    (case k7 => k_is)
    (case a8 => k_is)
    (case l8 => k_is)
    (case c8 => k_is)
    (case k8 => k_is)
    (case a9 => k_is)
    (case l9 => k_is)
    (case c9 => k_is)
    (case k9 => k_is)
    (case a10 => k_is)
    (case l10 => k_is)
    (case c10 => k_is)
    (case k10 => k_is)
    (case a11 => k_is)
    (case l11 => k_is)
    (case c11 => k_is)
    (case k11 => k_is)
    (case a12 => k_is)
    (case l12 => k_is)
    (case c12 => k_is)
    (case k12 => k_is)
    (case a13 => k_is)
    (case l13 => k_is)
    (case c13 => k_is)
    (case k13 => k_is)
    (case a14 => k_is)
    (case l14 => k_is)
    (case c14 => k_is)
    (case k14 => k_is)
    (case a15 => k_is)
    (case l15 => k_is)
    (case c15 => k_is)
    (case k15 => k_is)
    (case a16 => k_is)
    (case l16 => k_is)
    (case c16 => k_is)
    (case k16 => k_is)
    (case a17 => k_is)
    (case l17 => k_is)
    (case c17 => k_is)
    (case k17 => k_is)
    (case a18 => k_is)
    (case l18 => k_is)
    (case c18 => k_is)
    (case k18 => k_is)
    (case a19 => k_is)
    (case l19 => k_is)
    (case c19 => k_is)
    (case k19 => k_is)
    (case a20 => k_is)
    (case l20 => k_is)
    (case c20 => k_is)
    (case k20 => k_is)
    (case a21 => k_is)
    (case l21 => k_is)
    (case c21 => k_is)
    (case k21 => k_is)
    (case a22 => k_is)
    (case l22 => k_is)
    (case c22 => k_is)
    (case k22 => k_is)
    (case a23 => k_is)
    (case l23 => k_is)
    (case c23 => k_is)
    (case k23 => k_is)
    (case a24 => k_is)
    (case l24 => k_is)
    (case c24 => k_is)
    (case k24 => k_is)
    (case a25 => k_is)
    (case l25 => k_is)
    (case c25 => k_is)
    (case k25 => k_is)
    (case a26 => k_is)
    (case l26 => k_is)
    (case c26 => k_is)
    (case k26 => k_is)
    (case a27 => k_is)
    (case l27 => k_is)
    (case c27 => k_is)
    (case k27 => k_is)
    (case a28 => k_is)
    (case l28 => k_is)
    (case c28 => k_is)
    (case k28 => k_is)
    (case a29 => k_is)
    (case l29 => k_is)
    (case c29 => k_is)
    (case k29 => k_is)
    (case a30 => k_is)
    (case l30 => k_is)
    (case c30 => k_is)
    (case k30 => k_is)
    (case a31 => k_is)
    (case l31 => k_is)
    (case c31 => k_is)
    (case k31 => k_is)
    (case a32 => k_is)
    (case l32 => k_is)
    (case c32 => k_is)
    (case k32 => k_is)
    (case a33 => k_is)
    (case l33 => k_is)
    (case c33 => k_is)
    (case k33 => k_is)
    (case a34 => k_is)
    (case l34 => k_is)
    (case c34 => k_is)
    (case k34 => k_is)
    (case a35 => k_is)
    (case l35 => k_is)
    (case c35 => k_is)
    (case k35 => k_is)
    (case a36 => k_is)
    (case l36 => k_is)
    (case c36 => k_is)
    (case k36 => k_is)
    (case a37 => k_is)
    (case l37 => k_is)
    (case c37 => k_is)
    (case k37 => k_is)
    (case a38 => k_is)
    (case l38 => k_is)
    (case c38 => k_is)
    (case k38 => k_is)
    (case a39 => k_is)
    (case l39 => k_is)
    (case c39 => k_is)
    (case k39 => k_is)
    (case a40 => k_is)
    (case l40 => k_is)
    (case c40 => k_is)
    (case k40 => k_is)
    (case a41 => k_is)
    (case l41 => k_is)
    (case c41 => k_is)
    (case k41 => k_is)
    (case a42 => k_is)
    (case l42 => k_is)
    (case c42 => k_is)
    (case k42 => k_is)
    (case a43 => k_is)
    (case l43 => k_is)
    (case c43 => k_is)
    (case k43 => k_is)
    (case a44 => k_is)
    (case l44 => k_is)
    (case c44 => k_is)
    (case k44 => k_is)
    (case a45 => k_is)
    (case l45 => k_is)
    (case c45 => k_is)
    (case k45 => k_is)
    (case a46 => k_is)
    (case l46 => k_is)
    (case c46 => k_is)
    (case k46 => k_is)
    (case a47 => k_is)
    (case l47 => k_is)
    (case c47 => k_is)
    (case k47 => k_is)
    (case a48 => k_is)
    (case l48 => k_is)
    (case c48 => k_is)
    (case k48 => k_is)
    (case a49 => k_is)
    (case l49 => k_is)
    (case c49 => k_is)
    (case k49 => k_is)
    (case a50 => k_is)
    (case l50 => k_is)
    (case c50 => k_is)
    (case k50 => k_is)
    (case n_abs => k_is)
    (case n_all => k_is)
    (case n_any => k_is)
    (case n_bool => k_is)
    (case n_divmod => k_is)
    (case n_enumerate => k_is)
    (case n_int => k_is)
    (case n_isinstance => k_is)
    (case n_len => k_is)
    (case n_max => k_is)
    (case n_min => k_is)
    (case n_range => k_is)
    (case n_repr => k_is)
    (case n_sorted => k_is)
    (case n_str => k_is)
    (case n_sum => k_is)
    (case n_tuple => k_is)
    (case xa_InvalidTable => k_is)
    (case xa_InvalidProgram => k_is)
    (case xa_InvalidText => k_is)
    (case xi_InvalidTable => k_is)
    (case xt_InvalidTable => k_is)
    (case xn_InvalidTable => k_is)
    (case xl_InvalidTable => k_is)
    (case xc_InvalidTable => k_is)
    (case xk_InvalidTable => k_is)
    (case xi_InvalidProgram => k_is)
    (case xt_InvalidProgram => k_is)
    (case xn_InvalidProgram => k_is)
    (case xl_InvalidProgram => k_is)
    (case xc_InvalidProgram => k_is)
    (case xk_InvalidProgram => k_is)
    (case xi_InvalidText => k_is)
    (case xt_InvalidText => k_is)
    (case xn_InvalidText => k_is)
    (case xl_InvalidText => k_is)
    (case xc_InvalidText => k_is)
    (case xk_InvalidText => k_is)
    (case c_MOST_COLUMNS => (intro _; refine' L2.DL.cInt KX G ?q1; (case q1 => k_is)))
    (case c_MOST_RECORDS => (intro _; refine' L2.DL.cInt KX G ?q1; (case q1 => k_is)))
    (case c_MOST_KEYS => (intro _; refine' L2.DL.cInt KX G ?q1; (case q1 => k_is)))
    (case c_DIRECTIONS => (intro _; refine' L2.DL.cStrs (ss := ["down", "up"]) KX G ?s1 ?s2 ?s3 ?s4 ?s5; (case s1 => k_is); (case s2 => k_is); (case s3 => rfl); (case s4 => decide); (case s5 => exact .cons ⟨_, rfl⟩ (.cons ⟨_, rfl⟩ .nil))))
    (case c_LEAST_SIZE => (intro _; refine' L2.DL.cInt KX G ?q1; (case q1 => k_is)))
    (case c_MOST_SIZE => (intro _; refine' L2.DL.cInt KX G ?q1; (case q1 => k_is)))
    (case c_MOST_TIMES => (intro _; refine' L2.DL.cInt KX G ?q1; (case q1 => k_is)))
    (case c_CUTS => (intro _; refine' L2.DL.cStrs (ss := ["first", "last"]) KX G ?s1 ?s2 ?s3 ?s4 ?s5; (case s1 => k_is); (case s2 => k_is); (case s3 => rfl); (case s4 => decide); (case s5 => exact .cons ⟨_, rfl⟩ (.cons ⟨_, rfl⟩ .nil))))
    (case c_BARE_WORDS => (intro _; refine' L2.DL.cStrs (ss := ["reverse", "restore"]) KX G ?s1 ?s2 ?s3 ?s4 ?s5; (case s1 => k_is); (case s2 => k_is); (case s3 => rfl); (case s4 => decide); (case s5 => exact .cons ⟨_, rfl⟩ (.cons ⟨_, rfl⟩ .nil))))
    (case c_MOST_NESTED => (intro _; refine' L2.DL.cInt KX G ?q1; (case q1 => k_is)))
    (case c_MOST_COMMANDS => (intro _; refine' L2.DL.cInt KX G ?q1; (case q1 => k_is)))
    (case c_START => (intro _; refine' L2.DL.cTup1 (ss := ["place", "up"]) KX G ?s1 ?s2 ?s3 ?s4 ?s5 ?s6 ?s7 ?s8 ?s9; (case s1 => k_is); (case s2 => k_is); (case s3 => rfl); (case s4 => decide); (case s5 => rfl); (case s6 => k_is); (case s7 => rfl); (case s8 => decide); (case s9 => exact .cons ⟨_, rfl⟩ (.cons ⟨_, rfl⟩ .nil))))
    (case x_InvalidTable => (refine' L2.DL.oex_mk ?l1 ?r1 ?s1 ?e1 ?t1 ?k1; (case l1 => k_is); (case r1 => rfl); (case s1 => k_is); (case e1 => k_is); (case t1 => k_is); (case k1 => k_is)))
    (case x_InvalidProgram => (refine' L2.DL.oex_mk ?l1 ?r1 ?s1 ?e1 ?t1 ?k1; (case l1 => k_is); (case r1 => rfl); (case s1 => k_is); (case e1 => k_is); (case t1 => k_is); (case k1 => k_is)))
    (case x_InvalidText => (refine' L2.DL.oex_mk ?l1 ?r1 ?s1 ?e1 ?t1 ?k1; (case l1 => k_is); (case r1 => rfl); (case s1 => k_is); (case e1 => k_is); (case t1 => k_is); (case k1 => k_is)))
    (case xe_InvalidTable_InvalidProgram => kts_exm)
    (case xe_InvalidProgram_InvalidProgram => kts_exm)
    (case xe_InvalidText_InvalidProgram => kts_exm)
    (case cq_sorted_places => exact rfl)
    (case lk_sorted_places => k_is)
    (case pv_sorted_places => exact rfl)
    (case hd_sorted_places => kernel_rfl)
    (case kn_sorted_places => kernel_rfl)
    (case gt_sorted_places => exact PySem.W.km_tabs_of Y _ (by first | k_mem | decide))

