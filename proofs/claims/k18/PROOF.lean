import PyProof.Rows.All
import Wide.All
import OpenK.AllK
import Wide.FinOn
import HandS.ForMost
import HandS.Walk
import HandS.IsInst
import HandS.TupAny
import HandS.Deep
import HandS.Lambda
import KE.KExcIs
import HandS.EndTab
import KE.KDictKeyed
import KE.KDictDisplayH
import HandS.Conv
import KE.GoesEnum
import HandS.RevRange
import HandS.Style
import HandS.TupMul
import HandS.Exc
import HandS.ExcOwn
import HandS.WordsExc
import HandS.TryOnly
import HandS.ExcInit
import KE.RegKTryMore
import HandS.SortKw
import KE.SortKeyHeap
import KE.KNestM
import HandS.SortInts
import HandS.TupSets
import KE.DataCmp
import HandS.SetFor
import HandS.Strs
import HandS.WideBits
import HandS.NoneIn
import HandS.SortRule
import HandS.Flt
import HandS.GenList
import HandS.GenYield
import PySem.Challenge.RW_sortcuts_k18_programs_and_tables_refused
set_option linter.all false
set_option Elab.async false
set_option maxRecDepth 100000
set_option maxHeartbeats 4000000
set_option autoImplicit false
namespace L2
namespace DL
open PySem PySem.Spec PyProof.Rows

/-! ### data and heaps -/
/-- the tables of code objects, with the names of what they hold -/
class LabW where
  w : Option World
  /-- the classes of exceptions, by their names -/
  C : Str → Addr := fun _ => 0
class Lab extends LabW where
  T : List (Addr × Str)
  gd : Prop
/-- where a repr may be written, none is under way -/
abbrev GdOk [Lab] (A : Around) : Prop := Lab.gd → A.guards = some []
def TB [Lab] (H : Hp) : Prop := LamX.Tabs Lab.T H
abbrev NT (o : HO) : Prop := ∀ ps, o ≠ .tbl ps
/-- all but the tables stay -/
structure Same (H H' : Hp) : Prop where
  h : ∀ b o, H b = some o → NT o → H' b = some o
  k : ∀ b, H b ≠ none → H' b ≠ none
theorem Same.refl (H : Hp) : Same H H := ⟨fun _ _ e _ => e, fun _ h => h⟩
theorem Same.trans {H H1 H2 : Hp} (a : Same H H1) (b : Same H1 H2) : Same H H2 := ⟨fun q o e n => b.h q o (a.h q o e n) n, fun q h => b.k q (a.k q h)⟩
theorem Same.free {H H' : Hp} {q : Addr} (s : Same H H') (h : H' q = none) : H q = none := Classical.byContradiction fun z => s.k q z h
theorem Same.of {H H' : Hp} (s : L2.Same H H') : Same H H' := ⟨fun b o e _ => s b o e, fun b h z => h (s.free z)⟩
theorem nt_lst {xs : List V} : NT (.lst xs) := fun _ h => nomatch h
theorem nt_tup {xs : List V} : NT (.tup xs) := fun _ h => nomatch h
theorem nt_frz {o : Obj} {u : HO} : NT (.frz o u) := fun _ h => nomatch h
theorem nt_dK {x} : NT (.dK x) := fun _ h => nomatch h
theorem nt_xd {x} : NT (.xd x) := fun _ h => nomatch h
theorem same_new {H : Hp} {p : Addr} (h : H p = none) (o : HO) : L2.Same H (upd H p o) := fun b x e => by rw [upd_ne (ne_of_none e h)]; exact e
theorem TB.ext [Lab] {H H' : Hp} (t : TB H) (s : L2.Same H H') : TB H' := LamX.Tabs.ext t s
theorem same_sqT {K : PySem.W.Frag} {H H' : Hp} {a : Addr} {xs : List V} (e : Same H H') (h : SqT K H a xs) : SqT K H' a xs := by
  rcases h with (h | ⟨o, h⟩) | h
  · exact .inl (.inl (e.h _ _ h nt_tup))
  · exact .inl (.inr ⟨o, e.h _ _ h nt_frz⟩)
  · exact .inr h
/-- a list that is read: tracked, frozen, or a plain one of the module's -/
def LsR (K : PySem.W.Frag) (H : Hp) (a : Addr) (xs : List V) : Prop := Rd H a (.lst xs) ∨ ∃ (its : List Value) (n : Nat), K.lookup a = some { cls := .type "list", data := .seq its.toArray n } ∧ xs.length ≤ sizeLine ∧ Vals xs its
theorem LsR.sq {K : PySem.W.Frag} {H : Hp} {a : Addr} {xs : List V} (h : LsR K H a xs) : SqL K H a xs := by
  rcases h with h | ⟨its, n, h, z, r⟩
  · exact .inl h
  · exact .inr ⟨_, its.toArray, n, h, rfl, rfl, rfl, by rw [List.size_toArray, ← r.length]; exact z, by simpa using r⟩
section
variable [LabW]
/-- the dict at a is this object -/
def DnO (a : Addr) (o : Obj) : HO := .ext fun h => h.get? a = some o
/-- its entries: the keys nested tuples, each by its place -/
structure DnF (w : Option World) (a : Addr) (o : Obj) (xs : List (NestedKey × Addr × V)) : Prop where
  hd : (a == sysModules) = false
  nd : (xs.map (·.1)).Nodup
  ex : o.ExactDict
  es : ∃ (w' : World) (es : Array DictEntry) (ep : Nat), w = some w' ∧ o.data = .dict es ep ∧ Paired (fun (x : NestedKey × Addr × V) (e : DictEntry) => e.hash = x.1.hash w' ∧ e.key = .ref x.2.1 ∧ RelV x.2.2 e.val) xs es.toList
  dp : ∀ x ∈ xs, x.1.depth ≤ 8
/-- an exception's object: its class, its dict -/
def ExO (a : Addr) (cls : Value) (d : Option Addr) : HO := .ext fun h => ∃ (oe : Obj) (vs : Array Value), h.get? a = some oe ∧ oe.cls = cls ∧ oe.dict = d ∧ oe.data = .fields vs
/-- what its class must have, so that it can be looked at -/
structure KEx (K : PySem.W.Frag) (C : Addr) : Prop where
  hcl : (PySem.W.clsIn K C).isSome = true
  hga : PySem.W.findIn K (.ref C) "__getattribute__" = some (some (.builtin "BaseException.__getattribute__"))
  hgt : PySem.W.findIn K (.ref C) "__getattr__" = some none
  hsub : PySem.W.subIn K (.ref C) (.type "BaseException") = some true
  hdct : PySem.W.hasDictIn K C = true
  ha : PySem.W.findIn K (.ref C) "__class__" = some (some (.builtin "object.__class__"))
  hn : PySem.W.specialIn K (.builtin "object.__class__") "__get__" = some (some (.builtin "getset_descriptor.__get__"))
  htk : PySem.W.takesIn K (.builtin "object.__class__") = some true
  hm : PySem.W.mroIn K C (.type "object") = some true
  isT : ∀ T ∈ ["bool", "int", "str", "list", "tuple"], PySem.W.kitOne K (.ref C) (.type T) = some false
/-- an exception as data: its class, its attribute -/
abbrev excD (c an : Str) (d : PyData) : PyData := .dict [(.dict [], .tuple [.str c, .str an, d])]
/-- a key of a dict, as data -/
def kyDt : Key → PyData
  | .inl i => .int i
  | .inr x => .str x
mutual
inductive DD (K : PySem.W.Frag) (H : Hp) : V → PyData → Prop
  | non : DD K H .non .none
  | bl (b : Bool) : DD K H (.bl b) (.bool b)
  | int (i : Int) : DD K H (.int i) (.int i)
  | str (x : Str) : DD K H (.str x) (.str x)
  | lst {a : Addr} {xs : List V} {ds : List PyData} : LsR K H a xs → DDs K H xs ds → DD K H (.ref a) (.list ds)
  | tup {a : Addr} {xs : List V} {ds : List PyData} : SqT K H a xs → DDs K H xs ds → DD K H (.ref a) (.tuple ds)
  | dct {a : Addr} {xs : List (Key × V)} {kvs : List (PyData × PyData)} : H a = some (.dK xs) → DDi K H xs kvs → DD K H (.ref a) (.dict kvs)
  | dcn {a : Addr} {o : Obj} {xs : List (NestedKey × Addr × V)} {kvs : List (PyData × PyData)} : H a = some (DnO a o) → DnF LabW.w a o xs → DDk K H xs kvs → DD K H (.ref a) (.dict kvs)
  | exc {a dx : Addr} {c an : Str} {v : V} {d : PyData} : H a = some (ExO a (.ref (LabW.C c)) (some dx)) → H dx = some (.xd [(an, v)]) → KEx K (LabW.C c) → PySem.W.findIn K (.ref (LabW.C c)) an = some none → DD K H v d → DD K H (.ref a) (.dict [(.dict [], .tuple [.str c, .str an, d])])
  | exn {a : Addr} {c : Str} : H a = some (ExO a (.ref (LabW.C c)) none) → KEx K (LabW.C c) → DD K H (.ref a) (.dict [(.dict [], .tuple [.str c])])
inductive DDs (K : PySem.W.Frag) (H : Hp) : List V → List PyData → Prop
  | nil : DDs K H [] []
  | cons {v : V} {vs : List V} {d : PyData} {ds : List PyData} : DD K H v d → DDs K H vs ds → DDs K H (v :: vs) (d :: ds)
inductive DDk (K : PySem.W.Frag) (H : Hp) : List (NestedKey × Addr × V) → List (PyData × PyData) → Prop
  | nil : DDk K H [] []
  | cons {k : NestedKey} {a : Addr} {v : V} {xs : List (NestedKey × Addr × V)} {kd vd : PyData} {kvs : List (PyData × PyData)} : k.data = kd → DD K H (.ref a) kd → DD K H v vd → DDk K H xs kvs → DDk K H ((k, a, v) :: xs) ((kd, vd) :: kvs)
inductive DDi (K : PySem.W.Frag) (H : Hp) : List (Key × V) → List (PyData × PyData) → Prop
  | nil : DDi K H [] []
  | cons {k : Key} {v : V} {xs : List (Key × V)} {vd : PyData} {kvs : List (PyData × PyData)} : DD K H v vd → DDi K H xs kvs → DDi K H ((k, v) :: xs) ((kyDt k, vd) :: kvs)
end
theorem nt_exo {φ : Heap → Prop} : NT (.ext φ) := fun _ h => nomatch h
theorem same_rd {H H' : Hp} {a : Addr} {u : HO} (e : Same H H') (h : Rd H a u) (n : NT u) : Rd H' a u := by
  rcases h with h | ⟨o, h⟩
  · exact .inl (e.h _ _ h n)
  · exact .inr ⟨o, e.h _ _ h nt_frz⟩
theorem same_ls {K : PySem.W.Frag} {H H' : Hp} {a : Addr} {xs : List V} (e : Same H H') (h : LsR K H a xs) : LsR K H' a xs := h.imp (fun z => same_rd e z nt_lst) id
mutual
theorem DD.dp {K : PySem.W.Frag} {Z : Hp} : ∀ (d : PyData) (v : V), d.hasDict = false → DD K Z v d → Dp K Z v d
  | .none, _, _, h => by cases h; exact .non
  | .bool b, _, _, h => by cases h; exact .bl b
  | .int i, _, _, h => by cases h; exact .int i
  | .str x, _, _, h => by cases h; exact .str x
  | .list ds, _, n, h => by
    cases h with
    | lst hs ha => exact .lst hs.sq (DDs.dp ds _ n ha)
  | .tuple ds, _, n, h => by
    cases h with
    | tup hs ha => exact .tup hs (DDs.dp ds _ n ha)
  | .dict _, _, n, h => by cases n
theorem DDs.dp {K : PySem.W.Frag} {Z : Hp} : ∀ (ds : List PyData) (vs : List V), PyData.hasDictAll ds = false → DDs K Z vs ds → DpAll K Z vs ds
  | [], _, _, h => by cases h; exact .nil
  | d :: ds, _, n, h => by
    rw [PyData.hasDictAll, Bool.or_eq_false_iff] at n
    cases h with
    | cons h1 h2 => exact .cons (DD.dp d _ n.1 h1) (DDs.dp ds _ n.2 h2)
end
mutual
theorem dd_mono {K : PySem.W.Frag} {Z Z' : Hp} (s : Same Z Z') : ∀ (d : PyData) (v : V), DD K Z v d → DD K Z' v d
  | .none, _, h => by cases h; exact .non
  | .bool b, _, h => by cases h; exact .bl b
  | .int i, _, h => by cases h; exact .int i
  | .str x, _, h => by cases h; exact .str x
  | .list ds, _, h => by
    cases h with
    | lst hs ha => exact .lst (same_ls s hs) (dds_mono s ds _ ha)
  | .tuple ds, _, h => by
    cases h with
    | tup hs ha => exact .tup (same_sqT s hs) (dds_mono s ds _ ha)
  | .dict kvs, _, h => by
    cases h with
    | dct e hi => exact .dct (s.h _ _ e nt_dK) (ddi_mono s kvs _ hi)
    | dcn e hf hk => exact .dcn (s.h _ _ e nt_exo) hf (ddk_mono s kvs _ hk)
    | @exc a dx c an v d e1 e2 hk hn hd => exact .exc (s.h _ _ e1 nt_exo) (s.h _ _ e2 nt_xd) hk hn (dd_mono s d v hd)
    | exn e1 hk => exact .exn (s.h _ _ e1 nt_exo) hk
theorem dds_mono {K : PySem.W.Frag} {Z Z' : Hp} (s : Same Z Z') : ∀ (ds : List PyData) (vs : List V), DDs K Z vs ds → DDs K Z' vs ds
  | [], _, h => by cases h; exact .nil
  | d :: ds, _, h => by
    cases h with
    | cons h1 h2 => exact .cons (dd_mono s d _ h1) (dds_mono s ds _ h2)
theorem ddk_mono {K : PySem.W.Frag} {Z Z' : Hp} (s : Same Z Z') : ∀ (kvs : List (PyData × PyData)) (xs : List (NestedKey × Addr × V)), DDk K Z xs kvs → DDk K Z' xs kvs
  | [], _, h => by cases h; exact .nil
  | (kd, vd) :: kvs, _, h => by
    cases h with
    | cons h0 h1 h2 h3 => exact .cons h0 (dd_mono s kd _ h1) (dd_mono s vd _ h2) (ddk_mono s kvs _ h3)
theorem ddi_mono {K : PySem.W.Frag} {Z Z' : Hp} (s : Same Z Z') : ∀ (kvs : List (PyData × PyData)) (xs : List (Key × V)), DDi K Z xs kvs → DDi K Z' xs kvs
  | [], _, h => by cases h; exact .nil
  | (kd, vd) :: kvs, _, h => by
    cases h with
    | cons h1 h2 => exact .cons (dd_mono s vd _ h1) (ddi_mono s kvs _ h2)
end
theorem DDm {K : PySem.W.Frag} {Z Z' : Hp} {v : V} {d : PyData} (h : DD K Z v d) (s : Same Z Z') : DD K Z' v d := dd_mono s d v h
theorem DDsm {K : PySem.W.Frag} {Z Z' : Hp} {vs : List V} {ds : List PyData} (h : DDs K Z vs ds) (s : Same Z Z') : DDs K Z' vs ds := dds_mono s ds vs h
end
variable [Lab]
/-! ### slots as data -/
inductive DV where
  | fr (d : PyData) | ow (ds : List PyData) | rf (ds : List PyData) | dk (kvs : List (PyData × PyData)) | fn (n : Str)
abbrev DEnv := List (Option DV)
def ownish : DV → Bool
  | .fr _ => false
  | .fn _ => false
  | _ => true
structure Fm where
  Z0 : Hp
  G : Hp
  P : Addr → Prop
  W : Str → Option Addr → St → Hp → Prop
def SlotOk (K : PySem.W.Frag) (F : Fm) (Z H : Hp) (σ : St) (i : Nat) : DV → Prop
  | .fr d => ∃ v, σ[i]? = some (some v) ∧ DD K Z v d
  | .ow ds => ∃ p xs, σ[i]? = some (some (.ref p)) ∧ ¬ F.P p ∧ F.G p = none ∧ Z p = none ∧ H p = some (.lst xs) ∧ DDs K Z xs ds
  | .rf ds => ∃ p xs, σ[i]? = some (some (.ref p)) ∧ F.P p ∧ H p = some (.lst xs) ∧ DDs K Z xs ds
  | .fn n => σ[i]? = some (some (.ref (LabW.C n)))
  | .dk kvs => ∃ p o xs, σ[i]? = some (some (.ref p)) ∧ ¬ F.P p ∧ F.G p = none ∧ Z p = none ∧ H p = some (DnO p o) ∧ DnF LabW.w p o xs ∧ DDk K Z xs kvs
structure Rel (K : PySem.W.Frag) (F : Fm) (Z H : Hp) (σ : St) (env : DEnv) : Prop where
  z0 : Same F.Z0 Z
  zh : Same Z H
  gh : Same F.G H
  nw : ∀ q, Z q ≠ none → F.Z0 q ≠ none ∨ (F.G q = none ∧ ¬ F.P q)
  pp : ∀ q, F.P q → H q ≠ none ∧ Z q = none ∧ F.G q = none
  len : env.length = σ.length
  sl : ∀ (i : Nat) (dv : DV), env[i]? = some (some dv) → SlotOk K F Z H σ i dv
  inj : ∀ (i j : Nat) (di dj : DV) (p : Addr), env[i]? = some (some di) → env[j]? = some (some dj) → ownish di = true → ownish dj = true → σ[i]? = some (some (.ref p)) → σ[j]? = some (some (.ref p)) → i = j
  tb : TB H
/-- q is no owned slot's list -/
def Fre (σ : St) (env : DEnv) (q : Addr) : Prop := ∀ (i : Nat) (dv : DV), env[i]? = some (some dv) → ownish dv = true → σ[i]? ≠ some (some (V.ref q))
/-- one step of an expression: only owned slots' lists may change -/
structure Stp (σ : St) (env : DEnv) (Z H : Hp) (env' : DEnv) (Z' H' : Hp) : Prop where
  z : Same Z Z'
  h : ∀ q o, H q = some o → NT o → Fre σ env q → H' q = some o
  n : ∀ q, Z' q ≠ none → Z q = none → H q ≠ none → ¬ Fre σ env q
  o : ∀ (i : Nat) (dv : DV), env'[i]? = some (some dv) → ownish dv = true → ∃ dv0, env[i]? = some (some dv0) ∧ ownish dv0 = true
  k : ∀ q, H q ≠ none → H' q ≠ none
theorem Stp.new {σ : St} {env env' : DEnv} {Z H Z' H' : Hp} (s : Stp σ env Z H env' Z' H') {q : Addr} (h : H' q = none) : H q = none :=
  Classical.byContradiction fun z => s.k q z h
theorem Stp.refl {σ : St} {env : DEnv} {Z H : Hp} : Stp σ env Z H env Z H :=
  ⟨Same.refl Z, fun _ _ e _ _ => e, fun _ a b => absurd b a, fun _ dv e o => ⟨dv, e, o⟩, fun _ h => h⟩
theorem Stp.fre {σ : St} {env env' : DEnv} {Z H Z' H' : Hp} (s : Stp σ env Z H env' Z' H') {q : Addr} (f : Fre σ env q) : Fre σ env' q := fun i dv e o => by
  obtain ⟨dv0, e0, o0⟩ := s.o i dv e o
  exact f i dv0 e0 o0
theorem Stp.trans {σ : St} {e0 e1 e2 : DEnv} {Z0 H0 Z1 H1 Z2 H2 : Hp} (a : Stp σ e0 Z0 H0 e1 Z1 H1) (b : Stp σ e1 Z1 H1 e2 Z2 H2) : Stp σ e0 Z0 H0 e2 Z2 H2 := by
  refine ⟨a.z.trans b.z, fun q o e n f => b.h q o (a.h q o e n f) n (a.fre f), fun q h2 h0 hh f => ?_, fun i dv e o => ?_, fun q h => b.k q (a.k q h)⟩
  · by_cases hz : Z1 q = none
    · have h1 : H1 q ≠ none := a.k q hh
      exact b.n q h2 hz h1 (a.fre f)
    · exact a.n q hz h0 hh f
  · obtain ⟨d1, x, y⟩ := b.o i dv e o
    exact a.o i d1 x y
/-- what only lays new things -/
structure Grow (Z H Z' H' : Hp) : Prop where
  z : Same Z Z'
  zh : Same Z' H'
  h : Same H H'
  t : TB H → TB H'
  n : ∀ q, Z' q ≠ none → Z q ≠ none ∨ H q = none
theorem Grow.refl {Z H : Hp} (s : Same Z H) : Grow Z H Z H := ⟨Same.refl Z, s, Same.refl H, id, fun _ h => .inl h⟩
theorem Grow.trans {Z H Z1 H1 Z2 H2 : Hp} (a : Grow Z H Z1 H1) (b : Grow Z1 H1 Z2 H2) : Grow Z H Z2 H2 := by
  refine ⟨a.z.trans b.z, b.zh, a.h.trans b.h, fun t => b.t (a.t t), fun q h => ?_⟩
  rcases b.n q h with h | h
  · exact a.n q h
  · exact .inr (a.h.free h)
/-- what a callee may do to the list at p -/
structure Pok (Z H : Hp) (p : Addr) (Z' H' : Hp) : Prop where
  z : Same Z Z'
  zh : Same Z' H'
  h : ∀ q o, q ≠ p → H q = some o → NT o → H' q = some o
  k : ∀ q, q ≠ p → H q ≠ none → H' q ≠ none
  t : TB H → TB H'
  n : ∀ q, Z' q ≠ none → Z q ≠ none ∨ H q = none
/-! ### reading a slot -/
def rdF (i : Nat) (env : DEnv) : Option (PyData × DEnv) := match env[i]? with
  | some (some (.fr d)) => some (d, env)
  | some (some (.ow ds)) => some (.list ds, env.set i (some (.fr (.list ds))))
  | some (some (.dk kvs)) => some (.dict kvs, env.set i (some (.fr (.dict kvs))))
  | _ => none
/-- the data that stands in a slot, whatever its kind -/
def rdB (i : Nat) (env : DEnv) : Option PyData := match env[i]? with
  | some (some (.fr d)) => some d
  | some (some (.ow ds)) => some (.list ds)
  | some (some (.rf ds)) => some (.list ds)
  | some (some (.dk kvs)) => some (.dict kvs)
  | _ => none
theorem get_set_some {env : DEnv} {i j : Nat} {x : Option DV} {dv : DV} (h : (env.set i x)[j]? = some (some dv)) : (j = i ∧ x = some dv) ∨ (j ≠ i ∧ env[j]? = some (some dv)) := by
  by_cases e : i = j
  · subst e
    by_cases hl : i < env.length
    · rw [List.getElem?_set_self hl] at h
      exact .inl ⟨rfl, Option.some.inj h⟩
    · rw [List.getElem?_eq_none (by rw [List.length_set]; omega)] at h
      cases h
  · rw [List.getElem?_set_ne e] at h
    exact .inr ⟨fun z => e z.symm, h⟩
theorem Rel.freezeG {K : PySem.W.Frag} {F : Fm} {Z H : Hp} {σ : St} {env : DEnv} {i : Nat} {dv0 : DV} {p : Addr} {u : HO} {d : PyData} (r : Rel K F Z H σ env) (e : env[i]? = some (some dv0)) (hown : ownish dv0 = true) (e1 : σ[i]? = some (some (.ref p))) (e2 : ¬ F.P p) (e3 : F.G p = none) (e4 : Z p = none) (e5 : H p = some u) (hd : DD K (upd Z p u) (.ref p) d) :
    ∃ Z' v, Rel K F Z' H σ (env.set i (some (.fr d))) ∧ Stp σ env Z H (env.set i (some (.fr d))) Z' H ∧ σ[i]? = some (some v) ∧ DD K Z' v d := by
  have hZ : Same Z (upd Z p u) := .of (same_new e4 _)
  refine ⟨upd Z p u, .ref p, ⟨r.z0.trans hZ, ⟨fun b x q n => ?_, fun b q => ?_⟩, r.gh, fun q hq => ?_, fun q hq => ?_, by rw [List.length_set]; exact r.len, fun j dv ej => ?_, fun j k dj dk q ej ek oj ok sj sk => ?_, r.tb⟩, ⟨hZ, fun _ _ q _ _ => q, fun q h1 h2 _ f => ?_, fun j dv ej oj => ?_, fun _ h => h⟩, e1, hd⟩
  · by_cases hb : b = p
    · subst hb; rw [upd_same] at q; cases q; exact e5
    · rw [upd_ne hb] at q; exact r.zh.h b x q n
  · by_cases hb : b = p
    · subst hb; rw [e5]; simp
    · rw [upd_ne hb] at q; exact r.zh.k b q
  · by_cases hb : q = p
    · subst hb; exact .inr ⟨e3, e2⟩
    · rw [upd_ne hb] at hq; exact r.nw q hq
  · obtain ⟨a, b, c⟩ := r.pp q hq
    refine ⟨a, ?_, c⟩
    rw [upd_ne (show q ≠ p from fun z => e2 (by rw [← z]; exact hq))]; exact b
  · rcases get_set_some ej with ⟨rfl, ex⟩ | ⟨hne, ex⟩
    · cases ex
      exact ⟨.ref p, e1, hd⟩
    · have s := r.sl j dv ex
      cases dv with
      | fr d => obtain ⟨v, a, b⟩ := s; exact ⟨v, a, DDm b hZ⟩
      | ow es =>
        obtain ⟨p', xs', a1, a2, a3, a4, a5, a6⟩ := s
        have hp : p' ≠ p := fun z => hne (r.inj j i _ _ p ex e rfl hown (z ▸ a1) e1)
        exact ⟨p', xs', a1, a2, a3, by rw [upd_ne hp]; exact a4, a5, DDsm a6 hZ⟩
      | rf es =>
        obtain ⟨p', xs', a1, a2, a5, a6⟩ := s
        exact ⟨p', xs', a1, a2, a5, DDsm a6 hZ⟩
      | fn n => exact s
      | dk es =>
        obtain ⟨p', o', xs', a1, a2, a3, a4, a5, a6, a7⟩ := s
        have hp : p' ≠ p := fun z => hne (r.inj j i _ _ p ex e rfl hown (z ▸ a1) e1)
        exact ⟨p', o', xs', a1, a2, a3, by rw [upd_ne hp]; exact a4, a5, a6, ddk_mono hZ _ _ a7⟩
  · rcases get_set_some ej with ⟨rfl, ex⟩ | ⟨_, ex⟩
    · cases ex; cases oj
    · rcases get_set_some ek with ⟨rfl, ey⟩ | ⟨_, ey⟩
      · cases ey; cases ok
      · exact r.inj j k dj dk q ex ey oj ok sj sk
  · by_cases hb : q = p
    · subst hb; exact f i _ e hown e1
    · rw [upd_ne hb] at h1; exact h1 h2
  · rcases get_set_some ej with ⟨rfl, ex⟩ | ⟨_, ex⟩
    · cases ex; cases oj
    · exact ⟨dv, ex, oj⟩
theorem Rel.freeze {K : PySem.W.Frag} {F : Fm} {Z H : Hp} {σ : St} {env : DEnv} {i : Nat} {ds : List PyData} (r : Rel K F Z H σ env) (e : env[i]? = some (some (.ow ds))) :
    ∃ Z' v, Rel K F Z' H σ (env.set i (some (.fr (.list ds)))) ∧ Stp σ env Z H (env.set i (some (.fr (.list ds)))) Z' H ∧ σ[i]? = some (some v) ∧ DD K Z' v (.list ds) := by
  obtain ⟨p, xs, e1, e2, e3, e4, e5, e6⟩ := r.sl i _ e
  exact r.freezeG e rfl e1 e2 e3 e4 e5 (.lst (.inl (Rd.of upd_same)) (DDsm e6 (.of (same_new e4 _))))
theorem Rel.freezeK {K : PySem.W.Frag} {F : Fm} {Z H : Hp} {σ : St} {env : DEnv} {i : Nat} {kvs : List (PyData × PyData)} (r : Rel K F Z H σ env) (e : env[i]? = some (some (.dk kvs))) :
    ∃ Z' v, Rel K F Z' H σ (env.set i (some (.fr (.dict kvs)))) ∧ Stp σ env Z H (env.set i (some (.fr (.dict kvs)))) Z' H ∧ σ[i]? = some (some v) ∧ DD K Z' v (.dict kvs) := by
  obtain ⟨p, o, xs, e1, e2, e3, e4, e5, e6, e7⟩ := r.sl i _ e
  exact r.freezeG e rfl e1 e2 e3 e4 e5 (.dcn upd_same e6 (ddk_mono (.of (same_new e4 _)) _ _ e7))
theorem Rel.rdF {K : PySem.W.Frag} {F : Fm} {Z H : Hp} {σ : St} {env env' : DEnv} {i : Nat} {d : PyData} (r : Rel K F Z H σ env) (h : DL.rdF i env = some (d, env')) :
    ∃ Z' v, Rel K F Z' H σ env' ∧ Stp σ env Z H env' Z' H ∧ σ[i]? = some (some v) ∧ DD K Z' v d := by
  unfold DL.rdF at h
  split at h
  · rename_i d' e
    cases h
    obtain ⟨v, e1, e2⟩ := r.sl i _ e
    exact ⟨Z, v, r, Stp.refl, e1, e2⟩
  · rename_i ds e
    cases h
    exact r.freeze e
  · rename_i kvs e
    cases h
    exact r.freezeK e
  · cases h
/-- what a slot's list is at this moment -/
theorem Rel.rdB {K : PySem.W.Frag} {F : Fm} {Z H : Hp} {σ : St} {env : DEnv} {i : Nat} {d : PyData} (r : Rel K F Z H σ env) (h : DL.rdB i env = some d) : ∃ v, σ[i]? = some (some v) ∧ DD K H v d := by
  unfold DL.rdB at h
  split at h
  · rename_i d' e
    cases h
    obtain ⟨v, e1, e2⟩ := r.sl i _ e
    exact ⟨v, e1, DDm e2 r.zh⟩
  · rename_i ds e
    cases h
    obtain ⟨p, xs, e1, e2, e3, e4, e5, e6⟩ := r.sl i _ e
    exact ⟨.ref p, e1, .lst (.inl (Rd.of e5)) (DDsm e6 r.zh)⟩
  · rename_i ds e
    cases h
    obtain ⟨p, xs, e1, e2, e5, e6⟩ := r.sl i _ e
    exact ⟨.ref p, e1, .lst (.inl (Rd.of e5)) (DDsm e6 r.zh)⟩
  · rename_i kvs e
    cases h
    obtain ⟨p, o, xs, e1, e2, e3, e4, e5, e6, e7⟩ := r.sl i _ e
    exact ⟨.ref p, e1, .dcn e5 e6 (ddk_mono r.zh _ _ e7)⟩
  · cases h
end DL
end L2


set_option Elab.async false
set_option maxRecDepth 100000
set_option maxHeartbeats 4000000
set_option autoImplicit false
namespace L2
namespace DL
open PySem PySem.Spec PyProof.Rows
variable [Lab]
abbrev lim : Nat := 100000
/-! ### readings -/
def tD (K : PySem.W.Frag) (F : Fm) (f : DEnv → Option (PyData × DEnv)) : TE := fun σ H Q => ∃ Z env d env', Rel K F Z H σ env ∧ f env = some (d, env') ∧ ∀ v Z' H', Rel K F Z' H' σ env' → Stp σ env Z H env' Z' H' → DD K Z' v d → Q v H'
def PD (X : Cx) (F : Fm) (e : Expr) (f : DEnv → Option (PyData × DEnv)) : Prop := PE X e (tD X.K F f)
theorem mpd {α β : Type} {o : Option α} {f : α → β} {b : β} (h : o.map f = some b) : ∃ a, o = some a ∧ f a = b := Option.map_eq_some_iff.mp h

section
variable {X : Cx} {F : Fm} {a b c e : Expr} {es : List Expr} {pos p : Pos} {f g k : DEnv → Option (PyData × DEnv)} {fa : DEnv → Option (List PyData × DEnv)} {ft gt : DEnv → Option (Bool × DEnv)}

def fC (d : PyData) (env : DEnv) : Option (PyData × DEnv) := some (d, env)
def fBin (o : PyData → PyData → Option PyData) (f g : DEnv → Option (PyData × DEnv)) (env : DEnv) : Option (PyData × DEnv) := (f env).bind fun x => (g x.2).bind fun y => (o x.1 y.1).map fun d => (d, y.2)
/-- the right one a name: its list as it stands -/
def fCmpN (o : PyData → PyData → Option PyData) (f : DEnv → Option (PyData × DEnv)) (i : Nat) (env : DEnv) : Option (PyData × DEnv) := (f env).bind fun x => (rdB i x.2).bind fun y => (o x.1 y).map fun d => (d, x.2)
/-! ### tests -/
def truthD : PyData → Option Bool
  | .none => some false
  | .bool b => some b
  | .int i => some (i != 0)
  | .str x => if x.length ≤ lim then some (x.length != 0) else none
  | .list xs => some (!xs.isEmpty)
  | .tuple xs => some (!xs.isEmpty)
  | _ => none
def fTst (f : DEnv → Option (PyData × DEnv)) (env : DEnv) : Option (Bool × DEnv) := (f env).bind fun x => (truthD x.1).map fun k => (k, x.2)
def fAnd (f g : DEnv → Option (Bool × DEnv)) (env : DEnv) : Option (Bool × DEnv) := (f env).bind fun x => if x.1 then g x.2 else some (false, x.2)
def fOr (f g : DEnv → Option (Bool × DEnv)) (env : DEnv) : Option (Bool × DEnv) := (f env).bind fun x => if x.1 then some (true, x.2) else g x.2
def fNot (f : DEnv → Option (Bool × DEnv)) (env : DEnv) : Option (Bool × DEnv) := (f env).map fun x => (!x.1, x.2)
variable {rest : List Expr}
/-! ### and, or, not as values of bools; conditional expressions -/
def fAndV (f g : DEnv → Option (PyData × DEnv)) (env : DEnv) : Option (PyData × DEnv) := (f env).bind fun x => match x.1 with
  | .bool true => g x.2
  | .bool false => some (.bool false, x.2)
  | _ => none
def fNotV (f : DEnv → Option (PyData × DEnv)) (env : DEnv) : Option (PyData × DEnv) := (f env).bind fun x => match x.1 with
  | .bool b => some (.bool (!b), x.2)
  | _ => none
theorem DD.bool_inv {K : PySem.W.Frag} {Z : Hp} {v : V} {k : Bool} (h : DD K Z v (.bool k)) : v = .bl k := by cases h; rfl
def fIf (ft : DEnv → Option (Bool × DEnv)) (f g : DEnv → Option (PyData × DEnv)) (env : DEnv) : Option (PyData × DEnv) := (ft env).bind fun x => if x.1 then f x.2 else g x.2
/-! ### argument lists, displays -/
def fNil (env : DEnv) : Option (List PyData × DEnv) := some ([], env)
def fCons (f : DEnv → Option (PyData × DEnv)) (fa : DEnv → Option (List PyData × DEnv)) (env : DEnv) : Option (List PyData × DEnv) := (f env).bind fun x => (fa x.2).map fun y => (x.1 :: y.1, y.2)
def fTup (fa : DEnv → Option (List PyData × DEnv)) (env : DEnv) : Option (PyData × DEnv) := (fa env).bind fun x => if x.1.length ≤ lim then some (.tuple x.1, x.2) else none
def fLst (fa : DEnv → Option (List PyData × DEnv)) (env : DEnv) : Option (List PyData × DEnv) := (fa env).bind fun x => if x.1.length ≤ lim then some x else none
def fFrz (fa : DEnv → Option (List PyData × DEnv)) (env : DEnv) : Option (PyData × DEnv) := (fa env).map fun x => (.list x.1, x.2)
def fCB (o : List PyData → Option PyData) (fa : DEnv → Option (List PyData × DEnv)) (env : DEnv) : Option (PyData × DEnv) := (fa env).bind fun x => (o x.1).map fun d => (d, x.2)
variable {x : Str} {id T : String}
end
end DL
end L2


set_option Elab.async false
set_option maxRecDepth 100000
set_option maxHeartbeats 4000000
set_option autoImplicit false
namespace L2
namespace DL
open PySem PySem.Spec PyProof.Rows
variable [Lab]
/-! ### defs, called where no repr is under way -/
structure FnG (P : Program) (w : World) (K : PySem.W.Frag) (mg : Str → Option Value) (base : Heap) (k : Nat) (f : Addr) (fd : FuncData) (ps : List Str) (sp : Sp) : Prop where
  len : ∀ vs H Q E, sp vs H Q E → vs.length = ps.length
  run : ∀ (A : Around) (outer : List Env) (s : Shared) (H : Hp) (args : Args) (us : List Value) (vs : List V) (Q : VK) (E : XK),
    GdOk A → Room k A → Env0 P w K mg base A outer s H → BindsTo s fd args (ps.zip us) → Vals vs us → sp vs H Q E →
    codeAny (model P w) A (.call (.ref f) args) (CR CX0 outer P w H s Q E) s
theorem FnG.mono {P : Program} {w : World} {K : PySem.W.Frag} {mg : Str → Option Value} {base : Heap} {j k : Nat} {f : Addr} {fd : FuncData} {ps : List Str} {sp : Sp}
    (G : FnG P w K mg base j f fd ps sp) (h : j ≤ k) : FnG P w K mg base k f fd ps sp :=
  ⟨G.len, fun A outer s H args us vs Q E hg hr => G.run A outer s H args us vs Q E hg (hr.mono h)⟩
section
variable {P : Program} {w : World} {K : PySem.W.Frag} {mg : Str → Option Value} {base : Heap}
end
section
variable {X : Cx} {F : Fm} {k : Nat} {f : Addr} {fd : FuncData} {ps ks : List Str} {sp : Sp} {x : Str} {p pos : Pos} {e : Expr} {es : List Expr} {t tk : TA} {kws : List Keyword}
variable {g : List Value → List Value → List Value} {gV : List V → List V → List V}
variable {gU : List Value → List Value} {gW : List V → List V}
end

/-! ### the promises -/
def spF (K : PySem.W.Frag) (n : Nat) (m : List PyData → Option PyData) : Sp := fun vs H Q _ => vs.length = n ∧ ∃ Z ds r, Same Z H ∧ TB H ∧ DDs K Z vs ds ∧ m ds = some r ∧ ∀ v Z' H', Grow Z H Z' H' → DD K Z' v r → Q v H'
section
variable {X : Cx} {F : Fm} {k n : Nat} {f : Addr} {fd : FuncData} {ps ks : List Str} {x : Str} {p pos : Pos} {e : Expr} {es : List Expr} {kws : List Keyword} {fa fk : DEnv → Option (List PyData × DEnv)}
/-- a def that hands back a new list -/
def fCN (m : List PyData → Option (List PyData)) (fa : DEnv → Option (List PyData × DEnv)) (env : DEnv) : Option (List PyData × DEnv) := (fa env).bind fun x => (m x.1).map fun d => (d, x.2)
end
end DL
end L2


set_option Elab.async false
set_option maxRecDepth 100000
set_option maxHeartbeats 4000000
set_option autoImplicit false
namespace L2
namespace DL
open PySem PySem.Spec PyProof.Rows
variable [Lab]
/-! ### an owned list changes -/
def rdO (j : Nat) (env : DEnv) : Option (List PyData) := match env[j]? with
  | some (some (.ow ds)) => some ds
  | some (some (.rf ds)) => some ds
  | _ => none
def wrO (j : Nat) (ds : List PyData) (env : DEnv) : DEnv := match env[j]? with
  | some (some (.ow _)) => env.set j (some (.ow ds))
  | some (some (.rf _)) => env.set j (some (.rf ds))
  | _ => env
theorem Pok.keep {Z H Z' H' : Hp} {p : Addr} (g : Pok Z H p Z' H') (hp : H' p ≠ none) {q : Addr} (hq : H q ≠ none) : H' q ≠ none := by
  by_cases e : q = p
  · subst e; exact hp
  · exact g.k q e hq
section
variable {X : Cx} {F : Fm} {k n j : Nat} {f : Addr} {fd : FuncData} {ps ks : List Str} {x y : Str} {p pos pn : Pos} {e : Expr} {es : List Expr} {fa : DEnv → Option (List PyData × DEnv)}
def fCR (j : Nat) (m : List PyData → List PyData → Option (PyData × List PyData)) (fa : DEnv → Option (List PyData × DEnv)) (env : DEnv) : Option (PyData × DEnv) :=
  (rdO j env).bind fun _ => (fa env).bind fun x => (rdO j x.2).bind fun es => (m es x.1).map fun r => (r.1, wrO j r.2 x.2)
/-- the argument a list made for the call -/
def fCRT (m : List PyData → List PyData → Option (PyData × List PyData)) (fa : DEnv → Option (List PyData × DEnv)) (env : DEnv) : Option (PyData × DEnv) :=
  (fa env).bind fun x => (m x.1 []).map fun r => (r.1, x.2)
variable {g : DEnv → Option (PyData × DEnv)}
end
end DL
end L2


set_option Elab.async false
set_option maxRecDepth 100000
set_option maxHeartbeats 4000000
set_option autoImplicit false
namespace L2
namespace DL
open PySem PySem.Spec PyProof.Rows
variable [Lab]
/-! ### stores -/
theorem set_get_some {σ : St} {i j : Nat} {x : Option V} {v : V} (h : (σ.set i x)[j]? = some (some v)) : (j = i ∧ x = some v) ∨ (j ≠ i ∧ σ[j]? = some (some v)) := by
  by_cases e : i = j
  · subst e
    by_cases hl : i < σ.length
    · rw [List.getElem?_set_self hl] at h
      exact .inl ⟨rfl, Option.some.inj h⟩
    · rw [List.getElem?_eq_none (by rw [List.length_set]; omega)] at h
      cases h
  · rw [List.getElem?_set_ne e] at h
    exact .inr ⟨fun z => e z.symm, h⟩
/-- the slot i is told anew: x and o fit -/
theorem Rel.put {K : PySem.W.Frag} {F : Fm} {Z H : Hp} {σ : St} {env : DEnv} (r : Rel K F Z H σ env) (i : Nat) (x : Option V) (o : Option DV)
    (ok : ∀ dv, o = some dv → i < σ.length → SlotOk K F Z H (σ.set i x) i dv) (fr : ∀ dv p, o = some dv → ownish dv = true → x = some (V.ref p) → Fre σ env p) : Rel K F Z H (σ.set i x) (env.set i o) := by
  have other : ∀ (j : Nat) (dv : DV), j ≠ i → env[j]? = some (some dv) → SlotOk K F Z H (σ.set i x) j dv := fun j dv hne e => by
    have s := r.sl j dv e
    have eq : (σ.set i x)[j]? = σ[j]? := List.getElem?_set_ne (fun z => hne z.symm)
    cases dv with
    | fr d => obtain ⟨v, a, b⟩ := s; exact ⟨v, eq.trans a, b⟩
    | ow ds => obtain ⟨p, xs, a, b⟩ := s; exact ⟨p, xs, eq.trans a, b⟩
    | rf ds => obtain ⟨p, xs, a, b⟩ := s; exact ⟨p, xs, eq.trans a, b⟩
    | fn n => exact eq.trans s
    | dk ds => obtain ⟨p, o, xs, a, b⟩ := s; exact ⟨p, o, xs, eq.trans a, b⟩
  refine ⟨r.z0, r.zh, r.gh, r.nw, r.pp, by rw [List.length_set, List.length_set]; exact r.len, fun j dv e => ?_, fun j k dj dk p ej ek oj ok' sj sk => ?_, r.tb⟩
  · by_cases hl : i < σ.length
    · rcases get_set_some e with ⟨rfl, ex⟩ | ⟨hne, ex⟩
      · exact ok dv ex hl
      · exact other j dv hne ex
    · rcases get_set_some e with ⟨rfl, ex⟩ | ⟨hne, ex⟩
      · exfalso
        rw [List.getElem?_eq_none (by rw [List.length_set, r.len]; omega)] at e
        cases e
      · exact other j dv hne ex
  · rcases get_set_some ej with ⟨rfl, ex⟩ | ⟨hne, ex⟩
    · rcases get_set_some ek with ⟨rfl, ey⟩ | ⟨hne2, ey⟩
      · rfl
      · exfalso
        rcases set_get_some sj with ⟨_, sx⟩ | ⟨hh, _⟩
        · rcases set_get_some sk with ⟨hh, _⟩ | ⟨_, sy⟩
          · exact hne2 hh
          · exact fr dj p ex oj sx k dk ey ok' sy
        · exact hh rfl
    · rcases get_set_some ek with ⟨rfl, ey⟩ | ⟨hne2, ey⟩
      · exfalso
        rcases set_get_some sk with ⟨_, sx⟩ | ⟨hh, _⟩
        · rcases set_get_some sj with ⟨hh, _⟩ | ⟨_, sy⟩
          · exact hne hh
          · exact fr dk p ey ok' sx j dj ex oj sy
        · exact hh rfl
      · rw [List.getElem?_set_ne (fun z => hne z.symm)] at sj
        rw [List.getElem?_set_ne (fun z => hne2 z.symm)] at sk
        exact r.inj j k dj dk p ex ey oj ok' sj sk
theorem Rel.drop {K : PySem.W.Frag} {F : Fm} {Z H : Hp} {σ : St} {env : DEnv} (r : Rel K F Z H σ env) (i : Nat) : Rel K F Z H (σ.set i none) (env.set i none) :=
  r.put i _ _ (fun dv e => by cases e) (fun dv p e => by cases e)
/-! ### statements -/
inductive DFlow where
  | nx (env : DEnv) | rt (d : PyData) (env : DEnv) | rn (ds : List PyData) (env : DEnv) | bk (env : DEnv) | ct (env : DEnv) | ex (c a : Str) (d : PyData) (env : DEnv)
def Fini (K : PySem.W.Frag) (F : Fm) (Z : Hp) (D : Ends) : DFlow → Prop
  | .nx e => ∀ σ' Z' H', Rel K F Z' H' σ' e → Same Z Z' → D.nx σ' H'
  | .rt d e => ∀ v σ' Z' H', Rel K F Z' H' σ' e → Same Z Z' → DD K Z' v d → D.rt v H'
  | .rn ds e => ∀ p xs σ' Z' H', Rel K F Z' H' σ' e → Same Z Z' → Z' p = none → F.G p = none → ¬ F.P p → H' p = some (.lst xs) → DDs K Z' xs ds → D.rt (.ref p) H'
  | .bk e => ∀ σ' Z' H', Rel K F Z' H' σ' e → Same Z Z' → D.bk σ' H'
  | .ct e => ∀ σ' Z' H', Rel K F Z' H' σ' e → Same Z Z' → D.ct σ' H'
  | .ex c a d e => ∀ v p σ' Z' H', Rel K F Z' H' σ' e → Same Z Z' → Z' p = none → F.G p = none → ¬ F.P p → H' p = some (.xd [(a, v)]) → DD K Z' v d → F.W c (some p) σ' H'
theorem Fini.mono {K : PySem.W.Frag} {F : Fm} {Z Z1 : Hp} {D : Ends} {fl : DFlow} (h : Fini K F Z D fl) (s : Same Z Z1) : Fini K F Z1 D fl := by
  cases fl with
  | nx e => exact fun σ' Z' H' r z => h σ' Z' H' r (s.trans z)
  | rt d e => exact fun v σ' Z' H' r z => h v σ' Z' H' r (s.trans z)
  | rn d e => exact fun p xs σ' Z' H' r z => h p xs σ' Z' H' r (s.trans z)
  | bk e => exact fun σ' Z' H' r z => h σ' Z' H' r (s.trans z)
  | ct e => exact fun σ' Z' H' r z => h σ' Z' H' r (s.trans z)
  | ex c a d e => exact fun v p σ' Z' H' r z => h v p σ' Z' H' r (s.trans z)
section
variable {X : Cx} {F : Fm} {a b c e tg iter : Expr} {es : List Expr} {s : Stmt} {ss s2 : List Stmt} {pos p pn : Pos} {x y : Str} {f g : DEnv → Option (PyData × DEnv)} {fa fn : DEnv → Option (List PyData × DEnv)} {ft : DEnv → Option (Bool × DEnv)} {h1 h2 : DEnv → Option DFlow}
def sNil (env : DEnv) : Option DFlow := some (.nx env)
def sSeq (f g : DEnv → Option DFlow) (env : DEnv) : Option DFlow := (f env).bind fun fl => match fl with
  | .nx e => g e
  | fl => some fl
def sNone (_ : DEnv) : Option DFlow := none
def sExpr (f : DEnv → Option (PyData × DEnv)) (env : DEnv) : Option DFlow := (f env).map fun x => .nx x.2
def sRet (f : DEnv → Option (PyData × DEnv)) (env : DEnv) : Option DFlow := (f env).map fun x => .rt x.1 x.2
def sIf (ft : DEnv → Option (Bool × DEnv)) (h1 h2 : DEnv → Option DFlow) (env : DEnv) : Option DFlow := (ft env).bind fun x => if x.1 then h1 x.2 else h2 x.2
def sSet (i : Nat) (f : DEnv → Option (PyData × DEnv)) (env : DEnv) : Option DFlow := (f env).map fun x => .nx (x.2.set i (some (.fr x.1)))
def sSetN (i : Nat) (f : DEnv → Option (List PyData × DEnv)) (env : DEnv) : Option DFlow := (f env).map fun x => .nx (x.2.set i (some (.ow x.1)))
/-- a, b = two new lists; a new list and data .. -/
def sPar (i j : Nat) (fa : DEnv → Option (List PyData × DEnv)) (env : DEnv) : Option DFlow := (fa env).bind fun x => match x.1 with
  | [u, v] => some (.nx ((x.2.set i (some (.fr u))).set j (some (.fr v))))
  | _ => none
/-- xs.append(e) -/
def sApp (j : Nat) (f : DEnv → Option (PyData × DEnv)) (env : DEnv) : Option DFlow :=
  (rdO j env).bind fun _ => (f env).bind fun x => (rdO j x.2).bind fun es => if es.length < lim then some (.nx (wrO j (es ++ [x.1]) x.2)) else none
def gSet (i : Nat) (d : PyData) (env : DEnv) : Option DEnv := some (env.set i (some (.fr d)))
def gsNil (ds : List PyData) (env : DEnv) : Option DEnv := if ds.isEmpty then some env else none
def gsCons (g : PyData → DEnv → Option DEnv) (gs : List PyData → DEnv → Option DEnv) (ds : List PyData) (env : DEnv) : Option DEnv := match ds with
  | d :: r => (g d env).bind fun e => gs r e
  | _ => none
def gTupD (n : Nat) (gs : List PyData → DEnv → Option DEnv) (d : PyData) (env : DEnv) : Option DEnv := match d with
  | .tuple ds => if ds.length = n then gs ds env else none
  | _ => none
def sAsg (f : DEnv → Option (PyData × DEnv)) (g : PyData → DEnv → Option DEnv) (env : DEnv) : Option DFlow := (f env).bind fun x => (g x.1 x.2).map .nx
end
end DL
end L2


set_option Elab.async false
set_option maxRecDepth 100000
set_option maxHeartbeats 4000000
set_option autoImplicit false
namespace L2
namespace DL
open PySem PySem.Spec PyProof.Rows
variable [Lab]
/-! ### what is walked, as data -/
def WalkD (K : PySem.W.Frag) (J : It) (Z : Hp) (ds : List PyData) : Prop := ∃ (G : Hp → Prop) (Y : Nat → Hp → V → Hp → Prop), Walk J ds.length G Y ∧ (∀ H, Same Z H → G H) ∧
  ∀ (i : Nat) (H : Hp) (x : V) (H' Zc : Hp), i < ds.length → Y i H x H' → Same Z Zc → Same Zc H → ∃ Zn d, Grow Zc H Zn H' ∧ ds[i]? = some d ∧ DD K Zn x d
theorem WalkD.mono {K : PySem.W.Frag} {J : It} {Z Z' : Hp} {ds : List PyData} (w : WalkD K J Z ds) (s : Same Z Z') : WalkD K J Z' ds := by
  obtain ⟨G, Y, a, b, c⟩ := w
  exact ⟨G, Y, a, fun H h => b H (s.trans h), fun i H x H' Zc hi y s1 s2 => c i H x H' Zc hi y (s.trans s1) s2⟩
def rangeD (lo : Int) (n : Nat) : List PyData := (List.range n).map fun i => .int (lo + (i : Nat))
theorem rangeD_len (lo : Int) (n : Nat) : (rangeD lo n).length = n := by unfold rangeD; rw [List.length_map, List.length_range]
def enumD (ds : List PyData) : List PyData := (rangeD 0 ds.length).zipWith (fun a b => .tuple [a, b]) ds
section
variable {X : Cx} {F : Fm} {a b c e tg iter : Expr} {es : List Expr} {ss : List Stmt} {pos p pn : Pos} {x y : Str} {f : DEnv → Option (PyData × DEnv)} {fa fi : DEnv → Option (List PyData × DEnv)} {ft : DEnv → Option (Bool × DEnv)}
def seqD : PyData → Option (List PyData)
  | .list ds => some ds
  | .tuple ds => some ds
  | _ => none
def iSeq (f : DEnv → Option (PyData × DEnv)) (env : DEnv) : Option (List PyData × DEnv) := (f env).bind fun x => (seqD x.1).map fun ds => (ds, x.2)
def rng1 : List PyData → Option (List PyData)
  | [.int j] => if j ≤ 1000000 ∧ -1000000 ≤ j then some (rangeD 0 j.toNat) else none
  | _ => none
def iArg (o : List PyData → Option (List PyData)) (fa : DEnv → Option (List PyData × DEnv)) (env : DEnv) : Option (List PyData × DEnv) := (fa env).bind fun x => (o x.1).map fun ds => (ds, x.2)
/-! ### for -/
def forD (g : PyData → DEnv → Option DEnv) (b : DEnv → Option DFlow) : List PyData → DEnv → Option DFlow
  | [], env => some (.nx env)
  | d :: ds, env => (g d env).bind fun e1 => (b e1).bind fun fl => match fl with
    | .nx e2 => forD g b ds e2
    | .ct e2 => forD g b ds e2
    | .bk e2 => some (.nx e2)
    | fl => some fl
def sFor (fi : DEnv → Option (List PyData × DEnv)) (g : PyData → DEnv → Option DEnv) (b : DEnv → Option DFlow) (env : DEnv) : Option DFlow := (fi env).bind fun x => forD g b x.1 x.2
/-! ### list comprehensions -/
def wipeE (env : DEnv) : List Nat → DEnv
  | [] => env
  | v :: vs => (wipeE env vs).set v none
/-- targets that are names: the slots ts alone change -/
structure TgOk (ts : List Nat) (σ : St) (env : DEnv) (σ' : St) (env' : DEnv) : Prop where
  s : ∀ i : Nat, i ∉ ts → σ'[i]? = σ[i]?
  l : σ'.length = σ.length
  o : ∀ (i : Nat) (dv : DV), env'[i]? = some (some dv) → ownish dv = true → i ∉ ts ∧ env[i]? = some (some dv)
def lcD (g : PyData → DEnv → Option DEnv) (ft : DEnv → Option (Bool × DEnv)) (fe : DEnv → Option (PyData × DEnv)) (vs : List Nat) : List PyData → DEnv → Option (List PyData × DEnv)
  | [], env => some ([], env)
  | d :: ds, env => (g d env).bind fun e1 => (ft e1).bind fun t => if t.1 then (fe t.2).bind fun y => (lcD g ft fe vs ds (wipeE y.2 vs)).map fun r => (y.1 :: r.1, r.2) else lcD g ft fe vs ds (wipeE t.2 vs)
def nLc (fi : DEnv → Option (List PyData × DEnv)) (g : PyData → DEnv → Option DEnv) (ft : DEnv → Option (Bool × DEnv)) (fe : DEnv → Option (PyData × DEnv)) (vs : List Nat) (env : DEnv) : Option (List PyData × DEnv) :=
  (fi env).bind fun x => if x.1.length ≤ lim then lcD g ft fe vs x.1 (wipeE x.2 vs) else none
def fYes (env : DEnv) : Option (Bool × DEnv) := some (true, env)
end
end DL
end L2


set_option Elab.async false
set_option maxRecDepth 100000
set_option maxHeartbeats 4000000
set_option autoImplicit false
namespace L2
namespace DL
open PySem PySem.Spec PyProof.Rows
variable [Lab]
section
variable {X : Cx} {F : Fm} {a b c e tg iter elt : Expr} {es ifs : List Expr} {pos p pn : Pos} {x y : Str} {f fe : DEnv → Option (PyData × DEnv)} {fa fi : DEnv → Option (List PyData × DEnv)} {ft : DEnv → Option (Bool × DEnv)} {scope : Scope} {ts : List Nat} {g : PyData → DEnv → Option DEnv}
end

/-! ### defs by their bodies -/
def startE (n : Nat) (ds : List PyData) : DEnv := ds.map (fun d => some (.fr d)) ++ List.replicate (n - ds.length) none
def runF (n N : Nat) (g : DEnv → Option DFlow) (ds : List PyData) : Option PyData := if ds.length = n then (match g (startE N ds) with
  | some (.rt d _) => some d
  | some (.nx _) => some .none
  | _ => none) else none
def rf0 (env : DEnv) : Option (List PyData) := match env with
  | some (.rf es) :: _ => some es
  | _ => none
def runR (n N : Nat) (g : DEnv → Option DFlow) (es ds : List PyData) : Option (PyData × List PyData) := if ds.length + 1 = n then (match g (some (.rf es) :: startE (N - 1) ds) with
  | some (.rt d env) => (rf0 env).map fun x => (d, x)
  | some (.nx env) => (rf0 env).map fun x => (.none, x)
  | _ => none) else none
section
variable {P : Program} {w : World} {K : PySem.W.Frag} {mg : Str → Option Value} {base : Heap} {x qual : Str} {st : Stmt} {f : Addr} {fd : FuncData} {N ps : List Str} {k : Nat} {g : DEnv → Option DFlow}
end
end DL
end L2


set_option Elab.async false
set_option maxRecDepth 100000
set_option maxHeartbeats 4000000
set_option autoImplicit false
namespace L2
namespace DL
open PySem PySem.Spec PyProof.Rows
variable [Lab]
section
variable {X : Cx}
/-! ### operators on data -/
def addD : PyData → PyData → Option PyData
  | .int i, .int j => some (.int (i + j))
  | .str a, .str b => if a.length + b.length ≤ lim then some (.str (a ++ b)) else none
  | .tuple a, .tuple b => if a.length + b.length ≤ lim then some (.tuple (a ++ b)) else none
  | .list a, .list b => if a.length + b.length ≤ lim then some (.list (a ++ b)) else none
  | _, _ => none
def intD (c : Int → Int → Bool) (o : Int → Int → PyData) : PyData → PyData → Option PyData
  | .int i, .int j => if c i j then some (o i j) else none
  | _, _ => none
abbrev cTrue (_ _ : Int) : Bool := true
abbrev cMul (i j : Int) : Bool := decide (i.natAbs < 18446744073709551616) || decide (j.natAbs < 18446744073709551616)
abbrev cDiv (_ j : Int) : Bool := decide (0 < j) && decide (j < 1073741824)
abbrev cMod (_ j : Int) : Bool := decide (0 < j)
abbrev cPow (i j : Int) : Bool := decide (0 ≤ j) && decide (j ≤ 1000) && decide (i.natAbs < 1000)
abbrev subD := intD cTrue fun i j => .int (i - j)
abbrev mulD := intD cMul fun i j => .int (i * j)
abbrev fdivD := intD cDiv fun i j => .int (i / j)
abbrev modD := intD cMod fun i j => .int (i % j)
abbrev powD := intD cPow fun i j => .int (i ^ j.toNat)
abbrev ltD := intD cTrue fun i j => .bool (decide (i < j))
abbrev leD := intD cTrue fun i j => .bool (decide (i ≤ j))
abbrev gtD := intD cTrue fun i j => .bool (decide (j < i))
abbrev geD := intD cTrue fun i j => .bool (decide (j ≤ i))
/-- what may be compared -/
def shD (d : PyData) : Bool := SeqAt.shaped d && !d.hasDict
/-- are they equal? -/
def eqB : PyData → PyData → Option Bool
  | .int i, .int j => some (decide (i = j))
  | .str i, .str j => some (decide (i = j))
  | a, b => if shD a && shD b then some (PyData.eqv a b) else none
def eqD (a b : PyData) : Option PyData := (eqB a b).map .bool
def neD (a b : PyData) : Option PyData := (eqB a b).map fun k => .bool (!k)
def inB (d c : PyData) : Option Bool := (seqD c).bind fun ds => if shD d && shD c then some (ds.any fun z => PyData.eqv z d) else none
def inD (d c : PyData) : Option PyData := (inB d c).map .bool
/-! ### chains a < b < c -/
variable {F : Fm} {a b c e : Expr} {es : List Expr} {pos p pn p2 : Pos} {f g k : DEnv → Option (PyData × DEnv)} {fa : DEnv → Option (List PyData × DEnv)} {x y : Str}
def fChain (o o' : PyData → PyData → Option PyData) (f g k : DEnv → Option (PyData × DEnv)) (env : DEnv) : Option (PyData × DEnv) :=
  (f env).bind fun x => (g x.2).bind fun y => (o x.1 y.1).bind fun z => match z with
    | .bool true => (k y.2).bind fun w => (o' y.1 w.1).map fun d => (d, w.2)
    | .bool false => some (.bool false, y.2)
    | _ => none
def lenD : List PyData → Option PyData
  | [.list ds] => some (.int ds.length)
  | [.tuple ds] => some (.int ds.length)
  | [.str x] => if x.length ≤ lim then some (.int x.length) else none
  | _ => none
/-- len(name): the list as it stands -/
def fLenN (j : Nat) (env : DEnv) : Option (PyData × DEnv) := (rdB j env).bind fun d => (lenD [d]).map fun n => (n, env)
def maxD : List PyData → Option PyData
  | [.int i, .int j] => some (.int (if j > i then j else i))
  | _ => none
def minD : List PyData → Option PyData
  | [.int i, .int j] => some (.int (if j < i then j else i))
  | _ => none
def tupleD : List PyData → Option PyData
  | [.list ds] => some (.tuple ds)
  | [.tuple ds] => some (.tuple ds)
  | _ => none
def boolsD : List PyData → Option (List Bool)
  | [] => some []
  | .bool b :: r => (boolsD r).map (b :: ·)
  | _ => none
def allD : List PyData → Option PyData
  | [.list ds] => (boolsD ds).map fun bs => .bool (bs.all id)
  | _ => none
/-! repr -/
abbrev reprOk (d : PyData) : Bool := d.showable && !d.hasDict && decide (d.shown.length ≤ sizeLine) && decide (d.depth ≤ 64)
/-! ### subscripts -/
def ixD : PyData → PyData → Option PyData
  | .list ds, .int i => atI ds i
  | .tuple ds, .int i => atI ds i
  | _, _ => none
/-- name[i]: the list as it stands -/
def fIxN (j : Nat) (f : DEnv → Option (PyData × DEnv)) (env : DEnv) : Option (PyData × DEnv) := (rdB j env).bind fun _ => (f env).bind fun x => (rdB j x.2).bind fun d => (ixD d x.1).map fun z => (z, x.2)
/-! ### slices -/
def cutD (ds : List PyData) (lo hi : Option Int) : List PyData := (ds.drop (HT.sIx ds.length 0 lo)).take (HT.sIx ds.length ds.length hi - HT.sIx ds.length 0 lo)
def slD (d : PyData) (lo hi : Option Int) : Option PyData := match d with
  | .list ds => some (.list (cutD ds lo hi))
  | .tuple ds => some (.tuple (cutD ds lo hi))
  | _ => none
def oNone (env : DEnv) : Option (Option Int × DEnv) := some (none, env)
def oSome (f : DEnv → Option (PyData × DEnv)) (env : DEnv) : Option (Option Int × DEnv) := (f env).bind fun x => match x.1 with
  | .int i => some (some i, x.2)
  | _ => none
def fSl (f : DEnv → Option (PyData × DEnv)) (fl fh : DEnv → Option (Option Int × DEnv)) (env : DEnv) : Option (PyData × DEnv) := (f env).bind fun x => (fl x.2).bind fun l => (fh l.2).bind fun h => (slD x.1 l.1 h.1).map fun d => (d, h.2)
theorem dds_ints {K : PySem.W.Frag} {Z : Hp} : ∀ ns : List Int, DDs K Z (ns.map V.int) (ns.map PyData.int)
  | [] => .nil
  | n :: ns => .cons (.int n) (dds_ints ns)
/-! ### isinstance(e, T), T a built-in type -/
def tyN : PyData → String
  | .none => "NoneType"
  | .bool _ => "bool"
  | .int _ => "int"
  | .str _ => "str"
  | .list _ => "list"
  | .tuple _ => "tuple"
  | .dict _ => "dict"
def isiT (T t : String) : Bool := t == T || (t == "bool" && T == "int")
def fIsi (T : String) (f : DEnv → Option (PyData × DEnv)) (env : DEnv) : Option (PyData × DEnv) := (f env).map fun x => (.bool (isiT T (tyN x.1)), x.2)
end

/-! ### the end: the law's call -/
/-- tracked at the start: the script, and the tables cs.2 -/
structure St0 (K : PySem.W.Frag) (h : Heap) (cs : List (Addr × Addr)) (a : Addr) (vs : List Value) (ns : List Int) (H : Hp) : Prop where
  at_a : H a = some (.frz { cls := .type "list", data := .seq vs.toArray } (.lst (ns.map V.int))) ∧ K.lookup a = none ∨ H a = none
  at_t : ∀ q, (∃ c, (c, q) ∈ cs) → H q = some (.tbl #[])
  els : ∀ b, b ≠ a → (¬ ∃ c, (c, b) ∈ cs) → H b = none
  ls : LsR K H a (ns.map V.int)
theorem law_callG {P : Program} {w : World} {K : PySem.W.Frag} {mg mb : Str → Option Value} {k : Nat} {fa a : Addr} {fd : FuncData} {x : Str} {m : List PyData → Option PyData} {s1 : Shared} {vs : List Value} {ns : List Int} {cs : List (Addr × Addr)}
    (KX : K.In s1.heap) (hns : s1.heap.Ns mainGlobals mg) (hb : s1.heap.Ns builtinsNs mb) (hbb : ∀ y : Str, y ≠ "__name__" → mb y = bootBuiltins y) (hlim : s1.heap.NoLimit) (hg : s1.gens = #[])
    (tbs : ∀ c q, (c, q) ∈ cs → s1.heap.get? q = some { cls := .none, data := .fields #[] } ∧ K.lookup q = none ∧ PySem.W.CodeHd s1.heap c q)
    (hbm : ∃ (bm : Addr) (ob : Obj), mg "__builtins__" = some (.ref bm) ∧ bm ≠ builtinsNs ∧ s1.heap.get? bm = some ob ∧ ob.cls = .type "module" ∧ ob.dict = some builtinsNs ∧ ob.data = .plain)
    (ha : s1.heap.get? a = some { cls := .type "list", data := .seq vs.toArray }) (hi : IntsAre vs ns) (hl : ns.length ≤ sizeLine) (hr : Room k callerA) (hlab : ∀ q ∈ Lab.T, ∃ c, (c, q.1) ∈ cs)
    (G : ∀ base : Heap, K.In base → base.Ns mainGlobals mg → (∀ c q, (c, q) ∈ cs → LamX.TabB base mg c q) → FnG P w K mg base k fa fd [x] (spF K 1 m)) (hbind : ∀ (s : Shared) (u : Value), BindsTo s fd ⟨[u], []⟩ [(x, u)])
    (hm : m [.list (ns.map PyData.int)] = some (.bool true)) :
    codeAny (model P w) callerA (.call (.ref fa) ⟨[.ref a], []⟩) (fun r s' => r = .ok (.ret (.bool true)) ∧ OldK s1.heap s'.heap ∧ s'.os = s1.os ∧ AllBare s'.gens) s1 := by
  classical
  have rv := vals_ints hi
  have aT : ¬ ∃ c, (c, a) ∈ cs := fun ⟨c, hc⟩ => by
    have q := (tbs c a hc).1
    rw [ha] at q
    have z' : Data.seq vs.toArray _ = Data.fields #[] := congrArg Obj.data (Option.some.inj q)
    cases z'
  have core : ∀ H : Hp, St0 K s1.heap cs a vs ns H → HOk P w H s1.heap →
      codeAny (model P w) callerA (.call (.ref fa) ⟨[.ref a], []⟩) (fun r s' => r = .ok (.ret (.bool true)) ∧ OldK s1.heap s'.heap ∧ s'.os = s1.os ∧ AllBare s'.gens) s1 := by
   intro H S0 hok
   -- an object that is neither the script nor a table
   have und : ∀ {b : Addr} {o : Obj}, s1.heap.get? b = some o → (∀ us n, o.data ≠ .seq us n) → o.data ≠ .fields #[] → (hidT s1.heap H).get? b = some o := fun {b o} e h1 h2 => by
     refine hidT_get e (S0.els b (fun z => ?_) fun ⟨c, hc⟩ => ?_)
     · rw [z, ha] at e
       cases e
       exact h1 _ _ rfl
     · rw [(tbs c b hc).1] at e
       cases e
       exact h2 rfl
   have nsK : ∀ {b : Addr} {m' : Str → Option Value}, s1.heap.Ns b m' → (hidT s1.heap H).Ns b m' := fun {b m'} ⟨o, es, ep, e, d, r⟩ => ⟨o, es, ep, und e (fun _ _ z => by rw [d] at z; cases z) (fun z => by rw [d] at z; cases z), d, r⟩
   have hKb : K.In (hidT s1.heap H) := fun b o e => hidT_get (KX b o e) (by
      by_cases z : b = a
      · subst z
        rcases S0.at_a with ⟨_, Ha⟩ | Ha
        · rw [Ha] at e; cases e
        · exact Ha
      · exact S0.els b z fun ⟨c, hc⟩ => by rw [(tbs c b hc).2.1] at e; cases e)
   have hM : Mod K mg (hidT s1.heap H) := by
     refine ⟨hKb, nsK hns, ⟨mb, nsK hb, hbb⟩, ?_⟩
     obtain ⟨mc, h1, h2⟩ := hlim
     exact ⟨mc, nsK h1, h2⟩
   have gT : ∀ c q, (c, q) ∈ cs → LamX.TabB (hidT s1.heap H) mg c q := fun c q hc => by
     obtain ⟨t1, _, o, us, fl, x1, x2, x3, x4, x5, x6, e1, r1, r2, r3⟩ := tbs c q hc
     refine ⟨⟨o, us, fl, x1, x2, x3, x4, x5, x6, und e1 (fun _ _ z => by rw [r2] at z; cases z) (fun z => ?_), r1, r2, r3⟩, ?_, fun z => ?_⟩
     · rw [r2] at z
       cases z
       have := r3.1
       simp at this
     · obtain ⟨bm, ob, b1, b2, b3, b4, b5, b6⟩ := hbm
       refine ⟨bm, ob, b1, b2, fun z => ?_, fun z => ?_, und b3 (fun _ _ z => by rw [b6] at z; cases z) (fun z => by rw [b6] at z; cases z), b4, b5, b6⟩
       · obtain ⟨og, es, ep, e, hd, _⟩ := hns
         rw [z, e] at b3
         cases b3
         rw [hd] at b6
         cases b6
       · rw [z, t1] at b3
         cases b3
         cases b6
     · obtain ⟨og, es, ep, e, hd, _⟩ := hns
       rw [z, t1] at e
       cases e
       cases hd
   have e0 : Env0 P w K mg (hidT s1.heap H) callerA [] s1 H := by
     refine ⟨rfl, hM, fun b o e => of_hidT e, Nat.le_of_eq (hidT_size _ _), trivial, fun b hb => ?_, hok, .of_eq hg⟩
     cases (show b ∈ ([] : List Addr) from hb)
   have tb : TB H := fun q hq => LamX.TabS.nil (S0.at_t q.1 (hlab q hq))
   refine codeAny_mono ((G _ hKb (nsK hns) gT).run callerA [] s1 H ⟨[.ref a], []⟩ [.ref a] [.ref a] (fun v _ => v = .bl true) E0 (fun _ => rfl) hr e0 (hbind s1 (.ref a)) (.cons rfl .nil) ⟨rfl, H, _, _, Same.refl H, tb, .cons (.lst S0.ls (dds_ints ns)) .nil, hm, fun v Z' H' gr dd => dd.bool_inv⟩) fun r s' h => ?_
   cases r with
   | error e => cases h
   | ok fl =>
     cases fl with
     | next => cases h
     | brk => cases h
     | cont => cases h
     | ret u =>
       obtain ⟨v, H', os, bare, un, hok', r', q⟩ := h
       cases (show v = .bl true from q)
       cases (show u = Value.bool true from r')
       have kept : ∀ b o, (¬ ∃ c, (c, b) ∈ cs) → s1.heap.get? b = some o → s'.heap.get? b = some o := fun b o nb e => by
         have plain : H b = none → s'.heap.get? b = some o := fun hn => by
           refine un.keep b o e hn (fun z => ?_) (fun z => by cases z)
           cases (show b ∈ ([] : List Addr) from z)
         by_cases hba : b = a
         · subst hba
           rcases S0.at_a with ⟨Ha, _⟩ | Ha
           · obtain ⟨e1, _⟩ := hok b _ Ha
             obtain ⟨e2, _⟩ := hok' b _ (un.frzs b _ _ Ha)
             rw [e] at e1; cases e1
             exact e2
           · exact plain Ha
         · exact plain (S0.els b hba nb)
       have tabs : ∀ b, (∃ c, (c, b) ∈ cs) → ∃ more : Array Value, s'.heap.get? b = some { cls := .none, data := .fields more } := fun b hb => by
         obtain ⟨more, z⟩ := un.tbls b #[] (S0.at_t b hb)
         exact ⟨_, hok' b _ z⟩
       refine ⟨rfl, ⟨fun b o e => ?_, fun b o e => ?_⟩, os, bare⟩
       · by_cases hb : ∃ c, (c, b) ∈ cs
         · obtain ⟨more, hmore⟩ := tabs b hb
           obtain ⟨c, hc⟩ := hb
           obtain ⟨t1, _, hd⟩ := tbs c b hc
           have e' := e.symm.trans t1
           cases e'
           refine .inr (.inl ⟨(hd.tab t1).isCodeTable, rfl, #[], more, rfl, ?_⟩)
           rw [Array.empty_append]
           exact hmore
         · exact .inl (kept b o hb e)
       · by_cases hb : ∃ c, (c, b) ∈ cs
         · obtain ⟨more, hmore⟩ := tabs b hb
           exact ⟨_, hmore⟩
         · exact ⟨o, kept b o hb e⟩
  cases hk : K.lookup a with
  | some o =>
    have e := KX a o hk
    rw [ha] at e
    cases e
    refine core (fun b => if ∃ c, (c, b) ∈ cs then some (.tbl #[]) else none) ⟨.inr (if_neg aT), fun q h => if_pos h, fun b _ h => if_neg h, .inr ⟨vs, _, hk, by rw [List.length_map]; exact hl, rv⟩⟩ fun b u z => ?_
    by_cases h : ∃ c, (c, b) ∈ cs
    · have z' := (if_pos h).symm.trans z
      cases z'
      obtain ⟨c, hc⟩ := h
      exact (tbs c b hc).1
    · have z' := (if_neg h).symm.trans z
      cases z'
  | none =>
    refine core (fun b => if b = a then some (.frz { cls := .type "list", data := .seq vs.toArray } (.lst (ns.map V.int))) else if ∃ c, (c, b) ∈ cs then some (.tbl #[]) else none) ⟨.inl ⟨if_pos rfl, hk⟩, fun q h => ?_, fun b hb h => (if_neg hb).trans (if_neg h), .inl (.inr ⟨_, if_pos rfl⟩)⟩ fun b u z => ?_
    · have : q ≠ a := fun z => aT (z ▸ h)
      exact (if_neg this).trans (if_pos h)
    · by_cases e : b = a
      · subst e
        have z' := (if_pos rfl).symm.trans z
        cases z'
        exact ⟨ha, by rw [List.length_map]; exact hl, vs, _, rv, ha⟩
      · have z1 := (if_neg e).symm.trans z
        by_cases h : ∃ c, (c, b) ∈ cs
        · have z' := (if_pos h).symm.trans z1
          cases z'
          obtain ⟨c, hc⟩ := h
          exact (tbs c b hc).1
        · have z' := (if_neg h).symm.trans z1
          cases z'
end DL
end L2


set_option Elab.async false
set_option maxRecDepth 100000
set_option maxHeartbeats 4000000
set_option autoImplicit false
namespace L2
namespace DL
open PySem PySem.Spec PyProof.Rows
variable [Lab]
def enumTA : List PyData → Option (List PyData)
  | [.list ds] => some (enumD ds)
  | [.tuple ds] => some (enumD ds)
  | _ => none
/-! ### tests that compare -/
section
variable {X : Cx} {F : Fm} {a b c e : Expr} {pos p : Pos} {f g k : DEnv → Option (PyData × DEnv)}
def fNeg (f : DEnv → Option (PyData × DEnv)) (env : DEnv) : Option (PyData × DEnv) := (f env).bind fun x => match x.1 with
  | .int i => some (.int (-i), x.2)
  | _ => none
end
end DL
end L2


set_option Elab.async false
set_option maxRecDepth 100000
set_option maxHeartbeats 4000000
set_option autoImplicit false
namespace L2
namespace DL
open PySem PySem.Spec PyProof.Rows
variable [Lab]
section
variable {X : Cx} {F : Fm} {a b c e tg iter : Expr} {es : List Expr} {s : Stmt} {ss s2 : List Stmt} {pos p pn : Pos} {x y : Str} {f g : DEnv → Option (PyData × DEnv)} {fa fn : DEnv → Option (List PyData × DEnv)} {ft : DEnv → Option (Bool × DEnv)} {h1 h2 : DEnv → Option DFlow}
def intsD : List PyData → Option (List Int)
  | [] => some []
  | .int b :: r => (intsD r).map (b :: ·)
  | _ => none
/-- list(e): a new list -/
def nListOf (f : DEnv → Option (PyData × DEnv)) (env : DEnv) : Option (List PyData × DEnv) := (f env).bind fun x => (seqD x.1).map fun ds => (ds, x.2)
end
/-! ### small data -/
structure Sm (k w : Nat) (d : PyData) : Prop where
  lay : d.canLay0 = true
  sh : d.showable = true
  nd : d.hasDict = false
  sho : d.intsShort 13 = true
  dp : d.depth ≤ k
  wt : d.weight ≤ w
theorem Sm.mono {k w k' w' : Nat} {d : PyData} (h : Sm k w d) (hk : k ≤ k') (hw : w ≤ w') : Sm k' w' d := ⟨h.lay, h.sh, h.nd, h.sho, Nat.le_trans h.dp hk, Nat.le_trans h.wt hw⟩
theorem sm_all {k w : Nat} : ∀ (ds : List PyData), (∀ d ∈ ds, Sm k w d) → PyData.canLayAll0 ds = true ∧ PyData.showableAll ds = true ∧ PyData.hasDictAll ds = false ∧ PyData.intsShortAll 13 ds = true ∧ PyData.depthAll ds ≤ k ∧ PyData.weightAll ds ≤ ds.length * (w + 1)
  | [], _ => ⟨rfl, rfl, rfl, rfl, Nat.zero_le _, by simp [PyData.weightAll]⟩
  | d :: ds, h => by
    obtain ⟨a, b, c, e, f, g⟩ := sm_all ds fun x hx => h x (List.mem_cons_of_mem _ hx)
    have hd := h d List.mem_cons_self
    refine ⟨by simp [PyData.canLayAll0, hd.lay, a], by simp [PyData.showableAll, hd.sh, b], by simp [PyData.hasDictAll, hd.nd, c], by simp [PyData.intsShortAll, hd.sho, e], ?_, ?_⟩
    · simp only [PyData.depthAll]
      exact Nat.max_le.mpr ⟨hd.dp, f⟩
    · simp only [PyData.weightAll, List.length_cons, Nat.succ_mul]
      have := hd.wt
      omega
theorem Sm.tuple {k w n : Nat} {ds : List PyData} (h : ∀ d ∈ ds, Sm k w d) (hn : ds.length ≤ n) : Sm (k + 1) (n * (w + 1)) (.tuple ds) := by
  obtain ⟨a, b, c, e, f, g⟩ := sm_all ds h
  exact ⟨a, b, c, e, Nat.succ_le_succ f, Nat.le_trans g (Nat.mul_le_mul_right _ hn)⟩
theorem Sm.list {k w n : Nat} {ds : List PyData} (h : ∀ d ∈ ds, Sm k w d) (hn : ds.length ≤ n) : Sm (k + 1) (n * (w + 1)) (.list ds) := by
  obtain ⟨a, b, c, e, f, g⟩ := sm_all ds h
  exact ⟨a, b, c, e, Nat.succ_le_succ f, Nat.le_trans g (Nat.mul_le_mul_right _ hn)⟩
theorem Sm.shaped {k w : Nat} {d : PyData} (h : Sm k w d) (hk : k ≤ 64) : SeqAt.shaped d = true := by
  unfold SeqAt.shaped
  rw [h.lay, decide_eq_true (Nat.le_trans h.dp hk)]
  rfl
theorem Sm.repr {k w : Nat} {d : PyData} (h : Sm k w d) (hk : k ≤ 64) (hw : w ≤ 1048576) : reprOk d = true := by
  have hl : PyData.layable0 d = true := by
    unfold PyData.layable0
    rw [h.lay, decide_eq_true (Nat.le_trans h.dp hk), decide_eq_true (Nat.le_trans h.wt hw)]
    rfl
  have h1 := PyProof.Rows.shown_le13 hl h.sho
  have h2 : d.shown.length ≤ sizeLine := Nat.le_trans h1 (by decide)
  rw [reprOk, h.sh, h.nd, decide_eq_true h2, decide_eq_true (Nat.le_trans h.dp hk)]
  rfl
theorem Sm.of_dec (k w : Nat) (d : PyData) (h : (d.canLay0 && d.showable && !d.hasDict && d.intsShort 13 && decide (d.depth ≤ k) && decide (d.weight ≤ w)) = true) : Sm k w d := by
  simp only [Bool.and_eq_true, decide_eq_true_eq, Bool.not_eq_true'] at h
  obtain ⟨⟨⟨⟨⟨a, b⟩, c⟩, e⟩, f⟩, g⟩ := h
  exact ⟨a, b, c, e, f, g⟩
theorem Sm.shD {k w : Nat} {d : PyData} (h : Sm k w d) (hk : k ≤ 64) : DL.shD d = true := by
  unfold DL.shD
  rw [h.shaped hk, h.nd]
  rfl
/-! ### evaluating a mirror step by step -/
theorem ev_cb {o : List PyData → Option PyData} {fa : DEnv → Option (List PyData × DEnv)} {env e1 : DEnv} {ds : List PyData} {d : PyData} (h : fa env = some (ds, e1)) (h2 : o ds = some d) : fCB o fa env = some (d, e1) := by
  unfold fCB; rw [h]; show (o ds).map _ = _; rw [h2]; rfl
theorem ev_frz {fa : DEnv → Option (List PyData × DEnv)} {env e1 : DEnv} {ds : List PyData} (h : fa env = some (ds, e1)) : fFrz fa env = some (.list ds, e1) := by
  unfold fFrz; rw [h]; rfl
theorem ev_cons {f : DEnv → Option (PyData × DEnv)} {fa : DEnv → Option (List PyData × DEnv)} {env e1 e2 : DEnv} {d : PyData} {ds : List PyData} (h : f env = some (d, e1)) (h2 : fa e1 = some (ds, e2)) : fCons f fa env = some (d :: ds, e2) := by
  unfold fCons; rw [h]; show (fa e1).map _ = _; rw [h2]; rfl
theorem ev_nil {env : DEnv} : fNil env = some ([], env) := rfl
theorem ev_seq {f g : DEnv → Option DFlow} {env e1 : DEnv} {fl : DFlow} (h : f env = some (.nx e1)) (h2 : g e1 = some fl) : sSeq f g env = some fl := by
  unfold sSeq; rw [h]; exact h2
theorem ev_for {fi : DEnv → Option (List PyData × DEnv)} {g : PyData → DEnv → Option DEnv} {b : DEnv → Option DFlow} {env e1 : DEnv} {ds : List PyData} {fl : DFlow} (h : fi env = some (ds, e1)) (h2 : forD g b ds e1 = some fl) : sFor fi g b env = some fl := by
  unfold sFor; rw [h]; exact h2
theorem ev_ret {f : DEnv → Option (PyData × DEnv)} {env e1 : DEnv} {d : PyData} (h : f env = some (d, e1)) : sRet f env = some (.rt d e1) := by
  unfold sRet; rw [h]; rfl
theorem ev_ifT {ft : DEnv → Option (Bool × DEnv)} {h1 h2 : DEnv → Option DFlow} {env e1 : DEnv} {fl : DFlow} (h : ft env = some (true, e1)) (h' : h1 e1 = some fl) : sIf ft h1 h2 env = some fl := by
  unfold sIf; rw [h]; exact h'
theorem ev_ifF {ft : DEnv → Option (Bool × DEnv)} {h1 h2 : DEnv → Option DFlow} {env e1 : DEnv} {fl : DFlow} (h : ft env = some (false, e1)) (h' : h2 e1 = some fl) : sIf ft h1 h2 env = some fl := by
  unfold sIf; rw [h]; exact h'
theorem ev_tst {f : DEnv → Option (PyData × DEnv)} {env e1 : DEnv} {d : PyData} {k : Bool} (h : f env = some (d, e1)) (h2 : truthD d = some k) : fTst f env = some (k, e1) := by
  unfold fTst; rw [h]; show (truthD d).map _ = _; rw [h2]; rfl
theorem ev_bin {o : PyData → PyData → Option PyData} {f g : DEnv → Option (PyData × DEnv)} {env e1 e2 : DEnv} {a b d : PyData} (h : f env = some (a, e1)) (h2 : g e1 = some (b, e2)) (h3 : o a b = some d) : fBin o f g env = some (d, e2) := by
  unfold fBin; rw [h]; show (g e1).bind _ = _; rw [h2]; show (o a b).map _ = _; rw [h3]; rfl
theorem ev_cmpN {o : PyData → PyData → Option PyData} {f : DEnv → Option (PyData × DEnv)} {i : Nat} {env e1 : DEnv} {a b d : PyData} (h : f env = some (a, e1)) (h2 : rdB i e1 = some b) (h3 : o a b = some d) : fCmpN o f i env = some (d, e1) := by
  unfold fCmpN; rw [h]; show (rdB i e1).bind _ = _; rw [h2]; show (o a b).map _ = _; rw [h3]; rfl
theorem ev_seqI {f : DEnv → Option (PyData × DEnv)} {env e1 : DEnv} {d : PyData} {ds : List PyData} (h : f env = some (d, e1)) (h2 : seqD d = some ds) : iSeq f env = some (ds, e1) := by
  unfold iSeq; rw [h]; show (seqD d).map _ = _; rw [h2]; rfl
theorem ev_lst {fa : DEnv → Option (List PyData × DEnv)} {env e1 : DEnv} {ds : List PyData} (h : fa env = some (ds, e1)) (h2 : ds.length ≤ lim) : fLst fa env = some (ds, e1) := by
  unfold fLst; rw [h]; exact if_pos h2
theorem ev_forN {g : PyData → DEnv → Option DEnv} {b : DEnv → Option DFlow} {d : PyData} {ds : List PyData} {env e1 e2 : DEnv} {fl : DFlow} (hg : g d env = some e1) (hb : b e1 = some (.nx e2)) (h : forD g b ds e2 = some fl) : forD g b (d :: ds) env = some fl := by
  rw [forD, hg]; show (b e1).bind _ = _; rw [hb]; exact h
/-- what is known of the law's def at the head's heap -/
def LawG (l : PySem.W.OpenLaw) (w : World) (K : PySem.W.Frag) (k : Nat) (x : Str) (m : List PyData → Option PyData) (mg : Str → Option Value) (fa : Addr) (h : Heap) : Prop :=
  ∃ (fd : FuncData) (cs : List (Addr × Addr)) (L : Lab), (∀ c q, (c, q) ∈ cs → h.get? q = some { cls := .none, data := .fields #[] } ∧ K.lookup q = none ∧ PySem.W.CodeHd h c q) ∧ (∀ q ∈ L.T, ∃ c, (c, q.1) ∈ cs) ∧
    (∀ (s : Shared) (u : Value), BindsTo s fd ⟨[u], []⟩ [(x, u)]) ∧ ∀ base : Heap, K.In base → base.Ns mainGlobals mg → (∀ c q, (c, q) ∈ cs → LamX.TabB base mg c q) → FnG l.prog w K mg base k fa fd [x] (spF K 1 m)
omit [Lab] in
theorem walk_g {l : PySem.W.OpenLaw} {n k : Nat} {q : Program} {loose : List Str} {XP : (Str → Option Value) → Heap → Prop} {YP : World → Heap → Prop} {d : DefRec} {K : Params → PySem.W.Frag} {m : List PyData → Option PyData} {x : Str}
    (hn : l.most = some n) (hn2 : n ≤ sizeLine) (hdf : d.params.defaults = []) (hr : Room k callerA) (hY : ∀ (w : World) (h : Heap), YP w h → (K w.params).In h)
    (G : ∀ (w : World) (mg : Str → Option Value) (fa : Addr) (h : Heap), YP w h → (K w.params).In h → h.Ns mainGlobals mg → mg d.name = some (.ref fa) → LawG l w (K w.params) k x m mg fa h)
    (hm : ∀ ns : List Int, ns.length ≤ n → m [.list (ns.map PyData.int)] = some (.bool true)) :
    PySem.W.WalkO q loose XP YP l.row.toRowW d [] (fun f vs => PySem.call f vs) := by
  refine Att.attach_call hn hdf fun w s0 s1 mg mb fa o pm cd doc a vs ns Gr Y ho hd hcd hmg hobj hints hlen hg => ?_
  have KX := hY w _ Y
  obtain ⟨fd, cs, L, h1, h2, hb, hF⟩ := G w mg fa _ Y KX Gr.T.g hmg
  letI := L
  exact law_callG KX Gr.T.g Gr.T.b Gr.T.builtins Gr.T.nolimit hg h1 Gr.T.bmain hobj hints (Nat.le_trans hlen hn2) hr h2 hF hb (hm ns hlen)
omit [Lab] in
theorem cInt [LabW] {K : PySem.W.Frag} {h : Heap} {mg : Str → Option Value} (X : K.In h) (G : h.Ns mainGlobals mg) {x : Str} {i : Int} {t : Tok} (a : PySem.W.nsIn K mainGlobals x = some (some (.int i t))) : ∃ uv : Value × V, mg x = some uv.1 ∧ RelV uv.2 uv.1 ∧ ∀ Z, DD K Z uv.2 (.int i) :=
  ⟨(.int i t, .int i), PySem.W.mg_of X G a, ⟨t, rfl⟩, fun _ => .int i⟩
omit [Lab] in
theorem cStrs [LabW] {K : PySem.W.Frag} {h : Heap} {mg : Str → Option Value} (X : K.In h) (G : h.Ns mainGlobals mg) {x : Str} {p : Addr} {oc : Value} {od : Option Addr} {its : Array Value} {n : Nat} {sl : Array (Option Value)} {ss : List Str} (a : PySem.W.nsIn K mainGlobals x = some (some (.ref p)))
    (l : K.lookup p = some ⟨oc, od, .seq its n, sl⟩) (hc : oc = .type "tuple") (hz : its.size ≤ sizeLine) (hv : Vals (ss.map V.str) its.toList) : ∃ uv : Value × V, mg x = some uv.1 ∧ RelV uv.2 uv.1 ∧ ∀ Z, DD K Z uv.2 (.tuple (ss.map PyData.str)) := by
  refine ⟨(.ref p, .ref p), PySem.W.mg_of X G a, rfl, fun Z => .tup (.inr ⟨_, its, n, l, hc, rfl, hz, hv⟩) ?_⟩
  clear hv
  induction ss with
  | nil => exact .nil
  | cons s ss ih => exact .cons (.str s) ih
end DL
end L2


set_option Elab.async false
set_option maxRecDepth 100000
set_option maxHeartbeats 4000000
set_option autoImplicit false
namespace L2
namespace DL
open PySem PySem.Spec PyProof.Rows
variable [Lab]
/-! ### exceptions: what a def may let out -/
inductive XR where
  | ok (d : PyData) | ex (c a : Str) (d : PyData)
inductive DX where
  | ok (d : PyData) (env : DEnv) | ex (c a : Str) (d : PyData) (env : DEnv)
structure FnX (P : Program) (w : World) (K : PySem.W.Frag) (mg : Str → Option Value) (base : Heap) (k : Nat) (f : Addr) (fd : FuncData) (ps : List Str) (sp : Sp) : Prop where
  len : ∀ vs H Q E, sp vs H Q E → vs.length = ps.length
  run : ∀ (A : Around) (outer : List Env) (s : Shared) (H : Hp) (args : Args) (us : List Value) (vs : List V) (Q : VK) (E : XK),
    GdOk A → Room k A → Env0 P w K mg base A outer s H → BindsTo s fd args (ps.zip us) → Vals vs us → sp vs H Q E →
    codeAny (model P w) A (.call (.ref f) args) (CR (L2.CX P w) outer P w H s Q E) s
theorem FnX.mono {P : Program} {w : World} {K : PySem.W.Frag} {mg : Str → Option Value} {base : Heap} {j k : Nat} {f : Addr} {fd : FuncData} {ps : List Str} {sp : Sp}
    (G : FnX P w K mg base j f fd ps sp) (h : j ≤ k) : FnX P w K mg base k f fd ps sp :=
  ⟨G.len, fun A outer s H args us vs Q E hg hr => G.run A outer s H args us vs Q E hg (hr.mono h)⟩
section
variable {P : Program} {w : World} {K : PySem.W.Frag} {mg : Str → Option Value} {base : Heap}
end
section
variable {X : Cx} {F : Fm} {W : WX} {k : Nat} {f : Addr} {fd : FuncData} {ps ks : List Str} {sp : Sp} {x : Str} {p pos : Pos} {e : Expr} {es : List Expr} {t tk : TA} {kws : List Keyword}
end

def toX (env : DEnv) : XR → DX
  | .ok d => .ok d env
  | .ex c a d => .ex c a d env
def fCX (m : List PyData → Option XR) (fa : DEnv → Option (List PyData × DEnv)) (env : DEnv) : Option DX := (fa env).bind fun x => (m x.1).map (toX x.2)
section
variable {X : Cx} {F : Fm} {C : Str → Addr} {k n : Nat} {f : Addr} {fd : FuncData} {ps ks : List Str} {x : Str} {p pos : Pos} {e : Expr} {es : List Expr} {fa : DEnv → Option (List PyData × DEnv)} {fx : DEnv → Option DX}
/-! ### statements of them -/
def sExprX (f : DEnv → Option DX) (env : DEnv) : Option DFlow := (f env).map fun r => match r with
  | .ok _ e => .nx e
  | .ex c a d e => .ex c a d e
def sSetX (i : Nat) (f : DEnv → Option DX) (env : DEnv) : Option DFlow := (f env).map fun r => match r with
  | .ok d e => .nx (e.set i (some (.fr d)))
  | .ex c a d e => .ex c a d e
end

/-! ### defs that may raise -/
def runX (n N : Nat) (g : DEnv → Option DFlow) (ds : List PyData) : Option XR := if ds.length = n then (match g (startE N ds) with
  | some (.rt d _) => some (.ok d)
  | some (.nx _) => some (.ok .none)
  | some (.ex c a d _) => some (.ex c a d)
  | _ => none) else none
section
variable {P : Program} {w : World} {K : PySem.W.Frag} {mg : Str → Option Value} {base : Heap} {x qual : Str} {st : Stmt} {f : Addr} {fd : FuncData} {N ps : List Str} {k : Nat} {g : DEnv → Option DFlow} {C : Str → Addr}
end

def sRaise (c an : Str) (f : DEnv → Option (PyData × DEnv)) (env : DEnv) : Option DFlow := (f env).map fun x => .ex c an x.1 x.2
/-! ### {}, is, tuple * n, int(b) -/
section
variable {X : Cx} {F : Fm} {pos : Pos}
def repTD : PyData → PyData → Option PyData
  | .tuple xs, .int k => if xs ≠ [] ∧ 2 ≤ k ∧ k ≤ 1000 ∧ xs.length ≤ 1000 then some (.tuple (List.replicate k.toNat xs).flatten) else none
  | _, _ => none
def intOfD : List PyData → Option PyData
  | [.int i] => some (.int i)
  | [.bool b] => some (.int (if b then 1 else 0))
  | _ => none
end
/-! ### classes by name -/
def clsOf {α : Type} (l : List (Str × α)) (d : α) (c : Str) : α := match l with
  | [] => d
  | (n, a) :: l => if c = n then a else clsOf l d c
omit [Lab] in
theorem oex_mk {K : PySem.W.Frag} {C : Addr} {nm q N bs bm sn sub ab col dd k0 k1 k2 k3 k5} (l : K.lookup C = some (excClassObj nm q C N bs bm true sn sub ab col dd k0 k1 k2 k3 k5 "ValueError.__new__")) (r : PySem.HandSPX.refsVE bm = true)
    (sa : PySem.W.findIn K (.ref C) "__setattr__" = some (some (.builtin "object.__setattr__"))) (ex : PySem.W.subIn K (.ref C) (.type "BaseException") = some true) (ty : PySem.W.typeIn K (.ref C) = some (.type "type")) (k : PySem.W.keepIn K (.ref C) = true) : OexC K C :=
  ⟨⟨nm, q, N, bs, bm, sn, sub, ab, col, dd, k0, k1, k2, k3, k5, l, r⟩, sa, ex, ty, k⟩
end DL
end L2


set_option Elab.async false
set_option maxRecDepth 100000
set_option maxHeartbeats 4000000
set_option autoImplicit false
namespace L2
namespace DL
open PySem PySem.Spec PyProof.Rows
variable [Lab]
/-! ### comparisons whose left side is a name: its list as it stands -/
section
variable {X : Cx} {F : Fm} {a b c e : Expr} {pos p : Pos} {f g k : DEnv → Option (PyData × DEnv)}
def fCmpL (o : PyData → PyData → Option PyData) (i : Nat) (g : DEnv → Option (PyData × DEnv)) (env : DEnv) : Option (PyData × DEnv) := (rdB i env).bind fun _ => (g env).bind fun y => (rdB i y.2).bind fun x => (o x y.1).map fun d => (d, y.2)
/-! ### list + list, new -/
def nAdd (f g : DEnv → Option (PyData × DEnv)) (env : DEnv) : Option (List PyData × DEnv) := (f env).bind fun x => (g x.2).bind fun y => match x.1, y.1 with
  | .list a, .list b => if a.length + b.length ≤ lim then some (a ++ b, y.2) else none
  | _, _ => none
end
end DL
end L2


set_option Elab.async false
set_option maxRecDepth 100000
set_option maxHeartbeats 4000000
set_option autoImplicit false
namespace L2
namespace DL
open PySem PySem.Spec PyProof.Rows
variable [Lab]
/-! ### more of evaluation -/
theorem ev_forE {g : PyData → DEnv → Option DEnv} {b : DEnv → Option DFlow} {d : PyData} {ds : List PyData} {env e1 e2 : DEnv} {r : PyData} (hg : g d env = some e1) (hb : b e1 = some (.rt r e2)) : forD g b (d :: ds) env = some (.rt r e2) := by
  rw [forD, hg]; show (b e1).bind _ = _; rw [hb]; rfl
theorem ev_forX {g : PyData → DEnv → Option DEnv} {b : DEnv → Option DFlow} {d : PyData} {ds : List PyData} {env e1 e2 : DEnv} {c a : Str} {r : PyData} (hg : g d env = some e1) (hb : b e1 = some (.ex c a r e2)) : forD g b (d :: ds) env = some (.ex c a r e2) := by
  rw [forD, hg]; show (b e1).bind _ = _; rw [hb]; rfl
theorem ev_seqR {f g : DEnv → Option DFlow} {env e1 : DEnv} {d : PyData} (h : f env = some (.rt d e1)) : sSeq f g env = some (.rt d e1) := by
  unfold sSeq; rw [h]; rfl
theorem ev_seqX {f g : DEnv → Option DFlow} {env e1 : DEnv} {c a : Str} {d : PyData} (h : f env = some (.ex c a d e1)) : sSeq f g env = some (.ex c a d e1) := by
  unfold sSeq; rw [h]; rfl
theorem ev_or1 {f g : DEnv → Option (Bool × DEnv)} {env e1 : DEnv} (h : f env = some (true, e1)) : fOr f g env = some (true, e1) := by
  unfold fOr; rw [h]; rfl
theorem ev_or0 {f g : DEnv → Option (Bool × DEnv)} {env e1 e2 : DEnv} {k : Bool} (h : f env = some (false, e1)) (h2 : g e1 = some (k, e2)) : fOr f g env = some (k, e2) := by
  unfold fOr; rw [h]; exact h2
theorem ev_and0 {f g : DEnv → Option (Bool × DEnv)} {env e1 : DEnv} (h : f env = some (false, e1)) : fAnd f g env = some (false, e1) := by
  unfold fAnd; rw [h]; rfl
theorem ev_and1 {f g : DEnv → Option (Bool × DEnv)} {env e1 e2 : DEnv} {k : Bool} (h : f env = some (true, e1)) (h2 : g e1 = some (k, e2)) : fAnd f g env = some (k, e2) := by
  unfold fAnd; rw [h]; exact h2
theorem ev_not {f : DEnv → Option (Bool × DEnv)} {env e1 : DEnv} {k : Bool} (h : f env = some (k, e1)) : fNot f env = some (!k, e1) := by
  unfold fNot; rw [h]; rfl
theorem ev_cr {j : Nat} {m : List PyData → List PyData → Option (PyData × List PyData)} {fa : DEnv → Option (List PyData × DEnv)} {env e1 : DEnv} {es0 es es' ds : List PyData} {d : PyData} (h0 : rdO j env = some es0) (h : fa env = some (ds, e1)) (h1 : rdO j e1 = some es) (h2 : m es ds = some (d, es')) : fCR j m fa env = some (d, wrO j es' e1) := by
  unfold fCR; rw [h0]; show (fa env).bind _ = _; rw [h]; show (rdO j e1).bind _ = _; rw [h1]; show (m es ds).map _ = _; rw [h2]; rfl
theorem ev_runF {n N : Nat} {g : DEnv → Option DFlow} {ds : List PyData} {d : PyData} {env : DEnv} (hl : ds.length = n) (h : g (startE N ds) = some (.rt d env)) : runF n N g ds = some d := by
  unfold runF; rw [if_pos hl, h]
theorem ev_runX {n N : Nat} {g : DEnv → Option DFlow} {ds : List PyData} {d : PyData} {env : DEnv} (hl : ds.length = n) (h : g (startE N ds) = some (.rt d env)) : runX n N g ds = some (.ok d) := by
  unfold runX; rw [if_pos hl, h]
theorem ev_runX0 {n N : Nat} {g : DEnv → Option DFlow} {ds : List PyData} {env : DEnv} (hl : ds.length = n) (h : g (startE N ds) = some (.nx env)) : runX n N g ds = some (.ok .none) := by
  unfold runX; rw [if_pos hl, h]
theorem ev_runXX {n N : Nat} {g : DEnv → Option DFlow} {ds : List PyData} {c a : Str} {d : PyData} {env : DEnv} (hl : ds.length = n) (h : g (startE N ds) = some (.ex c a d env)) : runX n N g ds = some (.ex c a d) := by
  unfold runX; rw [if_pos hl, h]
theorem ev_runR {n N : Nat} {g : DEnv → Option DFlow} {es es' ds : List PyData} {d : PyData} {env : DEnv} (hl : ds.length + 1 = n) (h : g (some (.rf es) :: startE (N - 1) ds) = some (.rt d (some (.rf es') :: env))) : runR n N g es ds = some (d, es') := by
  unfold runR; rw [if_pos hl, h]; rfl
theorem ev_setE {i : Nat} {f : DEnv → Option (PyData × DEnv)} {env e1 e2 : DEnv} {d : PyData} (h : f env = some (d, e1)) (he : e1.set i (some (.fr d)) = e2) : sSet i f env = some (.nx e2) := by
  unfold sSet; rw [h, ← he]; rfl
theorem ev_crE {j : Nat} {m : List PyData → List PyData → Option (PyData × List PyData)} {fa : DEnv → Option (List PyData × DEnv)} {env e1 e2 : DEnv} {es0 es es' ds : List PyData} {d : PyData} (h0 : rdO j env = some es0) (h : fa env = some (ds, e1)) (h1 : rdO j e1 = some es) (h2 : m es ds = some (d, es')) (he : wrO j es' e1 = e2) : fCR j m fa env = some (d, e2) := by
  rw [← he]; exact ev_cr h0 h h1 h2
/-- a comprehension whose element is a function of its item -/
theorem lc_map {i : Nat} {fe : DEnv → Option (PyData × DEnv)} {p : PyData → PyData} {env : DEnv} (hw : env.set i none = env) : ∀ ds : List PyData, (∀ d ∈ ds, fe (env.set i (some (.fr d))) = some (p d, env.set i (some (.fr d)))) → lcD (gSet i) fYes fe [i] ds env = some (ds.map p, env)
  | [], _ => rfl
  | d :: ds, h => by
    have ih := lc_map hw ds fun x hx => h x (List.mem_cons_of_mem _ hx)
    rw [lcD]
    show ((fe (env.set i (some (.fr d)))).bind fun y => (lcD (gSet i) fYes fe [i] ds (wipeE y.2 [i])).map fun r => (y.1 :: r.1, r.2)) = _
    rw [h d List.mem_cons_self]
    show (lcD (gSet i) fYes fe [i] ds ((env.set i (some (.fr d))).set i none)).map _ = _
    rw [List.set_set, hw, ih]
    rfl
theorem bools_map {α : Type} (p : α → Bool) : ∀ ds : List α, boolsD (ds.map fun d => PyData.bool (p d)) = some (ds.map p)
  | [] => rfl
  | d :: ds => by
    show (boolsD (ds.map fun d => PyData.bool (p d))).map (p d :: ·) = _
    rw [bools_map p ds]
    rfl
theorem all_map {α : Type} (p : α → Bool) (ds : List α) : allD [.list (ds.map fun d => PyData.bool (p d))] = some (.bool (ds.all p)) := by
  show (boolsD (ds.map fun d => PyData.bool (p d))).map _ = _
  rw [bools_map]
  show some (PyData.bool ((ds.map p).all id)) = _
  rw [List.all_map]
  rfl
theorem rangeD_succ (lo : Int) (n : Nat) : rangeD lo (n + 1) = .int lo :: rangeD (lo + 1) n := by
  unfold rangeD
  rw [List.range_succ_eq_map, List.map_cons, List.map_map]
  congr 1
  · simp
  · refine List.map_congr_left fun i _ => ?_
    show PyData.int (lo + ((i + 1 : Nat) : Int)) = PyData.int (lo + 1 + (i : Int))
    congr 1
    omega
theorem enum_cons (d : PyData) (ds : List PyData) : enumD (d :: ds) = .tuple [.int 0, d] :: (rangeD 1 ds.length).zipWith (fun a b => .tuple [a, b]) ds := by
  unfold enumD
  rw [List.length_cons, rangeD_succ, List.zipWith_cons_cons]
  rfl
/-! ### data that may be laid -/
structure Ly (k : Nat) (d : PyData) : Prop where
  lay : d.canLay0 = true
  nd : d.hasDict = false
  dp : d.depth ≤ k
theorem Ly.mono {k k' : Nat} {d : PyData} (h : Ly k d) (hk : k ≤ k') : Ly k' d := ⟨h.lay, h.nd, Nat.le_trans h.dp hk⟩
theorem ly_all {k : Nat} : ∀ (ds : List PyData), (∀ d ∈ ds, Ly k d) → PyData.canLayAll0 ds = true ∧ PyData.hasDictAll ds = false ∧ PyData.depthAll ds ≤ k
  | [], _ => ⟨rfl, rfl, Nat.zero_le _⟩
  | d :: ds, h => by
    obtain ⟨a, b, c⟩ := ly_all ds fun x hx => h x (List.mem_cons_of_mem _ hx)
    have hd := h d List.mem_cons_self
    refine ⟨by simp [PyData.canLayAll0, hd.lay, a], by simp [PyData.hasDictAll, hd.nd, b], ?_⟩
    simp only [PyData.depthAll]
    exact Nat.max_le.mpr ⟨hd.dp, c⟩
theorem Ly.tuple {k : Nat} {ds : List PyData} (h : ∀ d ∈ ds, Ly k d) : Ly (k + 1) (.tuple ds) := by
  obtain ⟨a, b, c⟩ := ly_all ds h
  exact ⟨a, b, Nat.succ_le_succ c⟩
theorem Ly.list {k : Nat} {ds : List PyData} (h : ∀ d ∈ ds, Ly k d) : Ly (k + 1) (.list ds) := by
  obtain ⟨a, b, c⟩ := ly_all ds h
  exact ⟨a, b, Nat.succ_le_succ c⟩
theorem ly_int (i : Int) : Ly 0 (.int i) := ⟨rfl, rfl, Nat.le_refl _⟩
theorem ly_none : Ly 0 .none := ⟨rfl, rfl, Nat.le_refl _⟩
theorem Ly.sh {k : Nat} {d : PyData} (h : Ly k d) (hk : k ≤ 64) : shD d = true := by
  unfold shD SeqAt.shaped
  rw [h.lay, h.nd, decide_eq_true (Nat.le_trans h.dp hk)]
  rfl
theorem ly_ints (is : List Int) : ∀ d ∈ is.map PyData.int, Ly 0 d := fun d hd => by
  obtain ⟨i, _, rfl⟩ := List.mem_map.mp hd
  exact ly_int i
end DL
end L2


set_option Elab.async false
set_option maxRecDepth 100000
set_option maxHeartbeats 4000000
set_option autoImplicit false
namespace L2
namespace DL
open PySem PySem.Spec PyProof.Rows
variable [Lab]
section
variable {X : Cx} {pins : List (Addr × Obj)} {σ : St} {H : Hp} {s : Shared}
omit [Lab] in
theorem newFr (I : Inv X pins σ H s) {f : Addr} (hf : s.heap.objs.size ≤ f) : f ∉ frs X.stack := fun z => by
  rcases List.mem_cons.mp (I.stkSub _ z) with e | e
  · have h1 : X.env.locals < s.heap.objs.size := I.lt
    exact Nat.lt_irrefl _ (Nat.lt_of_lt_of_le (by rw [e]; exact h1) hf)
  · exact I.nofs hf e
end
/-! ### a lambda of one parameter, called by a built-in -/
/-- its names: the parameter, captured ones, globals -/
structure Lam1 (sc scope : Scope) (y : Str) : Prop where
  kind : scope.kind = .function
  co : scope.isCoroutine = false
  gen : scope.isGenerator = false
  loc : ∀ z ∈ scope.names, z.2 = .local → z.1 = y
  own : ∀ z ∈ scope.names, z.2 ≠ .cell
  par : scope.names.lookup y = some .local
  free : ∀ z ∈ scope.names, z.2 = .free → sc.names.lookup z.1 = some .cell ∨ sc.names.lookup z.1 = some .free
/-- the context of its body -/
abbrev lam1Cx (X : Cx) (A : Around) (outer : List Env) (s : Shared) (H : Hp) (E : XK) (scope : Scope) (f c' : Addr) (y : Str) : Cx := { LamX.lamCx X A outer s H E scope f c' with N := X.N ++ [y] }
section
variable {X : Cx} {pins : List (Addr × Obj)} {σ : St} {H : Hp} {s : Shared}
end
end DL
end L2


set_option Elab.async false
set_option maxRecDepth 100000
set_option maxHeartbeats 4000000
set_option autoImplicit false
namespace L2
namespace DL
open PySem PySem.Spec PyProof.Rows PySem.Calls
variable [Lab]
/-! ### what a lambda's body sees of the slots -/
def frzO : Option DV → Option DV
  | some (.fr d) => some (.fr d)
  | _ => none
def frzE (env : DEnv) : DEnv := env.map frzO
/-- the key of an item -/
def keyOf (fb : DEnv → Option (PyData × DEnv)) (env : DEnv) (d : PyData) : Option PyData := (fb (frzE env ++ [some (.fr d)])).map (·.1)
/-! ### objects of a built-in's own -/
structure Nu (X : Cx) (pins : List (Addr × Obj)) (a : Addr) : Prop where
  l : a ≠ X.env.locals
  s0 : X.s_0.heap.objs.size ≤ a
  c : ∀ x c, X.env.cells.lookup x = some c → c ≠ a
  p : ∀ q ∈ X.pn ++ pins, q.1 ≠ a
  f : a ∉ frs X.stack
section
variable {X : Cx} {pins : List (Addr × Obj)} {σ : St} {H : Hp} {s : Shared}
omit [Lab] in
theorem Nu.new (I : Inv X pins σ H s) {a : Addr} (h : s.heap.objs.size ≤ a) : Nu X pins a := by
  refine ⟨fun z => ?_, Nat.le_trans I.sz h, fun x c e z => ?_, fun q hq z => ?_, newFr I h⟩
  · have := I.lt
    rw [← z] at this
    exact Nat.lt_irrefl _ (Nat.lt_of_lt_of_le this h)
  · obtain ⟨w, o, ho, _⟩ := I.cell x c e
    rw [z] at ho
    exact Nat.lt_irrefl _ (Nat.lt_of_lt_of_le (Heap.lt_size ho) h)
  · have ho := (I.pin q hq).1
    rw [z] at ho
    exact Nat.lt_irrefl _ (Nat.lt_of_lt_of_le (Heap.lt_size ho) h)
end
end DL
end L2


set_option Elab.async false
set_option maxRecDepth 100000
set_option maxHeartbeats 4000000
set_option autoImplicit false
namespace L2
namespace DL
open PySem PySem.Spec PyProof.Rows PySem.Calls
variable [Lab]
section
variable {X : Cx} {pins : List (Addr × Obj)} {σ : St} {H : Hp} {s : Shared} {F : Fm}
/-- what a key function is asked for -/
structure KeyFn (X : Cx) (F : Fm) (A : Around) (k : Nat) (y : Str) (scope : Scope) (params : Arguments) (body : Expr) (fb : DEnv → Option (PyData × DEnv)) (f c' : Addr) : Prop where
  L : Lam1 X.env.scope scope y
  fr : A.frames = some X.stack
  rm : Room (k + 1) A
  ny : y ∉ X.N
  bind : ∀ (u : Value) (q : Str) (cl : List (Str × Addr)) (pm cv ctv : Value), bindArgs (PySem.W.kla_fn "<lambda>" q params body scope cl pm cv ctv) ⟨[u], []⟩ = pure [(y, u)]
  body : ∀ (s : Shared) (H : Hp), Room k (A.deeper (LamX.lamEnv X scope s.heap.objs.size f c')) → PD (lam1Cx X A X.stack s H (fun _ _ _ => False) scope f c' y) F body fb
/-- how the items come to lie -/
def sortD (ds ks : List PyData) : List PyData := ((ds.zip ks).mergeSort (PySem.W.dataLe false (·.2))).map (·.1)
structure KeysOk (A : Around) (fb : DEnv → Option (PyData × DEnv)) (env : DEnv) (ds ks : List PyData) : Prop where
  key : ∀ (i : Nat) (d q : PyData), ds[i]? = some d → ks[i]? = some q → keyOf fb env d = some q
  len : ks.length = ds.length
  alike : PySem.W.AllAlike ks
  sortable : PySem.W.Sortable ks
  nd : ∀ d ∈ ks, d.hasDict = false
  dp : ∀ d, d ∈ ks → A.units + d.depth < cLine
end
end DL
end L2


set_option Elab.async false
set_option maxRecDepth 100000
set_option maxHeartbeats 4000000
set_option autoImplicit false
namespace L2
namespace DL
open PySem PySem.Spec PyProof.Rows PySem.Calls
variable [Lab]
/-! ### sorted(range(e), key=lambda y: body) -/
def intsT : PyData → Bool
  | .tuple (x :: xs) => (x :: xs).all fun d => match d with
    | .int _ => true
    | _ => false
  | _ => false
def keysD (fb : DEnv → Option (PyData × DEnv)) (env : DEnv) : List PyData → Option (List PyData)
  | [] => some []
  | d :: ds => (keyOf fb env d).bind fun q => (keysD fb env ds).map (q :: ·)
section
variable {X : Cx} {pins : List (Addr × Obj)} {σ : St} {H : Hp} {s : Shared} {F : Fm}
end
end DL
end L2


set_option Elab.async false
set_option maxRecDepth 100000
set_option maxHeartbeats 4000000
set_option autoImplicit false
namespace L2
namespace DL
open PySem PySem.Spec PyProof.Rows PySem.Calls
variable [Lab]
section
variable {prog : Program} {w : World} {A : Around} {E : Value → Shared → Prop} {s : Shared}
end
section
variable {X : Cx} {F : Fm} {e : Expr} {f : DEnv → Option (PyData × DEnv)}
end
end DL
end L2


set_option Elab.async false
set_option maxRecDepth 100000
set_option maxHeartbeats 4000000
set_option autoImplicit false
namespace L2
namespace DL
open PySem PySem.Spec PyProof.Rows PySem.Calls
variable [Lab]
/-! ### sorted(t), t a tuple or a list of ints -/
section
variable {X : Cx} {F : Fm} {e : Expr} {f : DEnv → Option (PyData × DEnv)}
def intsL : List PyData → Option (List Int)
  | [] => some []
  | .int i :: r => (intsL r).map (i :: ·)
  | _ => none
theorem intsL_map : ∀ ns : List Int, intsL (ns.map .int) = some ns
  | [] => rfl
  | n :: ns => by
    show (intsL (ns.map .int)).map (n :: ·) = _
    rw [intsL_map ns]
    rfl
end
end DL
end L2


set_option Elab.async false
set_option maxRecDepth 100000
set_option maxHeartbeats 4000000
set_option autoImplicit false
namespace L2
namespace DL
open PySem PySem.Spec PyProof.Rows PySem.Calls
variable [Lab]
section
variable {X : Cx} {F : Fm} {e : Expr} {f : DEnv → Option (PyData × DEnv)}
end
end DL
end L2


set_option Elab.async false
set_option maxRecDepth 100000
set_option maxHeartbeats 4000000
set_option autoImplicit false
namespace L2
namespace DL
open PySem PySem.Spec PyProof.Rows PySem.Calls
variable [Lab]
section
variable {X : Cx} {F : Fm} {e : Expr} {f g : DEnv → Option (PyData × DEnv)} {y : Str} {p pn pos : Pos}
end
end DL
end L2


set_option Elab.async false
set_option maxRecDepth 100000
set_option maxHeartbeats 4000000
set_option autoImplicit false
namespace L2
namespace DL
open PySem PySem.Spec PyProof.Rows
section
variable [Lab]
variable {X : Cx} {F : Fm}
/-! ### great ints -/
abbrev cMulB (i j : Int) : Bool := decide (i.natAbs < 10 ^ 200) && decide (j.natAbs < 10 ^ 200)
/-! ### three at once; bodies that are never reached -/
variable {s : Stmt} {ss : List Stmt} {fa : DEnv → Option (List PyData × DEnv)}
def sPar3 (i j l : Nat) (fa : DEnv → Option (List PyData × DEnv)) (env : DEnv) : Option DFlow := (fa env).bind fun x => match x.1 with
  | [u, v, w] => some (.nx (((x.2.set i (some (.fr u))).set j (some (.fr v))).set l (some (.fr w))))
  | _ => none
end
end DL
end L2


set_option Elab.async false
set_option maxRecDepth 100000
set_option maxHeartbeats 4000000
set_option autoImplicit false
namespace L2
namespace DL
open PySem PySem.Spec PyProof.Rows
variable [Lab]
section
variable {X : Cx} {F : Fm} {a b e : Expr} {pos p pn : Pos} {x y : Str} {f g : DEnv → Option (PyData × DEnv)}
def sExt (j : Nat) (f : DEnv → Option (PyData × DEnv)) (env : DEnv) : Option DFlow :=
  (rdO j env).bind fun _ => (f env).bind fun x => (rdO j x.2).bind fun es => match x.1 with
    | .list zs => if es.length + zs.length ≤ lim then some (.nx (wrO j (es ++ zs) x.2)) else none
    | _ => none
/-! ### truth of a slot's list, as it stands -/
def fTruN (i : Nat) (env : DEnv) : Option (Bool × DEnv) := (rdB i env).bind fun d => (truthD d).map fun k => (k, env)
end
omit [Lab] in
theorem cTup1 [LabW] {K : PySem.W.Frag} {h : Heap} {mg : Str → Option Value} (X : K.In h) (G : h.Ns mainGlobals mg) {x : Str} {p q : Addr} {oc oc2 : Value} {od od2 : Option Addr} {its its2 : Array Value} {n n2 : Nat} {sl sl2 : Array (Option Value)} {ss : List Str} (a : PySem.W.nsIn K mainGlobals x = some (some (.ref p)))
    (l : K.lookup p = some ⟨oc, od, .seq its n, sl⟩) (hc : oc = .type "tuple") (hz : its.size ≤ sizeLine) (hi : its.toList = [.ref q])
    (l2 : K.lookup q = some ⟨oc2, od2, .seq its2 n2, sl2⟩) (hc2 : oc2 = .type "tuple") (hz2 : its2.size ≤ sizeLine) (hv : Vals (ss.map V.str) its2.toList) : ∃ uv : Value × V, mg x = some uv.1 ∧ RelV uv.2 uv.1 ∧ ∀ Z, DD K Z uv.2 (.tuple [.tuple (ss.map PyData.str)]) := by
  refine ⟨(.ref p, .ref p), PySem.W.mg_of X G a, rfl, fun Z => .tup (xs := [.ref q]) (.inr ⟨_, its, n, l, hc, rfl, hz, by rw [hi]; exact .cons rfl .nil⟩) (.cons (.tup (.inr ⟨_, its2, n2, l2, hc2, rfl, hz2, hv⟩) ?_) .nil)⟩
  clear hv
  induction ss with
  | nil => exact .nil
  | cons s ss ih => exact .cons (.str s) ih
end DL
end L2


set_option Elab.async false
set_option maxRecDepth 100000
set_option maxHeartbeats 4000000
set_option autoImplicit false
namespace L2
namespace DL
open PySem PySem.Spec PyProof.Rows
variable [Lab]
/-! ### evaluating, once more -/
theorem ev_tup {fa : DEnv → Option (List PyData × DEnv)} {env e1 : DEnv} {ds : List PyData} (h : fa env = some (ds, e1)) (h2 : ds.length ≤ lim) : fTup fa env = some (.tuple ds, e1) := by
  unfold fTup; rw [h]; exact if_pos h2
theorem ev_ixN {j : Nat} {f : DEnv → Option (PyData × DEnv)} {env e1 : DEnv} {d0 d i z : PyData} (h0 : rdB j env = some d0) (h : f env = some (i, e1)) (h1 : rdB j e1 = some d) (h2 : ixD d i = some z) : fIxN j f env = some (z, e1) := by
  unfold fIxN; rw [h0]; show (f env).bind _ = _; rw [h]; show (rdB j e1).bind _ = _; rw [h1]; show (ixD d i).map _ = _; rw [h2]; rfl
theorem ev_iArg {o : List PyData → Option (List PyData)} {fa : DEnv → Option (List PyData × DEnv)} {env e1 : DEnv} {ds r : List PyData} (h : fa env = some (ds, e1)) (h2 : o ds = some r) : iArg o fa env = some (r, e1) := by
  unfold iArg; rw [h]; show (o ds).map _ = _; rw [h2]; rfl
theorem ev_oS {f : DEnv → Option (PyData × DEnv)} {env e1 : DEnv} {i : Int} (h : f env = some (.int i, e1)) : oSome f env = some (some i, e1) := by
  unfold oSome; rw [h]; rfl
theorem ev_sl {f : DEnv → Option (PyData × DEnv)} {fl fh : DEnv → Option (Option Int × DEnv)} {env e1 e2 e3 : DEnv} {a d : PyData} {l h : Option Int} (h1 : f env = some (a, e1)) (h2 : fl e1 = some (l, e2)) (h3 : fh e2 = some (h, e3)) (h4 : slD a l h = some d) : fSl f fl fh env = some (d, e3) := by
  unfold fSl; rw [h1]; show (fl e1).bind _ = _; rw [h2]; show (fh e2).bind _ = _; rw [h3]; show (slD a l h).map _ = _; rw [h4]; rfl
theorem ev_lenN {j : Nat} {env : DEnv} {d n : PyData} (h : rdB j env = some d) (h2 : lenD [d] = some n) : fLenN j env = some (n, env) := by
  unfold fLenN; rw [h]; show (lenD [d]).map _ = _; rw [h2]; rfl
theorem ev_truN {j : Nat} {env : DEnv} {d : PyData} {k : Bool} (h : rdB j env = some d) (h2 : truthD d = some k) : fTruN j env = some (k, env) := by
  unfold fTruN; rw [h]; show (truthD d).map _ = _; rw [h2]; rfl
theorem ev_iff {ft : DEnv → Option (Bool × DEnv)} {f g : DEnv → Option (PyData × DEnv)} {env e1 : DEnv} {k : Bool} {r : Option (PyData × DEnv)} (h : ft env = some (k, e1)) (h2 : (if k then f e1 else g e1) = r) : fIf ft f g env = r := by
  unfold fIf; rw [h]; exact h2
theorem ev_app {j : Nat} {f : DEnv → Option (PyData × DEnv)} {env e1 e2 : DEnv} {es0 es : List PyData} {d : PyData} (h0 : rdO j env = some es0) (h : f env = some (d, e1)) (h1 : rdO j e1 = some es) (hl : es.length < lim) (he : wrO j (es ++ [d]) e1 = e2) : sApp j f env = some (.nx e2) := by
  unfold sApp; rw [h0]; show (f env).bind _ = _; rw [h]; show (rdO j e1).bind _ = _; rw [h1]; show (if es.length < lim then _ else _) = _; rw [if_pos hl, he]
theorem ev_ext {j : Nat} {f : DEnv → Option (PyData × DEnv)} {env e1 e2 : DEnv} {es0 es zs : List PyData} (h0 : rdO j env = some es0) (h : f env = some (.list zs, e1)) (h1 : rdO j e1 = some es) (hl : es.length + zs.length ≤ lim) (he : wrO j (es ++ zs) e1 = e2) : sExt j f env = some (.nx e2) := by
  unfold sExt; rw [h0]; show (f env).bind _ = _; rw [h]; show (rdO j e1).bind _ = _; rw [h1]; show (if es.length + zs.length ≤ lim then _ else _) = _; rw [if_pos hl, he]
theorem ev_asg2 {i j : Nat} {f : DEnv → Option (PyData × DEnv)} {env e1 e2 : DEnv} {a b : PyData} (h : f env = some (.tuple [a, b], e1)) (he : (e1.set i (some (.fr a))).set j (some (.fr b)) = e2) : sAsg f (gTupD 2 (gsCons (gSet i) (gsCons (gSet j) gsNil))) env = some (.nx e2) := by
  unfold sAsg; rw [h, ← he]; rfl
theorem ev_setN {i : Nat} {f : DEnv → Option (List PyData × DEnv)} {env e1 e2 : DEnv} {ds : List PyData} (h : f env = some (ds, e1)) (he : e1.set i (some (.ow ds)) = e2) : sSetN i f env = some (.nx e2) := by
  unfold sSetN; rw [h, ← he]; rfl
theorem ev_par {i j : Nat} {fa : DEnv → Option (List PyData × DEnv)} {env e1 e2 : DEnv} {u v : PyData} (h : fa env = some ([u, v], e1)) (he : (e1.set i (some (.fr u))).set j (some (.fr v)) = e2) : sPar i j fa env = some (.nx e2) := by
  unfold sPar; rw [h, ← he]; rfl
theorem ev_add {a b : List PyData} (h : a.length + b.length ≤ lim) : addD (.tuple a) (.tuple b) = some (.tuple (a ++ b)) := if_pos h
theorem ev_nAdd {f g : DEnv → Option (PyData × DEnv)} {env e1 e2 : DEnv} {a b : List PyData} (h : f env = some (.list a, e1)) (h2 : g e1 = some (.list b, e2)) (hl : a.length + b.length ≤ lim) : nAdd f g env = some (a ++ b, e2) := by
  unfold nAdd; rw [h]; show (g e1).bind _ = _; rw [h2]; exact if_pos hl
/-- a comprehension over images, with a test -/
theorem lc_flt {α : Type} {i : Nat} {ft : DEnv → Option (Bool × DEnv)} {fe : DEnv → Option (PyData × DEnv)} {e q : α → PyData} {p : α → Bool} {env : DEnv} (hw : env.set i none = env) : ∀ xs : List α, (∀ x ∈ xs, ft (env.set i (some (.fr (e x)))) = some (p x, env.set i (some (.fr (e x))))) →
    (∀ x ∈ xs, p x = true → fe (env.set i (some (.fr (e x)))) = some (q x, env.set i (some (.fr (e x))))) → lcD (gSet i) ft fe [i] (xs.map e) env = some ((xs.filter p).map q, env)
  | [], _, _ => rfl
  | x :: xs, h1, h2 => by
    have ih := lc_flt hw xs (fun y hy => h1 y (List.mem_cons_of_mem _ hy)) fun y hy => h2 y (List.mem_cons_of_mem _ hy)
    rw [List.map_cons, lcD]
    show (ft (env.set i (some (.fr (e x))))).bind _ = _
    rw [h1 x List.mem_cons_self]
    show (if p x = true then _ else _) = _
    cases hp : p x with
    | true =>
      rw [if_pos rfl, List.filter_cons_of_pos hp]
      show (fe (env.set i (some (.fr (e x))))).bind _ = _
      rw [h2 x List.mem_cons_self hp]
      show (lcD (gSet i) ft fe [i] (xs.map e) ((env.set i (some (.fr (e x)))).set i none)).map _ = _
      rw [List.set_set, hw, ih]
      rfl
    | false =>
      rw [if_neg (by decide), List.filter_cons_of_neg (by rw [hp]; decide)]
      show lcD (gSet i) ft fe [i] (xs.map e) ((env.set i (some (.fr (e x)))).set i none) = _
      rw [List.set_set, hw, ih]
theorem lc_img {α : Type} {i : Nat} {fe : DEnv → Option (PyData × DEnv)} {e q : α → PyData} {env : DEnv} (hw : env.set i none = env) (xs : List α) (h2 : ∀ x ∈ xs, fe (env.set i (some (.fr (e x)))) = some (q x, env.set i (some (.fr (e x))))) : lcD (gSet i) fYes fe [i] (xs.map e) env = some (xs.map q, env) := by
  have := lc_flt (ft := fYes) (p := fun _ => true) hw xs (fun _ _ => rfl) fun x hx _ => h2 x hx
  rwa [List.filter_eq_self.mpr (fun _ _ => rfl)] at this
theorem ev_lc {fi : DEnv → Option (List PyData × DEnv)} {g : PyData → DEnv → Option DEnv} {ft : DEnv → Option (Bool × DEnv)} {fe : DEnv → Option (PyData × DEnv)} {vs : List Nat} {env e1 e2 e3 : DEnv} {ds rs : List PyData} (h : fi env = some (ds, e1)) (hl : ds.length ≤ lim) (hw : wipeE e1 vs = e2) (h2 : lcD g ft fe vs ds e2 = some (rs, e3)) : nLc fi g ft fe vs env = some (rs, e3) := by
  unfold nLc; rw [h]; show (if ds.length ≤ lim then _ else _) = _; rw [if_pos hl, hw, h2]
/-! ### equal data, where there are no truths and no dicts -/
mutual
def nbD : PyData → Bool
  | .none => true
  | .int _ => true
  | .str _ => true
  | .list ds => nbDs ds
  | .tuple ds => nbDs ds
  | _ => false
def nbDs : List PyData → Bool
  | [] => true
  | d :: ds => nbD d && nbDs ds
end
mutual
theorem eqv_nb : ∀ (x y : PyData), nbD x = true → nbD y = true → PyData.eqv x y = true → x = y
  | .none, y, _, hy, h => by cases y <;> first | rfl | cases h
  | .int i, y, _, hy, h => by
    cases y with
    | int j => rw [PyData.eqv, beq_iff_eq] at h; rw [h]
    | bool _ => cases hy
    | _ => cases h
  | .str i, y, _, hy, h => by
    cases y with
    | str j => rw [PyData.eqv, beq_iff_eq] at h; rw [h]
    | _ => cases h
  | .list xs, y, hx, hy, h => by
    cases y with
    | list ys => rw [PyData.eqv] at h; rw [eqvAll_nb xs ys hx hy h]
    | _ => cases h
  | .tuple xs, y, hx, hy, h => by
    cases y with
    | tuple ys => rw [PyData.eqv] at h; rw [eqvAll_nb xs ys hx hy h]
    | _ => cases h
theorem eqvAll_nb : ∀ (xs ys : List PyData), nbDs xs = true → nbDs ys = true → PyData.eqvAll xs ys = true → xs = ys
  | [], ys, _, _, h => by
    cases ys with
    | nil => rfl
    | cons _ _ => cases h
  | x :: xs, ys, hx, hy, h => by
    cases ys with
    | nil => cases h
    | cons y ys =>
      rw [PyData.eqvAll, Bool.and_eq_true] at h
      rw [nbDs, Bool.and_eq_true] at hx hy
      rw [eqv_nb x y hx.1 hy.1 h.1, eqvAll_nb xs ys hx.2 hy.2 h.2]
end
theorem eqB_self {k : Nat} {a : PyData} (ha : Ly k a) (hk : k ≤ 64) : eqB a a = some true := by
  unfold eqB
  split
  · simp_all
  · simp_all
  · rw [ha.sh hk, SeqAt.eqv_refl _ ha.lay]; rfl
/-! ### what repr writes may be laid -/
theorem ok_app {a b : Str} (ha : PyData.strOk a = true) (hb : PyData.strOk b = true) : PyData.strOk (a ++ b) = true := by
  unfold PyData.strOk at *
  show ((a.cps ++ b.cps).all _) = true
  rw [Array.all_append, ha, hb]
  rfl
theorem ok_of (x : String) : PyData.strOk (Str.ofString x) = true := by
  rw [PyData.strOk, Str.ofString_eq_toList]
  simp only [List.all_toArray, List.all_map, List.all_eq_true]
  intro c _
  have := c.valid
  simp only [Function.comp, decide_eq_true_eq]
  show c.val.toNat < 0x110000
  rcases this with h | h
  · exact Nat.lt_trans h (by decide)
  · exact h.2
theorem ok_join {sep : Str} (hs : PyData.strOk sep = true) : ∀ ts : List Str, (∀ t ∈ ts, PyData.strOk t = true) → PyData.strOk (Str.join sep ts) = true
  | [], _ => by simp [Str.join, Str.empty, PyData.strOk]
  | [x], h => h x List.mem_cons_self
  | x :: y :: r, h => ok_app (ok_app (h x List.mem_cons_self) hs) (ok_join hs (y :: r) fun t ht => h t (List.mem_cons_of_mem _ ht))
theorem ok_from : ∀ (ts : List Str) (k : Nat) (acc : Str), PyData.strOk acc = true → (∀ t ∈ ts, PyData.strOk t = true) → PyData.strOk (textFrom k acc ts) = true
  | [], _, _, h, _ => h
  | t :: r, k, acc, h, hs => ok_from r (k + 1) _ (ok_app (ok_app h (ok_of _)) (hs t List.mem_cons_self)) fun x hx => hs x (List.mem_cons_of_mem _ hx)
/-! all its texts' shown forms may be laid -/
mutual
def wordsOk : PyData → Bool
  | .str x => PyData.strOk (reprText x)
  | .list ds => wordsOkAll ds
  | .tuple ds => wordsOkAll ds
  | .dict _ => false
  | _ => true
def wordsOkAll : List PyData → Bool
  | [] => true
  | d :: ds => wordsOk d && wordsOkAll ds
end
mutual
theorem ok_shown : ∀ d : PyData, wordsOk d = true → PyData.strOk d.shown = true
  | .none, _ => ok_of _
  | .bool b, _ => by cases b <;> exact ok_of _
  | .int i, _ => ok_of _
  | .str x, h => h
  | .list xs, h => ok_app (ok_from _ _ _ (ok_of _) (ok_shownAll xs h)) (ok_of _)
  | .tuple xs, h => ok_app (ok_app (ok_of _) (ok_join (ok_of _) _ (ok_shownAll xs h))) (ok_of _)
  | .dict _, h => nomatch h
theorem ok_shownAll : ∀ ds : List PyData, wordsOkAll ds = true → ∀ t ∈ PyData.shownAll ds, PyData.strOk t = true
  | [], _, _, h => nomatch h
  | d :: ds, h, t, ht => by
    rw [wordsOkAll, Bool.and_eq_true] at h
    rcases List.mem_cons.mp ht with rfl | ht
    · exact ok_shown d h.1
    · exact ok_shownAll ds h.2 t ht
end
theorem ly_shown {d : PyData} (h : wordsOk d = true) : Ly 0 (.str d.shown) := ⟨ok_shown d h, rfl, Nat.le_refl _⟩
end DL
end L2


set_option Elab.async false
set_option maxRecDepth 100000
set_option maxHeartbeats 4000000
set_option autoImplicit false
namespace L2
namespace DL
open PySem PySem.Spec PyProof.Rows
variable [Lab]
section
variable {X : Cx} {F : Fm} {a b c e tg iter elt : Expr} {es ifs : List Expr} {pos p pn : Pos} {x y : Str} {f fe : DEnv → Option (PyData × DEnv)} {fa fi : DEnv → Option (List PyData × DEnv)} {ft : DEnv → Option (Bool × DEnv)} {scope : Scope} {ts : List Nat} {g : PyData → DEnv → Option DEnv}
def rdW (j : Nat) (env : DEnv) : Option (List PyData) := match env[j]? with
  | some (some (.ow ds)) => some ds
  | _ => none
/-- a comprehension over an owned list that its parts don't name: the list stays owned -/
def nLcH (j : Nat) (g : PyData → DEnv → Option DEnv) (ft : DEnv → Option (Bool × DEnv)) (fe : DEnv → Option (PyData × DEnv)) (vs : List Nat) (env : DEnv) : Option (List PyData × DEnv) := match rdW j env with
  | some ds => if ds.length ≤ lim then (lcD g ft fe vs ds (wipeE (env.set j none) vs)).map fun r => (r.1, r.2.set j (some (.ow ds))) else none
  | none => nLc (iSeq (rdF j)) g ft fe vs env
theorem ev_lcH {j : Nat} {g : PyData → DEnv → Option DEnv} {ft : DEnv → Option (Bool × DEnv)} {fe : DEnv → Option (PyData × DEnv)} {vs : List Nat} {env e2 e3 e4 : DEnv} {ds rs : List PyData} (h : rdW j env = some ds) (hl : ds.length ≤ lim) (hw : wipeE (env.set j none) vs = e2) (h2 : lcD g ft fe vs ds e2 = some (rs, e3)) (he : e3.set j (some (.ow ds)) = e4) : nLcH j g ft fe vs env = some (rs, e4) := by
  unfold nLcH; rw [h]; show (if ds.length ≤ lim then _ else _) = _; rw [if_pos hl, hw, h2, ← he]; rfl
end
end DL
end L2


set_option Elab.async false
set_option maxRecDepth 100000
set_option maxHeartbeats 4000000
set_option autoImplicit false
namespace L2
namespace DL
open PySem PySem.Spec PyProof.Rows
variable [Lab]
theorem mm_b {a : Int} (ha : 2 ≤ a) {env : DEnv} {n : Nat} (h : fLenN 0 env = some (.int n, env)) : ∃ m : Int, fCB maxD (fCons (fC (.int 2)) (fCons (fCB minD (fCons (fLenN 0) (fCons (fC (.int a)) fNil))) fNil)) env = some (.int m, env) ∧ 2 ≤ m ∧ m ≤ a := by
  have e1 : fCB minD (fCons (fLenN 0) (fCons (fC (.int a)) fNil)) env = some (.int (if a < (n : Int) then a else n), env) := ev_cb (ev_cons h (ev_cons rfl ev_nil)) rfl
  generalize hx : (if a < (n : Int) then a else (n : Int)) = x at e1
  refine ⟨if 2 < x then x else 2, ev_cb (ev_cons rfl (ev_cons e1 ev_nil)) rfl, ?_, ?_⟩
  · split <;> omega
  · split <;> (split at hx <;> omega)
theorem law_fin {mr : List PyData → List PyData → Option (PyData × List PyData)} {mp : List PyData → Option (List PyData)} {mc : List PyData → Option PyData} {PO : List PyData → Prop} {ns : List Int} (hc : ∀ k : Int, 0 ≤ k → k ≤ 1000 → ∃ c : Int, mc [.list (ns.map .int), .int k] = some (.int c)) (hp : ∀ c : Int, ∃ es, mp [.int c] = some es ∧ PO es) (hr : ∀ es, PO es → ∃ es', mr es [] = some (.bool true, es'))
    {v : Nat} {fm : DEnv → Option (PyData × DEnv)} {env : DEnv} (hm : ∃ m : Int, fm env = some (.int m, env) ∧ 2 ≤ m ∧ m ≤ 8) (hv : env.set v none = env) (h0 : ∀ d, rdF 0 (env.set v (some (.fr d))) = some (.list (ns.map .int), env.set v (some (.fr d)))) (hvv : ∀ d, rdF v (env.set v (some (.fr d))) = some (d, env.set v (some (.fr d)))) :
    sRet (fCB allD (fCons (fFrz (nLc (iArg rng1 (fCons fm fNil)) (gSet v) fYes (fCRT mr (fCN mp (fCons (fCB mc (fCons (rdF 0) (fCons (rdF v) fNil))) fNil))) [v])) fNil)) env = some (.rt (.bool true) env) := by
  obtain ⟨m, e1, m1, m2⟩ := hm
  have e2 := lc_img (i := v) (fe := fCRT mr (fCN mp (fCons (fCB mc (fCons (rdF 0) (fCons (rdF v) fNil))) fNil))) (e := fun i : Nat => .int (0 + (i : Int))) (q := fun _ => .bool true) (env := env) hv (List.range m.toNat) fun k hk => by
    have hk := List.mem_range.mp hk
    obtain ⟨c, e3⟩ := hc (0 + (k : Int)) (by omega) (by omega)
    obtain ⟨es, e4, po⟩ := hp c
    obtain ⟨es', e5⟩ := hr es po
    have e6 : fCN mp (fCons (fCB mc (fCons (rdF 0) (fCons (rdF v) fNil))) fNil) (env.set v (some (.fr (.int (0 + (k : Int)))))) = some (es, env.set v (some (.fr (.int (0 + (k : Int)))))) := by
      unfold fCN
      rw [ev_cons (ev_cb (ev_cons (h0 _) (ev_cons (hvv _) ev_nil)) e3) ev_nil]
      show (mp [.int c]).map _ = _
      rw [e4]
      rfl
    unfold fCRT
    rw [e6]
    show (mr es []).map _ = _
    rw [e5]
    rfl
  have hrng : rng1 [.int m] = some ((List.range m.toNat).map fun i : Nat => .int (0 + (i : Int))) := by
    show (if m ≤ 1000000 ∧ _ then some (rangeD 0 m.toNat) else none) = _
    rw [if_pos (by omega)]
    rfl
  refine ev_ret (ev_cb (ev_cons (ev_frz (ev_lc (ev_iArg (ev_cons e1 ev_nil) hrng) ?_ hv e2)) ev_nil) ?_)
  · rw [List.length_map, List.length_range]
    show _ ≤ 100000
    omega
  · rw [all_map (fun _ : Nat => true)]
    simp
/-! ### a new list times a number -/
section
variable {X : Cx} {F : Fm} {a b : Expr} {pos : Pos} {g : DEnv → Option (PyData × DEnv)} {fn : DEnv → Option (List PyData × DEnv)}
def nRepL (fn : DEnv → Option (List PyData × DEnv)) (g : DEnv → Option (PyData × DEnv)) (env : DEnv) : Option (List PyData × DEnv) := (fn env).bind fun x => (g x.2).bind fun y => match y.1 with
  | .int k => if 0 ≤ k ∧ k ≤ 1000 ∧ x.1.length ≤ 100 then some ((List.replicate k.toNat x.1).flatten, y.2) else none
  | _ => none
theorem ev_repL {env e1 e2 : DEnv} {xs : List PyData} {k : Int} (h : fn env = some (xs, e1)) (h2 : g e1 = some (.int k, e2)) (hc : 0 ≤ k ∧ k ≤ 1000 ∧ xs.length ≤ 100) : nRepL fn g env = some ((List.replicate k.toNat xs).flatten, e2) := by
  unfold nRepL; rw [h]; show (g e1).bind _ = _; rw [h2]; exact if_pos hc
end
/-! ### a, b, c = two new lists and data -/
section
variable {X : Cx} {F : Fm} {s : Stmt} {fn gn : DEnv → Option (List PyData × DEnv)} {f : DEnv → Option (PyData × DEnv)}
end
end DL
end L2


set_option Elab.async false
set_option maxRecDepth 100000
set_option maxHeartbeats 4000000
set_option autoImplicit false
namespace L2
namespace DL
open PySem PySem.Spec PyProof.Rows
def mkTx [Lab] {w : World} (hw : LabW.w = some w) {K : PySem.W.Frag} {h base : Heap} {mg : Str → Option Value} (X : K.In h) (G : h.Ns mainGlobals mg)
    {f0 : Addr} {od0 an0 : Option Addr} {sl0 : Array (Option Value)} {oc0 kV0 dc0 pm0 cd0 ct0 : Value}
    {f1 : Addr} {od1 an1 : Option Addr} {sl1 : Array (Option Value)} {oc1 kV1 dc1 pm1 cd1 ct1 : Value}
    {f2 : Addr} {od2 an2 : Option Addr} {sl2 : Array (Option Value)} {oc2 kV2 dc2 pm2 cd2 ct2 : Value}
    {f3 : Addr} {od3 an3 : Option Addr} {sl3 : Array (Option Value)} {oc3 kV3 dc3 pm3 cd3 ct3 : Value}
    {f4 : Addr} {od4 an4 : Option Addr} {sl4 : Array (Option Value)} {oc4 kV4 dc4 pm4 cd4 ct4 : Value}
    {f5 : Addr} {od5 an5 : Option Addr} {sl5 : Array (Option Value)} {oc5 kV5 dc5 pm5 cd5 ct5 : Value}
    {f6 : Addr} {od6 an6 : Option Addr} {sl6 : Array (Option Value)} {oc6 kV6 dc6 pm6 cd6 ct6 : Value}
    {f7 : Addr} {od7 an7 : Option Addr} {sl7 : Array (Option Value)} {oc7 kV7 dc7 pm7 cd7 ct7 : Value}
    {f8 : Addr} {od8 an8 : Option Addr} {sl8 : Array (Option Value)} {oc8 kV8 dc8 pm8 cd8 ct8 : Value}
    {f9 : Addr} {od9 an9 : Option Addr} {sl9 : Array (Option Value)} {oc9 kV9 dc9 pm9 cd9 ct9 : Value}
    {f10 : Addr} {od10 an10 : Option Addr} {sl10 : Array (Option Value)} {oc10 kV10 dc10 pm10 cd10 ct10 : Value}
    {f11 : Addr} {od11 an11 : Option Addr} {sl11 : Array (Option Value)} {oc11 kV11 dc11 pm11 cd11 ct11 : Value}
    {f12 : Addr} {od12 an12 : Option Addr} {sl12 : Array (Option Value)} {oc12 kV12 dc12 pm12 cd12 ct12 : Value}
    {f13 : Addr} {od13 an13 : Option Addr} {sl13 : Array (Option Value)} {oc13 kV13 dc13 pm13 cd13 ct13 : Value}
    {f14 : Addr} {od14 an14 : Option Addr} {sl14 : Array (Option Value)} {oc14 kV14 dc14 pm14 cd14 ct14 : Value}
    {f15 : Addr} {od15 an15 : Option Addr} {sl15 : Array (Option Value)} {oc15 kV15 dc15 pm15 cd15 ct15 : Value}
    {f16 : Addr} {od16 an16 : Option Addr} {sl16 : Array (Option Value)} {oc16 kV16 dc16 pm16 cd16 ct16 : Value}
    {f17 : Addr} {od17 an17 : Option Addr} {sl17 : Array (Option Value)} {oc17 kV17 dc17 pm17 cd17 ct17 : Value}
    {f18 : Addr} {od18 an18 : Option Addr} {sl18 : Array (Option Value)} {oc18 kV18 dc18 pm18 cd18 ct18 : Value}
    {f19 : Addr} {od19 an19 : Option Addr} {sl19 : Array (Option Value)} {oc19 kV19 dc19 pm19 cd19 ct19 : Value}
    {f20 : Addr} {od20 an20 : Option Addr} {sl20 : Array (Option Value)} {oc20 kV20 dc20 pm20 cd20 ct20 : Value}
    {f21 : Addr} {od21 an21 : Option Addr} {sl21 : Array (Option Value)} {oc21 kV21 dc21 pm21 cd21 ct21 : Value}
    {f22 : Addr} {od22 an22 : Option Addr} {sl22 : Array (Option Value)} {oc22 kV22 dc22 pm22 cd22 ct22 : Value}
    {f23 : Addr} {od23 an23 : Option Addr} {sl23 : Array (Option Value)} {oc23 kV23 dc23 pm23 cd23 ct23 : Value}
    {f24 : Addr} {od24 an24 : Option Addr} {sl24 : Array (Option Value)} {oc24 kV24 dc24 pm24 cd24 ct24 : Value}
    {f25 : Addr} {od25 an25 : Option Addr} {sl25 : Array (Option Value)} {oc25 kV25 dc25 pm25 cd25 ct25 : Value}
    {f26 : Addr} {od26 an26 : Option Addr} {sl26 : Array (Option Value)} {oc26 kV26 dc26 pm26 cd26 ct26 : Value}
    {f27 : Addr} {od27 an27 : Option Addr} {sl27 : Array (Option Value)} {oc27 kV27 dc27 pm27 cd27 ct27 : Value}
    {f28 : Addr} {od28 an28 : Option Addr} {sl28 : Array (Option Value)} {oc28 kV28 dc28 pm28 cd28 ct28 : Value}
    {f29 : Addr} {od29 an29 : Option Addr} {sl29 : Array (Option Value)} {oc29 kV29 dc29 pm29 cd29 ct29 : Value}
    {f30 : Addr} {od30 an30 : Option Addr} {sl30 : Array (Option Value)} {oc30 kV30 dc30 pm30 cd30 ct30 : Value}
    {f31 : Addr} {od31 an31 : Option Addr} {sl31 : Array (Option Value)} {oc31 kV31 dc31 pm31 cd31 ct31 : Value}
    {f32 : Addr} {od32 an32 : Option Addr} {sl32 : Array (Option Value)} {oc32 kV32 dc32 pm32 cd32 ct32 : Value}
    {f33 : Addr} {od33 an33 : Option Addr} {sl33 : Array (Option Value)} {oc33 kV33 dc33 pm33 cd33 ct33 : Value}
    {f34 : Addr} {od34 an34 : Option Addr} {sl34 : Array (Option Value)} {oc34 kV34 dc34 pm34 cd34 ct34 : Value}
    {f35 : Addr} {od35 an35 : Option Addr} {sl35 : Array (Option Value)} {oc35 kV35 dc35 pm35 cd35 ct35 : Value}
    {f36 : Addr} {od36 an36 : Option Addr} {sl36 : Array (Option Value)} {oc36 kV36 dc36 pm36 cd36 ct36 : Value}
    {f37 : Addr} {od37 an37 : Option Addr} {sl37 : Array (Option Value)} {oc37 kV37 dc37 pm37 cd37 ct37 : Value}
    {f38 : Addr} {od38 an38 : Option Addr} {sl38 : Array (Option Value)} {oc38 kV38 dc38 pm38 cd38 ct38 : Value}
    {f39 : Addr} {od39 an39 : Option Addr} {sl39 : Array (Option Value)} {oc39 kV39 dc39 pm39 cd39 ct39 : Value}
    {f40 : Addr} {od40 an40 : Option Addr} {sl40 : Array (Option Value)} {oc40 kV40 dc40 pm40 cd40 ct40 : Value}
    {f41 : Addr} {od41 an41 : Option Addr} {sl41 : Array (Option Value)} {oc41 kV41 dc41 pm41 cd41 ct41 : Value}
    {f42 : Addr} {od42 an42 : Option Addr} {sl42 : Array (Option Value)} {oc42 kV42 dc42 pm42 cd42 ct42 : Value}
    {f43 : Addr} {od43 an43 : Option Addr} {sl43 : Array (Option Value)} {oc43 kV43 dc43 pm43 cd43 ct43 : Value}
    {f44 : Addr} {od44 an44 : Option Addr} {sl44 : Array (Option Value)} {oc44 kV44 dc44 pm44 cd44 ct44 : Value}
    {f45 : Addr} {od45 an45 : Option Addr} {sl45 : Array (Option Value)} {oc45 kV45 dc45 pm45 cd45 ct45 : Value}
    {f46 : Addr} {od46 an46 : Option Addr} {sl46 : Array (Option Value)} {oc46 kV46 dc46 pm46 cd46 ct46 : Value}
    {f47 : Addr} {od47 an47 : Option Addr} {sl47 : Array (Option Value)} {oc47 kV47 dc47 pm47 cd47 ct47 : Value}
    {f48 : Addr} {od48 an48 : Option Addr} {sl48 : Array (Option Value)} {oc48 kV48 dc48 pm48 cd48 ct48 : Value}
    {f49 : Addr} {od49 an49 : Option Addr} {sl49 : Array (Option Value)} {oc49 kV49 dc49 pm49 cd49 ct49 : Value}
    {f50 : Addr} {od50 an50 : Option Addr} {sl50 : Array (Option Value)} {oc50 kV50 dc50 pm50 cd50 ct50 : Value}
    {f51 : Addr} {od51 an51 : Option Addr} {sl51 : Array (Option Value)} {oc51 kV51 dc51 pm51 cd51 ct51 : Value}
    {f52 : Addr} {od52 an52 : Option Addr} {sl52 : Array (Option Value)} {oc52 kV52 dc52 pm52 cd52 ct52 : Value}
    {f53 : Addr} {od53 an53 : Option Addr} {sl53 : Array (Option Value)} {oc53 kV53 dc53 pm53 cd53 ct53 : Value}
    {f54 : Addr} {od54 an54 : Option Addr} {sl54 : Array (Option Value)} {oc54 kV54 dc54 pm54 cd54 ct54 : Value}
    {f55 : Addr} {od55 an55 : Option Addr} {sl55 : Array (Option Value)} {oc55 kV55 dc55 pm55 cd55 ct55 : Value}
    {f56 : Addr} {od56 an56 : Option Addr} {sl56 : Array (Option Value)} {oc56 kV56 dc56 pm56 cd56 ct56 : Value}
    {C_InvalidTable : Addr}
    {C_MissingColumn : Addr}
    {C_InvalidProgram : Addr}
    {C_TableError : Addr}
    {C_FindError : Addr}
    {C_LimitError : Addr}
    {C_LastRecord : Addr}
    {C_TooManyEdits : Addr}
    {C_TooManyRecords : Addr}
    {C_NothingToUndo : Addr}
    {C_NoPlace : Addr}
    {C_InvalidCommand : Addr}
    {C_InvalidEdit : Addr}
    {C_InvalidValue : Addr}
    {C_InvalidRecord : Addr}
    {C_InvalidLimit : Addr}
    {C_InvalidText : Addr}
    {C_InvalidPlaces : Addr}
    {C_InvalidNumber : Addr}
    {C_InvalidOrder : Addr}
    {C_InvalidColumns : Addr}
    {FI_InvalidTable : Addr} {xod_InvalidTable xan_InvalidTable : Option Addr} {xsl_InvalidTable : Array (Option Value)} {xoc_InvalidTable xkV_InvalidTable xdc_InvalidTable xpm_InvalidTable xcd_InvalidTable xct_InvalidTable : Value}
    {FI_MissingColumn : Addr} {xod_MissingColumn xan_MissingColumn : Option Addr} {xsl_MissingColumn : Array (Option Value)} {xoc_MissingColumn xkV_MissingColumn xdc_MissingColumn xpm_MissingColumn xcd_MissingColumn xct_MissingColumn : Value}
    {FI_InvalidProgram : Addr} {xod_InvalidProgram xan_InvalidProgram : Option Addr} {xsl_InvalidProgram : Array (Option Value)} {xoc_InvalidProgram xkV_InvalidProgram xdc_InvalidProgram xpm_InvalidProgram xcd_InvalidProgram xct_InvalidProgram : Value}
    {c_sorted_places P_sorted_places : Addr}
    (a0 : PySem.W.nsIn K mainGlobals "is_integer" = some (some (.ref f0))) (l0 : K.lookup f0 = some ⟨oc0, od0, .func (PySem.W.fnOf "is_integer" "is_integer" (defArgs (topS 30)) (defBody (topS 30)) (defScope (topS 30)) .none kV0 dc0 pm0 an0 cd0 ct0), sl0⟩) (c0 : PySem.W.codeIn K cd0 "is_integer" = true) (k0 : PySem.W.keepIn K (.ref f0) = true)
    (a1 : PySem.W.nsIn K mainGlobals "is_record" = some (some (.ref f1))) (l1 : K.lookup f1 = some ⟨oc1, od1, .func (PySem.W.fnOf "is_record" "is_record" (defArgs (topS 31)) (defBody (topS 31)) (defScope (topS 31)) .none kV1 dc1 pm1 an1 cd1 ct1), sl1⟩) (c1 : PySem.W.codeIn K cd1 "is_record" = true) (k1 : PySem.W.keepIn K (.ref f1) = true)
    (a2 : PySem.W.nsIn K mainGlobals "check_table" = some (some (.ref f2))) (l2 : K.lookup f2 = some ⟨oc2, od2, .func (PySem.W.fnOf "check_table" "check_table" (defArgs (topS 32)) (defBody (topS 32)) (defScope (topS 32)) .none kV2 dc2 pm2 an2 cd2 ct2), sl2⟩) (c2 : PySem.W.codeIn K cd2 "check_table" = true) (k2 : PySem.W.keepIn K (.ref f2) = true)
    (a3 : PySem.W.nsIn K mainGlobals "count_columns" = some (some (.ref f3))) (l3 : K.lookup f3 = some ⟨oc3, od3, .func (PySem.W.fnOf "count_columns" "count_columns" (defArgs (topS 33)) (defBody (topS 33)) (defScope (topS 33)) .none kV3 dc3 pm3 an3 cd3 ct3), sl3⟩) (c3 : PySem.W.codeIn K cd3 "count_columns" = true) (k3 : PySem.W.keepIn K (.ref f3) = true)
    (a4 : PySem.W.nsIn K mainGlobals "every_place" = some (some (.ref f4))) (l4 : K.lookup f4 = some ⟨oc4, od4, .func (PySem.W.fnOf "every_place" "every_place" (defArgs (topS 34)) (defBody (topS 34)) (defScope (topS 34)) .none kV4 dc4 pm4 an4 cd4 ct4), sl4⟩) (c4 : PySem.W.codeIn K cd4 "every_place" = true) (k4 : PySem.W.keepIn K (.ref f4) = true)
    (a5 : PySem.W.nsIn K mainGlobals "records_at" = some (some (.ref f5))) (l5 : K.lookup f5 = some ⟨oc5, od5, .func (PySem.W.fnOf "records_at" "records_at" (defArgs (topS 35)) (defBody (topS 35)) (defScope (topS 35)) .none kV5 dc5 pm5 an5 cd5 ct5), sl5⟩) (c5 : PySem.W.codeIn K cd5 "records_at" = true) (k5 : PySem.W.keepIn K (.ref f5) = true)
    (a6 : PySem.W.nsIn K mainGlobals "check_columns_below" = some (some (.ref f6))) (l6 : K.lookup f6 = some ⟨oc6, od6, .func (PySem.W.fnOf "check_columns_below" "check_columns_below" (defArgs (topS 36)) (defBody (topS 36)) (defScope (topS 36)) .none kV6 dc6 pm6 an6 cd6 ct6), sl6⟩) (c6 : PySem.W.codeIn K cd6 "check_columns_below" = true) (k6 : PySem.W.keepIn K (.ref f6) = true)
    (a7 : PySem.W.nsIn K mainGlobals "is_word" = some (some (.ref f7))) (l7 : K.lookup f7 = some ⟨oc7, od7, .func (PySem.W.fnOf "is_word" "is_word" (defArgs (topS 39)) (defBody (topS 39)) (defScope (topS 39)) .none kV7 dc7 pm7 an7 cd7 ct7), sl7⟩) (c7 : PySem.W.codeIn K cd7 "is_word" = true) (k7 : PySem.W.keepIn K (.ref f7) = true)
    (a8 : PySem.W.nsIn K mainGlobals "is_pair" = some (some (.ref f8))) (l8 : K.lookup f8 = some ⟨oc8, od8, .func (PySem.W.fnOf "is_pair" "is_pair" (defArgs (topS 40)) (defBody (topS 40)) (defScope (topS 40)) .none kV8 dc8 pm8 an8 cd8 ct8), sl8⟩) (c8 : PySem.W.codeIn K cd8 "is_pair" = true) (k8 : PySem.W.keepIn K (.ref f8) = true)
    (a9 : PySem.W.nsIn K mainGlobals "is_sort_column" = some (some (.ref f9))) (l9 : K.lookup f9 = some ⟨oc9, od9, .func (PySem.W.fnOf "is_sort_column" "is_sort_column" (defArgs (topS 41)) (defBody (topS 41)) (defScope (topS 41)) .none kV9 dc9 pm9 an9 cd9 ct9), sl9⟩) (c9 : PySem.W.codeIn K cd9 "is_sort_column" = true) (k9 : PySem.W.keepIn K (.ref f9) = true)
    (a10 : PySem.W.nsIn K mainGlobals "is_key" = some (some (.ref f10))) (l10 : K.lookup f10 = some ⟨oc10, od10, .func (PySem.W.fnOf "is_key" "is_key" (defArgs (topS 42)) (defBody (topS 42)) (defScope (topS 42)) .none kV10 dc10 pm10 an10 cd10 ct10), sl10⟩) (c10 : PySem.W.codeIn K cd10 "is_key" = true) (k10 : PySem.W.keepIn K (.ref f10) = true)
    (a11 : PySem.W.nsIn K mainGlobals "is_place_part" = some (some (.ref f11))) (l11 : K.lookup f11 = some ⟨oc11, od11, .func (PySem.W.fnOf "is_place_part" "is_place_part" (defArgs (topS 43)) (defBody (topS 43)) (defScope (topS 43)) .none kV11 dc11 pm11 an11 cd11 ct11), sl11⟩) (c11 : PySem.W.codeIn K cd11 "is_place_part" = true) (k11 : PySem.W.keepIn K (.ref f11) = true)
    (a12 : PySem.W.nsIn K mainGlobals "check_order" = some (some (.ref f12))) (l12 : K.lookup f12 = some ⟨oc12, od12, .func (PySem.W.fnOf "check_order" "check_order" (defArgs (topS 44)) (defBody (topS 44)) (defScope (topS 44)) .none kV12 dc12 pm12 an12 cd12 ct12), sl12⟩) (c12 : PySem.W.codeIn K cd12 "check_order" = true) (k12 : PySem.W.keepIn K (.ref f12) = true)
    (a13 : PySem.W.nsIn K mainGlobals "opposite" = some (some (.ref f13))) (l13 : K.lookup f13 = some ⟨oc13, od13, .func (PySem.W.fnOf "opposite" "opposite" (defArgs (topS 45)) (defBody (topS 45)) (defScope (topS 45)) .none kV13 dc13 pm13 an13 cd13 ct13), sl13⟩) (c13 : PySem.W.codeIn K cd13 "opposite" = true) (k13 : PySem.W.keepIn K (.ref f13) = true)
    (a14 : PySem.W.nsIn K mainGlobals "turned" = some (some (.ref f14))) (l14 : K.lookup f14 = some ⟨oc14, od14, .func (PySem.W.fnOf "turned" "turned" (defArgs (topS 46)) (defBody (topS 46)) (defScope (topS 46)) .none kV14 dc14 pm14 an14 cd14 ct14), sl14⟩) (c14 : PySem.W.codeIn K cd14 "turned" = true) (k14 : PySem.W.keepIn K (.ref f14) = true)
    (a15 : PySem.W.nsIn K mainGlobals "sort_values" = some (some (.ref f15))) (l15 : K.lookup f15 = some ⟨oc15, od15, .func (PySem.W.fnOf "sort_values" "sort_values" (defArgs (topS 47)) (defBody (topS 47)) (defScope (topS 47)) .none kV15 dc15 pm15 an15 cd15 ct15), sl15⟩) (c15 : PySem.W.codeIn K cd15 "sort_values" = true) (k15 : PySem.W.keepIn K (.ref f15) = true)
    (a16 : PySem.W.nsIn K mainGlobals "sorted_places" = some (some (.ref f16))) (l16 : K.lookup f16 = some ⟨oc16, od16, .func (PySem.W.fnOf "sorted_places" "sorted_places" (defArgs (topS 48)) (defBody (topS 48)) (defScope (topS 48)) .none kV16 dc16 pm16 an16 cd16 ct16), sl16⟩) (c16 : PySem.W.codeIn K cd16 "sorted_places" = true) (k16 : PySem.W.keepIn K (.ref f16) = true)
    (a17 : PySem.W.nsIn K mainGlobals "is_size" = some (some (.ref f17))) (l17 : K.lookup f17 = some ⟨oc17, od17, .func (PySem.W.fnOf "is_size" "is_size" (defArgs (topS 53)) (defBody (topS 53)) (defScope (topS 53)) .none kV17 dc17 pm17 an17 cd17 ct17), sl17⟩) (c17 : PySem.W.codeIn K cd17 "is_size" = true) (k17 : PySem.W.keepIn K (.ref f17) = true)
    (a18 : PySem.W.nsIn K mainGlobals "is_times" = some (some (.ref f18))) (l18 : K.lookup f18 = some ⟨oc18, od18, .func (PySem.W.fnOf "is_times" "is_times" (defArgs (topS 54)) (defBody (topS 54)) (defScope (topS 54)) .none kV18 dc18 pm18 an18 cd18 ct18), sl18⟩) (c18 : PySem.W.codeIn K cd18 "is_times" = true) (k18 : PySem.W.keepIn K (.ref f18) = true)
    (a19 : PySem.W.nsIn K mainGlobals "is_plain_command" = some (some (.ref f19))) (l19 : K.lookup f19 = some ⟨oc19, od19, .func (PySem.W.fnOf "is_plain_command" "is_plain_command" (defArgs (topS 55)) (defBody (topS 55)) (defScope (topS 55)) .none kV19 dc19 pm19 an19 cd19 ct19), sl19⟩) (c19 : PySem.W.codeIn K cd19 "is_plain_command" = true) (k19 : PySem.W.keepIn K (.ref f19) = true)
    (a20 : PySem.W.nsIn K mainGlobals "begins_repeat" = some (some (.ref f20))) (l20 : K.lookup f20 = some ⟨oc20, od20, .func (PySem.W.fnOf "begins_repeat" "begins_repeat" (defArgs (topS 56)) (defBody (topS 56)) (defScope (topS 56)) .none kV20 dc20 pm20 an20 cd20 ct20), sl20⟩) (c20 : PySem.W.codeIn K cd20 "begins_repeat" = true) (k20 : PySem.W.keepIn K (.ref f20) = true)
    (a21 : PySem.W.nsIn K mainGlobals "room_behind" = some (some (.ref f21))) (l21 : K.lookup f21 = some ⟨oc21, od21, .func (PySem.W.fnOf "room_behind" "room_behind" (defArgs (topS 57)) (defBody (topS 57)) (defScope (topS 57)) .none kV21 dc21 pm21 an21 cd21 ct21), sl21⟩) (c21 : PySem.W.codeIn K cd21 "room_behind" = true) (k21 : PySem.W.keepIn K (.ref f21) = true)
    (a22 : PySem.W.nsIn K mainGlobals "room_behind_command" = some (some (.ref f22))) (l22 : K.lookup f22 = some ⟨oc22, od22, .func (PySem.W.fnOf "room_behind_command" "room_behind_command" (defArgs (topS 58)) (defBody (topS 58)) (defScope (topS 58)) .none kV22 dc22 pm22 an22 cd22 ct22), sl22⟩) (c22 : PySem.W.codeIn K cd22 "room_behind_command" = true) (k22 : PySem.W.keepIn K (.ref f22) = true)
    (a23 : PySem.W.nsIn K mainGlobals "check_program" = some (some (.ref f23))) (l23 : K.lookup f23 = some ⟨oc23, od23, .func (PySem.W.fnOf "check_program" "check_program" (defArgs (topS 59)) (defBody (topS 59)) (defScope (topS 59)) .none kV23 dc23 pm23 an23 cd23 ct23), sl23⟩) (c23 : PySem.W.codeIn K cd23 "check_program" = true) (k23 : PySem.W.keepIn K (.ref f23) = true)
    (a24 : PySem.W.nsIn K mainGlobals "count_performed" = some (some (.ref f24))) (l24 : K.lookup f24 = some ⟨oc24, od24, .func (PySem.W.fnOf "count_performed" "count_performed" (defArgs (topS 60)) (defBody (topS 60)) (defScope (topS 60)) .none kV24 dc24 pm24 an24 cd24 ct24), sl24⟩) (c24 : PySem.W.codeIn K cd24 "count_performed" = true) (k24 : PySem.W.keepIn K (.ref f24) = true)
    (a25 : PySem.W.nsIn K mainGlobals "count_commands" = some (some (.ref f25))) (l25 : K.lookup f25 = some ⟨oc25, od25, .func (PySem.W.fnOf "count_commands" "count_commands" (defArgs (topS 61)) (defBody (topS 61)) (defScope (topS 61)) .none kV25 dc25 pm25 an25 cd25 ct25), sl25⟩) (c25 : PySem.W.codeIn K cd25 "count_commands" = true) (k25 : PySem.W.keepIn K (.ref f25) = true)
    (a26 : PySem.W.nsIn K mainGlobals "program_columns" = some (some (.ref f26))) (l26 : K.lookup f26 = some ⟨oc26, od26, .func (PySem.W.fnOf "program_columns" "program_columns" (defArgs (topS 62)) (defBody (topS 62)) (defScope (topS 62)) .none kV26 dc26 pm26 an26 cd26 ct26), sl26⟩) (c26 : PySem.W.codeIn K cd26 "program_columns" = true) (k26 : PySem.W.keepIn K (.ref f26) = true)
    (a27 : PySem.W.nsIn K mainGlobals "sorted_first" = some (some (.ref f27))) (l27 : K.lookup f27 = some ⟨oc27, od27, .func (PySem.W.fnOf "sorted_first" "sorted_first" (defArgs (topS 65)) (defBody (topS 65)) (defScope (topS 65)) .none kV27 dc27 pm27 an27 cd27 ct27), sl27⟩) (c27 : PySem.W.codeIn K cd27 "sorted_first" = true) (k27 : PySem.W.keepIn K (.ref f27) = true)
    (a28 : PySem.W.nsIn K mainGlobals "after_plain" = some (some (.ref f28))) (l28 : K.lookup f28 = some ⟨oc28, od28, .func (PySem.W.fnOf "after_plain" "after_plain" (defArgs (topS 66)) (defBody (topS 66)) (defScope (topS 66)) .none kV28 dc28 pm28 an28 cd28 ct28), sl28⟩) (c28 : PySem.W.codeIn K cd28 "after_plain" = true) (k28 : PySem.W.keepIn K (.ref f28) = true)
    (a29 : PySem.W.nsIn K mainGlobals "picks_of_plain" = some (some (.ref f29))) (l29 : K.lookup f29 = some ⟨oc29, od29, .func (PySem.W.fnOf "picks_of_plain" "picks_of_plain" (defArgs (topS 67)) (defBody (topS 67)) (defScope (topS 67)) .none kV29 dc29 pm29 an29 cd29 ct29), sl29⟩) (c29 : PySem.W.codeIn K cd29 "picks_of_plain" = true) (k29 : PySem.W.keepIn K (.ref f29) = true)
    (a30 : PySem.W.nsIn K mainGlobals "after_repeat" = some (some (.ref f30))) (l30 : K.lookup f30 = some ⟨oc30, od30, .func (PySem.W.fnOf "after_repeat" "after_repeat" (defArgs (topS 68)) (defBody (topS 68)) (defScope (topS 68)) .none kV30 dc30 pm30 an30 cd30 ct30), sl30⟩) (c30 : PySem.W.codeIn K cd30 "after_repeat" = true) (k30 : PySem.W.keepIn K (.ref f30) = true)
    (a31 : PySem.W.nsIn K mainGlobals "after_command" = some (some (.ref f31))) (l31 : K.lookup f31 = some ⟨oc31, od31, .func (PySem.W.fnOf "after_command" "after_command" (defArgs (topS 69)) (defBody (topS 69)) (defScope (topS 69)) .none kV31 dc31 pm31 an31 cd31 ct31), sl31⟩) (c31 : PySem.W.codeIn K cd31 "after_command" = true) (k31 : PySem.W.keepIn K (.ref f31) = true)
    (a32 : PySem.W.nsIn K mainGlobals "after_program" = some (some (.ref f32))) (l32 : K.lookup f32 = some ⟨oc32, od32, .func (PySem.W.fnOf "after_program" "after_program" (defArgs (topS 70)) (defBody (topS 70)) (defScope (topS 70)) .none kV32 dc32 pm32 an32 cd32 ct32), sl32⟩) (c32 : PySem.W.codeIn K cd32 "after_program" = true) (k32 : PySem.W.keepIn K (.ref f32) = true)
    (a33 : PySem.W.nsIn K mainGlobals "check_run" = some (some (.ref f33))) (l33 : K.lookup f33 = some ⟨oc33, od33, .func (PySem.W.fnOf "check_run" "check_run" (defArgs (topS 72)) (defBody (topS 72)) (defScope (topS 72)) .none kV33 dc33 pm33 an33 cd33 ct33), sl33⟩) (c33 : PySem.W.codeIn K cd33 "check_run" = true) (k33 : PySem.W.keepIn K (.ref f33) = true)
    (a34 : PySem.W.nsIn K mainGlobals "picked" = some (some (.ref f34))) (l34 : K.lookup f34 = some ⟨oc34, od34, .func (PySem.W.fnOf "picked" "picked" (defArgs (topS 73)) (defBody (topS 73)) (defScope (topS 73)) .none kV34 dc34 pm34 an34 cd34 ct34), sl34⟩) (c34 : PySem.W.codeIn K cd34 "picked" = true) (k34 : PySem.W.keepIn K (.ref f34) = true)
    (a35 : PySem.W.nsIn K mainGlobals "run_places" = some (some (.ref f35))) (l35 : K.lookup f35 = some ⟨oc35, od35, .func (PySem.W.fnOf "run_places" "run_places" (defArgs (topS 74)) (defBody (topS 74)) (defScope (topS 74)) .none kV35 dc35 pm35 an35 cd35 ct35), sl35⟩) (c35 : PySem.W.codeIn K cd35 "run_places" = true) (k35 : PySem.W.keepIn K (.ref f35) = true)
    (a36 : PySem.W.nsIn K mainGlobals "run" = some (some (.ref f36))) (l36 : K.lookup f36 = some ⟨oc36, od36, .func (PySem.W.fnOf "run" "run" (defArgs (topS 75)) (defBody (topS 75)) (defScope (topS 75)) .none kV36 dc36 pm36 an36 cd36 ct36), sl36⟩) (c36 : PySem.W.codeIn K cd36 "run" = true) (k36 : PySem.W.keepIn K (.ref f36) = true)
    (a37 : PySem.W.nsIn K mainGlobals "each_table" = some (some (.ref f37))) (l37 : K.lookup f37 = some ⟨oc37, od37, .func (PySem.W.fnOf "each_table" "each_table" (defArgs (topS 76)) (defBody (topS 76)) (defScope (topS 76)) .none kV37 dc37 pm37 an37 cd37 ct37), sl37⟩) (c37 : PySem.W.codeIn K cd37 "each_table" = true) (k37 : PySem.W.keepIn K (.ref f37) = true)
    (a38 : PySem.W.nsIn K mainGlobals "written_command" = some (some (.ref f38))) (l38 : K.lookup f38 = some ⟨oc38, od38, .func (PySem.W.fnOf "written_command" "written_command" (defArgs (topS 78)) (defBody (topS 78)) (defScope (topS 78)) .none kV38 dc38 pm38 an38 cd38 ct38), sl38⟩) (c38 : PySem.W.codeIn K cd38 "written_command" = true) (k38 : PySem.W.keepIn K (.ref f38) = true)
    (a39 : PySem.W.nsIn K mainGlobals "format_program" = some (some (.ref f39))) (l39 : K.lookup f39 = some ⟨oc39, od39, .func (PySem.W.fnOf "format_program" "format_program" (defArgs (topS 79)) (defBody (topS 79)) (defScope (topS 79)) .none kV39 dc39 pm39 an39 cd39 ct39), sl39⟩) (c39 : PySem.W.codeIn K cd39 "format_program" = true) (k39 : PySem.W.keepIn K (.ref f39) = true)
    (a40 : PySem.W.nsIn K mainGlobals "_law_cell" = some (some (.ref f40))) (l40 : K.lookup f40 = some ⟨oc40, od40, .func (PySem.W.fnOf "_law_cell" "_law_cell" (defArgs (topS 81)) (defBody (topS 81)) (defScope (topS 81)) .none kV40 dc40 pm40 an40 cd40 ct40), sl40⟩) (c40 : PySem.W.codeIn K cd40 "_law_cell" = true) (k40 : PySem.W.keepIn K (.ref f40) = true)
    (a41 : PySem.W.nsIn K mainGlobals "_law_pool" = some (some (.ref f41))) (l41 : K.lookup f41 = some ⟨oc41, od41, .func (PySem.W.fnOf "_law_pool" "_law_pool" (defArgs (topS 82)) (defBody (topS 82)) (defScope (topS 82)) .none kV41 dc41 pm41 an41 cd41 ct41), sl41⟩) (c41 : PySem.W.codeIn K cd41 "_law_pool" = true) (k41 : PySem.W.keepIn K (.ref f41) = true)
    (a42 : PySem.W.nsIn K mainGlobals "_law_draw" = some (some (.ref f42))) (l42 : K.lookup f42 = some ⟨oc42, od42, .func (PySem.W.fnOf "_law_draw" "_law_draw" (defArgs (topS 83)) (defBody (topS 83)) (defScope (topS 83)) .none kV42 dc42 pm42 an42 cd42 ct42), sl42⟩) (c42 : PySem.W.codeIn K cd42 "_law_draw" = true) (k42 : PySem.W.keepIn K (.ref f42) = true)
    (a43 : PySem.W.nsIn K mainGlobals "_law_table" = some (some (.ref f43))) (l43 : K.lookup f43 = some ⟨oc43, od43, .func (PySem.W.fnOf "_law_table" "_law_table" (defArgs (topS 84)) (defBody (topS 84)) (defScope (topS 84)) .none kV43 dc43 pm43 an43 cd43 ct43), sl43⟩) (c43 : PySem.W.codeIn K cd43 "_law_table" = true) (k43 : PySem.W.keepIn K (.ref f43) = true)
    (a44 : PySem.W.nsIn K mainGlobals "_law_steps" = some (some (.ref f44))) (l44 : K.lookup f44 = some ⟨oc44, od44, .func (PySem.W.fnOf "_law_steps" "_law_steps" (defArgs (topS 85)) (defBody (topS 85)) (defScope (topS 85)) .none kV44 dc44 pm44 an44 cd44 ct44), sl44⟩) (c44 : PySem.W.codeIn K cd44 "_law_steps" = true) (k44 : PySem.W.keepIn K (.ref f44) = true)
    (a45 : PySem.W.nsIn K mainGlobals "_law_program" = some (some (.ref f45))) (l45 : K.lookup f45 = some ⟨oc45, od45, .func (PySem.W.fnOf "_law_program" "_law_program" (defArgs (topS 86)) (defBody (topS 86)) (defScope (topS 86)) .none kV45 dc45 pm45 an45 cd45 ct45), sl45⟩) (c45 : PySem.W.codeIn K cd45 "_law_program" = true) (k45 : PySem.W.keepIn K (.ref f45) = true)
    (a46 : PySem.W.nsIn K mainGlobals "_law_kind" = some (some (.ref f46))) (l46 : K.lookup f46 = some ⟨oc46, od46, .func (PySem.W.fnOf "_law_kind" "_law_kind" (defArgs (topS 87)) (defBody (topS 87)) (defScope (topS 87)) .none kV46 dc46 pm46 an46 cd46 ct46), sl46⟩) (c46 : PySem.W.codeIn K cd46 "_law_kind" = true) (k46 : PySem.W.keepIn K (.ref f46) = true)
    (a47 : PySem.W.nsIn K mainGlobals "_law_whole" = some (some (.ref f47))) (l47 : K.lookup f47 = some ⟨oc47, od47, .func (PySem.W.fnOf "_law_whole" "_law_whole" (defArgs (topS 88)) (defBody (topS 88)) (defScope (topS 88)) .none kV47 dc47 pm47 an47 cd47 ct47), sl47⟩) (c47 : PySem.W.codeIn K cd47 "_law_whole" = true) (k47 : PySem.W.keepIn K (.ref f47) = true)
    (a48 : PySem.W.nsIn K mainGlobals "_law_counted" = some (some (.ref f48))) (l48 : K.lookup f48 = some ⟨oc48, od48, .func (PySem.W.fnOf "_law_counted" "_law_counted" (defArgs (topS 89)) (defBody (topS 89)) (defScope (topS 89)) .none kV48 dc48 pm48 an48 cd48 ct48), sl48⟩) (c48 : PySem.W.codeIn K cd48 "_law_counted" = true) (k48 : PySem.W.keepIn K (.ref f48) = true)
    (a49 : PySem.W.nsIn K mainGlobals "_law_first_bad" = some (some (.ref f49))) (l49 : K.lookup f49 = some ⟨oc49, od49, .func (PySem.W.fnOf "_law_first_bad" "_law_first_bad" (defArgs (topS 90)) (defBody (topS 90)) (defScope (topS 90)) .none kV49 dc49 pm49 an49 cd49 ct49), sl49⟩) (c49 : PySem.W.codeIn K cd49 "_law_first_bad" = true) (k49 : PySem.W.keepIn K (.ref f49) = true)
    (a50 : PySem.W.nsIn K mainGlobals "_law_bent" = some (some (.ref f50))) (l50 : K.lookup f50 = some ⟨oc50, od50, .func (PySem.W.fnOf "_law_bent" "_law_bent" (defArgs (topS 91)) (defBody (topS 91)) (defScope (topS 91)) .none kV50 dc50 pm50 an50 cd50 ct50), sl50⟩) (c50 : PySem.W.codeIn K cd50 "_law_bent" = true) (k50 : PySem.W.keepIn K (.ref f50) = true)
    (a51 : PySem.W.nsIn K mainGlobals "_law_sides" = some (some (.ref f51))) (l51 : K.lookup f51 = some ⟨oc51, od51, .func (PySem.W.fnOf "_law_sides" "_law_sides" (defArgs (topS 92)) (defBody (topS 92)) (defScope (topS 92)) .none kV51 dc51 pm51 an51 cd51 ct51), sl51⟩) (c51 : PySem.W.codeIn K cd51 "_law_sides" = true) (k51 : PySem.W.keepIn K (.ref f51) = true)
    (a52 : PySem.W.nsIn K mainGlobals "_law_asked" = some (some (.ref f52))) (l52 : K.lookup f52 = some ⟨oc52, od52, .func (PySem.W.fnOf "_law_asked" "_law_asked" (defArgs (topS 93)) (defBody (topS 93)) (defScope (topS 93)) .none kV52 dc52 pm52 an52 cd52 ct52), sl52⟩) (c52 : PySem.W.codeIn K cd52 "_law_asked" = true) (k52 : PySem.W.keepIn K (.ref f52) = true)
    (a53 : PySem.W.nsIn K mainGlobals "_law_table_bad" = some (some (.ref f53))) (l53 : K.lookup f53 = some ⟨oc53, od53, .func (PySem.W.fnOf "_law_table_bad" "_law_table_bad" (defArgs (topS 94)) (defBody (topS 94)) (defScope (topS 94)) .none kV53 dc53 pm53 an53 cd53 ct53), sl53⟩) (c53 : PySem.W.codeIn K cd53 "_law_table_bad" = true) (k53 : PySem.W.keepIn K (.ref f53) = true)
    (a54 : PySem.W.nsIn K mainGlobals "_law_told_right" = some (some (.ref f54))) (l54 : K.lookup f54 = some ⟨oc54, od54, .func (PySem.W.fnOf "_law_told_right" "_law_told_right" (defArgs (topS 95)) (defBody (topS 95)) (defScope (topS 95)) .none kV54 dc54 pm54 an54 cd54 ct54), sl54⟩) (c54 : PySem.W.codeIn K cd54 "_law_told_right" = true) (k54 : PySem.W.keepIn K (.ref f54) = true)
    (a55 : PySem.W.nsIn K mainGlobals "_law_right" = some (some (.ref f55))) (l55 : K.lookup f55 = some ⟨oc55, od55, .func (PySem.W.fnOf "_law_right" "_law_right" (defArgs (topS 96)) (defBody (topS 96)) (defScope (topS 96)) .none kV55 dc55 pm55 an55 cd55 ct55), sl55⟩) (c55 : PySem.W.codeIn K cd55 "_law_right" = true) (k55 : PySem.W.keepIn K (.ref f55) = true)
    (a56 : PySem.W.nsIn K mainGlobals "law" = some (some (.ref f56))) (l56 : K.lookup f56 = some ⟨oc56, od56, .func (PySem.W.fnOf "law" "law" (defArgs (topS 97)) (defBody (topS 97)) (defScope (topS 97)) .none kV56 dc56 pm56 an56 cd56 ct56), sl56⟩) (c56 : PySem.W.codeIn K cd56 "law" = true) (k56 : PySem.W.keepIn K (.ref f56) = true)
    (n_ArithmeticError : PySem.W.nsIn K mainGlobals "ArithmeticError" = some none)
    (n_LookupError : PySem.W.nsIn K mainGlobals "LookupError" = some none)
    (n_ValueError : PySem.W.nsIn K mainGlobals "ValueError" = some none)
    (n_abs : PySem.W.nsIn K mainGlobals "abs" = some none)
    (n_all : PySem.W.nsIn K mainGlobals "all" = some none)
    (n_bool : PySem.W.nsIn K mainGlobals "bool" = some none)
    (n_divmod : PySem.W.nsIn K mainGlobals "divmod" = some none)
    (n_enumerate : PySem.W.nsIn K mainGlobals "enumerate" = some none)
    (n_int : PySem.W.nsIn K mainGlobals "int" = some none)
    (n_isinstance : PySem.W.nsIn K mainGlobals "isinstance" = some none)
    (n_len : PySem.W.nsIn K mainGlobals "len" = some none)
    (n_list : PySem.W.nsIn K mainGlobals "list" = some none)
    (n_max : PySem.W.nsIn K mainGlobals "max" = some none)
    (n_min : PySem.W.nsIn K mainGlobals "min" = some none)
    (n_range : PySem.W.nsIn K mainGlobals "range" = some none)
    (n_repr : PySem.W.nsIn K mainGlobals "repr" = some none)
    (n_set : PySem.W.nsIn K mainGlobals "set" = some none)
    (n_sorted : PySem.W.nsIn K mainGlobals "sorted" = some none)
    (n_str : PySem.W.nsIn K mainGlobals "str" = some none)
    (n_sum : PySem.W.nsIn K mainGlobals "sum" = some none)
    (n_tuple : PySem.W.nsIn K mainGlobals "tuple" = some none)
    (c_MOST_COLUMNS : ∀ [LabW], ∃ uv : Value × V, mg "MOST_COLUMNS" = some uv.1 ∧ RelV uv.2 uv.1 ∧ ∀ Z, DD K Z uv.2 cv_MOST_COLUMNS)
    (c_MOST_RECORDS : ∀ [LabW], ∃ uv : Value × V, mg "MOST_RECORDS" = some uv.1 ∧ RelV uv.2 uv.1 ∧ ∀ Z, DD K Z uv.2 cv_MOST_RECORDS)
    (c_MOST_KEYS : ∀ [LabW], ∃ uv : Value × V, mg "MOST_KEYS" = some uv.1 ∧ RelV uv.2 uv.1 ∧ ∀ Z, DD K Z uv.2 cv_MOST_KEYS)
    (c_DIRECTIONS : ∀ [LabW], ∃ uv : Value × V, mg "DIRECTIONS" = some uv.1 ∧ RelV uv.2 uv.1 ∧ ∀ Z, DD K Z uv.2 cv_DIRECTIONS)
    (c_LEAST_SIZE : ∀ [LabW], ∃ uv : Value × V, mg "LEAST_SIZE" = some uv.1 ∧ RelV uv.2 uv.1 ∧ ∀ Z, DD K Z uv.2 cv_LEAST_SIZE)
    (c_MOST_SIZE : ∀ [LabW], ∃ uv : Value × V, mg "MOST_SIZE" = some uv.1 ∧ RelV uv.2 uv.1 ∧ ∀ Z, DD K Z uv.2 cv_MOST_SIZE)
    (c_MOST_TIMES : ∀ [LabW], ∃ uv : Value × V, mg "MOST_TIMES" = some uv.1 ∧ RelV uv.2 uv.1 ∧ ∀ Z, DD K Z uv.2 cv_MOST_TIMES)
    (c_CUTS : ∀ [LabW], ∃ uv : Value × V, mg "CUTS" = some uv.1 ∧ RelV uv.2 uv.1 ∧ ∀ Z, DD K Z uv.2 cv_CUTS)
    (c_BARE_WORDS : ∀ [LabW], ∃ uv : Value × V, mg "BARE_WORDS" = some uv.1 ∧ RelV uv.2 uv.1 ∧ ∀ Z, DD K Z uv.2 cv_BARE_WORDS)
    (c_MOST_NESTED : ∀ [LabW], ∃ uv : Value × V, mg "MOST_NESTED" = some uv.1 ∧ RelV uv.2 uv.1 ∧ ∀ Z, DD K Z uv.2 cv_MOST_NESTED)
    (c_MOST_COMMANDS : ∀ [LabW], ∃ uv : Value × V, mg "MOST_COMMANDS" = some uv.1 ∧ RelV uv.2 uv.1 ∧ ∀ Z, DD K Z uv.2 cv_MOST_COMMANDS)
    (c_START : ∀ [LabW], ∃ uv : Value × V, mg "START" = some uv.1 ∧ RelV uv.2 uv.1 ∧ ∀ Z, DD K Z uv.2 cv_START)
    (xa_InvalidTable : PySem.W.nsIn K mainGlobals "InvalidTable" = some (some (.ref C_InvalidTable)))
    (xa_MissingColumn : PySem.W.nsIn K mainGlobals "MissingColumn" = some (some (.ref C_MissingColumn)))
    (xa_InvalidProgram : PySem.W.nsIn K mainGlobals "InvalidProgram" = some (some (.ref C_InvalidProgram)))
    (xa_TableError : PySem.W.nsIn K mainGlobals "TableError" = some (some (.ref C_TableError)))
    (xa_FindError : PySem.W.nsIn K mainGlobals "FindError" = some (some (.ref C_FindError)))
    (xa_LimitError : PySem.W.nsIn K mainGlobals "LimitError" = some (some (.ref C_LimitError)))
    (xa_LastRecord : PySem.W.nsIn K mainGlobals "LastRecord" = some (some (.ref C_LastRecord)))
    (xa_TooManyEdits : PySem.W.nsIn K mainGlobals "TooManyEdits" = some (some (.ref C_TooManyEdits)))
    (xa_TooManyRecords : PySem.W.nsIn K mainGlobals "TooManyRecords" = some (some (.ref C_TooManyRecords)))
    (xa_NothingToUndo : PySem.W.nsIn K mainGlobals "NothingToUndo" = some (some (.ref C_NothingToUndo)))
    (xa_NoPlace : PySem.W.nsIn K mainGlobals "NoPlace" = some (some (.ref C_NoPlace)))
    (xa_InvalidCommand : PySem.W.nsIn K mainGlobals "InvalidCommand" = some (some (.ref C_InvalidCommand)))
    (xa_InvalidEdit : PySem.W.nsIn K mainGlobals "InvalidEdit" = some (some (.ref C_InvalidEdit)))
    (xa_InvalidValue : PySem.W.nsIn K mainGlobals "InvalidValue" = some (some (.ref C_InvalidValue)))
    (xa_InvalidRecord : PySem.W.nsIn K mainGlobals "InvalidRecord" = some (some (.ref C_InvalidRecord)))
    (xa_InvalidLimit : PySem.W.nsIn K mainGlobals "InvalidLimit" = some (some (.ref C_InvalidLimit)))
    (xa_InvalidText : PySem.W.nsIn K mainGlobals "InvalidText" = some (some (.ref C_InvalidText)))
    (xa_InvalidPlaces : PySem.W.nsIn K mainGlobals "InvalidPlaces" = some (some (.ref C_InvalidPlaces)))
    (xa_InvalidNumber : PySem.W.nsIn K mainGlobals "InvalidNumber" = some (some (.ref C_InvalidNumber)))
    (xa_InvalidOrder : PySem.W.nsIn K mainGlobals "InvalidOrder" = some (some (.ref C_InvalidOrder)))
    (xa_InvalidColumns : PySem.W.nsIn K mainGlobals "InvalidColumns" = some (some (.ref C_InvalidColumns)))
    (xi_InvalidTable : PySem.W.findIn K (.ref C_InvalidTable) "__init__" = some (some (.ref FI_InvalidTable))) (xt_InvalidTable : PySem.W.typeIn K (.ref FI_InvalidTable) = some (.type "function")) (xn_InvalidTable : PySem.W.findIn K (.ref C_InvalidTable) "index" = some none) (xl_InvalidTable : K.lookup FI_InvalidTable = some ⟨xoc_InvalidTable, xod_InvalidTable, .func (PySem.W.fnOf "__init__" "InvalidTable.__init__" (defArgs (inS 2 0)) (defBody (inS 2 0)) (defScope (inS 2 0)) .none xkV_InvalidTable xdc_InvalidTable xpm_InvalidTable xan_InvalidTable xcd_InvalidTable xct_InvalidTable), xsl_InvalidTable⟩) (xc_InvalidTable : PySem.W.codeIn K xcd_InvalidTable "InvalidTable.__init__" = true) (xk_InvalidTable : PySem.W.keepIn K (.ref FI_InvalidTable) = true) (x_InvalidTable : OexC K C_InvalidTable)
    (xi_MissingColumn : PySem.W.findIn K (.ref C_MissingColumn) "__init__" = some (some (.ref FI_MissingColumn))) (xt_MissingColumn : PySem.W.typeIn K (.ref FI_MissingColumn) = some (.type "function")) (xn_MissingColumn : PySem.W.findIn K (.ref C_MissingColumn) "column" = some none) (xl_MissingColumn : K.lookup FI_MissingColumn = some ⟨xoc_MissingColumn, xod_MissingColumn, .func (PySem.W.fnOf "__init__" "MissingColumn.__init__" (defArgs (inS 15 0)) (defBody (inS 15 0)) (defScope (inS 15 0)) .none xkV_MissingColumn xdc_MissingColumn xpm_MissingColumn xan_MissingColumn xcd_MissingColumn xct_MissingColumn), xsl_MissingColumn⟩) (xc_MissingColumn : PySem.W.codeIn K xcd_MissingColumn "MissingColumn.__init__" = true) (xk_MissingColumn : PySem.W.keepIn K (.ref FI_MissingColumn) = true) (x_MissingColumn : OexL K C_MissingColumn)
    (xi_InvalidProgram : PySem.W.findIn K (.ref C_InvalidProgram) "__init__" = some (some (.ref FI_InvalidProgram))) (xt_InvalidProgram : PySem.W.typeIn K (.ref FI_InvalidProgram) = some (.type "function")) (xn_InvalidProgram : PySem.W.findIn K (.ref C_InvalidProgram) "index" = some none) (xl_InvalidProgram : K.lookup FI_InvalidProgram = some ⟨xoc_InvalidProgram, xod_InvalidProgram, .func (PySem.W.fnOf "__init__" "InvalidProgram.__init__" (defArgs (inS 5 0)) (defBody (inS 5 0)) (defScope (inS 5 0)) .none xkV_InvalidProgram xdc_InvalidProgram xpm_InvalidProgram xan_InvalidProgram xcd_InvalidProgram xct_InvalidProgram), xsl_InvalidProgram⟩) (xc_InvalidProgram : PySem.W.codeIn K xcd_InvalidProgram "InvalidProgram.__init__" = true) (xk_InvalidProgram : PySem.W.keepIn K (.ref FI_InvalidProgram) = true) (x_InvalidProgram : OexC K C_InvalidProgram)
    (xe_InvalidTable_TableError : PySem.W.exmOne K (.ref C_InvalidTable) (.ref C_TableError) = some true)
    (xe_MissingColumn_TableError : PySem.W.exmOne K (.ref C_MissingColumn) (.ref C_TableError) = some false)
    (xe_InvalidProgram_TableError : PySem.W.exmOne K (.ref C_InvalidProgram) (.ref C_TableError) = some true)
    (xe_InvalidTable_FindError : PySem.W.exmOne K (.ref C_InvalidTable) (.ref C_FindError) = some false)
    (xe_MissingColumn_FindError : PySem.W.exmOne K (.ref C_MissingColumn) (.ref C_FindError) = some true)
    (xe_InvalidProgram_FindError : PySem.W.exmOne K (.ref C_InvalidProgram) (.ref C_FindError) = some false)
    (xe_InvalidTable_LimitError : PySem.W.exmOne K (.ref C_InvalidTable) (.ref C_LimitError) = some false)
    (xe_MissingColumn_LimitError : PySem.W.exmOne K (.ref C_MissingColumn) (.ref C_LimitError) = some false)
    (xe_InvalidProgram_LimitError : PySem.W.exmOne K (.ref C_InvalidProgram) (.ref C_LimitError) = some false)
    (st_InvalidTable : PySem.W.subIn K (.ref C_InvalidTable) (.type "StopIteration") = some false)
    (st_MissingColumn : PySem.W.subIn K (.ref C_MissingColumn) (.type "StopIteration") = some false)
    (st_InvalidProgram : PySem.W.subIn K (.ref C_InvalidProgram) (.type "StopIteration") = some false)
    (kx_InvalidTable : kexB K C_InvalidTable = true)
    (kx_MissingColumn : kexB K C_MissingColumn = true)
    (kx_InvalidProgram : kexB K C_InvalidProgram = true)
    (kt_ArithmeticError : kitTab K [(C_InvalidTable, .type "ArithmeticError", false), (C_MissingColumn, .type "ArithmeticError", false), (C_InvalidProgram, .type "ArithmeticError", false)] = true)
    (kt_LookupError : kitTab K [(C_InvalidTable, .type "LookupError", false), (C_MissingColumn, .type "LookupError", true), (C_InvalidProgram, .type "LookupError", false)] = true)
    (kt_ValueError : kitTab K [(C_InvalidTable, .type "ValueError", true), (C_MissingColumn, .type "ValueError", false), (C_InvalidProgram, .type "ValueError", true)] = true)
    (kt_LimitError : kitTab K [(C_InvalidTable, .ref C_LimitError, false), (C_MissingColumn, .ref C_LimitError, false), (C_InvalidProgram, .ref C_LimitError, false)] = true)
    (kt_FindError : kitTab K [(C_InvalidTable, .ref C_FindError, false), (C_MissingColumn, .ref C_FindError, true), (C_InvalidProgram, .ref C_FindError, false)] = true)
    (kt_TableError : kitTab K [(C_InvalidTable, .ref C_TableError, true), (C_MissingColumn, .ref C_TableError, false), (C_InvalidProgram, .ref C_TableError, true)] = true)
    (kt_LastRecord : kitTab K [(C_InvalidTable, .ref C_LastRecord, false), (C_MissingColumn, .ref C_LastRecord, false), (C_InvalidProgram, .ref C_LastRecord, false)] = true)
    (kt_TooManyEdits : kitTab K [(C_InvalidTable, .ref C_TooManyEdits, false), (C_MissingColumn, .ref C_TooManyEdits, false), (C_InvalidProgram, .ref C_TooManyEdits, false)] = true)
    (kt_TooManyRecords : kitTab K [(C_InvalidTable, .ref C_TooManyRecords, false), (C_MissingColumn, .ref C_TooManyRecords, false), (C_InvalidProgram, .ref C_TooManyRecords, false)] = true)
    (kt_NothingToUndo : kitTab K [(C_InvalidTable, .ref C_NothingToUndo, false), (C_MissingColumn, .ref C_NothingToUndo, false), (C_InvalidProgram, .ref C_NothingToUndo, false)] = true)
    (kt_NoPlace : kitTab K [(C_InvalidTable, .ref C_NoPlace, false), (C_MissingColumn, .ref C_NoPlace, false), (C_InvalidProgram, .ref C_NoPlace, false)] = true)
    (kt_MissingColumn : kitTab K [(C_InvalidTable, .ref C_MissingColumn, false), (C_MissingColumn, .ref C_MissingColumn, true), (C_InvalidProgram, .ref C_MissingColumn, false)] = true)
    (kt_InvalidCommand : kitTab K [(C_InvalidTable, .ref C_InvalidCommand, false), (C_MissingColumn, .ref C_InvalidCommand, false), (C_InvalidProgram, .ref C_InvalidCommand, false)] = true)
    (kt_InvalidEdit : kitTab K [(C_InvalidTable, .ref C_InvalidEdit, false), (C_MissingColumn, .ref C_InvalidEdit, false), (C_InvalidProgram, .ref C_InvalidEdit, false)] = true)
    (kt_InvalidValue : kitTab K [(C_InvalidTable, .ref C_InvalidValue, false), (C_MissingColumn, .ref C_InvalidValue, false), (C_InvalidProgram, .ref C_InvalidValue, false)] = true)
    (kt_InvalidRecord : kitTab K [(C_InvalidTable, .ref C_InvalidRecord, false), (C_MissingColumn, .ref C_InvalidRecord, false), (C_InvalidProgram, .ref C_InvalidRecord, false)] = true)
    (kt_InvalidLimit : kitTab K [(C_InvalidTable, .ref C_InvalidLimit, false), (C_MissingColumn, .ref C_InvalidLimit, false), (C_InvalidProgram, .ref C_InvalidLimit, false)] = true)
    (kt_InvalidText : kitTab K [(C_InvalidTable, .ref C_InvalidText, false), (C_MissingColumn, .ref C_InvalidText, false), (C_InvalidProgram, .ref C_InvalidText, false)] = true)
    (kt_InvalidPlaces : kitTab K [(C_InvalidTable, .ref C_InvalidPlaces, false), (C_MissingColumn, .ref C_InvalidPlaces, false), (C_InvalidProgram, .ref C_InvalidPlaces, false)] = true)
    (kt_InvalidNumber : kitTab K [(C_InvalidTable, .ref C_InvalidNumber, false), (C_MissingColumn, .ref C_InvalidNumber, false), (C_InvalidProgram, .ref C_InvalidNumber, false)] = true)
    (kt_InvalidProgram : kitTab K [(C_InvalidTable, .ref C_InvalidProgram, false), (C_MissingColumn, .ref C_InvalidProgram, false), (C_InvalidProgram, .ref C_InvalidProgram, true)] = true)
    (kt_InvalidOrder : kitTab K [(C_InvalidTable, .ref C_InvalidOrder, false), (C_MissingColumn, .ref C_InvalidOrder, false), (C_InvalidProgram, .ref C_InvalidOrder, false)] = true)
    (kt_InvalidColumns : kitTab K [(C_InvalidTable, .ref C_InvalidColumns, false), (C_MissingColumn, .ref C_InvalidColumns, false), (C_InvalidProgram, .ref C_InvalidColumns, false)] = true)
    (kt_InvalidTable : kitTab K [(C_InvalidTable, .ref C_InvalidTable, true), (C_MissingColumn, .ref C_InvalidTable, false), (C_InvalidProgram, .ref C_InvalidTable, false)] = true)
    (cq_sorted_places : cd16 = .ref c_sorted_places) (tbx_sorted_places : LamX.TabB base mg c_sorted_places P_sorted_places) (lbx_sorted_places : (P_sorted_places, ("sorted_places" ++ ".<locals>." : Str) ++ "<lambda>") ∈ Lab.T) (lux_sorted_places : ∀ p ∈ Lab.T, p.1 = P_sorted_places → p.2 = ("sorted_places" ++ ".<locals>." : Str) ++ "<lambda>")
    (hCC : LabW.C = clsOf [("InvalidTable", C_InvalidTable), ("MissingColumn", C_MissingColumn), ("InvalidProgram", C_InvalidProgram), ("TableError", C_TableError), ("FindError", C_FindError), ("LimitError", C_LimitError), ("LastRecord", C_LastRecord), ("TooManyEdits", C_TooManyEdits), ("TooManyRecords", C_TooManyRecords), ("NothingToUndo", C_NothingToUndo), ("NoPlace", C_NoPlace), ("InvalidCommand", C_InvalidCommand), ("InvalidEdit", C_InvalidEdit), ("InvalidValue", C_InvalidValue), ("InvalidRecord", C_InvalidRecord), ("InvalidLimit", C_InvalidLimit), ("InvalidText", C_InvalidText), ("InvalidPlaces", C_InvalidPlaces), ("InvalidNumber", C_InvalidNumber), ("InvalidOrder", C_InvalidOrder), ("InvalidColumns", C_InvalidColumns)] 0) : Tx Lab.T K mg base w where
  hw := hw
  A := fun i => match i with
    | 0 => f0
    | 1 => f1
    | 2 => f2
    | 3 => f3
    | 4 => f4
    | 5 => f5
    | 6 => f6
    | 7 => f7
    | 8 => f8
    | 9 => f9
    | 10 => f10
    | 11 => f11
    | 12 => f12
    | 13 => f13
    | 14 => f14
    | 15 => f15
    | 16 => f16
    | 17 => f17
    | 18 => f18
    | 19 => f19
    | 20 => f20
    | 21 => f21
    | 22 => f22
    | 23 => f23
    | 24 => f24
    | 25 => f25
    | 26 => f26
    | 27 => f27
    | 28 => f28
    | 29 => f29
    | 30 => f30
    | 31 => f31
    | 32 => f32
    | 33 => f33
    | 34 => f34
    | 35 => f35
    | 36 => f36
    | 37 => f37
    | 38 => f38
    | 39 => f39
    | 40 => f40
    | 41 => f41
    | 42 => f42
    | 43 => f43
    | 44 => f44
    | 45 => f45
    | 46 => f46
    | 47 => f47
    | 48 => f48
    | 49 => f49
    | 50 => f50
    | 51 => f51
    | 52 => f52
    | 53 => f53
    | 54 => f54
    | 55 => f55
    | 56 => f56
    | _ => f0
  FD := fun i => match i with
    | 0 => (PySem.W.fnOf "is_integer" "is_integer" (defArgs (topS 30)) (defBody (topS 30)) (defScope (topS 30)) .none kV0 dc0 pm0 an0 cd0 ct0)
    | 1 => (PySem.W.fnOf "is_record" "is_record" (defArgs (topS 31)) (defBody (topS 31)) (defScope (topS 31)) .none kV1 dc1 pm1 an1 cd1 ct1)
    | 2 => (PySem.W.fnOf "check_table" "check_table" (defArgs (topS 32)) (defBody (topS 32)) (defScope (topS 32)) .none kV2 dc2 pm2 an2 cd2 ct2)
    | 3 => (PySem.W.fnOf "count_columns" "count_columns" (defArgs (topS 33)) (defBody (topS 33)) (defScope (topS 33)) .none kV3 dc3 pm3 an3 cd3 ct3)
    | 4 => (PySem.W.fnOf "every_place" "every_place" (defArgs (topS 34)) (defBody (topS 34)) (defScope (topS 34)) .none kV4 dc4 pm4 an4 cd4 ct4)
    | 5 => (PySem.W.fnOf "records_at" "records_at" (defArgs (topS 35)) (defBody (topS 35)) (defScope (topS 35)) .none kV5 dc5 pm5 an5 cd5 ct5)
    | 6 => (PySem.W.fnOf "check_columns_below" "check_columns_below" (defArgs (topS 36)) (defBody (topS 36)) (defScope (topS 36)) .none kV6 dc6 pm6 an6 cd6 ct6)
    | 7 => (PySem.W.fnOf "is_word" "is_word" (defArgs (topS 39)) (defBody (topS 39)) (defScope (topS 39)) .none kV7 dc7 pm7 an7 cd7 ct7)
    | 8 => (PySem.W.fnOf "is_pair" "is_pair" (defArgs (topS 40)) (defBody (topS 40)) (defScope (topS 40)) .none kV8 dc8 pm8 an8 cd8 ct8)
    | 9 => (PySem.W.fnOf "is_sort_column" "is_sort_column" (defArgs (topS 41)) (defBody (topS 41)) (defScope (topS 41)) .none kV9 dc9 pm9 an9 cd9 ct9)
    | 10 => (PySem.W.fnOf "is_key" "is_key" (defArgs (topS 42)) (defBody (topS 42)) (defScope (topS 42)) .none kV10 dc10 pm10 an10 cd10 ct10)
    | 11 => (PySem.W.fnOf "is_place_part" "is_place_part" (defArgs (topS 43)) (defBody (topS 43)) (defScope (topS 43)) .none kV11 dc11 pm11 an11 cd11 ct11)
    | 12 => (PySem.W.fnOf "check_order" "check_order" (defArgs (topS 44)) (defBody (topS 44)) (defScope (topS 44)) .none kV12 dc12 pm12 an12 cd12 ct12)
    | 13 => (PySem.W.fnOf "opposite" "opposite" (defArgs (topS 45)) (defBody (topS 45)) (defScope (topS 45)) .none kV13 dc13 pm13 an13 cd13 ct13)
    | 14 => (PySem.W.fnOf "turned" "turned" (defArgs (topS 46)) (defBody (topS 46)) (defScope (topS 46)) .none kV14 dc14 pm14 an14 cd14 ct14)
    | 15 => (PySem.W.fnOf "sort_values" "sort_values" (defArgs (topS 47)) (defBody (topS 47)) (defScope (topS 47)) .none kV15 dc15 pm15 an15 cd15 ct15)
    | 16 => (PySem.W.fnOf "sorted_places" "sorted_places" (defArgs (topS 48)) (defBody (topS 48)) (defScope (topS 48)) .none kV16 dc16 pm16 an16 cd16 ct16)
    | 17 => (PySem.W.fnOf "is_size" "is_size" (defArgs (topS 53)) (defBody (topS 53)) (defScope (topS 53)) .none kV17 dc17 pm17 an17 cd17 ct17)
    | 18 => (PySem.W.fnOf "is_times" "is_times" (defArgs (topS 54)) (defBody (topS 54)) (defScope (topS 54)) .none kV18 dc18 pm18 an18 cd18 ct18)
    | 19 => (PySem.W.fnOf "is_plain_command" "is_plain_command" (defArgs (topS 55)) (defBody (topS 55)) (defScope (topS 55)) .none kV19 dc19 pm19 an19 cd19 ct19)
    | 20 => (PySem.W.fnOf "begins_repeat" "begins_repeat" (defArgs (topS 56)) (defBody (topS 56)) (defScope (topS 56)) .none kV20 dc20 pm20 an20 cd20 ct20)
    | 21 => (PySem.W.fnOf "room_behind" "room_behind" (defArgs (topS 57)) (defBody (topS 57)) (defScope (topS 57)) .none kV21 dc21 pm21 an21 cd21 ct21)
    | 22 => (PySem.W.fnOf "room_behind_command" "room_behind_command" (defArgs (topS 58)) (defBody (topS 58)) (defScope (topS 58)) .none kV22 dc22 pm22 an22 cd22 ct22)
    | 23 => (PySem.W.fnOf "check_program" "check_program" (defArgs (topS 59)) (defBody (topS 59)) (defScope (topS 59)) .none kV23 dc23 pm23 an23 cd23 ct23)
    | 24 => (PySem.W.fnOf "count_performed" "count_performed" (defArgs (topS 60)) (defBody (topS 60)) (defScope (topS 60)) .none kV24 dc24 pm24 an24 cd24 ct24)
    | 25 => (PySem.W.fnOf "count_commands" "count_commands" (defArgs (topS 61)) (defBody (topS 61)) (defScope (topS 61)) .none kV25 dc25 pm25 an25 cd25 ct25)
    | 26 => (PySem.W.fnOf "program_columns" "program_columns" (defArgs (topS 62)) (defBody (topS 62)) (defScope (topS 62)) .none kV26 dc26 pm26 an26 cd26 ct26)
    | 27 => (PySem.W.fnOf "sorted_first" "sorted_first" (defArgs (topS 65)) (defBody (topS 65)) (defScope (topS 65)) .none kV27 dc27 pm27 an27 cd27 ct27)
    | 28 => (PySem.W.fnOf "after_plain" "after_plain" (defArgs (topS 66)) (defBody (topS 66)) (defScope (topS 66)) .none kV28 dc28 pm28 an28 cd28 ct28)
    | 29 => (PySem.W.fnOf "picks_of_plain" "picks_of_plain" (defArgs (topS 67)) (defBody (topS 67)) (defScope (topS 67)) .none kV29 dc29 pm29 an29 cd29 ct29)
    | 30 => (PySem.W.fnOf "after_repeat" "after_repeat" (defArgs (topS 68)) (defBody (topS 68)) (defScope (topS 68)) .none kV30 dc30 pm30 an30 cd30 ct30)
    | 31 => (PySem.W.fnOf "after_command" "after_command" (defArgs (topS 69)) (defBody (topS 69)) (defScope (topS 69)) .none kV31 dc31 pm31 an31 cd31 ct31)
    | 32 => (PySem.W.fnOf "after_program" "after_program" (defArgs (topS 70)) (defBody (topS 70)) (defScope (topS 70)) .none kV32 dc32 pm32 an32 cd32 ct32)
    | 33 => (PySem.W.fnOf "check_run" "check_run" (defArgs (topS 72)) (defBody (topS 72)) (defScope (topS 72)) .none kV33 dc33 pm33 an33 cd33 ct33)
    | 34 => (PySem.W.fnOf "picked" "picked" (defArgs (topS 73)) (defBody (topS 73)) (defScope (topS 73)) .none kV34 dc34 pm34 an34 cd34 ct34)
    | 35 => (PySem.W.fnOf "run_places" "run_places" (defArgs (topS 74)) (defBody (topS 74)) (defScope (topS 74)) .none kV35 dc35 pm35 an35 cd35 ct35)
    | 36 => (PySem.W.fnOf "run" "run" (defArgs (topS 75)) (defBody (topS 75)) (defScope (topS 75)) .none kV36 dc36 pm36 an36 cd36 ct36)
    | 37 => (PySem.W.fnOf "each_table" "each_table" (defArgs (topS 76)) (defBody (topS 76)) (defScope (topS 76)) .none kV37 dc37 pm37 an37 cd37 ct37)
    | 38 => (PySem.W.fnOf "written_command" "written_command" (defArgs (topS 78)) (defBody (topS 78)) (defScope (topS 78)) .none kV38 dc38 pm38 an38 cd38 ct38)
    | 39 => (PySem.W.fnOf "format_program" "format_program" (defArgs (topS 79)) (defBody (topS 79)) (defScope (topS 79)) .none kV39 dc39 pm39 an39 cd39 ct39)
    | 40 => (PySem.W.fnOf "_law_cell" "_law_cell" (defArgs (topS 81)) (defBody (topS 81)) (defScope (topS 81)) .none kV40 dc40 pm40 an40 cd40 ct40)
    | 41 => (PySem.W.fnOf "_law_pool" "_law_pool" (defArgs (topS 82)) (defBody (topS 82)) (defScope (topS 82)) .none kV41 dc41 pm41 an41 cd41 ct41)
    | 42 => (PySem.W.fnOf "_law_draw" "_law_draw" (defArgs (topS 83)) (defBody (topS 83)) (defScope (topS 83)) .none kV42 dc42 pm42 an42 cd42 ct42)
    | 43 => (PySem.W.fnOf "_law_table" "_law_table" (defArgs (topS 84)) (defBody (topS 84)) (defScope (topS 84)) .none kV43 dc43 pm43 an43 cd43 ct43)
    | 44 => (PySem.W.fnOf "_law_steps" "_law_steps" (defArgs (topS 85)) (defBody (topS 85)) (defScope (topS 85)) .none kV44 dc44 pm44 an44 cd44 ct44)
    | 45 => (PySem.W.fnOf "_law_program" "_law_program" (defArgs (topS 86)) (defBody (topS 86)) (defScope (topS 86)) .none kV45 dc45 pm45 an45 cd45 ct45)
    | 46 => (PySem.W.fnOf "_law_kind" "_law_kind" (defArgs (topS 87)) (defBody (topS 87)) (defScope (topS 87)) .none kV46 dc46 pm46 an46 cd46 ct46)
    | 47 => (PySem.W.fnOf "_law_whole" "_law_whole" (defArgs (topS 88)) (defBody (topS 88)) (defScope (topS 88)) .none kV47 dc47 pm47 an47 cd47 ct47)
    | 48 => (PySem.W.fnOf "_law_counted" "_law_counted" (defArgs (topS 89)) (defBody (topS 89)) (defScope (topS 89)) .none kV48 dc48 pm48 an48 cd48 ct48)
    | 49 => (PySem.W.fnOf "_law_first_bad" "_law_first_bad" (defArgs (topS 90)) (defBody (topS 90)) (defScope (topS 90)) .none kV49 dc49 pm49 an49 cd49 ct49)
    | 50 => (PySem.W.fnOf "_law_bent" "_law_bent" (defArgs (topS 91)) (defBody (topS 91)) (defScope (topS 91)) .none kV50 dc50 pm50 an50 cd50 ct50)
    | 51 => (PySem.W.fnOf "_law_sides" "_law_sides" (defArgs (topS 92)) (defBody (topS 92)) (defScope (topS 92)) .none kV51 dc51 pm51 an51 cd51 ct51)
    | 52 => (PySem.W.fnOf "_law_asked" "_law_asked" (defArgs (topS 93)) (defBody (topS 93)) (defScope (topS 93)) .none kV52 dc52 pm52 an52 cd52 ct52)
    | 53 => (PySem.W.fnOf "_law_table_bad" "_law_table_bad" (defArgs (topS 94)) (defBody (topS 94)) (defScope (topS 94)) .none kV53 dc53 pm53 an53 cd53 ct53)
    | 54 => (PySem.W.fnOf "_law_told_right" "_law_told_right" (defArgs (topS 95)) (defBody (topS 95)) (defScope (topS 95)) .none kV54 dc54 pm54 an54 cd54 ct54)
    | 55 => (PySem.W.fnOf "_law_right" "_law_right" (defArgs (topS 96)) (defBody (topS 96)) (defScope (topS 96)) .none kV55 dc55 pm55 an55 cd55 ct55)
    | 56 => (PySem.W.fnOf "law" "law" (defArgs (topS 97)) (defBody (topS 97)) (defScope (topS 97)) .none kV56 dc56 pm56 an56 cd56 ct56)
    | _ => (PySem.W.fnOf "is_integer" "is_integer" (defArgs (topS 30)) (defBody (topS 30)) (defScope (topS 30)) .none kV0 dc0 pm0 an0 cd0 ct0)
  D_is_integer := fun_mk (st := (topS 30)) l0 c0 k0
  g_is_integer := PySem.W.mg_of X G a0
  D_is_record := fun_mk (st := (topS 31)) l1 c1 k1
  g_is_record := PySem.W.mg_of X G a1
  D_check_table := fun_mk (st := (topS 32)) l2 c2 k2
  g_check_table := PySem.W.mg_of X G a2
  D_count_columns := fun_mk (st := (topS 33)) l3 c3 k3
  g_count_columns := PySem.W.mg_of X G a3
  D_every_place := fun_mk (st := (topS 34)) l4 c4 k4
  g_every_place := PySem.W.mg_of X G a4
  D_records_at := fun_mk (st := (topS 35)) l5 c5 k5
  g_records_at := PySem.W.mg_of X G a5
  D_check_columns_below := fun_mk (st := (topS 36)) l6 c6 k6
  g_check_columns_below := PySem.W.mg_of X G a6
  D_is_word := fun_mk (st := (topS 39)) l7 c7 k7
  g_is_word := PySem.W.mg_of X G a7
  D_is_pair := fun_mk (st := (topS 40)) l8 c8 k8
  g_is_pair := PySem.W.mg_of X G a8
  D_is_sort_column := fun_mk (st := (topS 41)) l9 c9 k9
  g_is_sort_column := PySem.W.mg_of X G a9
  D_is_key := fun_mk (st := (topS 42)) l10 c10 k10
  g_is_key := PySem.W.mg_of X G a10
  D_is_place_part := fun_mk (st := (topS 43)) l11 c11 k11
  g_is_place_part := PySem.W.mg_of X G a11
  D_check_order := fun_mk (st := (topS 44)) l12 c12 k12
  g_check_order := PySem.W.mg_of X G a12
  D_opposite := fun_mk (st := (topS 45)) l13 c13 k13
  g_opposite := PySem.W.mg_of X G a13
  D_turned := fun_mk (st := (topS 46)) l14 c14 k14
  g_turned := PySem.W.mg_of X G a14
  D_sort_values := fun_mk (st := (topS 47)) l15 c15 k15
  g_sort_values := PySem.W.mg_of X G a15
  D_sorted_places := fun_mk (st := (topS 48)) l16 c16 k16
  g_sorted_places := PySem.W.mg_of X G a16
  D_is_size := fun_mk (st := (topS 53)) l17 c17 k17
  g_is_size := PySem.W.mg_of X G a17
  D_is_times := fun_mk (st := (topS 54)) l18 c18 k18
  g_is_times := PySem.W.mg_of X G a18
  D_is_plain_command := fun_mk (st := (topS 55)) l19 c19 k19
  g_is_plain_command := PySem.W.mg_of X G a19
  D_begins_repeat := fun_mk (st := (topS 56)) l20 c20 k20
  g_begins_repeat := PySem.W.mg_of X G a20
  D_room_behind := fun_mk (st := (topS 57)) l21 c21 k21
  g_room_behind := PySem.W.mg_of X G a21
  D_room_behind_command := fun_mk (st := (topS 58)) l22 c22 k22
  g_room_behind_command := PySem.W.mg_of X G a22
  D_check_program := fun_mk (st := (topS 59)) l23 c23 k23
  g_check_program := PySem.W.mg_of X G a23
  D_count_performed := fun_mk (st := (topS 60)) l24 c24 k24
  g_count_performed := PySem.W.mg_of X G a24
  D_count_commands := fun_mk (st := (topS 61)) l25 c25 k25
  g_count_commands := PySem.W.mg_of X G a25
  D_program_columns := fun_mk (st := (topS 62)) l26 c26 k26
  g_program_columns := PySem.W.mg_of X G a26
  D_sorted_first := fun_mk (st := (topS 65)) l27 c27 k27
  g_sorted_first := PySem.W.mg_of X G a27
  D_after_plain := fun_mk (st := (topS 66)) l28 c28 k28
  g_after_plain := PySem.W.mg_of X G a28
  D_picks_of_plain := fun_mk (st := (topS 67)) l29 c29 k29
  g_picks_of_plain := PySem.W.mg_of X G a29
  D_after_repeat := fun_mk (st := (topS 68)) l30 c30 k30
  g_after_repeat := PySem.W.mg_of X G a30
  D_after_command := fun_mk (st := (topS 69)) l31 c31 k31
  g_after_command := PySem.W.mg_of X G a31
  D_after_program := fun_mk (st := (topS 70)) l32 c32 k32
  g_after_program := PySem.W.mg_of X G a32
  D_check_run := fun_mk (st := (topS 72)) l33 c33 k33
  g_check_run := PySem.W.mg_of X G a33
  D_picked := fun_mk (st := (topS 73)) l34 c34 k34
  g_picked := PySem.W.mg_of X G a34
  D_run_places := fun_mk (st := (topS 74)) l35 c35 k35
  g_run_places := PySem.W.mg_of X G a35
  D_run := fun_mk (st := (topS 75)) l36 c36 k36
  g_run := PySem.W.mg_of X G a36
  D_each_table := fun_mk (st := (topS 76)) l37 c37 k37
  g_each_table := PySem.W.mg_of X G a37
  D_written_command := fun_mk (st := (topS 78)) l38 c38 k38
  g_written_command := PySem.W.mg_of X G a38
  D_format_program := fun_mk (st := (topS 79)) l39 c39 k39
  g_format_program := PySem.W.mg_of X G a39
  D__law_cell := fun_mk (st := (topS 81)) l40 c40 k40
  g__law_cell := PySem.W.mg_of X G a40
  D__law_pool := fun_mk (st := (topS 82)) l41 c41 k41
  g__law_pool := PySem.W.mg_of X G a41
  D__law_draw := fun_mk (st := (topS 83)) l42 c42 k42
  g__law_draw := PySem.W.mg_of X G a42
  D__law_table := fun_mk (st := (topS 84)) l43 c43 k43
  g__law_table := PySem.W.mg_of X G a43
  D__law_steps := fun_mk (st := (topS 85)) l44 c44 k44
  g__law_steps := PySem.W.mg_of X G a44
  D__law_program := fun_mk (st := (topS 86)) l45 c45 k45
  g__law_program := PySem.W.mg_of X G a45
  D__law_kind := fun_mk (st := (topS 87)) l46 c46 k46
  g__law_kind := PySem.W.mg_of X G a46
  D__law_whole := fun_mk (st := (topS 88)) l47 c47 k47
  g__law_whole := PySem.W.mg_of X G a47
  D__law_counted := fun_mk (st := (topS 89)) l48 c48 k48
  g__law_counted := PySem.W.mg_of X G a48
  D__law_first_bad := fun_mk (st := (topS 90)) l49 c49 k49
  g__law_first_bad := PySem.W.mg_of X G a49
  D__law_bent := fun_mk (st := (topS 91)) l50 c50 k50
  g__law_bent := PySem.W.mg_of X G a50
  D__law_sides := fun_mk (st := (topS 92)) l51 c51 k51
  g__law_sides := PySem.W.mg_of X G a51
  D__law_asked := fun_mk (st := (topS 93)) l52 c52 k52
  g__law_asked := PySem.W.mg_of X G a52
  D__law_table_bad := fun_mk (st := (topS 94)) l53 c53 k53
  g__law_table_bad := PySem.W.mg_of X G a53
  D__law_told_right := fun_mk (st := (topS 95)) l54 c54 k54
  g__law_told_right := PySem.W.mg_of X G a54
  D__law_right := fun_mk (st := (topS 96)) l55 c55 k55
  g__law_right := PySem.W.mg_of X G a55
  D_law := fun_mk (st := (topS 97)) l56 c56 k56
  g_law := PySem.W.mg_of X G a56
  n_ArithmeticError := PySem.W.mg_none_of X G n_ArithmeticError
  n_LookupError := PySem.W.mg_none_of X G n_LookupError
  n_ValueError := PySem.W.mg_none_of X G n_ValueError
  n_abs := PySem.W.mg_none_of X G n_abs
  n_all := PySem.W.mg_none_of X G n_all
  n_bool := PySem.W.mg_none_of X G n_bool
  n_divmod := PySem.W.mg_none_of X G n_divmod
  n_enumerate := PySem.W.mg_none_of X G n_enumerate
  n_int := PySem.W.mg_none_of X G n_int
  n_isinstance := PySem.W.mg_none_of X G n_isinstance
  n_len := PySem.W.mg_none_of X G n_len
  n_list := PySem.W.mg_none_of X G n_list
  n_max := PySem.W.mg_none_of X G n_max
  n_min := PySem.W.mg_none_of X G n_min
  n_range := PySem.W.mg_none_of X G n_range
  n_repr := PySem.W.mg_none_of X G n_repr
  n_set := PySem.W.mg_none_of X G n_set
  n_sorted := PySem.W.mg_none_of X G n_sorted
  n_str := PySem.W.mg_none_of X G n_str
  n_sum := PySem.W.mg_none_of X G n_sum
  n_tuple := PySem.W.mg_none_of X G n_tuple
  c_MOST_COLUMNS := c_MOST_COLUMNS
  c_MOST_RECORDS := c_MOST_RECORDS
  c_MOST_KEYS := c_MOST_KEYS
  c_DIRECTIONS := c_DIRECTIONS
  c_LEAST_SIZE := c_LEAST_SIZE
  c_MOST_SIZE := c_MOST_SIZE
  c_MOST_TIMES := c_MOST_TIMES
  c_CUTS := c_CUTS
  c_BARE_WORDS := c_BARE_WORDS
  c_MOST_NESTED := c_MOST_NESTED
  c_MOST_COMMANDS := c_MOST_COMMANDS
  c_START := c_START
  xm_InvalidTable := PySem.W.mg_of X G xa_InvalidTable
  xm_MissingColumn := PySem.W.mg_of X G xa_MissingColumn
  xm_InvalidProgram := PySem.W.mg_of X G xa_InvalidProgram
  xm_TableError := PySem.W.mg_of X G xa_TableError
  xm_FindError := PySem.W.mg_of X G xa_FindError
  xm_LimitError := PySem.W.mg_of X G xa_LimitError
  xm_LastRecord := PySem.W.mg_of X G xa_LastRecord
  xm_TooManyEdits := PySem.W.mg_of X G xa_TooManyEdits
  xm_TooManyRecords := PySem.W.mg_of X G xa_TooManyRecords
  xm_NothingToUndo := PySem.W.mg_of X G xa_NothingToUndo
  xm_NoPlace := PySem.W.mg_of X G xa_NoPlace
  xm_InvalidCommand := PySem.W.mg_of X G xa_InvalidCommand
  xm_InvalidEdit := PySem.W.mg_of X G xa_InvalidEdit
  xm_InvalidValue := PySem.W.mg_of X G xa_InvalidValue
  xm_InvalidRecord := PySem.W.mg_of X G xa_InvalidRecord
  xm_InvalidLimit := PySem.W.mg_of X G xa_InvalidLimit
  xm_InvalidText := PySem.W.mg_of X G xa_InvalidText
  xm_InvalidPlaces := PySem.W.mg_of X G xa_InvalidPlaces
  xm_InvalidNumber := PySem.W.mg_of X G xa_InvalidNumber
  xm_InvalidOrder := PySem.W.mg_of X G xa_InvalidOrder
  xm_InvalidColumns := PySem.W.mg_of X G xa_InvalidColumns
  xi_InvalidTable := xi_InvalidTable
  xt_InvalidTable := xt_InvalidTable
  xn_InvalidTable := xn_InvalidTable
  xD_InvalidTable := fun_mk (st := (inS 2 0)) xl_InvalidTable xc_InvalidTable xk_InvalidTable
  x_InvalidTable := x_InvalidTable
  xi_MissingColumn := xi_MissingColumn
  xt_MissingColumn := xt_MissingColumn
  xn_MissingColumn := xn_MissingColumn
  xD_MissingColumn := fun_mk (st := (inS 15 0)) xl_MissingColumn xc_MissingColumn xk_MissingColumn
  x_MissingColumn := x_MissingColumn
  xi_InvalidProgram := xi_InvalidProgram
  xt_InvalidProgram := xt_InvalidProgram
  xn_InvalidProgram := xn_InvalidProgram
  xD_InvalidProgram := fun_mk (st := (inS 5 0)) xl_InvalidProgram xc_InvalidProgram xk_InvalidProgram
  x_InvalidProgram := x_InvalidProgram
  xe_InvalidTable_TableError := xe_InvalidTable_TableError
  xe_MissingColumn_TableError := xe_MissingColumn_TableError
  xe_InvalidProgram_TableError := xe_InvalidProgram_TableError
  xe_InvalidTable_FindError := xe_InvalidTable_FindError
  xe_MissingColumn_FindError := xe_MissingColumn_FindError
  xe_InvalidProgram_FindError := xe_InvalidProgram_FindError
  xe_InvalidTable_LimitError := xe_InvalidTable_LimitError
  xe_MissingColumn_LimitError := xe_MissingColumn_LimitError
  xe_InvalidProgram_LimitError := xe_InvalidProgram_LimitError
  st_InvalidTable := st_InvalidTable
  st_MissingColumn := st_MissingColumn
  st_InvalidProgram := st_InvalidProgram
  hC := hCC.symm
  kx_InvalidTable := kx_InvalidTable
  kx_MissingColumn := kx_MissingColumn
  kx_InvalidProgram := kx_InvalidProgram
  kt_ArithmeticError := kt_ArithmeticError
  kt_LookupError := kt_LookupError
  kt_ValueError := kt_ValueError
  kt_LimitError := kt_LimitError
  kt_FindError := kt_FindError
  kt_TableError := kt_TableError
  kt_LastRecord := kt_LastRecord
  kt_TooManyEdits := kt_TooManyEdits
  kt_TooManyRecords := kt_TooManyRecords
  kt_NothingToUndo := kt_NothingToUndo
  kt_NoPlace := kt_NoPlace
  kt_MissingColumn := kt_MissingColumn
  kt_InvalidCommand := kt_InvalidCommand
  kt_InvalidEdit := kt_InvalidEdit
  kt_InvalidValue := kt_InvalidValue
  kt_InvalidRecord := kt_InvalidRecord
  kt_InvalidLimit := kt_InvalidLimit
  kt_InvalidText := kt_InvalidText
  kt_InvalidPlaces := kt_InvalidPlaces
  kt_InvalidNumber := kt_InvalidNumber
  kt_InvalidProgram := kt_InvalidProgram
  kt_InvalidOrder := kt_InvalidOrder
  kt_InvalidColumns := kt_InvalidColumns
  kt_InvalidTable := kt_InvalidTable
  C := clsOf [("InvalidTable", C_InvalidTable), ("MissingColumn", C_MissingColumn), ("InvalidProgram", C_InvalidProgram), ("TableError", C_TableError), ("FindError", C_FindError), ("LimitError", C_LimitError), ("LastRecord", C_LastRecord), ("TooManyEdits", C_TooManyEdits), ("TooManyRecords", C_TooManyRecords), ("NothingToUndo", C_NothingToUndo), ("NoPlace", C_NoPlace), ("InvalidCommand", C_InvalidCommand), ("InvalidEdit", C_InvalidEdit), ("InvalidValue", C_InvalidValue), ("InvalidRecord", C_InvalidRecord), ("InvalidLimit", C_InvalidLimit), ("InvalidText", C_InvalidText), ("InvalidPlaces", C_InvalidPlaces), ("InvalidNumber", C_InvalidNumber), ("InvalidOrder", C_InvalidOrder), ("InvalidColumns", C_InvalidColumns)] 0
  FI := clsOf [("InvalidTable", FI_InvalidTable), ("MissingColumn", FI_MissingColumn), ("InvalidProgram", FI_InvalidProgram)] 0
  FDI := clsOf [("InvalidTable", (PySem.W.fnOf "__init__" "InvalidTable.__init__" (defArgs (inS 2 0)) (defBody (inS 2 0)) (defScope (inS 2 0)) .none xkV_InvalidTable xdc_InvalidTable xpm_InvalidTable xan_InvalidTable xcd_InvalidTable xct_InvalidTable)), ("MissingColumn", (PySem.W.fnOf "__init__" "MissingColumn.__init__" (defArgs (inS 15 0)) (defBody (inS 15 0)) (defScope (inS 15 0)) .none xkV_MissingColumn xdc_MissingColumn xpm_MissingColumn xan_MissingColumn xcd_MissingColumn xct_MissingColumn)), ("InvalidProgram", (PySem.W.fnOf "__init__" "InvalidProgram.__init__" (defArgs (inS 5 0)) (defBody (inS 5 0)) (defScope (inS 5 0)) .none xkV_InvalidProgram xdc_InvalidProgram xpm_InvalidProgram xan_InvalidProgram xcd_InvalidProgram xct_InvalidProgram))] (PySem.W.fnOf "__init__" "InvalidTable.__init__" (defArgs (inS 2 0)) (defBody (inS 2 0)) (defScope (inS 2 0)) .none xkV_InvalidTable xdc_InvalidTable xpm_InvalidTable xan_InvalidTable xcd_InvalidTable xct_InvalidTable)
  cP_sorted_places := (c_sorted_places, P_sorted_places)
  tb_sorted_places := tbx_sorted_places
  cd_sorted_places := (show cd16 = .ref c_sorted_places from cq_sorted_places)
  lb_sorted_places := lbx_sorted_places
  lu_sorted_places := lux_sorted_places
theorem all_mk {l : PySem.W.OpenLaw} {w : World} {K : PySem.W.Frag} {h : Heap} {mg : Str → Option Value} {fa : Addr} (X : K.In h) (G : h.Ns mainGlobals mg) (hfa : mg "law" = some (.ref fa))
    {f0 : Addr} {od0 an0 : Option Addr} {sl0 : Array (Option Value)} {oc0 kV0 dc0 pm0 cd0 ct0 : Value}
    {f1 : Addr} {od1 an1 : Option Addr} {sl1 : Array (Option Value)} {oc1 kV1 dc1 pm1 cd1 ct1 : Value}
    {f2 : Addr} {od2 an2 : Option Addr} {sl2 : Array (Option Value)} {oc2 kV2 dc2 pm2 cd2 ct2 : Value}
    {f3 : Addr} {od3 an3 : Option Addr} {sl3 : Array (Option Value)} {oc3 kV3 dc3 pm3 cd3 ct3 : Value}
    {f4 : Addr} {od4 an4 : Option Addr} {sl4 : Array (Option Value)} {oc4 kV4 dc4 pm4 cd4 ct4 : Value}
    {f5 : Addr} {od5 an5 : Option Addr} {sl5 : Array (Option Value)} {oc5 kV5 dc5 pm5 cd5 ct5 : Value}
    {f6 : Addr} {od6 an6 : Option Addr} {sl6 : Array (Option Value)} {oc6 kV6 dc6 pm6 cd6 ct6 : Value}
    {f7 : Addr} {od7 an7 : Option Addr} {sl7 : Array (Option Value)} {oc7 kV7 dc7 pm7 cd7 ct7 : Value}
    {f8 : Addr} {od8 an8 : Option Addr} {sl8 : Array (Option Value)} {oc8 kV8 dc8 pm8 cd8 ct8 : Value}
    {f9 : Addr} {od9 an9 : Option Addr} {sl9 : Array (Option Value)} {oc9 kV9 dc9 pm9 cd9 ct9 : Value}
    {f10 : Addr} {od10 an10 : Option Addr} {sl10 : Array (Option Value)} {oc10 kV10 dc10 pm10 cd10 ct10 : Value}
    {f11 : Addr} {od11 an11 : Option Addr} {sl11 : Array (Option Value)} {oc11 kV11 dc11 pm11 cd11 ct11 : Value}
    {f12 : Addr} {od12 an12 : Option Addr} {sl12 : Array (Option Value)} {oc12 kV12 dc12 pm12 cd12 ct12 : Value}
    {f13 : Addr} {od13 an13 : Option Addr} {sl13 : Array (Option Value)} {oc13 kV13 dc13 pm13 cd13 ct13 : Value}
    {f14 : Addr} {od14 an14 : Option Addr} {sl14 : Array (Option Value)} {oc14 kV14 dc14 pm14 cd14 ct14 : Value}
    {f15 : Addr} {od15 an15 : Option Addr} {sl15 : Array (Option Value)} {oc15 kV15 dc15 pm15 cd15 ct15 : Value}
    {f16 : Addr} {od16 an16 : Option Addr} {sl16 : Array (Option Value)} {oc16 kV16 dc16 pm16 cd16 ct16 : Value}
    {f17 : Addr} {od17 an17 : Option Addr} {sl17 : Array (Option Value)} {oc17 kV17 dc17 pm17 cd17 ct17 : Value}
    {f18 : Addr} {od18 an18 : Option Addr} {sl18 : Array (Option Value)} {oc18 kV18 dc18 pm18 cd18 ct18 : Value}
    {f19 : Addr} {od19 an19 : Option Addr} {sl19 : Array (Option Value)} {oc19 kV19 dc19 pm19 cd19 ct19 : Value}
    {f20 : Addr} {od20 an20 : Option Addr} {sl20 : Array (Option Value)} {oc20 kV20 dc20 pm20 cd20 ct20 : Value}
    {f21 : Addr} {od21 an21 : Option Addr} {sl21 : Array (Option Value)} {oc21 kV21 dc21 pm21 cd21 ct21 : Value}
    {f22 : Addr} {od22 an22 : Option Addr} {sl22 : Array (Option Value)} {oc22 kV22 dc22 pm22 cd22 ct22 : Value}
    {f23 : Addr} {od23 an23 : Option Addr} {sl23 : Array (Option Value)} {oc23 kV23 dc23 pm23 cd23 ct23 : Value}
    {f24 : Addr} {od24 an24 : Option Addr} {sl24 : Array (Option Value)} {oc24 kV24 dc24 pm24 cd24 ct24 : Value}
    {f25 : Addr} {od25 an25 : Option Addr} {sl25 : Array (Option Value)} {oc25 kV25 dc25 pm25 cd25 ct25 : Value}
    {f26 : Addr} {od26 an26 : Option Addr} {sl26 : Array (Option Value)} {oc26 kV26 dc26 pm26 cd26 ct26 : Value}
    {f27 : Addr} {od27 an27 : Option Addr} {sl27 : Array (Option Value)} {oc27 kV27 dc27 pm27 cd27 ct27 : Value}
    {f28 : Addr} {od28 an28 : Option Addr} {sl28 : Array (Option Value)} {oc28 kV28 dc28 pm28 cd28 ct28 : Value}
    {f29 : Addr} {od29 an29 : Option Addr} {sl29 : Array (Option Value)} {oc29 kV29 dc29 pm29 cd29 ct29 : Value}
    {f30 : Addr} {od30 an30 : Option Addr} {sl30 : Array (Option Value)} {oc30 kV30 dc30 pm30 cd30 ct30 : Value}
    {f31 : Addr} {od31 an31 : Option Addr} {sl31 : Array (Option Value)} {oc31 kV31 dc31 pm31 cd31 ct31 : Value}
    {f32 : Addr} {od32 an32 : Option Addr} {sl32 : Array (Option Value)} {oc32 kV32 dc32 pm32 cd32 ct32 : Value}
    {f33 : Addr} {od33 an33 : Option Addr} {sl33 : Array (Option Value)} {oc33 kV33 dc33 pm33 cd33 ct33 : Value}
    {f34 : Addr} {od34 an34 : Option Addr} {sl34 : Array (Option Value)} {oc34 kV34 dc34 pm34 cd34 ct34 : Value}
    {f35 : Addr} {od35 an35 : Option Addr} {sl35 : Array (Option Value)} {oc35 kV35 dc35 pm35 cd35 ct35 : Value}
    {f36 : Addr} {od36 an36 : Option Addr} {sl36 : Array (Option Value)} {oc36 kV36 dc36 pm36 cd36 ct36 : Value}
    {f37 : Addr} {od37 an37 : Option Addr} {sl37 : Array (Option Value)} {oc37 kV37 dc37 pm37 cd37 ct37 : Value}
    {f38 : Addr} {od38 an38 : Option Addr} {sl38 : Array (Option Value)} {oc38 kV38 dc38 pm38 cd38 ct38 : Value}
    {f39 : Addr} {od39 an39 : Option Addr} {sl39 : Array (Option Value)} {oc39 kV39 dc39 pm39 cd39 ct39 : Value}
    {f40 : Addr} {od40 an40 : Option Addr} {sl40 : Array (Option Value)} {oc40 kV40 dc40 pm40 cd40 ct40 : Value}
    {f41 : Addr} {od41 an41 : Option Addr} {sl41 : Array (Option Value)} {oc41 kV41 dc41 pm41 cd41 ct41 : Value}
    {f42 : Addr} {od42 an42 : Option Addr} {sl42 : Array (Option Value)} {oc42 kV42 dc42 pm42 cd42 ct42 : Value}
    {f43 : Addr} {od43 an43 : Option Addr} {sl43 : Array (Option Value)} {oc43 kV43 dc43 pm43 cd43 ct43 : Value}
    {f44 : Addr} {od44 an44 : Option Addr} {sl44 : Array (Option Value)} {oc44 kV44 dc44 pm44 cd44 ct44 : Value}
    {f45 : Addr} {od45 an45 : Option Addr} {sl45 : Array (Option Value)} {oc45 kV45 dc45 pm45 cd45 ct45 : Value}
    {f46 : Addr} {od46 an46 : Option Addr} {sl46 : Array (Option Value)} {oc46 kV46 dc46 pm46 cd46 ct46 : Value}
    {f47 : Addr} {od47 an47 : Option Addr} {sl47 : Array (Option Value)} {oc47 kV47 dc47 pm47 cd47 ct47 : Value}
    {f48 : Addr} {od48 an48 : Option Addr} {sl48 : Array (Option Value)} {oc48 kV48 dc48 pm48 cd48 ct48 : Value}
    {f49 : Addr} {od49 an49 : Option Addr} {sl49 : Array (Option Value)} {oc49 kV49 dc49 pm49 cd49 ct49 : Value}
    {f50 : Addr} {od50 an50 : Option Addr} {sl50 : Array (Option Value)} {oc50 kV50 dc50 pm50 cd50 ct50 : Value}
    {f51 : Addr} {od51 an51 : Option Addr} {sl51 : Array (Option Value)} {oc51 kV51 dc51 pm51 cd51 ct51 : Value}
    {f52 : Addr} {od52 an52 : Option Addr} {sl52 : Array (Option Value)} {oc52 kV52 dc52 pm52 cd52 ct52 : Value}
    {f53 : Addr} {od53 an53 : Option Addr} {sl53 : Array (Option Value)} {oc53 kV53 dc53 pm53 cd53 ct53 : Value}
    {f54 : Addr} {od54 an54 : Option Addr} {sl54 : Array (Option Value)} {oc54 kV54 dc54 pm54 cd54 ct54 : Value}
    {f55 : Addr} {od55 an55 : Option Addr} {sl55 : Array (Option Value)} {oc55 kV55 dc55 pm55 cd55 ct55 : Value}
    {f56 : Addr} {od56 an56 : Option Addr} {sl56 : Array (Option Value)} {oc56 kV56 dc56 pm56 cd56 ct56 : Value}
    {C_InvalidTable : Addr}
    {C_MissingColumn : Addr}
    {C_InvalidProgram : Addr}
    {C_TableError : Addr}
    {C_FindError : Addr}
    {C_LimitError : Addr}
    {C_LastRecord : Addr}
    {C_TooManyEdits : Addr}
    {C_TooManyRecords : Addr}
    {C_NothingToUndo : Addr}
    {C_NoPlace : Addr}
    {C_InvalidCommand : Addr}
    {C_InvalidEdit : Addr}
    {C_InvalidValue : Addr}
    {C_InvalidRecord : Addr}
    {C_InvalidLimit : Addr}
    {C_InvalidText : Addr}
    {C_InvalidPlaces : Addr}
    {C_InvalidNumber : Addr}
    {C_InvalidOrder : Addr}
    {C_InvalidColumns : Addr}
    {FI_InvalidTable : Addr} {xod_InvalidTable xan_InvalidTable : Option Addr} {xsl_InvalidTable : Array (Option Value)} {xoc_InvalidTable xkV_InvalidTable xdc_InvalidTable xpm_InvalidTable xcd_InvalidTable xct_InvalidTable : Value}
    {FI_MissingColumn : Addr} {xod_MissingColumn xan_MissingColumn : Option Addr} {xsl_MissingColumn : Array (Option Value)} {xoc_MissingColumn xkV_MissingColumn xdc_MissingColumn xpm_MissingColumn xcd_MissingColumn xct_MissingColumn : Value}
    {FI_InvalidProgram : Addr} {xod_InvalidProgram xan_InvalidProgram : Option Addr} {xsl_InvalidProgram : Array (Option Value)} {xoc_InvalidProgram xkV_InvalidProgram xdc_InvalidProgram xpm_InvalidProgram xcd_InvalidProgram xct_InvalidProgram : Value}
    {c_sorted_places P_sorted_places : Addr} {moc_sorted_places : Value} {mod_sorted_places : Option Addr} {mvs_sorted_places : Array Value} {msl_sorted_places : Array (Option Value)}
    (a0 : PySem.W.nsIn K mainGlobals "is_integer" = some (some (.ref f0))) (l0 : K.lookup f0 = some ⟨oc0, od0, .func (PySem.W.fnOf "is_integer" "is_integer" (defArgs (topS 30)) (defBody (topS 30)) (defScope (topS 30)) .none kV0 dc0 pm0 an0 cd0 ct0), sl0⟩) (c0 : PySem.W.codeIn K cd0 "is_integer" = true) (k0 : PySem.W.keepIn K (.ref f0) = true)
    (a1 : PySem.W.nsIn K mainGlobals "is_record" = some (some (.ref f1))) (l1 : K.lookup f1 = some ⟨oc1, od1, .func (PySem.W.fnOf "is_record" "is_record" (defArgs (topS 31)) (defBody (topS 31)) (defScope (topS 31)) .none kV1 dc1 pm1 an1 cd1 ct1), sl1⟩) (c1 : PySem.W.codeIn K cd1 "is_record" = true) (k1 : PySem.W.keepIn K (.ref f1) = true)
    (a2 : PySem.W.nsIn K mainGlobals "check_table" = some (some (.ref f2))) (l2 : K.lookup f2 = some ⟨oc2, od2, .func (PySem.W.fnOf "check_table" "check_table" (defArgs (topS 32)) (defBody (topS 32)) (defScope (topS 32)) .none kV2 dc2 pm2 an2 cd2 ct2), sl2⟩) (c2 : PySem.W.codeIn K cd2 "check_table" = true) (k2 : PySem.W.keepIn K (.ref f2) = true)
    (a3 : PySem.W.nsIn K mainGlobals "count_columns" = some (some (.ref f3))) (l3 : K.lookup f3 = some ⟨oc3, od3, .func (PySem.W.fnOf "count_columns" "count_columns" (defArgs (topS 33)) (defBody (topS 33)) (defScope (topS 33)) .none kV3 dc3 pm3 an3 cd3 ct3), sl3⟩) (c3 : PySem.W.codeIn K cd3 "count_columns" = true) (k3 : PySem.W.keepIn K (.ref f3) = true)
    (a4 : PySem.W.nsIn K mainGlobals "every_place" = some (some (.ref f4))) (l4 : K.lookup f4 = some ⟨oc4, od4, .func (PySem.W.fnOf "every_place" "every_place" (defArgs (topS 34)) (defBody (topS 34)) (defScope (topS 34)) .none kV4 dc4 pm4 an4 cd4 ct4), sl4⟩) (c4 : PySem.W.codeIn K cd4 "every_place" = true) (k4 : PySem.W.keepIn K (.ref f4) = true)
    (a5 : PySem.W.nsIn K mainGlobals "records_at" = some (some (.ref f5))) (l5 : K.lookup f5 = some ⟨oc5, od5, .func (PySem.W.fnOf "records_at" "records_at" (defArgs (topS 35)) (defBody (topS 35)) (defScope (topS 35)) .none kV5 dc5 pm5 an5 cd5 ct5), sl5⟩) (c5 : PySem.W.codeIn K cd5 "records_at" = true) (k5 : PySem.W.keepIn K (.ref f5) = true)
    (a6 : PySem.W.nsIn K mainGlobals "check_columns_below" = some (some (.ref f6))) (l6 : K.lookup f6 = some ⟨oc6, od6, .func (PySem.W.fnOf "check_columns_below" "check_columns_below" (defArgs (topS 36)) (defBody (topS 36)) (defScope (topS 36)) .none kV6 dc6 pm6 an6 cd6 ct6), sl6⟩) (c6 : PySem.W.codeIn K cd6 "check_columns_below" = true) (k6 : PySem.W.keepIn K (.ref f6) = true)
    (a7 : PySem.W.nsIn K mainGlobals "is_word" = some (some (.ref f7))) (l7 : K.lookup f7 = some ⟨oc7, od7, .func (PySem.W.fnOf "is_word" "is_word" (defArgs (topS 39)) (defBody (topS 39)) (defScope (topS 39)) .none kV7 dc7 pm7 an7 cd7 ct7), sl7⟩) (c7 : PySem.W.codeIn K cd7 "is_word" = true) (k7 : PySem.W.keepIn K (.ref f7) = true)
    (a8 : PySem.W.nsIn K mainGlobals "is_pair" = some (some (.ref f8))) (l8 : K.lookup f8 = some ⟨oc8, od8, .func (PySem.W.fnOf "is_pair" "is_pair" (defArgs (topS 40)) (defBody (topS 40)) (defScope (topS 40)) .none kV8 dc8 pm8 an8 cd8 ct8), sl8⟩) (c8 : PySem.W.codeIn K cd8 "is_pair" = true) (k8 : PySem.W.keepIn K (.ref f8) = true)
    (a9 : PySem.W.nsIn K mainGlobals "is_sort_column" = some (some (.ref f9))) (l9 : K.lookup f9 = some ⟨oc9, od9, .func (PySem.W.fnOf "is_sort_column" "is_sort_column" (defArgs (topS 41)) (defBody (topS 41)) (defScope (topS 41)) .none kV9 dc9 pm9 an9 cd9 ct9), sl9⟩) (c9 : PySem.W.codeIn K cd9 "is_sort_column" = true) (k9 : PySem.W.keepIn K (.ref f9) = true)
    (a10 : PySem.W.nsIn K mainGlobals "is_key" = some (some (.ref f10))) (l10 : K.lookup f10 = some ⟨oc10, od10, .func (PySem.W.fnOf "is_key" "is_key" (defArgs (topS 42)) (defBody (topS 42)) (defScope (topS 42)) .none kV10 dc10 pm10 an10 cd10 ct10), sl10⟩) (c10 : PySem.W.codeIn K cd10 "is_key" = true) (k10 : PySem.W.keepIn K (.ref f10) = true)
    (a11 : PySem.W.nsIn K mainGlobals "is_place_part" = some (some (.ref f11))) (l11 : K.lookup f11 = some ⟨oc11, od11, .func (PySem.W.fnOf "is_place_part" "is_place_part" (defArgs (topS 43)) (defBody (topS 43)) (defScope (topS 43)) .none kV11 dc11 pm11 an11 cd11 ct11), sl11⟩) (c11 : PySem.W.codeIn K cd11 "is_place_part" = true) (k11 : PySem.W.keepIn K (.ref f11) = true)
    (a12 : PySem.W.nsIn K mainGlobals "check_order" = some (some (.ref f12))) (l12 : K.lookup f12 = some ⟨oc12, od12, .func (PySem.W.fnOf "check_order" "check_order" (defArgs (topS 44)) (defBody (topS 44)) (defScope (topS 44)) .none kV12 dc12 pm12 an12 cd12 ct12), sl12⟩) (c12 : PySem.W.codeIn K cd12 "check_order" = true) (k12 : PySem.W.keepIn K (.ref f12) = true)
    (a13 : PySem.W.nsIn K mainGlobals "opposite" = some (some (.ref f13))) (l13 : K.lookup f13 = some ⟨oc13, od13, .func (PySem.W.fnOf "opposite" "opposite" (defArgs (topS 45)) (defBody (topS 45)) (defScope (topS 45)) .none kV13 dc13 pm13 an13 cd13 ct13), sl13⟩) (c13 : PySem.W.codeIn K cd13 "opposite" = true) (k13 : PySem.W.keepIn K (.ref f13) = true)
    (a14 : PySem.W.nsIn K mainGlobals "turned" = some (some (.ref f14))) (l14 : K.lookup f14 = some ⟨oc14, od14, .func (PySem.W.fnOf "turned" "turned" (defArgs (topS 46)) (defBody (topS 46)) (defScope (topS 46)) .none kV14 dc14 pm14 an14 cd14 ct14), sl14⟩) (c14 : PySem.W.codeIn K cd14 "turned" = true) (k14 : PySem.W.keepIn K (.ref f14) = true)
    (a15 : PySem.W.nsIn K mainGlobals "sort_values" = some (some (.ref f15))) (l15 : K.lookup f15 = some ⟨oc15, od15, .func (PySem.W.fnOf "sort_values" "sort_values" (defArgs (topS 47)) (defBody (topS 47)) (defScope (topS 47)) .none kV15 dc15 pm15 an15 cd15 ct15), sl15⟩) (c15 : PySem.W.codeIn K cd15 "sort_values" = true) (k15 : PySem.W.keepIn K (.ref f15) = true)
    (a16 : PySem.W.nsIn K mainGlobals "sorted_places" = some (some (.ref f16))) (l16 : K.lookup f16 = some ⟨oc16, od16, .func (PySem.W.fnOf "sorted_places" "sorted_places" (defArgs (topS 48)) (defBody (topS 48)) (defScope (topS 48)) .none kV16 dc16 pm16 an16 cd16 ct16), sl16⟩) (c16 : PySem.W.codeIn K cd16 "sorted_places" = true) (k16 : PySem.W.keepIn K (.ref f16) = true)
    (a17 : PySem.W.nsIn K mainGlobals "is_size" = some (some (.ref f17))) (l17 : K.lookup f17 = some ⟨oc17, od17, .func (PySem.W.fnOf "is_size" "is_size" (defArgs (topS 53)) (defBody (topS 53)) (defScope (topS 53)) .none kV17 dc17 pm17 an17 cd17 ct17), sl17⟩) (c17 : PySem.W.codeIn K cd17 "is_size" = true) (k17 : PySem.W.keepIn K (.ref f17) = true)
    (a18 : PySem.W.nsIn K mainGlobals "is_times" = some (some (.ref f18))) (l18 : K.lookup f18 = some ⟨oc18, od18, .func (PySem.W.fnOf "is_times" "is_times" (defArgs (topS 54)) (defBody (topS 54)) (defScope (topS 54)) .none kV18 dc18 pm18 an18 cd18 ct18), sl18⟩) (c18 : PySem.W.codeIn K cd18 "is_times" = true) (k18 : PySem.W.keepIn K (.ref f18) = true)
    (a19 : PySem.W.nsIn K mainGlobals "is_plain_command" = some (some (.ref f19))) (l19 : K.lookup f19 = some ⟨oc19, od19, .func (PySem.W.fnOf "is_plain_command" "is_plain_command" (defArgs (topS 55)) (defBody (topS 55)) (defScope (topS 55)) .none kV19 dc19 pm19 an19 cd19 ct19), sl19⟩) (c19 : PySem.W.codeIn K cd19 "is_plain_command" = true) (k19 : PySem.W.keepIn K (.ref f19) = true)
    (a20 : PySem.W.nsIn K mainGlobals "begins_repeat" = some (some (.ref f20))) (l20 : K.lookup f20 = some ⟨oc20, od20, .func (PySem.W.fnOf "begins_repeat" "begins_repeat" (defArgs (topS 56)) (defBody (topS 56)) (defScope (topS 56)) .none kV20 dc20 pm20 an20 cd20 ct20), sl20⟩) (c20 : PySem.W.codeIn K cd20 "begins_repeat" = true) (k20 : PySem.W.keepIn K (.ref f20) = true)
    (a21 : PySem.W.nsIn K mainGlobals "room_behind" = some (some (.ref f21))) (l21 : K.lookup f21 = some ⟨oc21, od21, .func (PySem.W.fnOf "room_behind" "room_behind" (defArgs (topS 57)) (defBody (topS 57)) (defScope (topS 57)) .none kV21 dc21 pm21 an21 cd21 ct21), sl21⟩) (c21 : PySem.W.codeIn K cd21 "room_behind" = true) (k21 : PySem.W.keepIn K (.ref f21) = true)
    (a22 : PySem.W.nsIn K mainGlobals "room_behind_command" = some (some (.ref f22))) (l22 : K.lookup f22 = some ⟨oc22, od22, .func (PySem.W.fnOf "room_behind_command" "room_behind_command" (defArgs (topS 58)) (defBody (topS 58)) (defScope (topS 58)) .none kV22 dc22 pm22 an22 cd22 ct22), sl22⟩) (c22 : PySem.W.codeIn K cd22 "room_behind_command" = true) (k22 : PySem.W.keepIn K (.ref f22) = true)
    (a23 : PySem.W.nsIn K mainGlobals "check_program" = some (some (.ref f23))) (l23 : K.lookup f23 = some ⟨oc23, od23, .func (PySem.W.fnOf "check_program" "check_program" (defArgs (topS 59)) (defBody (topS 59)) (defScope (topS 59)) .none kV23 dc23 pm23 an23 cd23 ct23), sl23⟩) (c23 : PySem.W.codeIn K cd23 "check_program" = true) (k23 : PySem.W.keepIn K (.ref f23) = true)
    (a24 : PySem.W.nsIn K mainGlobals "count_performed" = some (some (.ref f24))) (l24 : K.lookup f24 = some ⟨oc24, od24, .func (PySem.W.fnOf "count_performed" "count_performed" (defArgs (topS 60)) (defBody (topS 60)) (defScope (topS 60)) .none kV24 dc24 pm24 an24 cd24 ct24), sl24⟩) (c24 : PySem.W.codeIn K cd24 "count_performed" = true) (k24 : PySem.W.keepIn K (.ref f24) = true)
    (a25 : PySem.W.nsIn K mainGlobals "count_commands" = some (some (.ref f25))) (l25 : K.lookup f25 = some ⟨oc25, od25, .func (PySem.W.fnOf "count_commands" "count_commands" (defArgs (topS 61)) (defBody (topS 61)) (defScope (topS 61)) .none kV25 dc25 pm25 an25 cd25 ct25), sl25⟩) (c25 : PySem.W.codeIn K cd25 "count_commands" = true) (k25 : PySem.W.keepIn K (.ref f25) = true)
    (a26 : PySem.W.nsIn K mainGlobals "program_columns" = some (some (.ref f26))) (l26 : K.lookup f26 = some ⟨oc26, od26, .func (PySem.W.fnOf "program_columns" "program_columns" (defArgs (topS 62)) (defBody (topS 62)) (defScope (topS 62)) .none kV26 dc26 pm26 an26 cd26 ct26), sl26⟩) (c26 : PySem.W.codeIn K cd26 "program_columns" = true) (k26 : PySem.W.keepIn K (.ref f26) = true)
    (a27 : PySem.W.nsIn K mainGlobals "sorted_first" = some (some (.ref f27))) (l27 : K.lookup f27 = some ⟨oc27, od27, .func (PySem.W.fnOf "sorted_first" "sorted_first" (defArgs (topS 65)) (defBody (topS 65)) (defScope (topS 65)) .none kV27 dc27 pm27 an27 cd27 ct27), sl27⟩) (c27 : PySem.W.codeIn K cd27 "sorted_first" = true) (k27 : PySem.W.keepIn K (.ref f27) = true)
    (a28 : PySem.W.nsIn K mainGlobals "after_plain" = some (some (.ref f28))) (l28 : K.lookup f28 = some ⟨oc28, od28, .func (PySem.W.fnOf "after_plain" "after_plain" (defArgs (topS 66)) (defBody (topS 66)) (defScope (topS 66)) .none kV28 dc28 pm28 an28 cd28 ct28), sl28⟩) (c28 : PySem.W.codeIn K cd28 "after_plain" = true) (k28 : PySem.W.keepIn K (.ref f28) = true)
    (a29 : PySem.W.nsIn K mainGlobals "picks_of_plain" = some (some (.ref f29))) (l29 : K.lookup f29 = some ⟨oc29, od29, .func (PySem.W.fnOf "picks_of_plain" "picks_of_plain" (defArgs (topS 67)) (defBody (topS 67)) (defScope (topS 67)) .none kV29 dc29 pm29 an29 cd29 ct29), sl29⟩) (c29 : PySem.W.codeIn K cd29 "picks_of_plain" = true) (k29 : PySem.W.keepIn K (.ref f29) = true)
    (a30 : PySem.W.nsIn K mainGlobals "after_repeat" = some (some (.ref f30))) (l30 : K.lookup f30 = some ⟨oc30, od30, .func (PySem.W.fnOf "after_repeat" "after_repeat" (defArgs (topS 68)) (defBody (topS 68)) (defScope (topS 68)) .none kV30 dc30 pm30 an30 cd30 ct30), sl30⟩) (c30 : PySem.W.codeIn K cd30 "after_repeat" = true) (k30 : PySem.W.keepIn K (.ref f30) = true)
    (a31 : PySem.W.nsIn K mainGlobals "after_command" = some (some (.ref f31))) (l31 : K.lookup f31 = some ⟨oc31, od31, .func (PySem.W.fnOf "after_command" "after_command" (defArgs (topS 69)) (defBody (topS 69)) (defScope (topS 69)) .none kV31 dc31 pm31 an31 cd31 ct31), sl31⟩) (c31 : PySem.W.codeIn K cd31 "after_command" = true) (k31 : PySem.W.keepIn K (.ref f31) = true)
    (a32 : PySem.W.nsIn K mainGlobals "after_program" = some (some (.ref f32))) (l32 : K.lookup f32 = some ⟨oc32, od32, .func (PySem.W.fnOf "after_program" "after_program" (defArgs (topS 70)) (defBody (topS 70)) (defScope (topS 70)) .none kV32 dc32 pm32 an32 cd32 ct32), sl32⟩) (c32 : PySem.W.codeIn K cd32 "after_program" = true) (k32 : PySem.W.keepIn K (.ref f32) = true)
    (a33 : PySem.W.nsIn K mainGlobals "check_run" = some (some (.ref f33))) (l33 : K.lookup f33 = some ⟨oc33, od33, .func (PySem.W.fnOf "check_run" "check_run" (defArgs (topS 72)) (defBody (topS 72)) (defScope (topS 72)) .none kV33 dc33 pm33 an33 cd33 ct33), sl33⟩) (c33 : PySem.W.codeIn K cd33 "check_run" = true) (k33 : PySem.W.keepIn K (.ref f33) = true)
    (a34 : PySem.W.nsIn K mainGlobals "picked" = some (some (.ref f34))) (l34 : K.lookup f34 = some ⟨oc34, od34, .func (PySem.W.fnOf "picked" "picked" (defArgs (topS 73)) (defBody (topS 73)) (defScope (topS 73)) .none kV34 dc34 pm34 an34 cd34 ct34), sl34⟩) (c34 : PySem.W.codeIn K cd34 "picked" = true) (k34 : PySem.W.keepIn K (.ref f34) = true)
    (a35 : PySem.W.nsIn K mainGlobals "run_places" = some (some (.ref f35))) (l35 : K.lookup f35 = some ⟨oc35, od35, .func (PySem.W.fnOf "run_places" "run_places" (defArgs (topS 74)) (defBody (topS 74)) (defScope (topS 74)) .none kV35 dc35 pm35 an35 cd35 ct35), sl35⟩) (c35 : PySem.W.codeIn K cd35 "run_places" = true) (k35 : PySem.W.keepIn K (.ref f35) = true)
    (a36 : PySem.W.nsIn K mainGlobals "run" = some (some (.ref f36))) (l36 : K.lookup f36 = some ⟨oc36, od36, .func (PySem.W.fnOf "run" "run" (defArgs (topS 75)) (defBody (topS 75)) (defScope (topS 75)) .none kV36 dc36 pm36 an36 cd36 ct36), sl36⟩) (c36 : PySem.W.codeIn K cd36 "run" = true) (k36 : PySem.W.keepIn K (.ref f36) = true)
    (a37 : PySem.W.nsIn K mainGlobals "each_table" = some (some (.ref f37))) (l37 : K.lookup f37 = some ⟨oc37, od37, .func (PySem.W.fnOf "each_table" "each_table" (defArgs (topS 76)) (defBody (topS 76)) (defScope (topS 76)) .none kV37 dc37 pm37 an37 cd37 ct37), sl37⟩) (c37 : PySem.W.codeIn K cd37 "each_table" = true) (k37 : PySem.W.keepIn K (.ref f37) = true)
    (a38 : PySem.W.nsIn K mainGlobals "written_command" = some (some (.ref f38))) (l38 : K.lookup f38 = some ⟨oc38, od38, .func (PySem.W.fnOf "written_command" "written_command" (defArgs (topS 78)) (defBody (topS 78)) (defScope (topS 78)) .none kV38 dc38 pm38 an38 cd38 ct38), sl38⟩) (c38 : PySem.W.codeIn K cd38 "written_command" = true) (k38 : PySem.W.keepIn K (.ref f38) = true)
    (a39 : PySem.W.nsIn K mainGlobals "format_program" = some (some (.ref f39))) (l39 : K.lookup f39 = some ⟨oc39, od39, .func (PySem.W.fnOf "format_program" "format_program" (defArgs (topS 79)) (defBody (topS 79)) (defScope (topS 79)) .none kV39 dc39 pm39 an39 cd39 ct39), sl39⟩) (c39 : PySem.W.codeIn K cd39 "format_program" = true) (k39 : PySem.W.keepIn K (.ref f39) = true)
    (a40 : PySem.W.nsIn K mainGlobals "_law_cell" = some (some (.ref f40))) (l40 : K.lookup f40 = some ⟨oc40, od40, .func (PySem.W.fnOf "_law_cell" "_law_cell" (defArgs (topS 81)) (defBody (topS 81)) (defScope (topS 81)) .none kV40 dc40 pm40 an40 cd40 ct40), sl40⟩) (c40 : PySem.W.codeIn K cd40 "_law_cell" = true) (k40 : PySem.W.keepIn K (.ref f40) = true)
    (a41 : PySem.W.nsIn K mainGlobals "_law_pool" = some (some (.ref f41))) (l41 : K.lookup f41 = some ⟨oc41, od41, .func (PySem.W.fnOf "_law_pool" "_law_pool" (defArgs (topS 82)) (defBody (topS 82)) (defScope (topS 82)) .none kV41 dc41 pm41 an41 cd41 ct41), sl41⟩) (c41 : PySem.W.codeIn K cd41 "_law_pool" = true) (k41 : PySem.W.keepIn K (.ref f41) = true)
    (a42 : PySem.W.nsIn K mainGlobals "_law_draw" = some (some (.ref f42))) (l42 : K.lookup f42 = some ⟨oc42, od42, .func (PySem.W.fnOf "_law_draw" "_law_draw" (defArgs (topS 83)) (defBody (topS 83)) (defScope (topS 83)) .none kV42 dc42 pm42 an42 cd42 ct42), sl42⟩) (c42 : PySem.W.codeIn K cd42 "_law_draw" = true) (k42 : PySem.W.keepIn K (.ref f42) = true)
    (a43 : PySem.W.nsIn K mainGlobals "_law_table" = some (some (.ref f43))) (l43 : K.lookup f43 = some ⟨oc43, od43, .func (PySem.W.fnOf "_law_table" "_law_table" (defArgs (topS 84)) (defBody (topS 84)) (defScope (topS 84)) .none kV43 dc43 pm43 an43 cd43 ct43), sl43⟩) (c43 : PySem.W.codeIn K cd43 "_law_table" = true) (k43 : PySem.W.keepIn K (.ref f43) = true)
    (a44 : PySem.W.nsIn K mainGlobals "_law_steps" = some (some (.ref f44))) (l44 : K.lookup f44 = some ⟨oc44, od44, .func (PySem.W.fnOf "_law_steps" "_law_steps" (defArgs (topS 85)) (defBody (topS 85)) (defScope (topS 85)) .none kV44 dc44 pm44 an44 cd44 ct44), sl44⟩) (c44 : PySem.W.codeIn K cd44 "_law_steps" = true) (k44 : PySem.W.keepIn K (.ref f44) = true)
    (a45 : PySem.W.nsIn K mainGlobals "_law_program" = some (some (.ref f45))) (l45 : K.lookup f45 = some ⟨oc45, od45, .func (PySem.W.fnOf "_law_program" "_law_program" (defArgs (topS 86)) (defBody (topS 86)) (defScope (topS 86)) .none kV45 dc45 pm45 an45 cd45 ct45), sl45⟩) (c45 : PySem.W.codeIn K cd45 "_law_program" = true) (k45 : PySem.W.keepIn K (.ref f45) = true)
    (a46 : PySem.W.nsIn K mainGlobals "_law_kind" = some (some (.ref f46))) (l46 : K.lookup f46 = some ⟨oc46, od46, .func (PySem.W.fnOf "_law_kind" "_law_kind" (defArgs (topS 87)) (defBody (topS 87)) (defScope (topS 87)) .none kV46 dc46 pm46 an46 cd46 ct46), sl46⟩) (c46 : PySem.W.codeIn K cd46 "_law_kind" = true) (k46 : PySem.W.keepIn K (.ref f46) = true)
    (a47 : PySem.W.nsIn K mainGlobals "_law_whole" = some (some (.ref f47))) (l47 : K.lookup f47 = some ⟨oc47, od47, .func (PySem.W.fnOf "_law_whole" "_law_whole" (defArgs (topS 88)) (defBody (topS 88)) (defScope (topS 88)) .none kV47 dc47 pm47 an47 cd47 ct47), sl47⟩) (c47 : PySem.W.codeIn K cd47 "_law_whole" = true) (k47 : PySem.W.keepIn K (.ref f47) = true)
    (a48 : PySem.W.nsIn K mainGlobals "_law_counted" = some (some (.ref f48))) (l48 : K.lookup f48 = some ⟨oc48, od48, .func (PySem.W.fnOf "_law_counted" "_law_counted" (defArgs (topS 89)) (defBody (topS 89)) (defScope (topS 89)) .none kV48 dc48 pm48 an48 cd48 ct48), sl48⟩) (c48 : PySem.W.codeIn K cd48 "_law_counted" = true) (k48 : PySem.W.keepIn K (.ref f48) = true)
    (a49 : PySem.W.nsIn K mainGlobals "_law_first_bad" = some (some (.ref f49))) (l49 : K.lookup f49 = some ⟨oc49, od49, .func (PySem.W.fnOf "_law_first_bad" "_law_first_bad" (defArgs (topS 90)) (defBody (topS 90)) (defScope (topS 90)) .none kV49 dc49 pm49 an49 cd49 ct49), sl49⟩) (c49 : PySem.W.codeIn K cd49 "_law_first_bad" = true) (k49 : PySem.W.keepIn K (.ref f49) = true)
    (a50 : PySem.W.nsIn K mainGlobals "_law_bent" = some (some (.ref f50))) (l50 : K.lookup f50 = some ⟨oc50, od50, .func (PySem.W.fnOf "_law_bent" "_law_bent" (defArgs (topS 91)) (defBody (topS 91)) (defScope (topS 91)) .none kV50 dc50 pm50 an50 cd50 ct50), sl50⟩) (c50 : PySem.W.codeIn K cd50 "_law_bent" = true) (k50 : PySem.W.keepIn K (.ref f50) = true)
    (a51 : PySem.W.nsIn K mainGlobals "_law_sides" = some (some (.ref f51))) (l51 : K.lookup f51 = some ⟨oc51, od51, .func (PySem.W.fnOf "_law_sides" "_law_sides" (defArgs (topS 92)) (defBody (topS 92)) (defScope (topS 92)) .none kV51 dc51 pm51 an51 cd51 ct51), sl51⟩) (c51 : PySem.W.codeIn K cd51 "_law_sides" = true) (k51 : PySem.W.keepIn K (.ref f51) = true)
    (a52 : PySem.W.nsIn K mainGlobals "_law_asked" = some (some (.ref f52))) (l52 : K.lookup f52 = some ⟨oc52, od52, .func (PySem.W.fnOf "_law_asked" "_law_asked" (defArgs (topS 93)) (defBody (topS 93)) (defScope (topS 93)) .none kV52 dc52 pm52 an52 cd52 ct52), sl52⟩) (c52 : PySem.W.codeIn K cd52 "_law_asked" = true) (k52 : PySem.W.keepIn K (.ref f52) = true)
    (a53 : PySem.W.nsIn K mainGlobals "_law_table_bad" = some (some (.ref f53))) (l53 : K.lookup f53 = some ⟨oc53, od53, .func (PySem.W.fnOf "_law_table_bad" "_law_table_bad" (defArgs (topS 94)) (defBody (topS 94)) (defScope (topS 94)) .none kV53 dc53 pm53 an53 cd53 ct53), sl53⟩) (c53 : PySem.W.codeIn K cd53 "_law_table_bad" = true) (k53 : PySem.W.keepIn K (.ref f53) = true)
    (a54 : PySem.W.nsIn K mainGlobals "_law_told_right" = some (some (.ref f54))) (l54 : K.lookup f54 = some ⟨oc54, od54, .func (PySem.W.fnOf "_law_told_right" "_law_told_right" (defArgs (topS 95)) (defBody (topS 95)) (defScope (topS 95)) .none kV54 dc54 pm54 an54 cd54 ct54), sl54⟩) (c54 : PySem.W.codeIn K cd54 "_law_told_right" = true) (k54 : PySem.W.keepIn K (.ref f54) = true)
    (a55 : PySem.W.nsIn K mainGlobals "_law_right" = some (some (.ref f55))) (l55 : K.lookup f55 = some ⟨oc55, od55, .func (PySem.W.fnOf "_law_right" "_law_right" (defArgs (topS 96)) (defBody (topS 96)) (defScope (topS 96)) .none kV55 dc55 pm55 an55 cd55 ct55), sl55⟩) (c55 : PySem.W.codeIn K cd55 "_law_right" = true) (k55 : PySem.W.keepIn K (.ref f55) = true)
    (a56 : PySem.W.nsIn K mainGlobals "law" = some (some (.ref f56))) (l56 : K.lookup f56 = some ⟨oc56, od56, .func (PySem.W.fnOf "law" "law" (defArgs (topS 97)) (defBody (topS 97)) (defScope (topS 97)) .none kV56 dc56 pm56 an56 cd56 ct56), sl56⟩) (c56 : PySem.W.codeIn K cd56 "law" = true) (k56 : PySem.W.keepIn K (.ref f56) = true)
    (n_ArithmeticError : PySem.W.nsIn K mainGlobals "ArithmeticError" = some none)
    (n_LookupError : PySem.W.nsIn K mainGlobals "LookupError" = some none)
    (n_ValueError : PySem.W.nsIn K mainGlobals "ValueError" = some none)
    (n_abs : PySem.W.nsIn K mainGlobals "abs" = some none)
    (n_all : PySem.W.nsIn K mainGlobals "all" = some none)
    (n_bool : PySem.W.nsIn K mainGlobals "bool" = some none)
    (n_divmod : PySem.W.nsIn K mainGlobals "divmod" = some none)
    (n_enumerate : PySem.W.nsIn K mainGlobals "enumerate" = some none)
    (n_int : PySem.W.nsIn K mainGlobals "int" = some none)
    (n_isinstance : PySem.W.nsIn K mainGlobals "isinstance" = some none)
    (n_len : PySem.W.nsIn K mainGlobals "len" = some none)
    (n_list : PySem.W.nsIn K mainGlobals "list" = some none)
    (n_max : PySem.W.nsIn K mainGlobals "max" = some none)
    (n_min : PySem.W.nsIn K mainGlobals "min" = some none)
    (n_range : PySem.W.nsIn K mainGlobals "range" = some none)
    (n_repr : PySem.W.nsIn K mainGlobals "repr" = some none)
    (n_set : PySem.W.nsIn K mainGlobals "set" = some none)
    (n_sorted : PySem.W.nsIn K mainGlobals "sorted" = some none)
    (n_str : PySem.W.nsIn K mainGlobals "str" = some none)
    (n_sum : PySem.W.nsIn K mainGlobals "sum" = some none)
    (n_tuple : PySem.W.nsIn K mainGlobals "tuple" = some none)
    (c_MOST_COLUMNS : ∀ [LabW], ∃ uv : Value × V, mg "MOST_COLUMNS" = some uv.1 ∧ RelV uv.2 uv.1 ∧ ∀ Z, DD K Z uv.2 cv_MOST_COLUMNS)
    (c_MOST_RECORDS : ∀ [LabW], ∃ uv : Value × V, mg "MOST_RECORDS" = some uv.1 ∧ RelV uv.2 uv.1 ∧ ∀ Z, DD K Z uv.2 cv_MOST_RECORDS)
    (c_MOST_KEYS : ∀ [LabW], ∃ uv : Value × V, mg "MOST_KEYS" = some uv.1 ∧ RelV uv.2 uv.1 ∧ ∀ Z, DD K Z uv.2 cv_MOST_KEYS)
    (c_DIRECTIONS : ∀ [LabW], ∃ uv : Value × V, mg "DIRECTIONS" = some uv.1 ∧ RelV uv.2 uv.1 ∧ ∀ Z, DD K Z uv.2 cv_DIRECTIONS)
    (c_LEAST_SIZE : ∀ [LabW], ∃ uv : Value × V, mg "LEAST_SIZE" = some uv.1 ∧ RelV uv.2 uv.1 ∧ ∀ Z, DD K Z uv.2 cv_LEAST_SIZE)
    (c_MOST_SIZE : ∀ [LabW], ∃ uv : Value × V, mg "MOST_SIZE" = some uv.1 ∧ RelV uv.2 uv.1 ∧ ∀ Z, DD K Z uv.2 cv_MOST_SIZE)
    (c_MOST_TIMES : ∀ [LabW], ∃ uv : Value × V, mg "MOST_TIMES" = some uv.1 ∧ RelV uv.2 uv.1 ∧ ∀ Z, DD K Z uv.2 cv_MOST_TIMES)
    (c_CUTS : ∀ [LabW], ∃ uv : Value × V, mg "CUTS" = some uv.1 ∧ RelV uv.2 uv.1 ∧ ∀ Z, DD K Z uv.2 cv_CUTS)
    (c_BARE_WORDS : ∀ [LabW], ∃ uv : Value × V, mg "BARE_WORDS" = some uv.1 ∧ RelV uv.2 uv.1 ∧ ∀ Z, DD K Z uv.2 cv_BARE_WORDS)
    (c_MOST_NESTED : ∀ [LabW], ∃ uv : Value × V, mg "MOST_NESTED" = some uv.1 ∧ RelV uv.2 uv.1 ∧ ∀ Z, DD K Z uv.2 cv_MOST_NESTED)
    (c_MOST_COMMANDS : ∀ [LabW], ∃ uv : Value × V, mg "MOST_COMMANDS" = some uv.1 ∧ RelV uv.2 uv.1 ∧ ∀ Z, DD K Z uv.2 cv_MOST_COMMANDS)
    (c_START : ∀ [LabW], ∃ uv : Value × V, mg "START" = some uv.1 ∧ RelV uv.2 uv.1 ∧ ∀ Z, DD K Z uv.2 cv_START)
    (xa_InvalidTable : PySem.W.nsIn K mainGlobals "InvalidTable" = some (some (.ref C_InvalidTable)))
    (xa_MissingColumn : PySem.W.nsIn K mainGlobals "MissingColumn" = some (some (.ref C_MissingColumn)))
    (xa_InvalidProgram : PySem.W.nsIn K mainGlobals "InvalidProgram" = some (some (.ref C_InvalidProgram)))
    (xa_TableError : PySem.W.nsIn K mainGlobals "TableError" = some (some (.ref C_TableError)))
    (xa_FindError : PySem.W.nsIn K mainGlobals "FindError" = some (some (.ref C_FindError)))
    (xa_LimitError : PySem.W.nsIn K mainGlobals "LimitError" = some (some (.ref C_LimitError)))
    (xa_LastRecord : PySem.W.nsIn K mainGlobals "LastRecord" = some (some (.ref C_LastRecord)))
    (xa_TooManyEdits : PySem.W.nsIn K mainGlobals "TooManyEdits" = some (some (.ref C_TooManyEdits)))
    (xa_TooManyRecords : PySem.W.nsIn K mainGlobals "TooManyRecords" = some (some (.ref C_TooManyRecords)))
    (xa_NothingToUndo : PySem.W.nsIn K mainGlobals "NothingToUndo" = some (some (.ref C_NothingToUndo)))
    (xa_NoPlace : PySem.W.nsIn K mainGlobals "NoPlace" = some (some (.ref C_NoPlace)))
    (xa_InvalidCommand : PySem.W.nsIn K mainGlobals "InvalidCommand" = some (some (.ref C_InvalidCommand)))
    (xa_InvalidEdit : PySem.W.nsIn K mainGlobals "InvalidEdit" = some (some (.ref C_InvalidEdit)))
    (xa_InvalidValue : PySem.W.nsIn K mainGlobals "InvalidValue" = some (some (.ref C_InvalidValue)))
    (xa_InvalidRecord : PySem.W.nsIn K mainGlobals "InvalidRecord" = some (some (.ref C_InvalidRecord)))
    (xa_InvalidLimit : PySem.W.nsIn K mainGlobals "InvalidLimit" = some (some (.ref C_InvalidLimit)))
    (xa_InvalidText : PySem.W.nsIn K mainGlobals "InvalidText" = some (some (.ref C_InvalidText)))
    (xa_InvalidPlaces : PySem.W.nsIn K mainGlobals "InvalidPlaces" = some (some (.ref C_InvalidPlaces)))
    (xa_InvalidNumber : PySem.W.nsIn K mainGlobals "InvalidNumber" = some (some (.ref C_InvalidNumber)))
    (xa_InvalidOrder : PySem.W.nsIn K mainGlobals "InvalidOrder" = some (some (.ref C_InvalidOrder)))
    (xa_InvalidColumns : PySem.W.nsIn K mainGlobals "InvalidColumns" = some (some (.ref C_InvalidColumns)))
    (xi_InvalidTable : PySem.W.findIn K (.ref C_InvalidTable) "__init__" = some (some (.ref FI_InvalidTable))) (xt_InvalidTable : PySem.W.typeIn K (.ref FI_InvalidTable) = some (.type "function")) (xn_InvalidTable : PySem.W.findIn K (.ref C_InvalidTable) "index" = some none) (xl_InvalidTable : K.lookup FI_InvalidTable = some ⟨xoc_InvalidTable, xod_InvalidTable, .func (PySem.W.fnOf "__init__" "InvalidTable.__init__" (defArgs (inS 2 0)) (defBody (inS 2 0)) (defScope (inS 2 0)) .none xkV_InvalidTable xdc_InvalidTable xpm_InvalidTable xan_InvalidTable xcd_InvalidTable xct_InvalidTable), xsl_InvalidTable⟩) (xc_InvalidTable : PySem.W.codeIn K xcd_InvalidTable "InvalidTable.__init__" = true) (xk_InvalidTable : PySem.W.keepIn K (.ref FI_InvalidTable) = true) (x_InvalidTable : OexC K C_InvalidTable)
    (xi_MissingColumn : PySem.W.findIn K (.ref C_MissingColumn) "__init__" = some (some (.ref FI_MissingColumn))) (xt_MissingColumn : PySem.W.typeIn K (.ref FI_MissingColumn) = some (.type "function")) (xn_MissingColumn : PySem.W.findIn K (.ref C_MissingColumn) "column" = some none) (xl_MissingColumn : K.lookup FI_MissingColumn = some ⟨xoc_MissingColumn, xod_MissingColumn, .func (PySem.W.fnOf "__init__" "MissingColumn.__init__" (defArgs (inS 15 0)) (defBody (inS 15 0)) (defScope (inS 15 0)) .none xkV_MissingColumn xdc_MissingColumn xpm_MissingColumn xan_MissingColumn xcd_MissingColumn xct_MissingColumn), xsl_MissingColumn⟩) (xc_MissingColumn : PySem.W.codeIn K xcd_MissingColumn "MissingColumn.__init__" = true) (xk_MissingColumn : PySem.W.keepIn K (.ref FI_MissingColumn) = true) (x_MissingColumn : OexL K C_MissingColumn)
    (xi_InvalidProgram : PySem.W.findIn K (.ref C_InvalidProgram) "__init__" = some (some (.ref FI_InvalidProgram))) (xt_InvalidProgram : PySem.W.typeIn K (.ref FI_InvalidProgram) = some (.type "function")) (xn_InvalidProgram : PySem.W.findIn K (.ref C_InvalidProgram) "index" = some none) (xl_InvalidProgram : K.lookup FI_InvalidProgram = some ⟨xoc_InvalidProgram, xod_InvalidProgram, .func (PySem.W.fnOf "__init__" "InvalidProgram.__init__" (defArgs (inS 5 0)) (defBody (inS 5 0)) (defScope (inS 5 0)) .none xkV_InvalidProgram xdc_InvalidProgram xpm_InvalidProgram xan_InvalidProgram xcd_InvalidProgram xct_InvalidProgram), xsl_InvalidProgram⟩) (xc_InvalidProgram : PySem.W.codeIn K xcd_InvalidProgram "InvalidProgram.__init__" = true) (xk_InvalidProgram : PySem.W.keepIn K (.ref FI_InvalidProgram) = true) (x_InvalidProgram : OexC K C_InvalidProgram)
    (xe_InvalidTable_TableError : PySem.W.exmOne K (.ref C_InvalidTable) (.ref C_TableError) = some true)
    (xe_MissingColumn_TableError : PySem.W.exmOne K (.ref C_MissingColumn) (.ref C_TableError) = some false)
    (xe_InvalidProgram_TableError : PySem.W.exmOne K (.ref C_InvalidProgram) (.ref C_TableError) = some true)
    (xe_InvalidTable_FindError : PySem.W.exmOne K (.ref C_InvalidTable) (.ref C_FindError) = some false)
    (xe_MissingColumn_FindError : PySem.W.exmOne K (.ref C_MissingColumn) (.ref C_FindError) = some true)
    (xe_InvalidProgram_FindError : PySem.W.exmOne K (.ref C_InvalidProgram) (.ref C_FindError) = some false)
    (xe_InvalidTable_LimitError : PySem.W.exmOne K (.ref C_InvalidTable) (.ref C_LimitError) = some false)
    (xe_MissingColumn_LimitError : PySem.W.exmOne K (.ref C_MissingColumn) (.ref C_LimitError) = some false)
    (xe_InvalidProgram_LimitError : PySem.W.exmOne K (.ref C_InvalidProgram) (.ref C_LimitError) = some false)
    (st_InvalidTable : PySem.W.subIn K (.ref C_InvalidTable) (.type "StopIteration") = some false)
    (st_MissingColumn : PySem.W.subIn K (.ref C_MissingColumn) (.type "StopIteration") = some false)
    (st_InvalidProgram : PySem.W.subIn K (.ref C_InvalidProgram) (.type "StopIteration") = some false)
    (kx_InvalidTable : kexB K C_InvalidTable = true)
    (kx_MissingColumn : kexB K C_MissingColumn = true)
    (kx_InvalidProgram : kexB K C_InvalidProgram = true)
    (kt_ArithmeticError : kitTab K [(C_InvalidTable, .type "ArithmeticError", false), (C_MissingColumn, .type "ArithmeticError", false), (C_InvalidProgram, .type "ArithmeticError", false)] = true)
    (kt_LookupError : kitTab K [(C_InvalidTable, .type "LookupError", false), (C_MissingColumn, .type "LookupError", true), (C_InvalidProgram, .type "LookupError", false)] = true)
    (kt_ValueError : kitTab K [(C_InvalidTable, .type "ValueError", true), (C_MissingColumn, .type "ValueError", false), (C_InvalidProgram, .type "ValueError", true)] = true)
    (kt_LimitError : kitTab K [(C_InvalidTable, .ref C_LimitError, false), (C_MissingColumn, .ref C_LimitError, false), (C_InvalidProgram, .ref C_LimitError, false)] = true)
    (kt_FindError : kitTab K [(C_InvalidTable, .ref C_FindError, false), (C_MissingColumn, .ref C_FindError, true), (C_InvalidProgram, .ref C_FindError, false)] = true)
    (kt_TableError : kitTab K [(C_InvalidTable, .ref C_TableError, true), (C_MissingColumn, .ref C_TableError, false), (C_InvalidProgram, .ref C_TableError, true)] = true)
    (kt_LastRecord : kitTab K [(C_InvalidTable, .ref C_LastRecord, false), (C_MissingColumn, .ref C_LastRecord, false), (C_InvalidProgram, .ref C_LastRecord, false)] = true)
    (kt_TooManyEdits : kitTab K [(C_InvalidTable, .ref C_TooManyEdits, false), (C_MissingColumn, .ref C_TooManyEdits, false), (C_InvalidProgram, .ref C_TooManyEdits, false)] = true)
    (kt_TooManyRecords : kitTab K [(C_InvalidTable, .ref C_TooManyRecords, false), (C_MissingColumn, .ref C_TooManyRecords, false), (C_InvalidProgram, .ref C_TooManyRecords, false)] = true)
    (kt_NothingToUndo : kitTab K [(C_InvalidTable, .ref C_NothingToUndo, false), (C_MissingColumn, .ref C_NothingToUndo, false), (C_InvalidProgram, .ref C_NothingToUndo, false)] = true)
    (kt_NoPlace : kitTab K [(C_InvalidTable, .ref C_NoPlace, false), (C_MissingColumn, .ref C_NoPlace, false), (C_InvalidProgram, .ref C_NoPlace, false)] = true)
    (kt_MissingColumn : kitTab K [(C_InvalidTable, .ref C_MissingColumn, false), (C_MissingColumn, .ref C_MissingColumn, true), (C_InvalidProgram, .ref C_MissingColumn, false)] = true)
    (kt_InvalidCommand : kitTab K [(C_InvalidTable, .ref C_InvalidCommand, false), (C_MissingColumn, .ref C_InvalidCommand, false), (C_InvalidProgram, .ref C_InvalidCommand, false)] = true)
    (kt_InvalidEdit : kitTab K [(C_InvalidTable, .ref C_InvalidEdit, false), (C_MissingColumn, .ref C_InvalidEdit, false), (C_InvalidProgram, .ref C_InvalidEdit, false)] = true)
    (kt_InvalidValue : kitTab K [(C_InvalidTable, .ref C_InvalidValue, false), (C_MissingColumn, .ref C_InvalidValue, false), (C_InvalidProgram, .ref C_InvalidValue, false)] = true)
    (kt_InvalidRecord : kitTab K [(C_InvalidTable, .ref C_InvalidRecord, false), (C_MissingColumn, .ref C_InvalidRecord, false), (C_InvalidProgram, .ref C_InvalidRecord, false)] = true)
    (kt_InvalidLimit : kitTab K [(C_InvalidTable, .ref C_InvalidLimit, false), (C_MissingColumn, .ref C_InvalidLimit, false), (C_InvalidProgram, .ref C_InvalidLimit, false)] = true)
    (kt_InvalidText : kitTab K [(C_InvalidTable, .ref C_InvalidText, false), (C_MissingColumn, .ref C_InvalidText, false), (C_InvalidProgram, .ref C_InvalidText, false)] = true)
    (kt_InvalidPlaces : kitTab K [(C_InvalidTable, .ref C_InvalidPlaces, false), (C_MissingColumn, .ref C_InvalidPlaces, false), (C_InvalidProgram, .ref C_InvalidPlaces, false)] = true)
    (kt_InvalidNumber : kitTab K [(C_InvalidTable, .ref C_InvalidNumber, false), (C_MissingColumn, .ref C_InvalidNumber, false), (C_InvalidProgram, .ref C_InvalidNumber, false)] = true)
    (kt_InvalidProgram : kitTab K [(C_InvalidTable, .ref C_InvalidProgram, false), (C_MissingColumn, .ref C_InvalidProgram, false), (C_InvalidProgram, .ref C_InvalidProgram, true)] = true)
    (kt_InvalidOrder : kitTab K [(C_InvalidTable, .ref C_InvalidOrder, false), (C_MissingColumn, .ref C_InvalidOrder, false), (C_InvalidProgram, .ref C_InvalidOrder, false)] = true)
    (kt_InvalidColumns : kitTab K [(C_InvalidTable, .ref C_InvalidColumns, false), (C_MissingColumn, .ref C_InvalidColumns, false), (C_InvalidProgram, .ref C_InvalidColumns, false)] = true)
    (kt_InvalidTable : kitTab K [(C_InvalidTable, .ref C_InvalidTable, true), (C_MissingColumn, .ref C_InvalidTable, false), (C_InvalidProgram, .ref C_InvalidTable, false)] = true)
    (cq_sorted_places : cd16 = .ref c_sorted_places) (lk_sorted_places : K.lookup c_sorted_places = some ⟨moc_sorted_places, mod_sorted_places, .fields mvs_sorted_places, msl_sorted_places⟩) (pv_sorted_places : mvs_sorted_places[11]? = some (.ref P_sorted_places)) (hd_sorted_places : PySem.W.codeHdIn K c_sorted_places P_sorted_places = true) (kn_sorted_places : K.lookup P_sorted_places = none) (gt_sorted_places : h.get? P_sorted_places = some { cls := .none, data := .fields #[] }) :
    LawG l w K 27 "_law_script" m_law mg fa h := by
  have e := hfa.symm.trans (PySem.W.mg_of X G a56)
  cases e
  refine ⟨(PySem.W.fnOf "law" "law" (defArgs (topS 97)) (defBody (topS 97)) (defScope (topS 97)) .none kV56 dc56 pm56 an56 cd56 ct56), [(c_sorted_places, P_sorted_places)], { w := some w, T := [(P_sorted_places, ("sorted_places" ++ ".<locals>." : Str) ++ "<lambda>")], gd := True, C := clsOf [("InvalidTable", C_InvalidTable), ("MissingColumn", C_MissingColumn), ("InvalidProgram", C_InvalidProgram), ("TableError", C_TableError), ("FindError", C_FindError), ("LimitError", C_LimitError), ("LastRecord", C_LastRecord), ("TooManyEdits", C_TooManyEdits), ("TooManyRecords", C_TooManyRecords), ("NothingToUndo", C_NothingToUndo), ("NoPlace", C_NoPlace), ("InvalidCommand", C_InvalidCommand), ("InvalidEdit", C_InvalidEdit), ("InvalidValue", C_InvalidValue), ("InvalidRecord", C_InvalidRecord), ("InvalidLimit", C_InvalidLimit), ("InvalidText", C_InvalidText), ("InvalidPlaces", C_InvalidPlaces), ("InvalidNumber", C_InvalidNumber), ("InvalidOrder", C_InvalidOrder), ("InvalidColumns", C_InvalidColumns)] 0 }, fun c q hc => ?_, fun q hq => ?_, fun s v => .of_eq rfl, fun base hK hG hT => ?_⟩
  · simp only [List.mem_cons, List.not_mem_nil, or_false, Prod.mk.injEq] at hc
    obtain ⟨rfl, rfl⟩ := hc
    exact ⟨gt_sorted_places, kn_sorted_places, PySem.W.codeHd_of_K X hd_sorted_places⟩
  · simp only [List.mem_cons, List.not_mem_nil, or_false] at hq
    subst hq
    exact ⟨c_sorted_places, by simp⟩
  · letI : Lab := { w := some w, T := [(P_sorted_places, ("sorted_places" ++ ".<locals>." : Str) ++ "<lambda>")], gd := True, C := clsOf [("InvalidTable", C_InvalidTable), ("MissingColumn", C_MissingColumn), ("InvalidProgram", C_InvalidProgram), ("TableError", C_TableError), ("FindError", C_FindError), ("LimitError", C_LimitError), ("LastRecord", C_LastRecord), ("TooManyEdits", C_TooManyEdits), ("TooManyRecords", C_TooManyRecords), ("NothingToUndo", C_NothingToUndo), ("NoPlace", C_NoPlace), ("InvalidCommand", C_InvalidCommand), ("InvalidEdit", C_InvalidEdit), ("InvalidValue", C_InvalidValue), ("InvalidRecord", C_InvalidRecord), ("InvalidLimit", C_InvalidLimit), ("InvalidText", C_InvalidText), ("InvalidPlaces", C_InvalidPlaces), ("InvalidNumber", C_InvalidNumber), ("InvalidOrder", C_InvalidOrder), ("InvalidColumns", C_InvalidColumns)] 0 }
    haveI : LabR := ⟨trivial⟩
    exact ok_law (mkTx rfl X G a0 l0 c0 k0 a1 l1 c1 k1 a2 l2 c2 k2 a3 l3 c3 k3 a4 l4 c4 k4 a5 l5 c5 k5 a6 l6 c6 k6 a7 l7 c7 k7 a8 l8 c8 k8 a9 l9 c9 k9 a10 l10 c10 k10 a11 l11 c11 k11 a12 l12 c12 k12 a13 l13 c13 k13 a14 l14 c14 k14 a15 l15 c15 k15 a16 l16 c16 k16 a17 l17 c17 k17 a18 l18 c18 k18 a19 l19 c19 k19 a20 l20 c20 k20 a21 l21 c21 k21 a22 l22 c22 k22 a23 l23 c23 k23 a24 l24 c24 k24 a25 l25 c25 k25 a26 l26 c26 k26 a27 l27 c27 k27 a28 l28 c28 k28 a29 l29 c29 k29 a30 l30 c30 k30 a31 l31 c31 k31 a32 l32 c32 k32 a33 l33 c33 k33 a34 l34 c34 k34 a35 l35 c35 k35 a36 l36 c36 k36 a37 l37 c37 k37 a38 l38 c38 k38 a39 l39 c39 k39 a40 l40 c40 k40 a41 l41 c41 k41 a42 l42 c42 k42 a43 l43 c43 k43 a44 l44 c44 k44 a45 l45 c45 k45 a46 l46 c46 k46 a47 l47 c47 k47 a48 l48 c48 k48 a49 l49 c49 k49 a50 l50 c50 k50 a51 l51 c51 k51 a52 l52 c52 k52 a53 l53 c53 k53 a54 l54 c54 k54 a55 l55 c55 k55 a56 l56 c56 k56 n_ArithmeticError n_LookupError n_ValueError n_abs n_all n_bool n_divmod n_enumerate n_int n_isinstance n_len n_list n_max n_min n_range n_repr n_set n_sorted n_str n_sum n_tuple c_MOST_COLUMNS c_MOST_RECORDS c_MOST_KEYS c_DIRECTIONS c_LEAST_SIZE c_MOST_SIZE c_MOST_TIMES c_CUTS c_BARE_WORDS c_MOST_NESTED c_MOST_COMMANDS c_START xa_InvalidTable xa_MissingColumn xa_InvalidProgram xa_TableError xa_FindError xa_LimitError xa_LastRecord xa_TooManyEdits xa_TooManyRecords xa_NothingToUndo xa_NoPlace xa_InvalidCommand xa_InvalidEdit xa_InvalidValue xa_InvalidRecord xa_InvalidLimit xa_InvalidText xa_InvalidPlaces xa_InvalidNumber xa_InvalidOrder xa_InvalidColumns xi_InvalidTable xt_InvalidTable xn_InvalidTable xl_InvalidTable xc_InvalidTable xk_InvalidTable x_InvalidTable xi_MissingColumn xt_MissingColumn xn_MissingColumn xl_MissingColumn xc_MissingColumn xk_MissingColumn x_MissingColumn xi_InvalidProgram xt_InvalidProgram xn_InvalidProgram xl_InvalidProgram xc_InvalidProgram xk_InvalidProgram x_InvalidProgram xe_InvalidTable_TableError xe_MissingColumn_TableError xe_InvalidProgram_TableError xe_InvalidTable_FindError xe_MissingColumn_FindError xe_InvalidProgram_FindError xe_InvalidTable_LimitError xe_MissingColumn_LimitError xe_InvalidProgram_LimitError st_InvalidTable st_MissingColumn st_InvalidProgram kx_InvalidTable kx_MissingColumn kx_InvalidProgram kt_ArithmeticError kt_LookupError kt_ValueError kt_LimitError kt_FindError kt_TableError kt_LastRecord kt_TooManyEdits kt_TooManyRecords kt_NothingToUndo kt_NoPlace kt_MissingColumn kt_InvalidCommand kt_InvalidEdit kt_InvalidValue kt_InvalidRecord kt_InvalidLimit kt_InvalidText kt_InvalidPlaces kt_InvalidNumber kt_InvalidProgram kt_InvalidOrder kt_InvalidColumns kt_InvalidTable cq_sorted_places (hT c_sorted_places P_sorted_places (by simp)) (show (P_sorted_places, ("sorted_places" ++ ".<locals>." : Str) ++ "<lambda>") ∈ ([(P_sorted_places, ("sorted_places" ++ ".<locals>." : Str) ++ "<lambda>")] : List (Addr × Str)) by simp) (fun p hp e => by
      change p ∈ ([(P_sorted_places, ("sorted_places" ++ ".<locals>." : Str) ++ "<lambda>")] : List (Addr × Str)) at hp
      simp only [List.mem_cons, List.not_mem_nil, or_false] at hp
      rw [hp]) rfl)
end DL
end L2
open PySem PySem.W PyProof.Rows
set_option maxHeartbeats 0 in
theorem PySem.Challenge.cw_sortcuts_k18_programs_and_tables_refused_holds : PySem.Challenge.rw_sortcuts_k18_programs_and_tables_refused.Holds := by
  w_on; o_law; k_head; (case hw => w_witness2)
  k_fill
  refine L2.DL.walk_g (l := PySem.Challenge.rw_sortcuts_k18_programs_and_tables_refused) (n := 63) (k := 27) (x := "_law_script") (m := L2.DL.m_law) rfl (by decide) rfl ⟨rfl, by decide, by decide⟩ (fun w h Y => PySem.W.km_in_of Y) ?F (fun ns _ => L2.DL.law_spec ns)
  case F =>
    intro w mg fa h Y KX G hmg
    refine' L2.DL.all_mk KX G hmg ?a0 ?l0 ?c0 ?k0 ?a1 ?l1 ?c1 ?k1 ?a2 ?l2 ?c2 ?k2 ?a3 ?l3 ?c3 ?k3 ?a4 ?l4 ?c4 ?k4 ?a5 ?l5 ?c5 ?k5 ?a6 ?l6 ?c6 ?k6 ?a7 ?l7 ?c7 ?k7 ?a8 ?l8 ?c8 ?k8 ?a9 ?l9 ?c9 ?k9 ?a10 ?l10 ?c10 ?k10 ?a11 ?l11 ?c11 ?k11 ?a12 ?l12 ?c12 ?k12 ?a13 ?l13 ?c13 ?k13 ?a14 ?l14 ?c14 ?k14 ?a15 ?l15 ?c15 ?k15 ?a16 ?l16 ?c16 ?k16 ?a17 ?l17 ?c17 ?k17 ?a18 ?l18 ?c18 ?k18 ?a19 ?l19 ?c19 ?k19 ?a20 ?l20 ?c20 ?k20 ?a21 ?l21 ?c21 ?k21 ?a22 ?l22 ?c22 ?k22 ?a23 ?l23 ?c23 ?k23 ?a24 ?l24 ?c24 ?k24 ?a25 ?l25 ?c25 ?k25 ?a26 ?l26 ?c26 ?k26 ?a27 ?l27 ?c27 ?k27 ?a28 ?l28 ?c28 ?k28 ?a29 ?l29 ?c29 ?k29 ?a30 ?l30 ?c30 ?k30 ?a31 ?l31 ?c31 ?k31 ?a32 ?l32 ?c32 ?k32 ?a33 ?l33 ?c33 ?k33 ?a34 ?l34 ?c34 ?k34 ?a35 ?l35 ?c35 ?k35 ?a36 ?l36 ?c36 ?k36 ?a37 ?l37 ?c37 ?k37 ?a38 ?l38 ?c38 ?k38 ?a39 ?l39 ?c39 ?k39 ?a40 ?l40 ?c40 ?k40 ?a41 ?l41 ?c41 ?k41 ?a42 ?l42 ?c42 ?k42 ?a43 ?l43 ?c43 ?k43 ?a44 ?l44 ?c44 ?k44 ?a45 ?l45 ?c45 ?k45 ?a46 ?l46 ?c46 ?k46 ?a47 ?l47 ?c47 ?k47 ?a48 ?l48 ?c48 ?k48 ?a49 ?l49 ?c49 ?k49 ?a50 ?l50 ?c50 ?k50 ?a51 ?l51 ?c51 ?k51 ?a52 ?l52 ?c52 ?k52 ?a53 ?l53 ?c53 ?k53 ?a54 ?l54 ?c54 ?k54 ?a55 ?l55 ?c55 ?k55 ?a56 ?l56 ?c56 ?k56 ?n_ArithmeticError ?n_LookupError ?n_ValueError ?n_abs ?n_all ?n_bool ?n_divmod ?n_enumerate ?n_int ?n_isinstance ?n_len ?n_list ?n_max ?n_min ?n_range ?n_repr ?n_set ?n_sorted ?n_str ?n_sum ?n_tuple ?c_MOST_COLUMNS ?c_MOST_RECORDS ?c_MOST_KEYS ?c_DIRECTIONS ?c_LEAST_SIZE ?c_MOST_SIZE ?c_MOST_TIMES ?c_CUTS ?c_BARE_WORDS ?c_MOST_NESTED ?c_MOST_COMMANDS ?c_START ?xa_InvalidTable ?xa_MissingColumn ?xa_InvalidProgram ?xa_TableError ?xa_FindError ?xa_LimitError ?xa_LastRecord ?xa_TooManyEdits ?xa_TooManyRecords ?xa_NothingToUndo ?xa_NoPlace ?xa_InvalidCommand ?xa_InvalidEdit ?xa_InvalidValue ?xa_InvalidRecord ?xa_InvalidLimit ?xa_InvalidText ?xa_InvalidPlaces ?xa_InvalidNumber ?xa_InvalidOrder ?xa_InvalidColumns ?xi_InvalidTable ?xt_InvalidTable ?xn_InvalidTable ?xl_InvalidTable ?xc_InvalidTable ?xk_InvalidTable ?x_InvalidTable ?xi_MissingColumn ?xt_MissingColumn ?xn_MissingColumn ?xl_MissingColumn ?xc_MissingColumn ?xk_MissingColumn ?x_MissingColumn ?xi_InvalidProgram ?xt_InvalidProgram ?xn_InvalidProgram ?xl_InvalidProgram ?xc_InvalidProgram ?xk_InvalidProgram ?x_InvalidProgram ?xe_InvalidTable_TableError ?xe_MissingColumn_TableError ?xe_InvalidProgram_TableError ?xe_InvalidTable_FindError ?xe_MissingColumn_FindError ?xe_InvalidProgram_FindError ?xe_InvalidTable_LimitError ?xe_MissingColumn_LimitError ?xe_InvalidProgram_LimitError ?st_InvalidTable ?st_MissingColumn ?st_InvalidProgram ?kx_InvalidTable ?kx_MissingColumn ?kx_InvalidProgram ?kt_ArithmeticError ?kt_LookupError ?kt_ValueError ?kt_LimitError ?kt_FindError ?kt_TableError ?kt_LastRecord ?kt_TooManyEdits ?kt_TooManyRecords ?kt_NothingToUndo ?kt_NoPlace ?kt_MissingColumn ?kt_InvalidCommand ?kt_InvalidEdit ?kt_InvalidValue ?kt_InvalidRecord ?kt_InvalidLimit ?kt_InvalidText ?kt_InvalidPlaces ?kt_InvalidNumber ?kt_InvalidProgram ?kt_InvalidOrder ?kt_InvalidColumns ?kt_InvalidTable ?cq_sorted_places ?lk_sorted_places ?pv_sorted_places ?hd_sorted_places ?kn_sorted_places ?gt_sorted_places
    (case a0 => k_is)
    (case l0 => k_is)
    (case c0 => k_is)
    (case k0 => k_is)
    (case a1 => k_is)
    (case l1 => k_is)
    (case c1 => k_is)
    (case k1 => k_is)
    (case a2 => k_is)
    (case l2 => k_is)
    (case c2 => k_is)
    (case k2 => k_is)
    (case a3 => k_is)
    (case l3 => k_is)
    (case c3 => k_is)
    (case k3 => k_is)
    (case a4 => k_is)
    (case l4 => k_is)
    (case c4 => k_is)
    (case k4 => k_is)
    (case a5 => k_is)
    (case l5 => k_is)
    (case c5 => k_is)
    (case k5 => k_is)
    (case a6 => k_is)
    (case l6 => k_is)
    (case c6 => k_is)
    (case k6 => k_is)
    (case a7 => k_is)
    (case l7 => k_is)
    (case c7 => k_is)
    (case k7 => k_is)
    (case a8 => k_is)
    (case l8 => k_is)
    (case c8 => k_is)
    (case k8 => k_is)
    (case a9 => k_is)
    (case l9 => k_is)
    (case c9 => k_is)
    (case k9 => k_is)
    (case a10 => k_is)
    (case l10 => k_is)
    (case c10 => k_is)
    (case k10 => k_is)
    (case a11 => k_is)
    (case l11 => k_is)
    (case c11 => k_is)
    (case k11 => k_is)
    (case a12 => k_is)
    (case l12 => k_is)
    (case c12 => k_is)
    (case k12 => k_is)
    (case a13 => k_is)
    (case l13 => k_is)
    (case c13 => k_is)
    (case k13 => k_is)
    (case a14 => k_is)
    (case l14 => k_is)
    (case c14 => k_is)
    (case k14 => k_is)
    (case a15 => k_is)
    (case l15 => k_is)
    (case c15 => k_is)
    (case k15 => k_is)
    (case a16 => k_is)
    (case l16 => k_is)
    (case c16 => k_is)
    (case k16 => k_is)
    (case a17 => k_is)
    (case l17 => k_is)
    (case c17 => k_is)
    (case k17 => k_is)
    (case a18 => k_is)
    (case l18 => k_is)
    (case c18 => k_is)
    (case k18 => k_is)
    (case a19 => k_is)
    (case l19 => k_is)
    (case c19 => k_is)
    (case k19 => k_is)
    (case a20 => k_is)
    (case l20 => k_is)
    (case c20 => k_is)
    (case k20 => k_is)
    (case a21 => k_is)
    (case l21 => k_is)
    (case c21 => k_is)
    (case k21 => k_is)
    (case a22 => k_is)
    (case l22 => k_is)
    (case c22 => k_is)
    (case k22 => k_is)
    (case a23 => k_is)
    (case l23 => k_is)
    (case c23 => k_is)
    (case k23 => k_is)
    (case a24 => k_is)
    (case l24 => k_is)
    (case c24 => k_is)
    (case k24 => k_is)
    (case a25 => k_is)
    (case l25 => k_is)
    (case c25 => k_is)
    (case k25 => k_is)
    (case a26 => k_is)
    (case l26 => k_is)
    (case c26 => k_is)
    (case k26 => k_is)
    (case a27 => k_is)
    (case l27 => k_is)
    (case c27 => k_is)
    (case k27 => k_is)
    (case a28 => k_is)
    (case l28 => k_is)
    (case c28 => k_is)
    (case k28 => k_is)
    (case a29 => k_is)
    (case l29 => k_is)
    (case c29 => k_is)
    (case k29 => k_is)
    (case a30 => k_is)
    (case l30 => k_is)
    (case c30 => k_is)
    (case k30 => k_is)
    (case a31 => k_is)
    (case l31 => k_is)
    (case c31 => k_is)
    (case k31 => k_is)
    (case a32 => k_is)
    (case l32 => k_is)
    (case c32 => k_is)
    (case k32 => k_is)
    (case a33 => k_is)
    (case l33 => k_is)
    (case c33 => k_is)
    (case k33 => k_is)
    (case a34 => k_is)
    (case l34 => k_is)
    (case c34 => k_is)
    (case k34 => k_is)
    (case a35 => k_is)
    (case l35 => k_is)
    (case c35 => k_is)
    (case k35 => k_is)
    (case a36 => k_is)
    (case l36 => k_is)
    (case c36 => k_is)
    (case k36 => k_is)
    (case a37 => k_is)
    (case l37 => k_is)
    (case c37 => k_is)
    (case k37 => k_is)
    (case a38 => k_is)
    (case l38 => k_is)
    (case c38 => k_is)
    (case k38 => k_is)
    (case a39 => k_is)
    (case l39 => k_is)
    (case c39 => k_is)
    (case k39 => k_is)
    (case a40 => k_is)
    (case l40 => k_is)
    (case c40 => k_is)
    (case k40 => k_is)
    (case a41 => k_is)
    (case l41 => k_is)
    (case c41 => k_is)
    (case k41 => k_is)
    (case a42 => k_is)
    (case l42 => k_is)
    (case c42 => k_is)
    (case k42 => k_is)
    (case a43 => k_is)
    (case l43 => k_is)
    (case c43 => k_is)
    (case k43 => k_is)
    (case a44 => k_is)
    (case l44 => k_is)
    (case c44 => k_is)
    (case k44 => k_is)
    (case a45 => k_is)
    (case l45 => k_is)
    (case c45 => k_is)
    (case k45 => k_is)
    (case a46 => k_is)
    (case l46 => k_is)
    (case c46 => k_is)
    (case k46 => k_is)
    (case a47 => k_is)
    (case l47 => k_is)
    (case c47 => k_is)
    (case k47 => k_is)
    (case a48 => k_is)
    (case l48 => k_is)
    (case c48 => k_is)
    (case k48 => k_is)
    (case a49 => k_is)
    (case l49 => k_is)
    (case c49 => k_is)
    (case k49 => k_is)
    (case a50 => k_is)
    (case l50 => k_is)
    (case c50 => k_is)
    (case k50 => k_is)
    (case a51 => k_is)
    (case l51 => k_is)
    (case c51 => k_is)
    (case k51 => k_is)
    (case a52 => k_is)
    (case l52 => k_is)
    (case c52 => k_is)
    (case k52 => k_is)
    (case a53 => k_is)
    (case l53 => k_is)
    (case c53 => k_is)
    (case k53 => k_is)
    (case a54 => k_is)
    (case l54 => k_is)
    (case c54 => k_is)
    (case k54 => k_is)
    (case a55 => k_is)
    (case l55 => k_is)
    (case c55 => k_is)
    (case k55 => k_is)
    (case a56 => k_is)
    (case l56 => k_is)
    (case c56 => k_is)
    (case k56 => k_is)
    (case n_ArithmeticError => k_is)
    (case n_LookupError => k_is)
    (case n_ValueError => k_is)
    (case n_abs => k_is)
    (case n_all => k_is)
    (case n_bool => k_is)
    (case n_divmod => k_is)
    (case n_enumerate => k_is)
    (case n_int => k_is)
    (case n_isinstance => k_is)
    (case n_len => k_is)
    (case n_list => k_is)
    (case n_max => k_is)
    (case n_min => k_is)
    (case n_range => k_is)
    (case n_repr => k_is)
    (case n_set => k_is)
    (case n_sorted => k_is)
    (case n_str => k_is)
    (case n_sum => k_is)
    (case n_tuple => k_is)
    (case xa_InvalidTable => k_is)
    (case xa_MissingColumn => k_is)
    (case xa_InvalidProgram => k_is)
    (case xa_TableError => k_is)
    (case xa_FindError => k_is)
    (case xa_LimitError => k_is)
    (case xa_LastRecord => k_is)
    (case xa_TooManyEdits => k_is)
    (case xa_TooManyRecords => k_is)
    (case xa_NothingToUndo => k_is)
    (case xa_NoPlace => k_is)
    (case xa_InvalidCommand => k_is)
    (case xa_InvalidEdit => k_is)
    (case xa_InvalidValue => k_is)
    (case xa_InvalidRecord => k_is)
    (case xa_InvalidLimit => k_is)
    (case xa_InvalidText => k_is)
    (case xa_InvalidPlaces => k_is)
    (case xa_InvalidNumber => k_is)
    (case xa_InvalidOrder => k_is)
    (case xa_InvalidColumns => k_is)
    (case xi_InvalidTable => k_is)
    (case xt_InvalidTable => k_is)
    (case xn_InvalidTable => k_is)
    (case xl_InvalidTable => k_is)
    (case xc_InvalidTable => k_is)
    (case xk_InvalidTable => k_is)
    (case xi_MissingColumn => k_is)
    (case xt_MissingColumn => k_is)
    (case xn_MissingColumn => k_is)
    (case xl_MissingColumn => k_is)
    (case xc_MissingColumn => k_is)
    (case xk_MissingColumn => k_is)
    (case xi_InvalidProgram => k_is)
    (case xt_InvalidProgram => k_is)
    (case xn_InvalidProgram => k_is)
    (case xl_InvalidProgram => k_is)
    (case xc_InvalidProgram => k_is)
    (case xk_InvalidProgram => k_is)
    (case st_InvalidTable => k_is)
    (case st_MissingColumn => k_is)
    (case st_InvalidProgram => k_is)
    (case c_MOST_COLUMNS => (intro _; refine' L2.DL.cInt KX G ?q1; (case q1 => k_is)))
    (case c_MOST_RECORDS => (intro _; refine' L2.DL.cInt KX G ?q1; (case q1 => k_is)))
    (case c_MOST_KEYS => (intro _; refine' L2.DL.cInt KX G ?q1; (case q1 => k_is)))
    (case c_DIRECTIONS => (intro _; refine' L2.DL.cStrs (ss := ["down", "up"]) KX G ?s1 ?s2 ?s3 ?s4 ?s5; (case s1 => k_is); (case s2 => k_is); (case s3 => rfl); (case s4 => decide); (case s5 => exact .cons ⟨_, rfl⟩ (.cons ⟨_, rfl⟩ .nil))))
    (case c_LEAST_SIZE => (intro _; refine' L2.DL.cInt KX G ?q1; (case q1 => k_is)))
    (case c_MOST_SIZE => (intro _; refine' L2.DL.cInt KX G ?q1; (case q1 => k_is)))
    (case c_MOST_TIMES => (intro _; refine' L2.DL.cInt KX G ?q1; (case q1 => k_is)))
    (case c_CUTS => (intro _; refine' L2.DL.cStrs (ss := ["first", "last"]) KX G ?s1 ?s2 ?s3 ?s4 ?s5; (case s1 => k_is); (case s2 => k_is); (case s3 => rfl); (case s4 => decide); (case s5 => exact .cons ⟨_, rfl⟩ (.cons ⟨_, rfl⟩ .nil))))
    (case c_BARE_WORDS => (intro _; refine' L2.DL.cStrs (ss := ["reverse", "restore"]) KX G ?s1 ?s2 ?s3 ?s4 ?s5; (case s1 => k_is); (case s2 => k_is); (case s3 => rfl); (case s4 => decide); (case s5 => exact .cons ⟨_, rfl⟩ (.cons ⟨_, rfl⟩ .nil))))
    (case c_MOST_NESTED => (intro _; refine' L2.DL.cInt KX G ?q1; (case q1 => k_is)))
    (case c_MOST_COMMANDS => (intro _; refine' L2.DL.cInt KX G ?q1; (case q1 => k_is)))
    (case c_START => (intro _; refine' L2.DL.cTup1 (ss := ["place", "up"]) KX G ?s1 ?s2 ?s3 ?s4 ?s5 ?s6 ?s7 ?s8 ?s9; (case s1 => k_is); (case s2 => k_is); (case s3 => rfl); (case s4 => decide); (case s5 => rfl); (case s6 => k_is); (case s7 => rfl); (case s8 => decide); (case s9 => exact .cons ⟨_, rfl⟩ (.cons ⟨_, rfl⟩ .nil))))
    (case kx_InvalidTable => kernel_rfl)
    (case kx_MissingColumn => kernel_rfl)
    (case kx_InvalidProgram => kernel_rfl)
    (case kt_ArithmeticError => kernel_rfl)
    (case kt_LookupError => kernel_rfl)
    (case kt_ValueError => kernel_rfl)
    (case kt_LimitError => kernel_rfl)
    (case kt_FindError => kernel_rfl)
    (case kt_TableError => kernel_rfl)
    (case kt_LastRecord => kernel_rfl)
    (case kt_TooManyEdits => kernel_rfl)
    (case kt_TooManyRecords => kernel_rfl)
    (case kt_NothingToUndo => kernel_rfl)
    (case kt_NoPlace => kernel_rfl)
    (case kt_MissingColumn => kernel_rfl)
    (case kt_InvalidCommand => kernel_rfl)
    (case kt_InvalidEdit => kernel_rfl)
    (case kt_InvalidValue => kernel_rfl)
    (case kt_InvalidRecord => kernel_rfl)
    (case kt_InvalidLimit => kernel_rfl)
    (case kt_InvalidText => kernel_rfl)
    (case kt_InvalidPlaces => kernel_rfl)
    (case kt_InvalidNumber => kernel_rfl)
    (case kt_InvalidProgram => kernel_rfl)
    (case kt_InvalidOrder => kernel_rfl)
    (case kt_InvalidColumns => kernel_rfl)
    (case kt_InvalidTable => kernel_rfl)
    (case x_InvalidTable => (refine' L2.DL.oex_mk ?l1 ?r1 ?s1 ?e1 ?t1 ?k1; (case l1 => k_is); (case r1 => rfl); (case s1 => k_is); (case e1 => k_is); (case t1 => k_is); (case k1 => k_is)))
    (case x_MissingColumn => (refine' L2.DL.oel_mk ?l1 ?r1 ?s1 ?e1 ?t1 ?k1; (case l1 => k_is); (case r1 => rfl); (case s1 => k_is); (case e1 => k_is); (case t1 => k_is); (case k1 => k_is)))
    (case x_InvalidProgram => (refine' L2.DL.oex_mk ?l1 ?r1 ?s1 ?e1 ?t1 ?k1; (case l1 => k_is); (case r1 => rfl); (case s1 => k_is); (case e1 => k_is); (case t1 => k_is); (case k1 => k_is)))
    (case xe_InvalidTable_TableError => kts_exm)
    (case xe_MissingColumn_TableError => kts_exm)
    (case xe_InvalidProgram_TableError => kts_exm)
    (case xe_InvalidTable_FindError => kts_exm)
    (case xe_MissingColumn_FindError => kts_exm)
    (case xe_InvalidProgram_FindError => kts_exm)
    (case xe_InvalidTable_LimitError => kts_exm)
    (case xe_MissingColumn_LimitError => kts_exm)
    (case xe_InvalidProgram_LimitError => kts_exm)
    (case cq_sorted_places => exact rfl)
    (case lk_sorted_places => k_is)
    (case pv_sorted_places => exact rfl)
    (case hd_sorted_places => kernel_rfl)
    (case kn_sorted_places => kernel_rfl)
    (case gt_sorted_places => exact PySem.W.km_tabs_of Y _ (by first | k_mem | decide))

set_option Elab.async false
set_option maxRecDepth 100000
set_option maxHeartbeats 4000000
set_option autoImplicit false
namespace L2
namespace DL
open PySem PySem.Spec PyProof.Rows
def mkTx [Lab] {w : World} (hw : LabW.w = some w) {K : PySem.W.Frag} {h base : Heap} {mg : Str → Option Value} (X : K.In h) (G : h.Ns mainGlobals mg)
    {f0 : Addr} {od0 an0 : Option Addr} {sl0 : Array (Option Value)} {oc0 kV0 dc0 pm0 cd0 ct0 : Value}
    {f1 : Addr} {od1 an1 : Option Addr} {sl1 : Array (Option Value)} {oc1 kV1 dc1 pm1 cd1 ct1 : Value}
    {f2 : Addr} {od2 an2 : Option Addr} {sl2 : Array (Option Value)} {oc2 kV2 dc2 pm2 cd2 ct2 : Value}
    {f3 : Addr} {od3 an3 : Option Addr} {sl3 : Array (Option Value)} {oc3 kV3 dc3 pm3 cd3 ct3 : Value}
    {f4 : Addr} {od4 an4 : Option Addr} {sl4 : Array (Option Value)} {oc4 kV4 dc4 pm4 cd4 ct4 : Value}
    {f5 : Addr} {od5 an5 : Option Addr} {sl5 : Array (Option Value)} {oc5 kV5 dc5 pm5 cd5 ct5 : Value}
    {f6 : Addr} {od6 an6 : Option Addr} {sl6 : Array (Option Value)} {oc6 kV6 dc6 pm6 cd6 ct6 : Value}
    {f7 : Addr} {od7 an7 : Option Addr} {sl7 : Array (Option Value)} {oc7 kV7 dc7 pm7 cd7 ct7 : Value}
    {f8 : Addr} {od8 an8 : Option Addr} {sl8 : Array (Option Value)} {oc8 kV8 dc8 pm8 cd8 ct8 : Value}
    {f9 : Addr} {od9 an9 : Option Addr} {sl9 : Array (Option Value)} {oc9 kV9 dc9 pm9 cd9 ct9 : Value}
    {f10 : Addr} {od10 an10 : Option Addr} {sl10 : Array (Option Value)} {oc10 kV10 dc10 pm10 cd10 ct10 : Value}
    {f11 : Addr} {od11 an11 : Option Addr} {sl11 : Array (Option Value)} {oc11 kV11 dc11 pm11 cd11 ct11 : Value}
    {f12 : Addr} {od12 an12 : Option Addr} {sl12 : Array (Option Value)} {oc12 kV12 dc12 pm12 cd12 ct12 : Value}
    {f13 : Addr} {od13 an13 : Option Addr} {sl13 : Array (Option Value)} {oc13 kV13 dc13 pm13 cd13 ct13 : Value}
    {f14 : Addr} {od14 an14 : Option Addr} {sl14 : Array (Option Value)} {oc14 kV14 dc14 pm14 cd14 ct14 : Value}
    {f15 : Addr} {od15 an15 : Option Addr} {sl15 : Array (Option Value)} {oc15 kV15 dc15 pm15 cd15 ct15 : Value}
    {f16 : Addr} {od16 an16 : Option Addr} {sl16 : Array (Option Value)} {oc16 kV16 dc16 pm16 cd16 ct16 : Value}
    {f17 : Addr} {od17 an17 : Option Addr} {sl17 : Array (Option Value)} {oc17 kV17 dc17 pm17 cd17 ct17 : Value}
    {f18 : Addr} {od18 an18 : Option Addr} {sl18 : Array (Option Value)} {oc18 kV18 dc18 pm18 cd18 ct18 : Value}
    {f19 : Addr} {od19 an19 : Option Addr} {sl19 : Array (Option Value)} {oc19 kV19 dc19 pm19 cd19 ct19 : Value}
    {f20 : Addr} {od20 an20 : Option Addr} {sl20 : Array (Option Value)} {oc20 kV20 dc20 pm20 cd20 ct20 : Value}
    {f21 : Addr} {od21 an21 : Option Addr} {sl21 : Array (Option Value)} {oc21 kV21 dc21 pm21 cd21 ct21 : Value}
    {f22 : Addr} {od22 an22 : Option Addr} {sl22 : Array (Option Value)} {oc22 kV22 dc22 pm22 cd22 ct22 : Value}
    {f23 : Addr} {od23 an23 : Option Addr} {sl23 : Array (Option Value)} {oc23 kV23 dc23 pm23 cd23 ct23 : Value}
    {f24 : Addr} {od24 an24 : Option Addr} {sl24 : Array (Option Value)} {oc24 kV24 dc24 pm24 cd24 ct24 : Value}
    {f25 : Addr} {od25 an25 : Option Addr} {sl25 : Array (Option Value)} {oc25 kV25 dc25 pm25 cd25 ct25 : Value}
    {f26 : Addr} {od26 an26 : Option Addr} {sl26 : Array (Option Value)} {oc26 kV26 dc26 pm26 cd26 ct26 : Value}
    {f27 : Addr} {od27 an27 : Option Addr} {sl27 : Array (Option Value)} {oc27 kV27 dc27 pm27 cd27 ct27 : Value}
    {f28 : Addr} {od28 an28 : Option Addr} {sl28 : Array (Option Value)} {oc28 kV28 dc28 pm28 cd28 ct28 : Value}
    {f29 : Addr} {od29 an29 : Option Addr} {sl29 : Array (Option Value)} {oc29 kV29 dc29 pm29 cd29 ct29 : Value}
    {f30 : Addr} {od30 an30 : Option Addr} {sl30 : Array (Option Value)} {oc30 kV30 dc30 pm30 cd30 ct30 : Value}
    {f31 : Addr} {od31 an31 : Option Addr} {sl31 : Array (Option Value)} {oc31 kV31 dc31 pm31 cd31 ct31 : Value}
    {f32 : Addr} {od32 an32 : Option Addr} {sl32 : Array (Option Value)} {oc32 kV32 dc32 pm32 cd32 ct32 : Value}
    {f33 : Addr} {od33 an33 : Option Addr} {sl33 : Array (Option Value)} {oc33 kV33 dc33 pm33 cd33 ct33 : Value}
    {f34 : Addr} {od34 an34 : Option Addr} {sl34 : Array (Option Value)} {oc34 kV34 dc34 pm34 cd34 ct34 : Value}
    {f35 : Addr} {od35 an35 : Option Addr} {sl35 : Array (Option Value)} {oc35 kV35 dc35 pm35 cd35 ct35 : Value}
    {f36 : Addr} {od36 an36 : Option Addr} {sl36 : Array (Option Value)} {oc36 kV36 dc36 pm36 cd36 ct36 : Value}
    {f37 : Addr} {od37 an37 : Option Addr} {sl37 : Array (Option Value)} {oc37 kV37 dc37 pm37 cd37 ct37 : Value}
    {f38 : Addr} {od38 an38 : Option Addr} {sl38 : Array (Option Value)} {oc38 kV38 dc38 pm38 cd38 ct38 : Value}
    {f39 : Addr} {od39 an39 : Option Addr} {sl39 : Array (Option Value)} {oc39 kV39 dc39 pm39 cd39 ct39 : Value}
    {f40 : Addr} {od40 an40 : Option Addr} {sl40 : Array (Option Value)} {oc40 kV40 dc40 pm40 cd40 ct40 : Value}
    {f41 : Addr} {od41 an41 : Option Addr} {sl41 : Array (Option Value)} {oc41 kV41 dc41 pm41 cd41 ct41 : Value}
    {f42 : Addr} {od42 an42 : Option Addr} {sl42 : Array (Option Value)} {oc42 kV42 dc42 pm42 cd42 ct42 : Value}
    {f43 : Addr} {od43 an43 : Option Addr} {sl43 : Array (Option Value)} {oc43 kV43 dc43 pm43 cd43 ct43 : Value}
    {f44 : Addr} {od44 an44 : Option Addr} {sl44 : Array (Option Value)} {oc44 kV44 dc44 pm44 cd44 ct44 : Value}
    {f45 : Addr} {od45 an45 : Option Addr} {sl45 : Array (Option Value)} {oc45 kV45 dc45 pm45 cd45 ct45 : Value}
    {f46 : Addr} {od46 an46 : Option Addr} {sl46 : Array (Option Value)} {oc46 kV46 dc46 pm46 cd46 ct46 : Value}
    {f47 : Addr} {od47 an47 : Option Addr} {sl47 : Array (Option Value)} {oc47 kV47 dc47 pm47 cd47 ct47 : Value}
    {f48 : Addr} {od48 an48 : Option Addr} {sl48 : Array (Option Value)} {oc48 kV48 dc48 pm48 cd48 ct48 : Value}
    {f49 : Addr} {od49 an49 : Option Addr} {sl49 : Array (Option Value)} {oc49 kV49 dc49 pm49 cd49 ct49 : Value}
    {f50 : Addr} {od50 an50 : Option Addr} {sl50 : Array (Option Value)} {oc50 kV50 dc50 pm50 cd50 ct50 : Value}
    {f51 : Addr} {od51 an51 : Option Addr} {sl51 : Array (Option Value)} {oc51 kV51 dc51 pm51 cd51 ct51 : Value}
    {f52 : Addr} {od52 an52 : Option Addr} {sl52 : Array (Option Value)} {oc52 kV52 dc52 pm52 cd52 ct52 : Value}
    {f53 : Addr} {od53 an53 : Option Addr} {sl53 : Array (Option Value)} {oc53 kV53 dc53 pm53 cd53 ct53 : Value}
    {f54 : Addr} {od54 an54 : Option Addr} {sl54 : Array (Option Value)} {oc54 kV54 dc54 pm54 cd54 ct54 : Value}
    {f55 : Addr} {od55 an55 : Option Addr} {sl55 : Array (Option Value)} {oc55 kV55 dc55 pm55 cd55 ct55 : Value}
    {f56 : Addr} {od56 an56 : Option Addr} {sl56 : Array (Option Value)} {oc56 kV56 dc56 pm56 cd56 ct56 : Value}
    {C_InvalidTable : Addr}
    {C_MissingColumn : Addr}
    {C_InvalidProgram : Addr}
    {C_TableError : Addr}
    {C_FindError : Addr}
    {C_LimitError : Addr}
    {C_LastRecord : Addr}
    {C_TooManyEdits : Addr}
    {C_TooManyRecords : Addr}
    {C_NothingToUndo : Addr}
    {C_NoPlace : Addr}
    {C_InvalidCommand : Addr}
    {C_InvalidEdit : Addr}
    {C_InvalidValue : Addr}
    {C_InvalidRecord : Addr}
    {C_InvalidLimit : Addr}
    {C_InvalidText : Addr}
    {C_InvalidPlaces : Addr}
    {C_InvalidNumber : Addr}
    {C_InvalidOrder : Addr}
    {C_InvalidColumns : Addr}
    {FI_InvalidTable : Addr} {xod_InvalidTable xan_InvalidTable : Option Addr} {xsl_InvalidTable : Array (Option Value)} {xoc_InvalidTable xkV_InvalidTable xdc_InvalidTable xpm_InvalidTable xcd_InvalidTable xct_InvalidTable : Value}
    {FI_MissingColumn : Addr} {xod_MissingColumn xan_MissingColumn : Option Addr} {xsl_MissingColumn : Array (Option Value)} {xoc_MissingColumn xkV_MissingColumn xdc_MissingColumn xpm_MissingColumn xcd_MissingColumn xct_MissingColumn : Value}
    {FI_InvalidProgram : Addr} {xod_InvalidProgram xan_InvalidProgram : Option Addr} {xsl_InvalidProgram : Array (Option Value)} {xoc_InvalidProgram xkV_InvalidProgram xdc_InvalidProgram xpm_InvalidProgram xcd_InvalidProgram xct_InvalidProgram : Value}
    {c_sorted_places P_sorted_places : Addr}
    (a0 : PySem.W.nsIn K mainGlobals "is_integer" = some (some (.ref f0))) (l0 : K.lookup f0 = some ⟨oc0, od0, .func (PySem.W.fnOf "is_integer" "is_integer" (defArgs (topS 30)) (defBody (topS 30)) (defScope (topS 30)) .none kV0 dc0 pm0 an0 cd0 ct0), sl0⟩) (c0 : PySem.W.codeIn K cd0 "is_integer" = true) (k0 : PySem.W.keepIn K (.ref f0) = true)
    (a1 : PySem.W.nsIn K mainGlobals "is_record" = some (some (.ref f1))) (l1 : K.lookup f1 = some ⟨oc1, od1, .func (PySem.W.fnOf "is_record" "is_record" (defArgs (topS 31)) (defBody (topS 31)) (defScope (topS 31)) .none kV1 dc1 pm1 an1 cd1 ct1), sl1⟩) (c1 : PySem.W.codeIn K cd1 "is_record" = true) (k1 : PySem.W.keepIn K (.ref f1) = true)
    (a2 : PySem.W.nsIn K mainGlobals "check_table" = some (some (.ref f2))) (l2 : K.lookup f2 = some ⟨oc2, od2, .func (PySem.W.fnOf "check_table" "check_table" (defArgs (topS 32)) (defBody (topS 32)) (defScope (topS 32)) .none kV2 dc2 pm2 an2 cd2 ct2), sl2⟩) (c2 : PySem.W.codeIn K cd2 "check_table" = true) (k2 : PySem.W.keepIn K (.ref f2) = true)
    (a3 : PySem.W.nsIn K mainGlobals "count_columns" = some (some (.ref f3))) (l3 : K.lookup f3 = some ⟨oc3, od3, .func (PySem.W.fnOf "count_columns" "count_columns" (defArgs (topS 33)) (defBody (topS 33)) (defScope (topS 33)) .none kV3 dc3 pm3 an3 cd3 ct3), sl3⟩) (c3 : PySem.W.codeIn K cd3 "count_columns" = true) (k3 : PySem.W.keepIn K (.ref f3) = true)
    (a4 : PySem.W.nsIn K mainGlobals "every_place" = some (some (.ref f4))) (l4 : K.lookup f4 = some ⟨oc4, od4, .func (PySem.W.fnOf "every_place" "every_place" (defArgs (topS 34)) (defBody (topS 34)) (defScope (topS 34)) .none kV4 dc4 pm4 an4 cd4 ct4), sl4⟩) (c4 : PySem.W.codeIn K cd4 "every_place" = true) (k4 : PySem.W.keepIn K (.ref f4) = true)
    (a5 : PySem.W.nsIn K mainGlobals "records_at" = some (some (.ref f5))) (l5 : K.lookup f5 = some ⟨oc5, od5, .func (PySem.W.fnOf "records_at" "records_at" (defArgs (topS 35)) (defBody (topS 35)) (defScope (topS 35)) .none kV5 dc5 pm5 an5 cd5 ct5), sl5⟩) (c5 : PySem.W.codeIn K cd5 "records_at" = true) (k5 : PySem.W.keepIn K (.ref f5) = true)
    (a6 : PySem.W.nsIn K mainGlobals "check_columns_below" = some (some (.ref f6))) (l6 : K.lookup f6 = some ⟨oc6, od6, .func (PySem.W.fnOf "check_columns_below" "check_columns_below" (defArgs (topS 36)) (defBody (topS 36)) (defScope (topS 36)) .none kV6 dc6 pm6 an6 cd6 ct6), sl6⟩) (c6 : PySem.W.codeIn K cd6 "check_columns_below" = true) (k6 : PySem.W.keepIn K (.ref f6) = true)
    (a7 : PySem.W.nsIn K mainGlobals "is_word" = some (some (.ref f7))) (l7 : K.lookup f7 = some ⟨oc7, od7, .func (PySem.W.fnOf "is_word" "is_word" (defArgs (topS 39)) (defBody (topS 39)) (defScope (topS 39)) .none kV7 dc7 pm7 an7 cd7 ct7), sl7⟩) (c7 : PySem.W.codeIn K cd7 "is_word" = true) (k7 : PySem.W.keepIn K (.ref f7) = true)
    (a8 : PySem.W.nsIn K mainGlobals "is_pair" = some (some (.ref f8))) (l8 : K.lookup f8 = some ⟨oc8, od8, .func (PySem.W.fnOf "is_pair" "is_pair" (defArgs (topS 40)) (defBody (topS 40)) (defScope (topS 40)) .none kV8 dc8 pm8 an8 cd8 ct8), sl8⟩) (c8 : PySem.W.codeIn K cd8 "is_pair" = true) (k8 : PySem.W.keepIn K (.ref f8) = true)
    (a9 : PySem.W.nsIn K mainGlobals "is_sort_column" = some (some (.ref f9))) (l9 : K.lookup f9 = some ⟨oc9, od9, .func (PySem.W.fnOf "is_sort_column" "is_sort_column" (defArgs (topS 41)) (defBody (topS 41)) (defScope (topS 41)) .none kV9 dc9 pm9 an9 cd9 ct9), sl9⟩) (c9 : PySem.W.codeIn K cd9 "is_sort_column" = true) (k9 : PySem.W.keepIn K (.ref f9) = true)
    (a10 : PySem.W.nsIn K mainGlobals "is_key" = some (some (.ref f10))) (l10 : K.lookup f10 = some ⟨oc10, od10, .func (PySem.W.fnOf "is_key" "is_key" (defArgs (topS 42)) (defBody (topS 42)) (defScope (topS 42)) .none kV10 dc10 pm10 an10 cd10 ct10), sl10⟩) (c10 : PySem.W.codeIn K cd10 "is_key" = true) (k10 : PySem.W.keepIn K (.ref f10) = true)
    (a11 : PySem.W.nsIn K mainGlobals "is_place_part" = some (some (.ref f11))) (l11 : K.lookup f11 = some ⟨oc11, od11, .func (PySem.W.fnOf "is_place_part" "is_place_part" (defArgs (topS 43)) (defBody (topS 43)) (defScope (topS 43)) .none kV11 dc11 pm11 an11 cd11 ct11), sl11⟩) (c11 : PySem.W.codeIn K cd11 "is_place_part" = true) (k11 : PySem.W.keepIn K (.ref f11) = true)
    (a12 : PySem.W.nsIn K mainGlobals "check_order" = some (some (.ref f12))) (l12 : K.lookup f12 = some ⟨oc12, od12, .func (PySem.W.fnOf "check_order" "check_order" (defArgs (topS 44)) (defBody (topS 44)) (defScope (topS 44)) .none kV12 dc12 pm12 an12 cd12 ct12), sl12⟩) (c12 : PySem.W.codeIn K cd12 "check_order" = true) (k12 : PySem.W.keepIn K (.ref f12) = true)
    (a13 : PySem.W.nsIn K mainGlobals "opposite" = some (some (.ref f13))) (l13 : K.lookup f13 = some ⟨oc13, od13, .func (PySem.W.fnOf "opposite" "opposite" (defArgs (topS 45)) (defBody (topS 45)) (defScope (topS 45)) .none kV13 dc13 pm13 an13 cd13 ct13), sl13⟩) (c13 : PySem.W.codeIn K cd13 "opposite" = true) (k13 : PySem.W.keepIn K (.ref f13) = true)
    (a14 : PySem.W.nsIn K mainGlobals "turned" = some (some (.ref f14))) (l14 : K.lookup f14 = some ⟨oc14, od14, .func (PySem.W.fnOf "turned" "turned" (defArgs (topS 46)) (defBody (topS 46)) (defScope (topS 46)) .none kV14 dc14 pm14 an14 cd14 ct14), sl14⟩) (c14 : PySem.W.codeIn K cd14 "turned" = true) (k14 : PySem.W.keepIn K (.ref f14) = true)
    (a15 : PySem.W.nsIn K mainGlobals "sort_values" = some (some (.ref f15))) (l15 : K.lookup f15 = some ⟨oc15, od15, .func (PySem.W.fnOf "sort_values" "sort_values" (defArgs (topS 47)) (defBody (topS 47)) (defScope (topS 47)) .none kV15 dc15 pm15 an15 cd15 ct15), sl15⟩) (c15 : PySem.W.codeIn K cd15 "sort_values" = true) (k15 : PySem.W.keepIn K (.ref f15) = true)
    (a16 : PySem.W.nsIn K mainGlobals "sorted_places" = some (some (.ref f16))) (l16 : K.lookup f16 = some ⟨oc16, od16, .func (PySem.W.fnOf "sorted_places" "sorted_places" (defArgs (topS 48)) (defBody (topS 48)) (defScope (topS 48)) .none kV16 dc16 pm16 an16 cd16 ct16), sl16⟩) (c16 : PySem.W.codeIn K cd16 "sorted_places" = true) (k16 : PySem.W.keepIn K (.ref f16) = true)
    (a17 : PySem.W.nsIn K mainGlobals "is_size" = some (some (.ref f17))) (l17 : K.lookup f17 = some ⟨oc17, od17, .func (PySem.W.fnOf "is_size" "is_size" (defArgs (topS 53)) (defBody (topS 53)) (defScope (topS 53)) .none kV17 dc17 pm17 an17 cd17 ct17), sl17⟩) (c17 : PySem.W.codeIn K cd17 "is_size" = true) (k17 : PySem.W.keepIn K (.ref f17) = true)
    (a18 : PySem.W.nsIn K mainGlobals "is_times" = some (some (.ref f18))) (l18 : K.lookup f18 = some ⟨oc18, od18, .func (PySem.W.fnOf "is_times" "is_times" (defArgs (topS 54)) (defBody (topS 54)) (defScope (topS 54)) .none kV18 dc18 pm18 an18 cd18 ct18), sl18⟩) (c18 : PySem.W.codeIn K cd18 "is_times" = true) (k18 : PySem.W.keepIn K (.ref f18) = true)
    (a19 : PySem.W.nsIn K mainGlobals "is_plain_command" = some (some (.ref f19))) (l19 : K.lookup f19 = some ⟨oc19, od19, .func (PySem.W.fnOf "is_plain_command" "is_plain_command" (defArgs (topS 55)) (defBody (topS 55)) (defScope (topS 55)) .none kV19 dc19 pm19 an19 cd19 ct19), sl19⟩) (c19 : PySem.W.codeIn K cd19 "is_plain_command" = true) (k19 : PySem.W.keepIn K (.ref f19) = true)
    (a20 : PySem.W.nsIn K mainGlobals "begins_repeat" = some (some (.ref f20))) (l20 : K.lookup f20 = some ⟨oc20, od20, .func (PySem.W.fnOf "begins_repeat" "begins_repeat" (defArgs (topS 56)) (defBody (topS 56)) (defScope (topS 56)) .none kV20 dc20 pm20 an20 cd20 ct20), sl20⟩) (c20 : PySem.W.codeIn K cd20 "begins_repeat" = true) (k20 : PySem.W.keepIn K (.ref f20) = true)
    (a21 : PySem.W.nsIn K mainGlobals "room_behind" = some (some (.ref f21))) (l21 : K.lookup f21 = some ⟨oc21, od21, .func (PySem.W.fnOf "room_behind" "room_behind" (defArgs (topS 57)) (defBody (topS 57)) (defScope (topS 57)) .none kV21 dc21 pm21 an21 cd21 ct21), sl21⟩) (c21 : PySem.W.codeIn K cd21 "room_behind" = true) (k21 : PySem.W.keepIn K (.ref f21) = true)
    (a22 : PySem.W.nsIn K mainGlobals "room_behind_command" = some (some (.ref f22))) (l22 : K.lookup f22 = some ⟨oc22, od22, .func (PySem.W.fnOf "room_behind_command" "room_behind_command" (defArgs (topS 58)) (defBody (topS 58)) (defScope (topS 58)) .none kV22 dc22 pm22 an22 cd22 ct22), sl22⟩) (c22 : PySem.W.codeIn K cd22 "room_behind_command" = true) (k22 : PySem.W.keepIn K (.ref f22) = true)
    (a23 : PySem.W.nsIn K mainGlobals "check_program" = some (some (.ref f23))) (l23 : K.lookup f23 = some ⟨oc23, od23, .func (PySem.W.fnOf "check_program" "check_program" (defArgs (topS 59)) (defBody (topS 59)) (defScope (topS 59)) .none kV23 dc23 pm23 an23 cd23 ct23), sl23⟩) (c23 : PySem.W.codeIn K cd23 "check_program" = true) (k23 : PySem.W.keepIn K (.ref f23) = true)
    (a24 : PySem.W.nsIn K mainGlobals "count_performed" = some (some (.ref f24))) (l24 : K.lookup f24 = some ⟨oc24, od24, .func (PySem.W.fnOf "count_performed" "count_performed" (defArgs (topS 60)) (defBody (topS 60)) (defScope (topS 60)) .none kV24 dc24 pm24 an24 cd24 ct24), sl24⟩) (c24 : PySem.W.codeIn K cd24 "count_performed" = true) (k24 : PySem.W.keepIn K (.ref f24) = true)
    (a25 : PySem.W.nsIn K mainGlobals "count_commands" = some (some (.ref f25))) (l25 : K.lookup f25 = some ⟨oc25, od25, .func (PySem.W.fnOf "count_commands" "count_commands" (defArgs (topS 61)) (defBody (topS 61)) (defScope (topS 61)) .none kV25 dc25 pm25 an25 cd25 ct25), sl25⟩) (c25 : PySem.W.codeIn K cd25 "count_commands" = true) (k25 : PySem.W.keepIn K (.ref f25) = true)
    (a26 : PySem.W.nsIn K mainGlobals "program_columns" = some (some (.ref f26))) (l26 : K.lookup f26 = some ⟨oc26, od26, .func (PySem.W.fnOf "program_columns" "program_columns" (defArgs (topS 62)) (defBody (topS 62)) (defScope (topS 62)) .none kV26 dc26 pm26 an26 cd26 ct26), sl26⟩) (c26 : PySem.W.codeIn K cd26 "program_columns" = true) (k26 : PySem.W.keepIn K (.ref f26) = true)
    (a27 : PySem.W.nsIn K mainGlobals "sorted_first" = some (some (.ref f27))) (l27 : K.lookup f27 = some ⟨oc27, od27, .func (PySem.W.fnOf "sorted_first" "sorted_first" (defArgs (topS 65)) (defBody (topS 65)) (defScope (topS 65)) .none kV27 dc27 pm27 an27 cd27 ct27), sl27⟩) (c27 : PySem.W.codeIn K cd27 "sorted_first" = true) (k27 : PySem.W.keepIn K (.ref f27) = true)
    (a28 : PySem.W.nsIn K mainGlobals "after_plain" = some (some (.ref f28))) (l28 : K.lookup f28 = some ⟨oc28, od28, .func (PySem.W.fnOf "after_plain" "after_plain" (defArgs (topS 66)) (defBody (topS 66)) (defScope (topS 66)) .none kV28 dc28 pm28 an28 cd28 ct28), sl28⟩) (c28 : PySem.W.codeIn K cd28 "after_plain" = true) (k28 : PySem.W.keepIn K (.ref f28) = true)
    (a29 : PySem.W.nsIn K mainGlobals "picks_of_plain" = some (some (.ref f29))) (l29 : K.lookup f29 = some ⟨oc29, od29, .func (PySem.W.fnOf "picks_of_plain" "picks_of_plain" (defArgs (topS 67)) (defBody (topS 67)) (defScope (topS 67)) .none kV29 dc29 pm29 an29 cd29 ct29), sl29⟩) (c29 : PySem.W.codeIn K cd29 "picks_of_plain" = true) (k29 : PySem.W.keepIn K (.ref f29) = true)
    (a30 : PySem.W.nsIn K mainGlobals "after_repeat" = some (some (.ref f30))) (l30 : K.lookup f30 = some ⟨oc30, od30, .func (PySem.W.fnOf "after_repeat" "after_repeat" (defArgs (topS 68)) (defBody (topS 68)) (defScope (topS 68)) .none kV30 dc30 pm30 an30 cd30 ct30), sl30⟩) (c30 : PySem.W.codeIn K cd30 "after_repeat" = true) (k30 : PySem.W.keepIn K (.ref f30) = true)
    (a31 : PySem.W.nsIn K mainGlobals "after_command" = some (some (.ref f31))) (l31 : K.lookup f31 = some ⟨oc31, od31, .func (PySem.W.fnOf "after_command" "after_command" (defArgs (topS 69)) (defBody (topS 69)) (defScope (topS 69)) .none kV31 dc31 pm31 an31 cd31 ct31), sl31⟩) (c31 : PySem.W.codeIn K cd31 "after_command" = true) (k31 : PySem.W.keepIn K (.ref f31) = true)
    (a32 : PySem.W.nsIn K mainGlobals "after_program" = some (some (.ref f32))) (l32 : K.lookup f32 = some ⟨oc32, od32, .func (PySem.W.fnOf "after_program" "after_program" (defArgs (topS 70)) (defBody (topS 70)) (defScope (topS 70)) .none kV32 dc32 pm32 an32 cd32 ct32), sl32⟩) (c32 : PySem.W.codeIn K cd32 "after_program" = true) (k32 : PySem.W.keepIn K (.ref f32) = true)
    (a33 : PySem.W.nsIn K mainGlobals "check_run" = some (some (.ref f33))) (l33 : K.lookup f33 = some ⟨oc33, od33, .func (PySem.W.fnOf "check_run" "check_run" (defArgs (topS 72)) (defBody (topS 72)) (defScope (topS 72)) .none kV33 dc33 pm33 an33 cd33 ct33), sl33⟩) (c33 : PySem.W.codeIn K cd33 "check_run" = true) (k33 : PySem.W.keepIn K (.ref f33) = true)
    (a34 : PySem.W.nsIn K mainGlobals "picked" = some (some (.ref f34))) (l34 : K.lookup f34 = some ⟨oc34, od34, .func (PySem.W.fnOf "picked" "picked" (defArgs (topS 73)) (defBody (topS 73)) (defScope (topS 73)) .none kV34 dc34 pm34 an34 cd34 ct34), sl34⟩) (c34 : PySem.W.codeIn K cd34 "picked" = true) (k34 : PySem.W.keepIn K (.ref f34) = true)
    (a35 : PySem.W.nsIn K mainGlobals "run_places" = some (some (.ref f35))) (l35 : K.lookup f35 = some ⟨oc35, od35, .func (PySem.W.fnOf "run_places" "run_places" (defArgs (topS 74)) (defBody (topS 74)) (defScope (topS 74)) .none kV35 dc35 pm35 an35 cd35 ct35), sl35⟩) (c35 : PySem.W.codeIn K cd35 "run_places" = true) (k35 : PySem.W.keepIn K (.ref f35) = true)
    (a36 : PySem.W.nsIn K mainGlobals "run" = some (some (.ref f36))) (l36 : K.lookup f36 = some ⟨oc36, od36, .func (PySem.W.fnOf "run" "run" (defArgs (topS 75)) (defBody (topS 75)) (defScope (topS 75)) .none kV36 dc36 pm36 an36 cd36 ct36), sl36⟩) (c36 : PySem.W.codeIn K cd36 "run" = true) (k36 : PySem.W.keepIn K (.ref f36) = true)
    (a37 : PySem.W.nsIn K mainGlobals "each_table" = some (some (.ref f37))) (l37 : K.lookup f37 = some ⟨oc37, od37, .func (PySem.W.fnOf "each_table" "each_table" (defArgs (topS 76)) (defBody (topS 76)) (defScope (topS 76)) .none kV37 dc37 pm37 an37 cd37 ct37), sl37⟩) (c37 : PySem.W.codeIn K cd37 "each_table" = true) (k37 : PySem.W.keepIn K (.ref f37) = true)
    (a38 : PySem.W.nsIn K mainGlobals "written_command" = some (some (.ref f38))) (l38 : K.lookup f38 = some ⟨oc38, od38, .func (PySem.W.fnOf "written_command" "written_command" (defArgs (topS 78)) (defBody (topS 78)) (defScope (topS 78)) .none kV38 dc38 pm38 an38 cd38 ct38), sl38⟩) (c38 : PySem.W.codeIn K cd38 "written_command" = true) (k38 : PySem.W.keepIn K (.ref f38) = true)
    (a39 : PySem.W.nsIn K mainGlobals "format_program" = some (some (.ref f39))) (l39 : K.lookup f39 = some ⟨oc39, od39, .func (PySem.W.fnOf "format_program" "format_program" (defArgs (topS 79)) (defBody (topS 79)) (defScope (topS 79)) .none kV39 dc39 pm39 an39 cd39 ct39), sl39⟩) (c39 : PySem.W.codeIn K cd39 "format_program" = true) (k39 : PySem.W.keepIn K (.ref f39) = true)
    (a40 : PySem.W.nsIn K mainGlobals "_law_cell" = some (some (.ref f40))) (l40 : K.lookup f40 = some ⟨oc40, od40, .func (PySem.W.fnOf "_law_cell" "_law_cell" (defArgs (topS 81)) (defBody (topS 81)) (defScope (topS 81)) .none kV40 dc40 pm40 an40 cd40 ct40), sl40⟩) (c40 : PySem.W.codeIn K cd40 "_law_cell" = true) (k40 : PySem.W.keepIn K (.ref f40) = true)
    (a41 : PySem.W.nsIn K mainGlobals "_law_pool" = some (some (.ref f41))) (l41 : K.lookup f41 = some ⟨oc41, od41, .func (PySem.W.fnOf "_law_pool" "_law_pool" (defArgs (topS 82)) (defBody (topS 82)) (defScope (topS 82)) .none kV41 dc41 pm41 an41 cd41 ct41), sl41⟩) (c41 : PySem.W.codeIn K cd41 "_law_pool" = true) (k41 : PySem.W.keepIn K (.ref f41) = true)
    (a42 : PySem.W.nsIn K mainGlobals "_law_draw" = some (some (.ref f42))) (l42 : K.lookup f42 = some ⟨oc42, od42, .func (PySem.W.fnOf "_law_draw" "_law_draw" (defArgs (topS 83)) (defBody (topS 83)) (defScope (topS 83)) .none kV42 dc42 pm42 an42 cd42 ct42), sl42⟩) (c42 : PySem.W.codeIn K cd42 "_law_draw" = true) (k42 : PySem.W.keepIn K (.ref f42) = true)
    (a43 : PySem.W.nsIn K mainGlobals "_law_table" = some (some (.ref f43))) (l43 : K.lookup f43 = some ⟨oc43, od43, .func (PySem.W.fnOf "_law_table" "_law_table" (defArgs (topS 84)) (defBody (topS 84)) (defScope (topS 84)) .none kV43 dc43 pm43 an43 cd43 ct43), sl43⟩) (c43 : PySem.W.codeIn K cd43 "_law_table" = true) (k43 : PySem.W.keepIn K (.ref f43) = true)
    (a44 : PySem.W.nsIn K mainGlobals "_law_steps" = some (some (.ref f44))) (l44 : K.lookup f44 = some ⟨oc44, od44, .func (PySem.W.fnOf "_law_steps" "_law_steps" (defArgs (topS 85)) (defBody (topS 85)) (defScope (topS 85)) .none kV44 dc44 pm44 an44 cd44 ct44), sl44⟩) (c44 : PySem.W.codeIn K cd44 "_law_steps" = true) (k44 : PySem.W.keepIn K (.ref f44) = true)
    (a45 : PySem.W.nsIn K mainGlobals "_law_program" = some (some (.ref f45))) (l45 : K.lookup f45 = some ⟨oc45, od45, .func (PySem.W.fnOf "_law_program" "_law_program" (defArgs (topS 86)) (defBody (topS 86)) (defScope (topS 86)) .none kV45 dc45 pm45 an45 cd45 ct45), sl45⟩) (c45 : PySem.W.codeIn K cd45 "_law_program" = true) (k45 : PySem.W.keepIn K (.ref f45) = true)
    (a46 : PySem.W.nsIn K mainGlobals "_law_kind" = some (some (.ref f46))) (l46 : K.lookup f46 = some ⟨oc46, od46, .func (PySem.W.fnOf "_law_kind" "_law_kind" (defArgs (topS 87)) (defBody (topS 87)) (defScope (topS 87)) .none kV46 dc46 pm46 an46 cd46 ct46), sl46⟩) (c46 : PySem.W.codeIn K cd46 "_law_kind" = true) (k46 : PySem.W.keepIn K (.ref f46) = true)
    (a47 : PySem.W.nsIn K mainGlobals "_law_whole" = some (some (.ref f47))) (l47 : K.lookup f47 = some ⟨oc47, od47, .func (PySem.W.fnOf "_law_whole" "_law_whole" (defArgs (topS 88)) (defBody (topS 88)) (defScope (topS 88)) .none kV47 dc47 pm47 an47 cd47 ct47), sl47⟩) (c47 : PySem.W.codeIn K cd47 "_law_whole" = true) (k47 : PySem.W.keepIn K (.ref f47) = true)
    (a48 : PySem.W.nsIn K mainGlobals "_law_counted" = some (some (.ref f48))) (l48 : K.lookup f48 = some ⟨oc48, od48, .func (PySem.W.fnOf "_law_counted" "_law_counted" (defArgs (topS 89)) (defBody (topS 89)) (defScope (topS 89)) .none kV48 dc48 pm48 an48 cd48 ct48), sl48⟩) (c48 : PySem.W.codeIn K cd48 "_law_counted" = true) (k48 : PySem.W.keepIn K (.ref f48) = true)
    (a49 : PySem.W.nsIn K mainGlobals "_law_first_bad" = some (some (.ref f49))) (l49 : K.lookup f49 = some ⟨oc49, od49, .func (PySem.W.fnOf "_law_first_bad" "_law_first_bad" (defArgs (topS 90)) (defBody (topS 90)) (defScope (topS 90)) .none kV49 dc49 pm49 an49 cd49 ct49), sl49⟩) (c49 : PySem.W.codeIn K cd49 "_law_first_bad" = true) (k49 : PySem.W.keepIn K (.ref f49) = true)
    (a50 : PySem.W.nsIn K mainGlobals "_law_bent" = some (some (.ref f50))) (l50 : K.lookup f50 = some ⟨oc50, od50, .func (PySem.W.fnOf "_law_bent" "_law_bent" (defArgs (topS 91)) (defBody (topS 91)) (defScope (topS 91)) .none kV50 dc50 pm50 an50 cd50 ct50), sl50⟩) (c50 : PySem.W.codeIn K cd50 "_law_bent" = true) (k50 : PySem.W.keepIn K (.ref f50) = true)
    (a51 : PySem.W.nsIn K mainGlobals "_law_sides" = some (some (.ref f51))) (l51 : K.lookup f51 = some ⟨oc51, od51, .func (PySem.W.fnOf "_law_sides" "_law_sides" (defArgs (topS 92)) (defBody (topS 92)) (defScope (topS 92)) .none kV51 dc51 pm51 an51 cd51 ct51), sl51⟩) (c51 : PySem.W.codeIn K cd51 "_law_sides" = true) (k51 : PySem.W.keepIn K (.ref f51) = true)
    (a52 : PySem.W.nsIn K mainGlobals "_law_asked" = some (some (.ref f52))) (l52 : K.lookup f52 = some ⟨oc52, od52, .func (PySem.W.fnOf "_law_asked" "_law_asked" (defArgs (topS 93)) (defBody (topS 93)) (defScope (topS 93)) .none kV52 dc52 pm52 an52 cd52 ct52), sl52⟩) (c52 : PySem.W.codeIn K cd52 "_law_asked" = true) (k52 : PySem.W.keepIn K (.ref f52) = true)
    (a53 : PySem.W.nsIn K mainGlobals "_law_table_bad" = some (some (.ref f53))) (l53 : K.lookup f53 = some ⟨oc53, od53, .func (PySem.W.fnOf "_law_table_bad" "_law_table_bad" (defArgs (topS 94)) (defBody (topS 94)) (defScope (topS 94)) .none kV53 dc53 pm53 an53 cd53 ct53), sl53⟩) (c53 : PySem.W.codeIn K cd53 "_law_table_bad" = true) (k53 : PySem.W.keepIn K (.ref f53) = true)
    (a54 : PySem.W.nsIn K mainGlobals "_law_told_right" = some (some (.ref f54))) (l54 : K.lookup f54 = some ⟨oc54, od54, .func (PySem.W.fnOf "_law_told_right" "_law_told_right" (defArgs (topS 95)) (defBody (topS 95)) (defScope (topS 95)) .none kV54 dc54 pm54 an54 cd54 ct54), sl54⟩) (c54 : PySem.W.codeIn K cd54 "_law_told_right" = true) (k54 : PySem.W.keepIn K (.ref f54) = true)
    (a55 : PySem.W.nsIn K mainGlobals "_law_right" = some (some (.ref f55))) (l55 : K.lookup f55 = some ⟨oc55, od55, .func (PySem.W.fnOf "_law_right" "_law_right" (defArgs (topS 96)) (defBody (topS 96)) (defScope (topS 96)) .none kV55 dc55 pm55 an55 cd55 ct55), sl55⟩) (c55 : PySem.W.codeIn K cd55 "_law_right" = true) (k55 : PySem.W.keepIn K (.ref f55) = true)
    (a56 : PySem.W.nsIn K mainGlobals "law" = some (some (.ref f56))) (l56 : K.lookup f56 = some ⟨oc56, od56, .func (PySem.W.fnOf "law" "law" (defArgs (topS 97)) (defBody (topS 97)) (defScope (topS 97)) .none kV56 dc56 pm56 an56 cd56 ct56), sl56⟩) (c56 : PySem.W.codeIn K cd56 "law" = true) (k56 : PySem.W.keepIn K (.ref f56) = true)
    (n_ArithmeticError : PySem.W.nsIn K mainGlobals "ArithmeticError" = some none)
    (n_LookupError : PySem.W.nsIn K mainGlobals "LookupError" = some none)
    (n_ValueError : PySem.W.nsIn K mainGlobals "ValueError" = some none)
    (n_abs : PySem.W.nsIn K mainGlobals "abs" = some none)
    (n_all : PySem.W.nsIn K mainGlobals "all" = some none)
    (n_bool : PySem.W.nsIn K mainGlobals "bool" = some none)
    (n_divmod : PySem.W.nsIn K mainGlobals "divmod" = some none)
    (n_enumerate : PySem.W.nsIn K mainGlobals "enumerate" = some none)
    (n_int : PySem.W.nsIn K mainGlobals "int" = some none)
    (n_isinstance : PySem.W.nsIn K mainGlobals "isinstance" = some none)
    (n_len : PySem.W.nsIn K mainGlobals "len" = some none)
    (n_list : PySem.W.nsIn K mainGlobals "list" = some none)
    (n_max : PySem.W.nsIn K mainGlobals "max" = some none)
    (n_min : PySem.W.nsIn K mainGlobals "min" = some none)
    (n_range : PySem.W.nsIn K mainGlobals "range" = some none)
    (n_repr : PySem.W.nsIn K mainGlobals "repr" = some none)
    (n_set : PySem.W.nsIn K mainGlobals "set" = some none)
    (n_sorted : PySem.W.nsIn K mainGlobals "sorted" = some none)
    (n_str : PySem.W.nsIn K mainGlobals "str" = some none)
    (n_sum : PySem.W.nsIn K mainGlobals "sum" = some none)
    (n_tuple : PySem.W.nsIn K mainGlobals "tuple" = some none)
    (c_MOST_COLUMNS : ∀ [LabW], ∃ uv : Value × V, mg "MOST_COLUMNS" = some uv.1 ∧ RelV uv.2 uv.1 ∧ ∀ Z, DD K Z uv.2 cv_MOST_COLUMNS)
    (c_MOST_RECORDS : ∀ [LabW], ∃ uv : Value × V, mg "MOST_RECORDS" = some uv.1 ∧ RelV uv.2 uv.1 ∧ ∀ Z, DD K Z uv.2 cv_MOST_RECORDS)
    (c_MOST_KEYS : ∀ [LabW], ∃ uv : Value × V, mg "MOST_KEYS" = some uv.1 ∧ RelV uv.2 uv.1 ∧ ∀ Z, DD K Z uv.2 cv_MOST_KEYS)
    (c_DIRECTIONS : ∀ [LabW], ∃ uv : Value × V, mg "DIRECTIONS" = some uv.1 ∧ RelV uv.2 uv.1 ∧ ∀ Z, DD K Z uv.2 cv_DIRECTIONS)
    (c_LEAST_SIZE : ∀ [LabW], ∃ uv : Value × V, mg "LEAST_SIZE" = some uv.1 ∧ RelV uv.2 uv.1 ∧ ∀ Z, DD K Z uv.2 cv_LEAST_SIZE)
    (c_MOST_SIZE : ∀ [LabW], ∃ uv : Value × V, mg "MOST_SIZE" = some uv.1 ∧ RelV uv.2 uv.1 ∧ ∀ Z, DD K Z uv.2 cv_MOST_SIZE)
    (c_MOST_TIMES : ∀ [LabW], ∃ uv : Value × V, mg "MOST_TIMES" = some uv.1 ∧ RelV uv.2 uv.1 ∧ ∀ Z, DD K Z uv.2 cv_MOST_TIMES)
    (c_CUTS : ∀ [LabW], ∃ uv : Value × V, mg "CUTS" = some uv.1 ∧ RelV uv.2 uv.1 ∧ ∀ Z, DD K Z uv.2 cv_CUTS)
    (c_BARE_WORDS : ∀ [LabW], ∃ uv : Value × V, mg "BARE_WORDS" = some uv.1 ∧ RelV uv.2 uv.1 ∧ ∀ Z, DD K Z uv.2 cv_BARE_WORDS)
    (c_MOST_NESTED : ∀ [LabW], ∃ uv : Value × V, mg "MOST_NESTED" = some uv.1 ∧ RelV uv.2 uv.1 ∧ ∀ Z, DD K Z uv.2 cv_MOST_NESTED)
    (c_MOST_COMMANDS : ∀ [LabW], ∃ uv : Value × V, mg "MOST_COMMANDS" = some uv.1 ∧ RelV uv.2 uv.1 ∧ ∀ Z, DD K Z uv.2 cv_MOST_COMMANDS)
    (c_START : ∀ [LabW], ∃ uv : Value × V, mg "START" = some uv.1 ∧ RelV uv.2 uv.1 ∧ ∀ Z, DD K Z uv.2 cv_START)
    (xa_InvalidTable : PySem.W.nsIn K mainGlobals "InvalidTable" = some (some (.ref C_InvalidTable)))
    (xa_MissingColumn : PySem.W.nsIn K mainGlobals "MissingColumn" = some (some (.ref C_MissingColumn)))
    (xa_InvalidProgram : PySem.W.nsIn K mainGlobals "InvalidProgram" = some (some (.ref C_InvalidProgram)))
    (xa_TableError : PySem.W.nsIn K mainGlobals "TableError" = some (some (.ref C_TableError)))
    (xa_FindError : PySem.W.nsIn K mainGlobals "FindError" = some (some (.ref C_FindError)))
    (xa_LimitError : PySem.W.nsIn K mainGlobals "LimitError" = some (some (.ref C_LimitError)))
    (xa_LastRecord : PySem.W.nsIn K mainGlobals "LastRecord" = some (some (.ref C_LastRecord)))
    (xa_TooManyEdits : PySem.W.nsIn K mainGlobals "TooManyEdits" = some (some (.ref C_TooManyEdits)))
    (xa_TooManyRecords : PySem.W.nsIn K mainGlobals "TooManyRecords" = some (some (.ref C_TooManyRecords)))
    (xa_NothingToUndo : PySem.W.nsIn K mainGlobals "NothingToUndo" = some (some (.ref C_NothingToUndo)))
    (xa_NoPlace : PySem.W.nsIn K mainGlobals "NoPlace" = some (some (.ref C_NoPlace)))
    (xa_InvalidCommand : PySem.W.nsIn K mainGlobals "InvalidCommand" = some (some (.ref C_InvalidCommand)))
    (xa_InvalidEdit : PySem.W.nsIn K mainGlobals "InvalidEdit" = some (some (.ref C_InvalidEdit)))
    (xa_InvalidValue : PySem.W.nsIn K mainGlobals "InvalidValue" = some (some (.ref C_InvalidValue)))
    (xa_InvalidRecord : PySem.W.nsIn K mainGlobals "InvalidRecord" = some (some (.ref C_InvalidRecord)))
    (xa_InvalidLimit : PySem.W.nsIn K mainGlobals "InvalidLimit" = some (some (.ref C_InvalidLimit)))
    (xa_InvalidText : PySem.W.nsIn K mainGlobals "InvalidText" = some (some (.ref C_InvalidText)))
    (xa_InvalidPlaces : PySem.W.nsIn K mainGlobals "InvalidPlaces" = some (some (.ref C_InvalidPlaces)))
    (xa_InvalidNumber : PySem.W.nsIn K mainGlobals "InvalidNumber" = some (some (.ref C_InvalidNumber)))
    (xa_InvalidOrder : PySem.W.nsIn K mainGlobals "InvalidOrder" = some (some (.ref C_InvalidOrder)))
    (xa_InvalidColumns : PySem.W.nsIn K mainGlobals "InvalidColumns" = some (some (.ref C_InvalidColumns)))
    (xi_InvalidTable : PySem.W.findIn K (.ref C_InvalidTable) "__init__" = some (some (.ref FI_InvalidTable))) (xt_InvalidTable : PySem.W.typeIn K (.ref FI_InvalidTable) = some (.type "function")) (xn_InvalidTable : PySem.W.findIn K (.ref C_InvalidTable) "index" = some none) (xl_InvalidTable : K.lookup FI_InvalidTable = some ⟨xoc_InvalidTable, xod_InvalidTable, .func (PySem.W.fnOf "__init__" "InvalidTable.__init__" (defArgs (inS 2 0)) (defBody (inS 2 0)) (defScope (inS 2 0)) .none xkV_InvalidTable xdc_InvalidTable xpm_InvalidTable xan_InvalidTable xcd_InvalidTable xct_InvalidTable), xsl_InvalidTable⟩) (xc_InvalidTable : PySem.W.codeIn K xcd_InvalidTable "InvalidTable.__init__" = true) (xk_InvalidTable : PySem.W.keepIn K (.ref FI_InvalidTable) = true) (x_InvalidTable : OexC K C_InvalidTable)
    (xi_MissingColumn : PySem.W.findIn K (.ref C_MissingColumn) "__init__" = some (some (.ref FI_MissingColumn))) (xt_MissingColumn : PySem.W.typeIn K (.ref FI_MissingColumn) = some (.type "function")) (xn_MissingColumn : PySem.W.findIn K (.ref C_MissingColumn) "column" = some none) (xl_MissingColumn : K.lookup FI_MissingColumn = some ⟨xoc_MissingColumn, xod_MissingColumn, .func (PySem.W.fnOf "__init__" "MissingColumn.__init__" (defArgs (inS 15 0)) (defBody (inS 15 0)) (defScope (inS 15 0)) .none xkV_MissingColumn xdc_MissingColumn xpm_MissingColumn xan_MissingColumn xcd_MissingColumn xct_MissingColumn), xsl_MissingColumn⟩) (xc_MissingColumn : PySem.W.codeIn K xcd_MissingColumn "MissingColumn.__init__" = true) (xk_MissingColumn : PySem.W.keepIn K (.ref FI_MissingColumn) = true) (x_MissingColumn : OexL K C_MissingColumn)
    (xi_InvalidProgram : PySem.W.findIn K (.ref C_InvalidProgram) "__init__" = some (some (.ref FI_InvalidProgram))) (xt_InvalidProgram : PySem.W.typeIn K (.ref FI_InvalidProgram) = some (.type "function")) (xn_InvalidProgram : PySem.W.findIn K (.ref C_InvalidProgram) "index" = some none) (xl_InvalidProgram : K.lookup FI_InvalidProgram = some ⟨xoc_InvalidProgram, xod_InvalidProgram, .func (PySem.W.fnOf "__init__" "InvalidProgram.__init__" (defArgs (inS 5 0)) (defBody (inS 5 0)) (defScope (inS 5 0)) .none xkV_InvalidProgram xdc_InvalidProgram xpm_InvalidProgram xan_InvalidProgram xcd_InvalidProgram xct_InvalidProgram), xsl_InvalidProgram⟩) (xc_InvalidProgram : PySem.W.codeIn K xcd_InvalidProgram "InvalidProgram.__init__" = true) (xk_InvalidProgram : PySem.W.keepIn K (.ref FI_InvalidProgram) = true) (x_InvalidProgram : OexC K C_InvalidProgram)
    (xe_InvalidTable_TableError : PySem.W.exmOne K (.ref C_InvalidTable) (.ref C_TableError) = some true)
    (xe_MissingColumn_TableError : PySem.W.exmOne K (.ref C_MissingColumn) (.ref C_TableError) = some false)
    (xe_InvalidProgram_TableError : PySem.W.exmOne K (.ref C_InvalidProgram) (.ref C_TableError) = some true)
    (xe_InvalidTable_FindError : PySem.W.exmOne K (.ref C_InvalidTable) (.ref C_FindError) = some false)
    (xe_MissingColumn_FindError : PySem.W.exmOne K (.ref C_MissingColumn) (.ref C_FindError) = some true)
    (xe_InvalidProgram_FindError : PySem.W.exmOne K (.ref C_InvalidProgram) (.ref C_FindError) = some false)
    (xe_InvalidTable_LimitError : PySem.W.exmOne K (.ref C_InvalidTable) (.ref C_LimitError) = some false)
    (xe_MissingColumn_LimitError : PySem.W.exmOne K (.ref C_MissingColumn) (.ref C_LimitError) = some false)
    (xe_InvalidProgram_LimitError : PySem.W.exmOne K (.ref C_InvalidProgram) (.ref C_LimitError) = some false)
    (st_InvalidTable : PySem.W.subIn K (.ref C_InvalidTable) (.type "StopIteration") = some false)
    (st_MissingColumn : PySem.W.subIn K (.ref C_MissingColumn) (.type "StopIteration") = some false)
    (st_InvalidProgram : PySem.W.subIn K (.ref C_InvalidProgram) (.type "StopIteration") = some false)
    (kx_InvalidTable : kexB K C_InvalidTable = true)
    (kx_MissingColumn : kexB K C_MissingColumn = true)
    (kx_InvalidProgram : kexB K C_InvalidProgram = true)
    (kt_ArithmeticError : kitTab K [(C_InvalidTable, .type "ArithmeticError", false), (C_MissingColumn, .type "ArithmeticError", false), (C_InvalidProgram, .type "ArithmeticError", false)] = true)
    (kt_LookupError : kitTab K [(C_InvalidTable, .type "LookupError", false), (C_MissingColumn, .type "LookupError", true), (C_InvalidProgram, .type "LookupError", false)] = true)
    (kt_ValueError : kitTab K [(C_InvalidTable, .type "ValueError", true), (C_MissingColumn, .type "ValueError", false), (C_InvalidProgram, .type "ValueError", true)] = true)
    (kt_LimitError : kitTab K [(C_InvalidTable, .ref C_LimitError, false), (C_MissingColumn, .ref C_LimitError, false), (C_InvalidProgram, .ref C_LimitError, false)] = true)
    (kt_FindError : kitTab K [(C_InvalidTable, .ref C_FindError, false), (C_MissingColumn, .ref C_FindError, true), (C_InvalidProgram, .ref C_FindError, false)] = true)
    (kt_TableError : kitTab K [(C_InvalidTable, .ref C_TableError, true), (C_MissingColumn, .ref C_TableError, false), (C_InvalidProgram, .ref C_TableError, true)] = true)
    (kt_LastRecord : kitTab K [(C_InvalidTable, .ref C_LastRecord, false), (C_MissingColumn, .ref C_LastRecord, false), (C_InvalidProgram, .ref C_LastRecord, false)] = true)
    (kt_TooManyEdits : kitTab K [(C_InvalidTable, .ref C_TooManyEdits, false), (C_MissingColumn, .ref C_TooManyEdits, false), (C_InvalidProgram, .ref C_TooManyEdits, false)] = true)
    (kt_TooManyRecords : kitTab K [(C_InvalidTable, .ref C_TooManyRecords, false), (C_MissingColumn, .ref C_TooManyRecords, false), (C_InvalidProgram, .ref C_TooManyRecords, false)] = true)
    (kt_NothingToUndo : kitTab K [(C_InvalidTable, .ref C_NothingToUndo, false), (C_MissingColumn, .ref C_NothingToUndo, false), (C_InvalidProgram, .ref C_NothingToUndo, false)] = true)
    (kt_NoPlace : kitTab K [(C_InvalidTable, .ref C_NoPlace, false), (C_MissingColumn, .ref C_NoPlace, false), (C_InvalidProgram, .ref C_NoPlace, false)] = true)
    (kt_MissingColumn : kitTab K [(C_InvalidTable, .ref C_MissingColumn, false), (C_MissingColumn, .ref C_MissingColumn, true), (C_InvalidProgram, .ref C_MissingColumn, false)] = true)
    (kt_InvalidCommand : kitTab K [(C_InvalidTable, .ref C_InvalidCommand, false), (C_MissingColumn, .ref C_InvalidCommand, false), (C_InvalidProgram, .ref C_InvalidCommand, false)] = true)
    (kt_InvalidEdit : kitTab K [(C_InvalidTable, .ref C_InvalidEdit, false), (C_MissingColumn, .ref C_InvalidEdit, false), (C_InvalidProgram, .ref C_InvalidEdit, false)] = true)
    (kt_InvalidValue : kitTab K [(C_InvalidTable, .ref C_InvalidValue, false), (C_MissingColumn, .ref C_InvalidValue, false), (C_InvalidProgram, .ref C_InvalidValue, false)] = true)
    (kt_InvalidRecord : kitTab K [(C_InvalidTable, .ref C_InvalidRecord, false), (C_MissingColumn, .ref C_InvalidRecord, false), (C_InvalidProgram, .ref C_InvalidRecord, false)] = true)
    (kt_InvalidLimit : kitTab K [(C_InvalidTable, .ref C_InvalidLimit, false), (C_MissingColumn, .ref C_InvalidLimit, false), (C_InvalidProgram, .ref C_InvalidLimit, false)] = true)
    (kt_InvalidText : kitTab K [(C_InvalidTable, .ref C_InvalidText, false), (C_MissingColumn, .ref C_InvalidText, false), (C_InvalidProgram, .ref C_InvalidText, false)] = true)
    (kt_InvalidPlaces : kitTab K [(C_InvalidTable, .ref C_InvalidPlaces, false), (C_MissingColumn, .ref C_InvalidPlaces, false), (C_InvalidProgram, .ref C_InvalidPlaces, false)] = true)
    (kt_InvalidNumber : kitTab K [(C_InvalidTable, .ref C_InvalidNumber, false), (C_MissingColumn, .ref C_InvalidNumber, false), (C_InvalidProgram, .ref C_InvalidNumber, false)] = true)
    (kt_InvalidProgram : kitTab K [(C_InvalidTable, .ref C_InvalidProgram, false), (C_MissingColumn, .ref C_InvalidProgram, false), (C_InvalidProgram, .ref C_InvalidProgram, true)] = true)
    (kt_InvalidOrder : kitTab K [(C_InvalidTable, .ref C_InvalidOrder, false), (C_MissingColumn, .ref C_InvalidOrder, false), (C_InvalidProgram, .ref C_InvalidOrder, false)] = true)
    (kt_InvalidColumns : kitTab K [(C_InvalidTable, .ref C_InvalidColumns, false), (C_MissingColumn, .ref C_InvalidColumns, false), (C_InvalidProgram, .ref C_InvalidColumns, false)] = true)
    (kt_InvalidTable : kitTab K [(C_InvalidTable, .ref C_InvalidTable, true), (C_MissingColumn, .ref C_InvalidTable, false), (C_InvalidProgram, .ref C_InvalidTable, false)] = true)
    (cq_sorted_places : cd16 = .ref c_sorted_places) (tbx_sorted_places : LamX.TabB base mg c_sorted_places P_sorted_places) (lbx_sorted_places : (P_sorted_places, ("sorted_places" ++ ".<locals>." : Str) ++ "<lambda>") ∈ Lab.T) (lux_sorted_places : ∀ p ∈ Lab.T, p.1 = P_sorted_places → p.2 = ("sorted_places" ++ ".<locals>." : Str) ++ "<lambda>")
    (hCC : LabW.C = clsOf [("InvalidTable", C_InvalidTable), ("MissingColumn", C_MissingColumn), ("InvalidProgram", C_InvalidProgram), ("TableError", C_TableError), ("FindError", C_FindError), ("LimitError", C_LimitError), ("LastRecord", C_LastRecord), ("TooManyEdits", C_TooManyEdits), ("TooManyRecords", C_TooManyRecords), ("NothingToUndo", C_NothingToUndo), ("NoPlace", C_NoPlace), ("InvalidCommand", C_InvalidCommand), ("InvalidEdit", C_InvalidEdit), ("InvalidValue", C_InvalidValue), ("InvalidRecord", C_InvalidRecord), ("InvalidLimit", C_InvalidLimit), ("InvalidText", C_InvalidText), ("InvalidPlaces", C_InvalidPlaces), ("InvalidNumber", C_InvalidNumber), ("InvalidOrder", C_InvalidOrder), ("InvalidColumns", C_InvalidColumns)] 0) : Tx Lab.T K mg base w where
  hw := hw
  A := fun i => match i with
    | 0 => f0
    | 1 => f1
    | 2 => f2
    | 3 => f3
    | 4 => f4
    | 5 => f5
    | 6 => f6
    | 7 => f7
    | 8 => f8
    | 9 => f9
    | 10 => f10
    | 11 => f11
    | 12 => f12
    | 13 => f13
    | 14 => f14
    | 15 => f15
    | 16 => f16
    | 17 => f17
    | 18 => f18
    | 19 => f19
    | 20 => f20
    | 21 => f21
    | 22 => f22
    | 23 => f23
    | 24 => f24
    | 25 => f25
    | 26 => f26
    | 27 => f27
    | 28 => f28
    | 29 => f29
    | 30 => f30
    | 31 => f31
    | 32 => f32
    | 33 => f33
    | 34 => f34
    | 35 => f35
    | 36 => f36
    | 37 => f37
    | 38 => f38
    | 39 => f39
    | 40 => f40
    | 41 => f41
    | 42 => f42
    | 43 => f43
    | 44 => f44
    | 45 => f45
    | 46 => f46
    | 47 => f47
    | 48 => f48
    | 49 => f49
    | 50 => f50
    | 51 => f51
    | 52 => f52
    | 53 => f53
    | 54 => f54
    | 55 => f55
    | 56 => f56
    | _ => f0
  FD := fun i => match i with
    | 0 => (PySem.W.fnOf "is_integer" "is_integer" (defArgs (topS 30)) (defBody (topS 30)) (defScope (topS 30)) .none kV0 dc0 pm0 an0 cd0 ct0)
    | 1 => (PySem.W.fnOf "is_record" "is_record" (defArgs (topS 31)) (defBody (topS 31)) (defScope (topS 31)) .none kV1 dc1 pm1 an1 cd1 ct1)
    | 2 => (PySem.W.fnOf "check_table" "check_table" (defArgs (topS 32)) (defBody (topS 32)) (defScope (topS 32)) .none kV2 dc2 pm2 an2 cd2 ct2)
    | 3 => (PySem.W.fnOf "count_columns" "count_columns" (defArgs (topS 33)) (defBody (topS 33)) (defScope (topS 33)) .none kV3 dc3 pm3 an3 cd3 ct3)
    | 4 => (PySem.W.fnOf "every_place" "every_place" (defArgs (topS 34)) (defBody (topS 34)) (defScope (topS 34)) .none kV4 dc4 pm4 an4 cd4 ct4)
    | 5 => (PySem.W.fnOf "records_at" "records_at" (defArgs (topS 35)) (defBody (topS 35)) (defScope (topS 35)) .none kV5 dc5 pm5 an5 cd5 ct5)
    | 6 => (PySem.W.fnOf "check_columns_below" "check_columns_below" (defArgs (topS 36)) (defBody (topS 36)) (defScope (topS 36)) .none kV6 dc6 pm6 an6 cd6 ct6)
    | 7 => (PySem.W.fnOf "is_word" "is_word" (defArgs (topS 39)) (defBody (topS 39)) (defScope (topS 39)) .none kV7 dc7 pm7 an7 cd7 ct7)
    | 8 => (PySem.W.fnOf "is_pair" "is_pair" (defArgs (topS 40)) (defBody (topS 40)) (defScope (topS 40)) .none kV8 dc8 pm8 an8 cd8 ct8)
    | 9 => (PySem.W.fnOf "is_sort_column" "is_sort_column" (defArgs (topS 41)) (defBody (topS 41)) (defScope (topS 41)) .none kV9 dc9 pm9 an9 cd9 ct9)
    | 10 => (PySem.W.fnOf "is_key" "is_key" (defArgs (topS 42)) (defBody (topS 42)) (defScope (topS 42)) .none kV10 dc10 pm10 an10 cd10 ct10)
    | 11 => (PySem.W.fnOf "is_place_part" "is_place_part" (defArgs (topS 43)) (defBody (topS 43)) (defScope (topS 43)) .none kV11 dc11 pm11 an11 cd11 ct11)
    | 12 => (PySem.W.fnOf "check_order" "check_order" (defArgs (topS 44)) (defBody (topS 44)) (defScope (topS 44)) .none kV12 dc12 pm12 an12 cd12 ct12)
    | 13 => (PySem.W.fnOf "opposite" "opposite" (defArgs (topS 45)) (defBody (topS 45)) (defScope (topS 45)) .none kV13 dc13 pm13 an13 cd13 ct13)
    | 14 => (PySem.W.fnOf "turned" "turned" (defArgs (topS 46)) (defBody (topS 46)) (defScope (topS 46)) .none kV14 dc14 pm14 an14 cd14 ct14)
    | 15 => (PySem.W.fnOf "sort_values" "sort_values" (defArgs (topS 47)) (defBody (topS 47)) (defScope (topS 47)) .none kV15 dc15 pm15 an15 cd15 ct15)
    | 16 => (PySem.W.fnOf "sorted_places" "sorted_places" (defArgs (topS 48)) (defBody (topS 48)) (defScope (topS 48)) .none kV16 dc16 pm16 an16 cd16 ct16)
    | 17 => (PySem.W.fnOf "is_size" "is_size" (defArgs (topS 53)) (defBody (topS 53)) (defScope (topS 53)) .none kV17 dc17 pm17 an17 cd17 ct17)
    | 18 => (PySem.W.fnOf "is_times" "is_times" (defArgs (topS 54)) (defBody (topS 54)) (defScope (topS 54)) .none kV18 dc18 pm18 an18 cd18 ct18)
    | 19 => (PySem.W.fnOf "is_plain_command" "is_plain_command" (defArgs (topS 55)) (defBody (topS 55)) (defScope (topS 55)) .none kV19 dc19 pm19 an19 cd19 ct19)
    | 20 => (PySem.W.fnOf "begins_repeat" "begins_repeat" (defArgs (topS 56)) (defBody (topS 56)) (defScope (topS 56)) .none kV20 dc20 pm20 an20 cd20 ct20)
    | 21 => (PySem.W.fnOf "room_behind" "room_behind" (defArgs (topS 57)) (defBody (topS 57)) (defScope (topS 57)) .none kV21 dc21 pm21 an21 cd21 ct21)
    | 22 => (PySem.W.fnOf "room_behind_command" "room_behind_command" (defArgs (topS 58)) (defBody (topS 58)) (defScope (topS 58)) .none kV22 dc22 pm22 an22 cd22 ct22)
    | 23 => (PySem.W.fnOf "check_program" "check_program" (defArgs (topS 59)) (defBody (topS 59)) (defScope (topS 59)) .none kV23 dc23 pm23 an23 cd23 ct23)
    | 24 => (PySem.W.fnOf "count_performed" "count_performed" (defArgs (topS 60)) (defBody (topS 60)) (defScope (topS 60)) .none kV24 dc24 pm24 an24 cd24 ct24)
    | 25 => (PySem.W.fnOf "count_commands" "count_commands" (defArgs (topS 61)) (defBody (topS 61)) (defScope (topS 61)) .none kV25 dc25 pm25 an25 cd25 ct25)
    | 26 => (PySem.W.fnOf "program_columns" "program_columns" (defArgs (topS 62)) (defBody (topS 62)) (defScope (topS 62)) .none kV26 dc26 pm26 an26 cd26 ct26)
    | 27 => (PySem.W.fnOf "sorted_first" "sorted_first" (defArgs (topS 65)) (defBody (topS 65)) (defScope (topS 65)) .none kV27 dc27 pm27 an27 cd27 ct27)
    | 28 => (PySem.W.fnOf "after_plain" "after_plain" (defArgs (topS 66)) (defBody (topS 66)) (defScope (topS 66)) .none kV28 dc28 pm28 an28 cd28 ct28)
    | 29 => (PySem.W.fnOf "picks_of_plain" "picks_of_plain" (defArgs (topS 67)) (defBody (topS 67)) (defScope (topS 67)) .none kV29 dc29 pm29 an29 cd29 ct29)
    | 30 => (PySem.W.fnOf "after_repeat" "after_repeat" (defArgs (topS 68)) (defBody (topS 68)) (defScope (topS 68)) .none kV30 dc30 pm30 an30 cd30 ct30)
    | 31 => (PySem.W.fnOf "after_command" "after_command" (defArgs (topS 69)) (defBody (topS 69)) (defScope (topS 69)) .none kV31 dc31 pm31 an31 cd31 ct31)
    | 32 => (PySem.W.fnOf "after_program" "after_program" (defArgs (topS 70)) (defBody (topS 70)) (defScope (topS 70)) .none kV32 dc32 pm32 an32 cd32 ct32)
    | 33 => (PySem.W.fnOf "check_run" "check_run" (defArgs (topS 72)) (defBody (topS 72)) (defScope (topS 72)) .none kV33 dc33 pm33 an33 cd33 ct33)
    | 34 => (PySem.W.fnOf "picked" "picked" (defArgs (topS 73)) (defBody (topS 73)) (defScope (topS 73)) .none kV34 dc34 pm34 an34 cd34 ct34)
    | 35 => (PySem.W.fnOf "run_places" "run_places" (defArgs (topS 74)) (defBody (topS 74)) (defScope (topS 74)) .none kV35 dc35 pm35 an35 cd35 ct35)
    | 36 => (PySem.W.fnOf "run" "run" (defArgs (topS 75)) (defBody (topS 75)) (defScope (topS 75)) .none kV36 dc36 pm36 an36 cd36 ct36)
    | 37 => (PySem.W.fnOf "each_table" "each_table" (defArgs (topS 76)) (defBody (topS 76)) (defScope (topS 76)) .none kV37 dc37 pm37 an37 cd37 ct37)
    | 38 => (PySem.W.fnOf "written_command" "written_command" (defArgs (topS 78)) (defBody (topS 78)) (defScope (topS 78)) .none kV38 dc38 pm38 an38 cd38 ct38)
    | 39 => (PySem.W.fnOf "format_program" "format_program" (defArgs (topS 79)) (defBody (topS 79)) (defScope (topS 79)) .none kV39 dc39 pm39 an39 cd39 ct39)
    | 40 => (PySem.W.fnOf "_law_cell" "_law_cell" (defArgs (topS 81)) (defBody (topS 81)) (defScope (topS 81)) .none kV40 dc40 pm40 an40 cd40 ct40)
    | 41 => (PySem.W.fnOf "_law_pool" "_law_pool" (defArgs (topS 82)) (defBody (topS 82)) (defScope (topS 82)) .none kV41 dc41 pm41 an41 cd41 ct41)
    | 42 => (PySem.W.fnOf "_law_draw" "_law_draw" (defArgs (topS 83)) (defBody (topS 83)) (defScope (topS 83)) .none kV42 dc42 pm42 an42 cd42 ct42)
    | 43 => (PySem.W.fnOf "_law_table" "_law_table" (defArgs (topS 84)) (defBody (topS 84)) (defScope (topS 84)) .none kV43 dc43 pm43 an43 cd43 ct43)
    | 44 => (PySem.W.fnOf "_law_steps" "_law_steps" (defArgs (topS 85)) (defBody (topS 85)) (defScope (topS 85)) .none kV44 dc44 pm44 an44 cd44 ct44)
    | 45 => (PySem.W.fnOf "_law_program" "_law_program" (defArgs (topS 86)) (defBody (topS 86)) (defScope (topS 86)) .none kV45 dc45 pm45 an45 cd45 ct45)
    | 46 => (PySem.W.fnOf "_law_kind" "_law_kind" (defArgs (topS 87)) (defBody (topS 87)) (defScope (topS 87)) .none kV46 dc46 pm46 an46 cd46 ct46)
    | 47 => (PySem.W.fnOf "_law_whole" "_law_whole" (defArgs (topS 88)) (defBody (topS 88)) (defScope (topS 88)) .none kV47 dc47 pm47 an47 cd47 ct47)
    | 48 => (PySem.W.fnOf "_law_counted" "_law_counted" (defArgs (topS 89)) (defBody (topS 89)) (defScope (topS 89)) .none kV48 dc48 pm48 an48 cd48 ct48)
    | 49 => (PySem.W.fnOf "_law_first_bad" "_law_first_bad" (defArgs (topS 90)) (defBody (topS 90)) (defScope (topS 90)) .none kV49 dc49 pm49 an49 cd49 ct49)
    | 50 => (PySem.W.fnOf "_law_bent" "_law_bent" (defArgs (topS 91)) (defBody (topS 91)) (defScope (topS 91)) .none kV50 dc50 pm50 an50 cd50 ct50)
    | 51 => (PySem.W.fnOf "_law_sides" "_law_sides" (defArgs (topS 92)) (defBody (topS 92)) (defScope (topS 92)) .none kV51 dc51 pm51 an51 cd51 ct51)
    | 52 => (PySem.W.fnOf "_law_asked" "_law_asked" (defArgs (topS 93)) (defBody (topS 93)) (defScope (topS 93)) .none kV52 dc52 pm52 an52 cd52 ct52)
    | 53 => (PySem.W.fnOf "_law_table_bad" "_law_table_bad" (defArgs (topS 94)) (defBody (topS 94)) (defScope (topS 94)) .none kV53 dc53 pm53 an53 cd53 ct53)
    | 54 => (PySem.W.fnOf "_law_told_right" "_law_told_right" (defArgs (topS 95)) (defBody (topS 95)) (defScope (topS 95)) .none kV54 dc54 pm54 an54 cd54 ct54)
    | 55 => (PySem.W.fnOf "_law_right" "_law_right" (defArgs (topS 96)) (defBody (topS 96)) (defScope (topS 96)) .none kV55 dc55 pm55 an55 cd55 ct55)
    | 56 => (PySem.W.fnOf "law" "law" (defArgs (topS 97)) (defBody (topS 97)) (defScope (topS 97)) .none kV56 dc56 pm56 an56 cd56 ct56)
    | _ => (PySem.W.fnOf "is_integer" "is_integer" (defArgs (topS 30)) (defBody (topS 30)) (defScope (topS 30)) .none kV0 dc0 pm0 an0 cd0 ct0)
  D_is_integer := fun_mk (st := (topS 30)) l0 c0 k0
  g_is_integer := PySem.W.mg_of X G a0
  D_is_record := fun_mk (st := (topS 31)) l1 c1 k1
  g_is_record := PySem.W.mg_of X G a1
  D_check_table := fun_mk (st := (topS 32)) l2 c2 k2
  g_check_table := PySem.W.mg_of X G a2
  D_count_columns := fun_mk (st := (topS 33)) l3 c3 k3
  g_count_columns := PySem.W.mg_of X G a3
  D_every_place := fun_mk (st := (topS 34)) l4 c4 k4
  g_every_place := PySem.W.mg_of X G a4
  D_records_at := fun_mk (st := (topS 35)) l5 c5 k5
  g_records_at := PySem.W.mg_of X G a5
  D_check_columns_below := fun_mk (st := (topS 36)) l6 c6 k6
  g_check_columns_below := PySem.W.mg_of X G a6
  D_is_word := fun_mk (st := (topS 39)) l7 c7 k7
  g_is_word := PySem.W.mg_of X G a7
  D_is_pair := fun_mk (st := (topS 40)) l8 c8 k8
  g_is_pair := PySem.W.mg_of X G a8
  D_is_sort_column := fun_mk (st := (topS 41)) l9 c9 k9
  g_is_sort_column := PySem.W.mg_of X G a9
  D_is_key := fun_mk (st := (topS 42)) l10 c10 k10
  g_is_key := PySem.W.mg_of X G a10
  D_is_place_part := fun_mk (st := (topS 43)) l11 c11 k11
  g_is_place_part := PySem.W.mg_of X G a11
  D_check_order := fun_mk (st := (topS 44)) l12 c12 k12
  g_check_order := PySem.W.mg_of X G a12
  D_opposite := fun_mk (st := (topS 45)) l13 c13 k13
  g_opposite := PySem.W.mg_of X G a13
  D_turned := fun_mk (st := (topS 46)) l14 c14 k14
  g_turned := PySem.W.mg_of X G a14
  D_sort_values := fun_mk (st := (topS 47)) l15 c15 k15
  g_sort_values := PySem.W.mg_of X G a15
  D_sorted_places := fun_mk (st := (topS 48)) l16 c16 k16
  g_sorted_places := PySem.W.mg_of X G a16
  D_is_size := fun_mk (st := (topS 53)) l17 c17 k17
  g_is_size := PySem.W.mg_of X G a17
  D_is_times := fun_mk (st := (topS 54)) l18 c18 k18
  g_is_times := PySem.W.mg_of X G a18
  D_is_plain_command := fun_mk (st := (topS 55)) l19 c19 k19
  g_is_plain_command := PySem.W.mg_of X G a19
  D_begins_repeat := fun_mk (st := (topS 56)) l20 c20 k20
  g_begins_repeat := PySem.W.mg_of X G a20
  D_room_behind := fun_mk (st := (topS 57)) l21 c21 k21
  g_room_behind := PySem.W.mg_of X G a21
  D_room_behind_command := fun_mk (st := (topS 58)) l22 c22 k22
  g_room_behind_command := PySem.W.mg_of X G a22
  D_check_program := fun_mk (st := (topS 59)) l23 c23 k23
  g_check_program := PySem.W.mg_of X G a23
  D_count_performed := fun_mk (st := (topS 60)) l24 c24 k24
  g_count_performed := PySem.W.mg_of X G a24
  D_count_commands := fun_mk (st := (topS 61)) l25 c25 k25
  g_count_commands := PySem.W.mg_of X G a25
  D_program_columns := fun_mk (st := (topS 62)) l26 c26 k26
  g_program_columns := PySem.W.mg_of X G a26
  D_sorted_first := fun_mk (st := (topS 65)) l27 c27 k27
  g_sorted_first := PySem.W.mg_of X G a27
  D_after_plain := fun_mk (st := (topS 66)) l28 c28 k28
  g_after_plain := PySem.W.mg_of X G a28
  D_picks_of_plain := fun_mk (st := (topS 67)) l29 c29 k29
  g_picks_of_plain := PySem.W.mg_of X G a29
  D_after_repeat := fun_mk (st := (topS 68)) l30 c30 k30
  g_after_repeat := PySem.W.mg_of X G a30
  D_after_command := fun_mk (st := (topS 69)) l31 c31 k31
  g_after_command := PySem.W.mg_of X G a31
  D_after_program := fun_mk (st := (topS 70)) l32 c32 k32
  g_after_program := PySem.W.mg_of X G a32
  D_check_run := fun_mk (st := (topS 72)) l33 c33 k33
  g_check_run := PySem.W.mg_of X G a33
  D_picked := fun_mk (st := (topS 73)) l34 c34 k34
  g_picked := PySem.W.mg_of X G a34
  D_run_places := fun_mk (st := (topS 74)) l35 c35 k35
  g_run_places := PySem.W.mg_of X G a35
  D_run := fun_mk (st := (topS 75)) l36 c36 k36
  g_run := PySem.W.mg_of X G a36
  D_each_table := fun_mk (st := (topS 76)) l37 c37 k37
  g_each_table := PySem.W.mg_of X G a37
  D_written_command := fun_mk (st := (topS 78)) l38 c38 k38
  g_written_command := PySem.W.mg_of X G a38
  D_format_program := fun_mk (st := (topS 79)) l39 c39 k39
  g_format_program := PySem.W.mg_of X G a39
  D__law_cell := fun_mk (st := (topS 81)) l40 c40 k40
  g__law_cell := PySem.W.mg_of X G a40
  D__law_pool := fun_mk (st := (topS 82)) l41 c41 k41
  g__law_pool := PySem.W.mg_of X G a41
  D__law_draw := fun_mk (st := (topS 83)) l42 c42 k42
  g__law_draw := PySem.W.mg_of X G a42
  D__law_table := fun_mk (st := (topS 84)) l43 c43 k43
  g__law_table := PySem.W.mg_of X G a43
  D__law_steps := fun_mk (st := (topS 85)) l44 c44 k44
  g__law_steps := PySem.W.mg_of X G a44
  D__law_program := fun_mk (st := (topS 86)) l45 c45 k45
  g__law_program := PySem.W.mg_of X G a45
  D__law_kind := fun_mk (st := (topS 87)) l46 c46 k46
  g__law_kind := PySem.W.mg_of X G a46
  D__law_whole := fun_mk (st := (topS 88)) l47 c47 k47
  g__law_whole := PySem.W.mg_of X G a47
  D__law_counted := fun_mk (st := (topS 89)) l48 c48 k48
  g__law_counted := PySem.W.mg_of X G a48
  D__law_first_bad := fun_mk (st := (topS 90)) l49 c49 k49
  g__law_first_bad := PySem.W.mg_of X G a49
  D__law_bent := fun_mk (st := (topS 91)) l50 c50 k50
  g__law_bent := PySem.W.mg_of X G a50
  D__law_sides := fun_mk (st := (topS 92)) l51 c51 k51
  g__law_sides := PySem.W.mg_of X G a51
  D__law_asked := fun_mk (st := (topS 93)) l52 c52 k52
  g__law_asked := PySem.W.mg_of X G a52
  D__law_table_bad := fun_mk (st := (topS 94)) l53 c53 k53
  g__law_table_bad := PySem.W.mg_of X G a53
  D__law_told_right := fun_mk (st := (topS 95)) l54 c54 k54
  g__law_told_right := PySem.W.mg_of X G a54
  D__law_right := fun_mk (st := (topS 96)) l55 c55 k55
  g__law_right := PySem.W.mg_of X G a55
  D_law := fun_mk (st := (topS 97)) l56 c56 k56
  g_law := PySem.W.mg_of X G a56
  n_ArithmeticError := PySem.W.mg_none_of X G n_ArithmeticError
  n_LookupError := PySem.W.mg_none_of X G n_LookupError
  n_ValueError := PySem.W.mg_none_of X G n_ValueError
  n_abs := PySem.W.mg_none_of X G n_abs
  n_all := PySem.W.mg_none_of X G n_all
  n_bool := PySem.W.mg_none_of X G n_bool
  n_divmod := PySem.W.mg_none_of X G n_divmod
  n_enumerate := PySem.W.mg_none_of X G n_enumerate
  n_int := PySem.W.mg_none_of X G n_int
  n_isinstance := PySem.W.mg_none_of X G n_isinstance
  n_len := PySem.W.mg_none_of X G n_len
  n_list := PySem.W.mg_none_of X G n_list
  n_max := PySem.W.mg_none_of X G n_max
  n_min := PySem.W.mg_none_of X G n_min
  n_range := PySem.W.mg_none_of X G n_range
  n_repr := PySem.W.mg_none_of X G n_repr
  n_set := PySem.W.mg_none_of X G n_set
  n_sorted := PySem.W.mg_none_of X G n_sorted
  n_str := PySem.W.mg_none_of X G n_str
  n_sum := PySem.W.mg_none_of X G n_sum
  n_tuple := PySem.W.mg_none_of X G n_tuple
  c_MOST_COLUMNS := c_MOST_COLUMNS
  c_MOST_RECORDS := c_MOST_RECORDS
  c_MOST_KEYS := c_MOST_KEYS
  c_DIRECTIONS := c_DIRECTIONS
  c_LEAST_SIZE := c_LEAST_SIZE
  c_MOST_SIZE := c_MOST_SIZE
  c_MOST_TIMES := c_MOST_TIMES
  c_CUTS := c_CUTS
  c_BARE_WORDS := c_BARE_WORDS
  c_MOST_NESTED := c_MOST_NESTED
  c_MOST_COMMANDS := c_MOST_COMMANDS
  c_START := c_START
  xm_InvalidTable := PySem.W.mg_of X G xa_InvalidTable
  xm_MissingColumn := PySem.W.mg_of X G xa_MissingColumn
  xm_InvalidProgram := PySem.W.mg_of X G xa_InvalidProgram
  xm_TableError := PySem.W.mg_of X G xa_TableError
  xm_FindError := PySem.W.mg_of X G xa_FindError
  xm_LimitError := PySem.W.mg_of X G xa_LimitError
  xm_LastRecord := PySem.W.mg_of X G xa_LastRecord
  xm_TooManyEdits := PySem.W.mg_of X G xa_TooManyEdits
  xm_TooManyRecords := PySem.W.mg_of X G xa_TooManyRecords
  xm_NothingToUndo := PySem.W.mg_of X G xa_NothingToUndo
  xm_NoPlace := PySem.W.mg_of X G xa_NoPlace
  xm_InvalidCommand := PySem.W.mg_of X G xa_InvalidCommand
  xm_InvalidEdit := PySem.W.mg_of X G xa_InvalidEdit
  xm_InvalidValue := PySem.W.mg_of X G xa_InvalidValue
  xm_InvalidRecord := PySem.W.mg_of X G xa_InvalidRecord
  xm_InvalidLimit := PySem.W.mg_of X G xa_InvalidLimit
  xm_InvalidText := PySem.W.mg_of X G xa_InvalidText
  xm_InvalidPlaces := PySem.W.mg_of X G xa_InvalidPlaces
  xm_InvalidNumber := PySem.W.mg_of X G xa_InvalidNumber
  xm_InvalidOrder := PySem.W.mg_of X G xa_InvalidOrder
  xm_InvalidColumns := PySem.W.mg_of X G xa_InvalidColumns
  xi_InvalidTable := xi_InvalidTable
  xt_InvalidTable := xt_InvalidTable
  xn_InvalidTable := xn_InvalidTable
  xD_InvalidTable := fun_mk (st := (inS 2 0)) xl_InvalidTable xc_InvalidTable xk_InvalidTable
  x_InvalidTable := x_InvalidTable
  xi_MissingColumn := xi_MissingColumn
  xt_MissingColumn := xt_MissingColumn
  xn_MissingColumn := xn_MissingColumn
  xD_MissingColumn := fun_mk (st := (inS 15 0)) xl_MissingColumn xc_MissingColumn xk_MissingColumn
  x_MissingColumn := x_MissingColumn
  xi_InvalidProgram := xi_InvalidProgram
  xt_InvalidProgram := xt_InvalidProgram
  xn_InvalidProgram := xn_InvalidProgram
  xD_InvalidProgram := fun_mk (st := (inS 5 0)) xl_InvalidProgram xc_InvalidProgram xk_InvalidProgram
  x_InvalidProgram := x_InvalidProgram
  xe_InvalidTable_TableError := xe_InvalidTable_TableError
  xe_MissingColumn_TableError := xe_MissingColumn_TableError
  xe_InvalidProgram_TableError := xe_InvalidProgram_TableError
  xe_InvalidTable_FindError := xe_InvalidTable_FindError
  xe_MissingColumn_FindError := xe_MissingColumn_FindError
  xe_InvalidProgram_FindError := xe_InvalidProgram_FindError
  xe_InvalidTable_LimitError := xe_InvalidTable_LimitError
  xe_MissingColumn_LimitError := xe_MissingColumn_LimitError
  xe_InvalidProgram_LimitError := xe_InvalidProgram_LimitError
  st_InvalidTable := st_InvalidTable
  st_MissingColumn := st_MissingColumn
  st_InvalidProgram := st_InvalidProgram
  hC := hCC.symm
  kx_InvalidTable := kx_InvalidTable
  kx_MissingColumn := kx_MissingColumn
  kx_InvalidProgram := kx_InvalidProgram
  kt_ArithmeticError := kt_ArithmeticError
  kt_LookupError := kt_LookupError
  kt_ValueError := kt_ValueError
  kt_LimitError := kt_LimitError
  kt_FindError := kt_FindError
  kt_TableError := kt_TableError
  kt_LastRecord := kt_LastRecord
  kt_TooManyEdits := kt_TooManyEdits
  kt_TooManyRecords := kt_TooManyRecords
  kt_NothingToUndo := kt_NothingToUndo
  kt_NoPlace := kt_NoPlace
  kt_MissingColumn := kt_MissingColumn
  kt_InvalidCommand := kt_InvalidCommand
  kt_InvalidEdit := kt_InvalidEdit
  kt_InvalidValue := kt_InvalidValue
  kt_InvalidRecord := kt_InvalidRecord
  kt_InvalidLimit := kt_InvalidLimit
  kt_InvalidText := kt_InvalidText
  kt_InvalidPlaces := kt_InvalidPlaces
  kt_InvalidNumber := kt_InvalidNumber
  kt_InvalidProgram := kt_InvalidProgram
  kt_InvalidOrder := kt_InvalidOrder
  kt_InvalidColumns := kt_InvalidColumns
  kt_InvalidTable := kt_InvalidTable
  C := clsOf [("InvalidTable", C_InvalidTable), ("MissingColumn", C_MissingColumn), ("InvalidProgram", C_InvalidProgram), ("TableError", C_TableError), ("FindError", C_FindError), ("LimitError", C_LimitError), ("LastRecord", C_LastRecord), ("TooManyEdits", C_TooManyEdits), ("TooManyRecords", C_TooManyRecords), ("NothingToUndo", C_NothingToUndo), ("NoPlace", C_NoPlace), ("InvalidCommand", C_InvalidCommand), ("InvalidEdit", C_InvalidEdit), ("InvalidValue", C_InvalidValue), ("InvalidRecord", C_InvalidRecord), ("InvalidLimit", C_InvalidLimit), ("InvalidText", C_InvalidText), ("InvalidPlaces", C_InvalidPlaces), ("InvalidNumber", C_InvalidNumber), ("InvalidOrder", C_InvalidOrder), ("InvalidColumns", C_InvalidColumns)] 0
  FI := clsOf [("InvalidTable", FI_InvalidTable), ("MissingColumn", FI_MissingColumn), ("InvalidProgram", FI_InvalidProgram)] 0
  FDI := clsOf [("InvalidTable", (PySem.W.fnOf "__init__" "InvalidTable.__init__" (defArgs (inS 2 0)) (defBody (inS 2 0)) (defScope (inS 2 0)) .none xkV_InvalidTable xdc_InvalidTable xpm_InvalidTable xan_InvalidTable xcd_InvalidTable xct_InvalidTable)), ("MissingColumn", (PySem.W.fnOf "__init__" "MissingColumn.__init__" (defArgs (inS 15 0)) (defBody (inS 15 0)) (defScope (inS 15 0)) .none xkV_MissingColumn xdc_MissingColumn xpm_MissingColumn xan_MissingColumn xcd_MissingColumn xct_MissingColumn)), ("InvalidProgram", (PySem.W.fnOf "__init__" "InvalidProgram.__init__" (defArgs (inS 5 0)) (defBody (inS 5 0)) (defScope (inS 5 0)) .none xkV_InvalidProgram xdc_InvalidProgram xpm_InvalidProgram xan_InvalidProgram xcd_InvalidProgram xct_InvalidProgram))] (PySem.W.fnOf "__init__" "InvalidTable.__init__" (defArgs (inS 2 0)) (defBody (inS 2 0)) (defScope (inS 2 0)) .none xkV_InvalidTable xdc_InvalidTable xpm_InvalidTable xan_InvalidTable xcd_InvalidTable xct_InvalidTable)
  cP_sorted_places := (c_sorted_places, P_sorted_places)
  tb_sorted_places := tbx_sorted_places
  cd_sorted_places := (show cd16 = .ref c_sorted_places from cq_sorted_places)
  lb_sorted_places := lbx_sorted_places
  lu_sorted_places := lux_sorted_places
theorem all_mk {l : PySem.W.OpenLaw} {w : World} {K : PySem.W.Frag} {h : Heap} {mg : Str → Option Value} {fa : Addr} (X : K.In h) (G : h.Ns mainGlobals mg) (hfa : mg "law" = some (.ref fa))
    {f0 : Addr} {od0 an0 : Option Addr} {sl0 : Array (Option Value)} {oc0 kV0 dc0 pm0 cd0 ct0 : Value}
    {f1 : Addr} {od1 an1 : Option Addr} {sl1 : Array (Option Value)} {oc1 kV1 dc1 pm1 cd1 ct1 : Value}
    {f2 : Addr} {od2 an2 : Option Addr} {sl2 : Array (Option Value)} {oc2 kV2 dc2 pm2 cd2 ct2 : Value}
    {f3 : Addr} {od3 an3 : Option Addr} {sl3 : Array (Option Value)} {oc3 kV3 dc3 pm3 cd3 ct3 : Value}
    {f4 : Addr} {od4 an4 : Option Addr} {sl4 : Array (Option Value)} {oc4 kV4 dc4 pm4 cd4 ct4 : Value}
    {f5 : Addr} {od5 an5 : Option Addr} {sl5 : Array (Option Value)} {oc5 kV5 dc5 pm5 cd5 ct5 : Value}
    {f6 : Addr} {od6 an6 : Option Addr} {sl6 : Array (Option Value)} {oc6 kV6 dc6 pm6 cd6 ct6 : Value}
    {f7 : Addr} {od7 an7 : Option Addr} {sl7 : Array (Option Value)} {oc7 kV7 dc7 pm7 cd7 ct7 : Value}
    {f8 : Addr} {od8 an8 : Option Addr} {sl8 : Array (Option Value)} {oc8 kV8 dc8 pm8 cd8 ct8 : Value}
    {f9 : Addr} {od9 an9 : Option Addr} {sl9 : Array (Option Value)} {oc9 kV9 dc9 pm9 cd9 ct9 : Value}
    {f10 : Addr} {od10 an10 : Option Addr} {sl10 : Array (Option Value)} {oc10 kV10 dc10 pm10 cd10 ct10 : Value}
    {f11 : Addr} {od11 an11 : Option Addr} {sl11 : Array (Option Value)} {oc11 kV11 dc11 pm11 cd11 ct11 : Value}
    {f12 : Addr} {od12 an12 : Option Addr} {sl12 : Array (Option Value)} {oc12 kV12 dc12 pm12 cd12 ct12 : Value}
    {f13 : Addr} {od13 an13 : Option Addr} {sl13 : Array (Option Value)} {oc13 kV13 dc13 pm13 cd13 ct13 : Value}
    {f14 : Addr} {od14 an14 : Option Addr} {sl14 : Array (Option Value)} {oc14 kV14 dc14 pm14 cd14 ct14 : Value}
    {f15 : Addr} {od15 an15 : Option Addr} {sl15 : Array (Option Value)} {oc15 kV15 dc15 pm15 cd15 ct15 : Value}
    {f16 : Addr} {od16 an16 : Option Addr} {sl16 : Array (Option Value)} {oc16 kV16 dc16 pm16 cd16 ct16 : Value}
    {f17 : Addr} {od17 an17 : Option Addr} {sl17 : Array (Option Value)} {oc17 kV17 dc17 pm17 cd17 ct17 : Value}
    {f18 : Addr} {od18 an18 : Option Addr} {sl18 : Array (Option Value)} {oc18 kV18 dc18 pm18 cd18 ct18 : Value}
    {f19 : Addr} {od19 an19 : Option Addr} {sl19 : Array (Option Value)} {oc19 kV19 dc19 pm19 cd19 ct19 : Value}
    {f20 : Addr} {od20 an20 : Option Addr} {sl20 : Array (Option Value)} {oc20 kV20 dc20 pm20 cd20 ct20 : Value}
    {f21 : Addr} {od21 an21 : Option Addr} {sl21 : Array (Option Value)} {oc21 kV21 dc21 pm21 cd21 ct21 : Value}
    {f22 : Addr} {od22 an22 : Option Addr} {sl22 : Array (Option Value)} {oc22 kV22 dc22 pm22 cd22 ct22 : Value}
    {f23 : Addr} {od23 an23 : Option Addr} {sl23 : Array (Option Value)} {oc23 kV23 dc23 pm23 cd23 ct23 : Value}
    {f24 : Addr} {od24 an24 : Option Addr} {sl24 : Array (Option Value)} {oc24 kV24 dc24 pm24 cd24 ct24 : Value}
    {f25 : Addr} {od25 an25 : Option Addr} {sl25 : Array (Option Value)} {oc25 kV25 dc25 pm25 cd25 ct25 : Value}
    {f26 : Addr} {od26 an26 : Option Addr} {sl26 : Array (Option Value)} {oc26 kV26 dc26 pm26 cd26 ct26 : Value}
    {f27 : Addr} {od27 an27 : Option Addr} {sl27 : Array (Option Value)} {oc27 kV27 dc27 pm27 cd27 ct27 : Value}
    {f28 : Addr} {od28 an28 : Option Addr} {sl28 : Array (Option Value)} {oc28 kV28 dc28 pm28 cd28 ct28 : Value}
    {f29 : Addr} {od29 an29 : Option Addr} {sl29 : Array (Option Value)} {oc29 kV29 dc29 pm29 cd29 ct29 : Value}
    {f30 : Addr} {od30 an30 : Option Addr} {sl30 : Array (Option Value)} {oc30 kV30 dc30 pm30 cd30 ct30 : Value}
    {f31 : Addr} {od31 an31 : Option Addr} {sl31 : Array (Option Value)} {oc31 kV31 dc31 pm31 cd31 ct31 : Value}
    {f32 : Addr} {od32 an32 : Option Addr} {sl32 : Array (Option Value)} {oc32 kV32 dc32 pm32 cd32 ct32 : Value}
    {f33 : Addr} {od33 an33 : Option Addr} {sl33 : Array (Option Value)} {oc33 kV33 dc33 pm33 cd33 ct33 : Value}
    {f34 : Addr} {od34 an34 : Option Addr} {sl34 : Array (Option Value)} {oc34 kV34 dc34 pm34 cd34 ct34 : Value}
    {f35 : Addr} {od35 an35 : Option Addr} {sl35 : Array (Option Value)} {oc35 kV35 dc35 pm35 cd35 ct35 : Value}
    {f36 : Addr} {od36 an36 : Option Addr} {sl36 : Array (Option Value)} {oc36 kV36 dc36 pm36 cd36 ct36 : Value}
    {f37 : Addr} {od37 an37 : Option Addr} {sl37 : Array (Option Value)} {oc37 kV37 dc37 pm37 cd37 ct37 : Value}
    {f38 : Addr} {od38 an38 : Option Addr} {sl38 : Array (Option Value)} {oc38 kV38 dc38 pm38 cd38 ct38 : Value}
    {f39 : Addr} {od39 an39 : Option Addr} {sl39 : Array (Option Value)} {oc39 kV39 dc39 pm39 cd39 ct39 : Value}
    {f40 : Addr} {od40 an40 : Option Addr} {sl40 : Array (Option Value)} {oc40 kV40 dc40 pm40 cd40 ct40 : Value}
    {f41 : Addr} {od41 an41 : Option Addr} {sl41 : Array (Option Value)} {oc41 kV41 dc41 pm41 cd41 ct41 : Value}
    {f42 : Addr} {od42 an42 : Option Addr} {sl42 : Array (Option Value)} {oc42 kV42 dc42 pm42 cd42 ct42 : Value}
    {f43 : Addr} {od43 an43 : Option Addr} {sl43 : Array (Option Value)} {oc43 kV43 dc43 pm43 cd43 ct43 : Value}
    {f44 : Addr} {od44 an44 : Option Addr} {sl44 : Array (Option Value)} {oc44 kV44 dc44 pm44 cd44 ct44 : Value}
    {f45 : Addr} {od45 an45 : Option Addr} {sl45 : Array (Option Value)} {oc45 kV45 dc45 pm45 cd45 ct45 : Value}
    {f46 : Addr} {od46 an46 : Option Addr} {sl46 : Array (Option Value)} {oc46 kV46 dc46 pm46 cd46 ct46 : Value}
    {f47 : Addr} {od47 an47 : Option Addr} {sl47 : Array (Option Value)} {oc47 kV47 dc47 pm47 cd47 ct47 : Value}
    {f48 : Addr} {od48 an48 : Option Addr} {sl48 : Array (Option Value)} {oc48 kV48 dc48 pm48 cd48 ct48 : Value}
    {f49 : Addr} {od49 an49 : Option Addr} {sl49 : Array (Option Value)} {oc49 kV49 dc49 pm49 cd49 ct49 : Value}
    {f50 : Addr} {od50 an50 : Option Addr} {sl50 : Array (Option Value)} {oc50 kV50 dc50 pm50 cd50 ct50 : Value}
    {f51 : Addr} {od51 an51 : Option Addr} {sl51 : Array (Option Value)} {oc51 kV51 dc51 pm51 cd51 ct51 : Value}
    {f52 : Addr} {od52 an52 : Option Addr} {sl52 : Array (Option Value)} {oc52 kV52 dc52 pm52 cd52 ct52 : Value}
    {f53 : Addr} {od53 an53 : Option Addr} {sl53 : Array (Option Value)} {oc53 kV53 dc53 pm53 cd53 ct53 : Value}
    {f54 : Addr} {od54 an54 : Option Addr} {sl54 : Array (Option Value)} {oc54 kV54 dc54 pm54 cd54 ct54 : Value}
    {f55 : Addr} {od55 an55 : Option Addr} {sl55 : Array (Option Value)} {oc55 kV55 dc55 pm55 cd55 ct55 : Value}
    {f56 : Addr} {od56 an56 : Option Addr} {sl56 : Array (Option Value)} {oc56 kV56 dc56 pm56 cd56 ct56 : Value}
    {C_InvalidTable : Addr}
    {C_MissingColumn : Addr}
    {C_InvalidProgram : Addr}
    {C_TableError : Addr}
    {C_FindError : Addr}
    {C_LimitError : Addr}
    {C_LastRecord : Addr}
    {C_TooManyEdits : Addr}
    {C_TooManyRecords : Addr}
    {C_NothingToUndo : Addr}
    {C_NoPlace : Addr}
    {C_InvalidCommand : Addr}
    {C_InvalidEdit : Addr}
    {C_InvalidValue : Addr}
    {C_InvalidRecord : Addr}
    {C_InvalidLimit : Addr}
    {C_InvalidText : Addr}
    {C_InvalidPlaces : Addr}
    {C_InvalidNumber : Addr}
    {C_InvalidOrder : Addr}
    {C_InvalidColumns : Addr}
    {FI_InvalidTable : Addr} {xod_InvalidTable xan_InvalidTable : Option Addr} {xsl_InvalidTable : Array (Option Value)} {xoc_InvalidTable xkV_InvalidTable xdc_InvalidTable xpm_InvalidTable xcd_InvalidTable xct_InvalidTable : Value}
    {FI_MissingColumn : Addr} {xod_MissingColumn xan_MissingColumn : Option Addr} {xsl_MissingColumn : Array (Option Value)} {xoc_MissingColumn xkV_MissingColumn xdc_MissingColumn xpm_MissingColumn xcd_MissingColumn xct_MissingColumn : Value}
    {FI_InvalidProgram : Addr} {xod_InvalidProgram xan_InvalidProgram : Option Addr} {xsl_InvalidProgram : Array (Option Value)} {xoc_InvalidProgram xkV_InvalidProgram xdc_InvalidProgram xpm_InvalidProgram xcd_InvalidProgram xct_InvalidProgram : Value}
    {c_sorted_places P_sorted_places : Addr} {moc_sorted_places : Value} {mod_sorted_places : Option Addr} {mvs_sorted_places : Array Value} {msl_sorted_places : Array (Option Value)}
    (a0 : PySem.W.nsIn K mainGlobals "is_integer" = some (some (.ref f0))) (l0 : K.lookup f0 = some ⟨oc0, od0, .func (PySem.W.fnOf "is_integer" "is_integer" (defArgs (topS 30)) (defBody (topS 30)) (defScope (topS 30)) .none kV0 dc0 pm0 an0 cd0 ct0), sl0⟩) (c0 : PySem.W.codeIn K cd0 "is_integer" = true) (k0 : PySem.W.keepIn K (.ref f0) = true)
    (a1 : PySem.W.nsIn K mainGlobals "is_record" = some (some (.ref f1))) (l1 : K.lookup f1 = some ⟨oc1, od1, .func (PySem.W.fnOf "is_record" "is_record" (defArgs (topS 31)) (defBody (topS 31)) (defScope (topS 31)) .none kV1 dc1 pm1 an1 cd1 ct1), sl1⟩) (c1 : PySem.W.codeIn K cd1 "is_record" = true) (k1 : PySem.W.keepIn K (.ref f1) = true)
    (a2 : PySem.W.nsIn K mainGlobals "check_table" = some (some (.ref f2))) (l2 : K.lookup f2 = some ⟨oc2, od2, .func (PySem.W.fnOf "check_table" "check_table" (defArgs (topS 32)) (defBody (topS 32)) (defScope (topS 32)) .none kV2 dc2 pm2 an2 cd2 ct2), sl2⟩) (c2 : PySem.W.codeIn K cd2 "check_table" = true) (k2 : PySem.W.keepIn K (.ref f2) = true)
    (a3 : PySem.W.nsIn K mainGlobals "count_columns" = some (some (.ref f3))) (l3 : K.lookup f3 = some ⟨oc3, od3, .func (PySem.W.fnOf "count_columns" "count_columns" (defArgs (topS 33)) (defBody (topS 33)) (defScope (topS 33)) .none kV3 dc3 pm3 an3 cd3 ct3), sl3⟩) (c3 : PySem.W.codeIn K cd3 "count_columns" = true) (k3 : PySem.W.keepIn K (.ref f3) = true)
    (a4 : PySem.W.nsIn K mainGlobals "every_place" = some (some (.ref f4))) (l4 : K.lookup f4 = some ⟨oc4, od4, .func (PySem.W.fnOf "every_place" "every_place" (defArgs (topS 34)) (defBody (topS 34)) (defScope (topS 34)) .none kV4 dc4 pm4 an4 cd4 ct4), sl4⟩) (c4 : PySem.W.codeIn K cd4 "every_place" = true) (k4 : PySem.W.keepIn K (.ref f4) = true)
    (a5 : PySem.W.nsIn K mainGlobals "records_at" = some (some (.ref f5))) (l5 : K.lookup f5 = some ⟨oc5, od5, .func (PySem.W.fnOf "records_at" "records_at" (defArgs (topS 35)) (defBody (topS 35)) (defScope (topS 35)) .none kV5 dc5 pm5 an5 cd5 ct5), sl5⟩) (c5 : PySem.W.codeIn K cd5 "records_at" = true) (k5 : PySem.W.keepIn K (.ref f5) = true)
    (a6 : PySem.W.nsIn K mainGlobals "check_columns_below" = some (some (.ref f6))) (l6 : K.lookup f6 = some ⟨oc6, od6, .func (PySem.W.fnOf "check_columns_below" "check_columns_below" (defArgs (topS 36)) (defBody (topS 36)) (defScope (topS 36)) .none kV6 dc6 pm6 an6 cd6 ct6), sl6⟩) (c6 : PySem.W.codeIn K cd6 "check_columns_below" = true) (k6 : PySem.W.keepIn K (.ref f6) = true)
    (a7 : PySem.W.nsIn K mainGlobals "is_word" = some (some (.ref f7))) (l7 : K.lookup f7 = some ⟨oc7, od7, .func (PySem.W.fnOf "is_word" "is_word" (defArgs (topS 39)) (defBody (topS 39)) (defScope (topS 39)) .none kV7 dc7 pm7 an7 cd7 ct7), sl7⟩) (c7 : PySem.W.codeIn K cd7 "is_word" = true) (k7 : PySem.W.keepIn K (.ref f7) = true)
    (a8 : PySem.W.nsIn K mainGlobals "is_pair" = some (some (.ref f8))) (l8 : K.lookup f8 = some ⟨oc8, od8, .func (PySem.W.fnOf "is_pair" "is_pair" (defArgs (topS 40)) (defBody (topS 40)) (defScope (topS 40)) .none kV8 dc8 pm8 an8 cd8 ct8), sl8⟩) (c8 : PySem.W.codeIn K cd8 "is_pair" = true) (k8 : PySem.W.keepIn K (.ref f8) = true)
    (a9 : PySem.W.nsIn K mainGlobals "is_sort_column" = some (some (.ref f9))) (l9 : K.lookup f9 = some ⟨oc9, od9, .func (PySem.W.fnOf "is_sort_column" "is_sort_column" (defArgs (topS 41)) (defBody (topS 41)) (defScope (topS 41)) .none kV9 dc9 pm9 an9 cd9 ct9), sl9⟩) (c9 : PySem.W.codeIn K cd9 "is_sort_column" = true) (k9 : PySem.W.keepIn K (.ref f9) = true)
    (a10 : PySem.W.nsIn K mainGlobals "is_key" = some (some (.ref f10))) (l10 : K.lookup f10 = some ⟨oc10, od10, .func (PySem.W.fnOf "is_key" "is_key" (defArgs (topS 42)) (defBody (topS 42)) (defScope (topS 42)) .none kV10 dc10 pm10 an10 cd10 ct10), sl10⟩) (c10 : PySem.W.codeIn K cd10 "is_key" = true) (k10 : PySem.W.keepIn K (.ref f10) = true)
    (a11 : PySem.W.nsIn K mainGlobals "is_place_part" = some (some (.ref f11))) (l11 : K.lookup f11 = some ⟨oc11, od11, .func (PySem.W.fnOf "is_place_part" "is_place_part" (defArgs (topS 43)) (defBody (topS 43)) (defScope (topS 43)) .none kV11 dc11 pm11 an11 cd11 ct11), sl11⟩) (c11 : PySem.W.codeIn K cd11 "is_place_part" = true) (k11 : PySem.W.keepIn K (.ref f11) = true)
    (a12 : PySem.W.nsIn K mainGlobals "check_order" = some (some (.ref f12))) (l12 : K.lookup f12 = some ⟨oc12, od12, .func (PySem.W.fnOf "check_order" "check_order" (defArgs (topS 44)) (defBody (topS 44)) (defScope (topS 44)) .none kV12 dc12 pm12 an12 cd12 ct12), sl12⟩) (c12 : PySem.W.codeIn K cd12 "check_order" = true) (k12 : PySem.W.keepIn K (.ref f12) = true)
    (a13 : PySem.W.nsIn K mainGlobals "opposite" = some (some (.ref f13))) (l13 : K.lookup f13 = some ⟨oc13, od13, .func (PySem.W.fnOf "opposite" "opposite" (defArgs (topS 45)) (defBody (topS 45)) (defScope (topS 45)) .none kV13 dc13 pm13 an13 cd13 ct13), sl13⟩) (c13 : PySem.W.codeIn K cd13 "opposite" = true) (k13 : PySem.W.keepIn K (.ref f13) = true)
    (a14 : PySem.W.nsIn K mainGlobals "turned" = some (some (.ref f14))) (l14 : K.lookup f14 = some ⟨oc14, od14, .func (PySem.W.fnOf "turned" "turned" (defArgs (topS 46)) (defBody (topS 46)) (defScope (topS 46)) .none kV14 dc14 pm14 an14 cd14 ct14), sl14⟩) (c14 : PySem.W.codeIn K cd14 "turned" = true) (k14 : PySem.W.keepIn K (.ref f14) = true)
    (a15 : PySem.W.nsIn K mainGlobals "sort_values" = some (some (.ref f15))) (l15 : K.lookup f15 = some ⟨oc15, od15, .func (PySem.W.fnOf "sort_values" "sort_values" (defArgs (topS 47)) (defBody (topS 47)) (defScope (topS 47)) .none kV15 dc15 pm15 an15 cd15 ct15), sl15⟩) (c15 : PySem.W.codeIn K cd15 "sort_values" = true) (k15 : PySem.W.keepIn K (.ref f15) = true)
    (a16 : PySem.W.nsIn K mainGlobals "sorted_places" = some (some (.ref f16))) (l16 : K.lookup f16 = some ⟨oc16, od16, .func (PySem.W.fnOf "sorted_places" "sorted_places" (defArgs (topS 48)) (defBody (topS 48)) (defScope (topS 48)) .none kV16 dc16 pm16 an16 cd16 ct16), sl16⟩) (c16 : PySem.W.codeIn K cd16 "sorted_places" = true) (k16 : PySem.W.keepIn K (.ref f16) = true)
    (a17 : PySem.W.nsIn K mainGlobals "is_size" = some (some (.ref f17))) (l17 : K.lookup f17 = some ⟨oc17, od17, .func (PySem.W.fnOf "is_size" "is_size" (defArgs (topS 53)) (defBody (topS 53)) (defScope (topS 53)) .none kV17 dc17 pm17 an17 cd17 ct17), sl17⟩) (c17 : PySem.W.codeIn K cd17 "is_size" = true) (k17 : PySem.W.keepIn K (.ref f17) = true)
    (a18 : PySem.W.nsIn K mainGlobals "is_times" = some (some (.ref f18))) (l18 : K.lookup f18 = some ⟨oc18, od18, .func (PySem.W.fnOf "is_times" "is_times" (defArgs (topS 54)) (defBody (topS 54)) (defScope (topS 54)) .none kV18 dc18 pm18 an18 cd18 ct18), sl18⟩) (c18 : PySem.W.codeIn K cd18 "is_times" = true) (k18 : PySem.W.keepIn K (.ref f18) = true)
    (a19 : PySem.W.nsIn K mainGlobals "is_plain_command" = some (some (.ref f19))) (l19 : K.lookup f19 = some ⟨oc19, od19, .func (PySem.W.fnOf "is_plain_command" "is_plain_command" (defArgs (topS 55)) (defBody (topS 55)) (defScope (topS 55)) .none kV19 dc19 pm19 an19 cd19 ct19), sl19⟩) (c19 : PySem.W.codeIn K cd19 "is_plain_command" = true) (k19 : PySem.W.keepIn K (.ref f19) = true)
    (a20 : PySem.W.nsIn K mainGlobals "begins_repeat" = some (some (.ref f20))) (l20 : K.lookup f20 = some ⟨oc20, od20, .func (PySem.W.fnOf "begins_repeat" "begins_repeat" (defArgs (topS 56)) (defBody (topS 56)) (defScope (topS 56)) .none kV20 dc20 pm20 an20 cd20 ct20), sl20⟩) (c20 : PySem.W.codeIn K cd20 "begins_repeat" = true) (k20 : PySem.W.keepIn K (.ref f20) = true)
    (a21 : PySem.W.nsIn K mainGlobals "room_behind" = some (some (.ref f21))) (l21 : K.lookup f21 = some ⟨oc21, od21, .func (PySem.W.fnOf "room_behind" "room_behind" (defArgs (topS 57)) (defBody (topS 57)) (defScope (topS 57)) .none kV21 dc21 pm21 an21 cd21 ct21), sl21⟩) (c21 : PySem.W.codeIn K cd21 "room_behind" = true) (k21 : PySem.W.keepIn K (.ref f21) = true)
    (a22 : PySem.W.nsIn K mainGlobals "room_behind_command" = some (some (.ref f22))) (l22 : K.lookup f22 = some ⟨oc22, od22, .func (PySem.W.fnOf "room_behind_command" "room_behind_command" (defArgs (topS 58)) (defBody (topS 58)) (defScope (topS 58)) .none kV22 dc22 pm22 an22 cd22 ct22), sl22⟩) (c22 : PySem.W.codeIn K cd22 "room_behind_command" = true) (k22 : PySem.W.keepIn K (.ref f22) = true)
    (a23 : PySem.W.nsIn K mainGlobals "check_program" = some (some (.ref f23))) (l23 : K.lookup f23 = some ⟨oc23, od23, .func (PySem.W.fnOf "check_program" "check_program" (defArgs (topS 59)) (defBody (topS 59)) (defScope (topS 59)) .none kV23 dc23 pm23 an23 cd23 ct23), sl23⟩) (c23 : PySem.W.codeIn K cd23 "check_program" = true) (k23 : PySem.W.keepIn K (.ref f23) = true)
    (a24 : PySem.W.nsIn K mainGlobals "count_performed" = some (some (.ref f24))) (l24 : K.lookup f24 = some ⟨oc24, od24, .func (PySem.W.fnOf "count_performed" "count_performed" (defArgs (topS 60)) (defBody (topS 60)) (defScope (topS 60)) .none kV24 dc24 pm24 an24 cd24 ct24), sl24⟩) (c24 : PySem.W.codeIn K cd24 "count_performed" = true) (k24 : PySem.W.keepIn K (.ref f24) = true)
    (a25 : PySem.W.nsIn K mainGlobals "count_commands" = some (some (.ref f25))) (l25 : K.lookup f25 = some ⟨oc25, od25, .func (PySem.W.fnOf "count_commands" "count_commands" (defArgs (topS 61)) (defBody (topS 61)) (defScope (topS 61)) .none kV25 dc25 pm25 an25 cd25 ct25), sl25⟩) (c25 : PySem.W.codeIn K cd25 "count_commands" = true) (k25 : PySem.W.keepIn K (.ref f25) = true)
    (a26 : PySem.W.nsIn K mainGlobals "program_columns" = some (some (.ref f26))) (l26 : K.lookup f26 = some ⟨oc26, od26, .func (PySem.W.fnOf "program_columns" "program_columns" (defArgs (topS 62)) (defBody (topS 62)) (defScope (topS 62)) .none kV26 dc26 pm26 an26 cd26 ct26), sl26⟩) (c26 : PySem.W.codeIn K cd26 "program_columns" = true) (k26 : PySem.W.keepIn K (.ref f26) = true)
    (a27 : PySem.W.nsIn K mainGlobals "sorted_first" = some (some (.ref f27))) (l27 : K.lookup f27 = some ⟨oc27, od27, .func (PySem.W.fnOf "sorted_first" "sorted_first" (defArgs (topS 65)) (defBody (topS 65)) (defScope (topS 65)) .none kV27 dc27 pm27 an27 cd27 ct27), sl27⟩) (c27 : PySem.W.codeIn K cd27 "sorted_first" = true) (k27 : PySem.W.keepIn K (.ref f27) = true)
    (a28 : PySem.W.nsIn K mainGlobals "after_plain" = some (some (.ref f28))) (l28 : K.lookup f28 = some ⟨oc28, od28, .func (PySem.W.fnOf "after_plain" "after_plain" (defArgs (topS 66)) (defBody (topS 66)) (defScope (topS 66)) .none kV28 dc28 pm28 an28 cd28 ct28), sl28⟩) (c28 : PySem.W.codeIn K cd28 "after_plain" = true) (k28 : PySem.W.keepIn K (.ref f28) = true)
    (a29 : PySem.W.nsIn K mainGlobals "picks_of_plain" = some (some (.ref f29))) (l29 : K.lookup f29 = some ⟨oc29, od29, .func (PySem.W.fnOf "picks_of_plain" "picks_of_plain" (defArgs (topS 67)) (defBody (topS 67)) (defScope (topS 67)) .none kV29 dc29 pm29 an29 cd29 ct29), sl29⟩) (c29 : PySem.W.codeIn K cd29 "picks_of_plain" = true) (k29 : PySem.W.keepIn K (.ref f29) = true)
    (a30 : PySem.W.nsIn K mainGlobals "after_repeat" = some (some (.ref f30))) (l30 : K.lookup f30 = some ⟨oc30, od30, .func (PySem.W.fnOf "after_repeat" "after_repeat" (defArgs (topS 68)) (defBody (topS 68)) (defScope (topS 68)) .none kV30 dc30 pm30 an30 cd30 ct30), sl30⟩) (c30 : PySem.W.codeIn K cd30 "after_repeat" = true) (k30 : PySem.W.keepIn K (.ref f30) = true)
    (a31 : PySem.W.nsIn K mainGlobals "after_command" = some (some (.ref f31))) (l31 : K.lookup f31 = some ⟨oc31, od31, .func (PySem.W.fnOf "after_command" "after_command" (defArgs (topS 69)) (defBody (topS 69)) (defScope (topS 69)) .none kV31 dc31 pm31 an31 cd31 ct31), sl31⟩) (c31 : PySem.W.codeIn K cd31 "after_command" = true) (k31 : PySem.W.keepIn K (.ref f31) = true)
    (a32 : PySem.W.nsIn K mainGlobals "after_program" = some (some (.ref f32))) (l32 : K.lookup f32 = some ⟨oc32, od32, .func (PySem.W.fnOf "after_program" "after_program" (defArgs (topS 70)) (defBody (topS 70)) (defScope (topS 70)) .none kV32 dc32 pm32 an32 cd32 ct32), sl32⟩) (c32 : PySem.W.codeIn K cd32 "after_program" = true) (k32 : PySem.W.keepIn K (.ref f32) = true)
    (a33 : PySem.W.nsIn K mainGlobals "check_run" = some (some (.ref f33))) (l33 : K.lookup f33 = some ⟨oc33, od33, .func (PySem.W.fnOf "check_run" "check_run" (defArgs (topS 72)) (defBody (topS 72)) (defScope (topS 72)) .none kV33 dc33 pm33 an33 cd33 ct33), sl33⟩) (c33 : PySem.W.codeIn K cd33 "check_run" = true) (k33 : PySem.W.keepIn K (.ref f33) = true)
    (a34 : PySem.W.nsIn K mainGlobals "picked" = some (some (.ref f34))) (l34 : K.lookup f34 = some ⟨oc34, od34, .func (PySem.W.fnOf "picked" "picked" (defArgs (topS 73)) (defBody (topS 73)) (defScope (topS 73)) .none kV34 dc34 pm34 an34 cd34 ct34), sl34⟩) (c34 : PySem.W.codeIn K cd34 "picked" = true) (k34 : PySem.W.keepIn K (.ref f34) = true)
    (a35 : PySem.W.nsIn K mainGlobals "run_places" = some (some (.ref f35))) (l35 : K.lookup f35 = some ⟨oc35, od35, .func (PySem.W.fnOf "run_places" "run_places" (defArgs (topS 74)) (defBody (topS 74)) (defScope (topS 74)) .none kV35 dc35 pm35 an35 cd35 ct35), sl35⟩) (c35 : PySem.W.codeIn K cd35 "run_places" = true) (k35 : PySem.W.keepIn K (.ref f35) = true)
    (a36 : PySem.W.nsIn K mainGlobals "run" = some (some (.ref f36))) (l36 : K.lookup f36 = some ⟨oc36, od36, .func (PySem.W.fnOf "run" "run" (defArgs (topS 75)) (defBody (topS 75)) (defScope (topS 75)) .none kV36 dc36 pm36 an36 cd36 ct36), sl36⟩) (c36 : PySem.W.codeIn K cd36 "run" = true) (k36 : PySem.W.keepIn K (.ref f36) = true)
    (a37 : PySem.W.nsIn K mainGlobals "each_table" = some (some (.ref f37))) (l37 : K.lookup f37 = some ⟨oc37, od37, .func (PySem.W.fnOf "each_table" "each_table" (defArgs (topS 76)) (defBody (topS 76)) (defScope (topS 76)) .none kV37 dc37 pm37 an37 cd37 ct37), sl37⟩) (c37 : PySem.W.codeIn K cd37 "each_table" = true) (k37 : PySem.W.keepIn K (.ref f37) = true)
    (a38 : PySem.W.nsIn K mainGlobals "written_command" = some (some (.ref f38))) (l38 : K.lookup f38 = some ⟨oc38, od38, .func (PySem.W.fnOf "written_command" "written_command" (defArgs (topS 78)) (defBody (topS 78)) (defScope (topS 78)) .none kV38 dc38 pm38 an38 cd38 ct38), sl38⟩) (c38 : PySem.W.codeIn K cd38 "written_command" = true) (k38 : PySem.W.keepIn K (.ref f38) = true)
    (a39 : PySem.W.nsIn K mainGlobals "format_program" = some (some (.ref f39))) (l39 : K.lookup f39 = some ⟨oc39, od39, .func (PySem.W.fnOf "format_program" "format_program" (defArgs (topS 79)) (defBody (topS 79)) (defScope (topS 79)) .none kV39 dc39 pm39 an39 cd39 ct39), sl39⟩) (c39 : PySem.W.codeIn K cd39 "format_program" = true) (k39 : PySem.W.keepIn K (.ref f39) = true)
    (a40 : PySem.W.nsIn K mainGlobals "_law_cell" = some (some (.ref f40))) (l40 : K.lookup f40 = some ⟨oc40, od40, .func (PySem.W.fnOf "_law_cell" "_law_cell" (defArgs (topS 81)) (defBody (topS 81)) (defScope (topS 81)) .none kV40 dc40 pm40 an40 cd40 ct40), sl40⟩) (c40 : PySem.W.codeIn K cd40 "_law_cell" = true) (k40 : PySem.W.keepIn K (.ref f40) = true)
    (a41 : PySem.W.nsIn K mainGlobals "_law_pool" = some (some (.ref f41))) (l41 : K.lookup f41 = some ⟨oc41, od41, .func (PySem.W.fnOf "_law_pool" "_law_pool" (defArgs (topS 82)) (defBody (topS 82)) (defScope (topS 82)) .none kV41 dc41 pm41 an41 cd41 ct41), sl41⟩) (c41 : PySem.W.codeIn K cd41 "_law_pool" = true) (k41 : PySem.W.keepIn K (.ref f41) = true)
    (a42 : PySem.W.nsIn K mainGlobals "_law_draw" = some (some (.ref f42))) (l42 : K.lookup f42 = some ⟨oc42, od42, .func (PySem.W.fnOf "_law_draw" "_law_draw" (defArgs (topS 83)) (defBody (topS 83)) (defScope (topS 83)) .none kV42 dc42 pm42 an42 cd42 ct42), sl42⟩) (c42 : PySem.W.codeIn K cd42 "_law_draw" = true) (k42 : PySem.W.keepIn K (.ref f42) = true)
    (a43 : PySem.W.nsIn K mainGlobals "_law_table" = some (some (.ref f43))) (l43 : K.lookup f43 = some ⟨oc43, od43, .func (PySem.W.fnOf "_law_table" "_law_table" (defArgs (topS 84)) (defBody (topS 84)) (defScope (topS 84)) .none kV43 dc43 pm43 an43 cd43 ct43), sl43⟩) (c43 : PySem.W.codeIn K cd43 "_law_table" = true) (k43 : PySem.W.keepIn K (.ref f43) = true)
    (a44 : PySem.W.nsIn K mainGlobals "_law_steps" = some (some (.ref f44))) (l44 : K.lookup f44 = some ⟨oc44, od44, .func (PySem.W.fnOf "_law_steps" "_law_steps" (defArgs (topS 85)) (defBody (topS 85)) (defScope (topS 85)) .none kV44 dc44 pm44 an44 cd44 ct44), sl44⟩) (c44 : PySem.W.codeIn K cd44 "_law_steps" = true) (k44 : PySem.W.keepIn K (.ref f44) = true)
    (a45 : PySem.W.nsIn K mainGlobals "_law_program" = some (some (.ref f45))) (l45 : K.lookup f45 = some ⟨oc45, od45, .func (PySem.W.fnOf "_law_program" "_law_program" (defArgs (topS 86)) (defBody (topS 86)) (defScope (topS 86)) .none kV45 dc45 pm45 an45 cd45 ct45), sl45⟩) (c45 : PySem.W.codeIn K cd45 "_law_program" = true) (k45 : PySem.W.keepIn K (.ref f45) = true)
    (a46 : PySem.W.nsIn K mainGlobals "_law_kind" = some (some (.ref f46))) (l46 : K.lookup f46 = some ⟨oc46, od46, .func (PySem.W.fnOf "_law_kind" "_law_kind" (defArgs (topS 87)) (defBody (topS 87)) (defScope (topS 87)) .none kV46 dc46 pm46 an46 cd46 ct46), sl46⟩) (c46 : PySem.W.codeIn K cd46 "_law_kind" = true) (k46 : PySem.W.keepIn K (.ref f46) = true)
    (a47 : PySem.W.nsIn K mainGlobals "_law_whole" = some (some (.ref f47))) (l47 : K.lookup f47 = some ⟨oc47, od47, .func (PySem.W.fnOf "_law_whole" "_law_whole" (defArgs (topS 88)) (defBody (topS 88)) (defScope (topS 88)) .none kV47 dc47 pm47 an47 cd47 ct47), sl47⟩) (c47 : PySem.W.codeIn K cd47 "_law_whole" = true) (k47 : PySem.W.keepIn K (.ref f47) = true)
    (a48 : PySem.W.nsIn K mainGlobals "_law_counted" = some (some (.ref f48))) (l48 : K.lookup f48 = some ⟨oc48, od48, .func (PySem.W.fnOf "_law_counted" "_law_counted" (defArgs (topS 89)) (defBody (topS 89)) (defScope (topS 89)) .none kV48 dc48 pm48 an48 cd48 ct48), sl48⟩) (c48 : PySem.W.codeIn K cd48 "_law_counted" = true) (k48 : PySem.W.keepIn K (.ref f48) = true)
    (a49 : PySem.W.nsIn K mainGlobals "_law_first_bad" = some (some (.ref f49))) (l49 : K.lookup f49 = some ⟨oc49, od49, .func (PySem.W.fnOf "_law_first_bad" "_law_first_bad" (defArgs (topS 90)) (defBody (topS 90)) (defScope (topS 90)) .none kV49 dc49 pm49 an49 cd49 ct49), sl49⟩) (c49 : PySem.W.codeIn K cd49 "_law_first_bad" = true) (k49 : PySem.W.keepIn K (.ref f49) = true)
    (a50 : PySem.W.nsIn K mainGlobals "_law_bent" = some (some (.ref f50))) (l50 : K.lookup f50 = some ⟨oc50, od50, .func (PySem.W.fnOf "_law_bent" "_law_bent" (defArgs (topS 91)) (defBody (topS 91)) (defScope (topS 91)) .none kV50 dc50 pm50 an50 cd50 ct50), sl50⟩) (c50 : PySem.W.codeIn K cd50 "_law_bent" = true) (k50 : PySem.W.keepIn K (.ref f50) = true)
    (a51 : PySem.W.nsIn K mainGlobals "_law_sides" = some (some (.ref f51))) (l51 : K.lookup f51 = some ⟨oc51, od51, .func (PySem.W.fnOf "_law_sides" "_law_sides" (defArgs (topS 92)) (defBody (topS 92)) (defScope (topS 92)) .none kV51 dc51 pm51 an51 cd51 ct51), sl51⟩) (c51 : PySem.W.codeIn K cd51 "_law_sides" = true) (k51 : PySem.W.keepIn K (.ref f51) = true)
    (a52 : PySem.W.nsIn K mainGlobals "_law_asked" = some (some (.ref f52))) (l52 : K.lookup f52 = some ⟨oc52, od52, .func (PySem.W.fnOf "_law_asked" "_law_asked" (defArgs (topS 93)) (defBody (topS 93)) (defScope (topS 93)) .none kV52 dc52 pm52 an52 cd52 ct52), sl52⟩) (c52 : PySem.W.codeIn K cd52 "_law_asked" = true) (k52 : PySem.W.keepIn K (.ref f52) = true)
    (a53 : PySem.W.nsIn K mainGlobals "_law_table_bad" = some (some (.ref f53))) (l53 : K.lookup f53 = some ⟨oc53, od53, .func (PySem.W.fnOf "_law_table_bad" "_law_table_bad" (defArgs (topS 94)) (defBody (topS 94)) (defScope (topS 94)) .none kV53 dc53 pm53 an53 cd53 ct53), sl53⟩) (c53 : PySem.W.codeIn K cd53 "_law_table_bad" = true) (k53 : PySem.W.keepIn K (.ref f53) = true)
    (a54 : PySem.W.nsIn K mainGlobals "_law_told_right" = some (some (.ref f54))) (l54 : K.lookup f54 = some ⟨oc54, od54, .func (PySem.W.fnOf "_law_told_right" "_law_told_right" (defArgs (topS 95)) (defBody (topS 95)) (defScope (topS 95)) .none kV54 dc54 pm54 an54 cd54 ct54), sl54⟩) (c54 : PySem.W.codeIn K cd54 "_law_told_right" = true) (k54 : PySem.W.keepIn K (.ref f54) = true)
    (a55 : PySem.W.nsIn K mainGlobals "_law_right" = some (some (.ref f55))) (l55 : K.lookup f55 = some ⟨oc55, od55, .func (PySem.W.fnOf "_law_right" "_law_right" (defArgs (topS 96)) (defBody (topS 96)) (defScope (topS 96)) .none kV55 dc55 pm55 an55 cd55 ct55), sl55⟩) (c55 : PySem.W.codeIn K cd55 "_law_right" = true) (k55 : PySem.W.keepIn K (.ref f55) = true)
    (a56 : PySem.W.nsIn K mainGlobals "law" = some (some (.ref f56))) (l56 : K.lookup f56 = some ⟨oc56, od56, .func (PySem.W.fnOf "law" "law" (defArgs (topS 97)) (defBody (topS 97)) (defScope (topS 97)) .none kV56 dc56 pm56 an56 cd56 ct56), sl56⟩) (c56 : PySem.W.codeIn K cd56 "law" = true) (k56 : PySem.W.keepIn K (.ref f56) = true)
    (n_ArithmeticError : PySem.W.nsIn K mainGlobals "ArithmeticError" = some none)
    (n_LookupError : PySem.W.nsIn K mainGlobals "LookupError" = some none)
    (n_ValueError : PySem.W.nsIn K mainGlobals "ValueError" = some none)
    (n_abs : PySem.W.nsIn K mainGlobals "abs" = some none)
    (n_all : PySem.W.nsIn K mainGlobals "all" = some none)
    (n_bool : PySem.W.nsIn K mainGlobals "bool" = some none)
    (n_divmod : PySem.W.nsIn K mainGlobals "divmod" = some none)
    (n_enumerate : PySem.W.nsIn K mainGlobals "enumerate" = some none)
    (n_int : PySem.W.nsIn K mainGlobals "int" = some none)
    (n_isinstance : PySem.W.nsIn K mainGlobals "isinstance" = some none)
    (n_len : PySem.W.nsIn K mainGlobals "len" = some none)
    (n_list : PySem.W.nsIn K mainGlobals "list" = some none)
    (n_max : PySem.W.nsIn K mainGlobals "max" = some none)
    (n_min : PySem.W.nsIn K mainGlobals "min" = some none)
    (n_range : PySem.W.nsIn K mainGlobals "range" = some none)
    (n_repr : PySem.W.nsIn K mainGlobals "repr" = some none)
    (n_set : PySem.W.nsIn K mainGlobals "set" = some none)
    (n_sorted : PySem.W.nsIn K mainGlobals "sorted" = some none)
    (n_str : PySem.W.nsIn K mainGlobals "str" = some none)
    (n_sum : PySem.W.nsIn K mainGlobals "sum" = some none)
    (n_tuple : PySem.W.nsIn K mainGlobals "tuple" = some none)
    (c_MOST_COLUMNS : ∀ [LabW], ∃ uv : Value × V, mg "MOST_COLUMNS" = some uv.1 ∧ RelV uv.2 uv.1 ∧ ∀ Z, DD K Z uv.2 cv_MOST_COLUMNS)
    (c_MOST_RECORDS : ∀ [LabW], ∃ uv : Value × V, mg "MOST_RECORDS" = some uv.1 ∧ RelV uv.2 uv.1 ∧ ∀ Z, DD K Z uv.2 cv_MOST_RECORDS)
    (c_MOST_KEYS : ∀ [LabW], ∃ uv : Value × V, mg "MOST_KEYS" = some uv.1 ∧ RelV uv.2 uv.1 ∧ ∀ Z, DD K Z uv.2 cv_MOST_KEYS)
    (c_DIRECTIONS : ∀ [LabW], ∃ uv : Value × V, mg "DIRECTIONS" = some uv.1 ∧ RelV uv.2 uv.1 ∧ ∀ Z, DD K Z uv.2 cv_DIRECTIONS)
    (c_LEAST_SIZE : ∀ [LabW], ∃ uv : Value × V, mg "LEAST_SIZE" = some uv.1 ∧ RelV uv.2 uv.1 ∧ ∀ Z, DD K Z uv.2 cv_LEAST_SIZE)
    (c_MOST_SIZE : ∀ [LabW], ∃ uv : Value × V, mg "MOST_SIZE" = some uv.1 ∧ RelV uv.2 uv.1 ∧ ∀ Z, DD K Z uv.2 cv_MOST_SIZE)
    (c_MOST_TIMES : ∀ [LabW], ∃ uv : Value × V, mg "MOST_TIMES" = some uv.1 ∧ RelV uv.2 uv.1 ∧ ∀ Z, DD K Z uv.2 cv_MOST_TIMES)
    (c_CUTS : ∀ [LabW], ∃ uv : Value × V, mg "CUTS" = some uv.1 ∧ RelV uv.2 uv.1 ∧ ∀ Z, DD K Z uv.2 cv_CUTS)
    (c_BARE_WORDS : ∀ [LabW], ∃ uv : Value × V, mg "BARE_WORDS" = some uv.1 ∧ RelV uv.2 uv.1 ∧ ∀ Z, DD K Z uv.2 cv_BARE_WORDS)
    (c_MOST_NESTED : ∀ [LabW], ∃ uv : Value × V, mg "MOST_NESTED" = some uv.1 ∧ RelV uv.2 uv.1 ∧ ∀ Z, DD K Z uv.2 cv_MOST_NESTED)
    (c_MOST_COMMANDS : ∀ [LabW], ∃ uv : Value × V, mg "MOST_COMMANDS" = some uv.1 ∧ RelV uv.2 uv.1 ∧ ∀ Z, DD K Z uv.2 cv_MOST_COMMANDS)
    (c_START : ∀ [LabW], ∃ uv : Value × V, mg "START" = some uv.1 ∧ RelV uv.2 uv.1 ∧ ∀ Z, DD K Z uv.2 cv_START)
    (xa_InvalidTable : PySem.W.nsIn K mainGlobals "InvalidTable" = some (some (.ref C_InvalidTable)))
    (xa_MissingColumn : PySem.W.nsIn K mainGlobals "MissingColumn" = some (some (.ref C_MissingColumn)))
    (xa_InvalidProgram : PySem.W.nsIn K mainGlobals "InvalidProgram" = some (some (.ref C_InvalidProgram)))
    (xa_TableError : PySem.W.nsIn K mainGlobals "TableError" = some (some (.ref C_TableError)))
    (xa_FindError : PySem.W.nsIn K mainGlobals "FindError" = some (some (.ref C_FindError)))
    (xa_LimitError : PySem.W.nsIn K mainGlobals "LimitError" = some (some (.ref C_LimitError)))
    (xa_LastRecord : PySem.W.nsIn K mainGlobals "LastRecord" = some (some (.ref C_LastRecord)))
    (xa_TooManyEdits : PySem.W.nsIn K mainGlobals "TooManyEdits" = some (some (.ref C_TooManyEdits)))
    (xa_TooManyRecords : PySem.W.nsIn K mainGlobals "TooManyRecords" = some (some (.ref C_TooManyRecords)))
    (xa_NothingToUndo : PySem.W.nsIn K mainGlobals "NothingToUndo" = some (some (.ref C_NothingToUndo)))
    (xa_NoPlace : PySem.W.nsIn K mainGlobals "NoPlace" = some (some (.ref C_NoPlace)))
    (xa_InvalidCommand : PySem.W.nsIn K mainGlobals "InvalidCommand" = some (some (.ref C_InvalidCommand)))
    (xa_InvalidEdit : PySem.W.nsIn K mainGlobals "InvalidEdit" = some (some (.ref C_InvalidEdit)))
    (xa_InvalidValue : PySem.W.nsIn K mainGlobals "InvalidValue" = some (some (.ref C_InvalidValue)))
    (xa_InvalidRecord : PySem.W.nsIn K mainGlobals "InvalidRecord" = some (some (.ref C_InvalidRecord)))
    (xa_InvalidLimit : PySem.W.nsIn K mainGlobals "InvalidLimit" = some (some (.ref C_InvalidLimit)))
    (xa_InvalidText : PySem.W.nsIn K mainGlobals "InvalidText" = some (some (.ref C_InvalidText)))
    (xa_InvalidPlaces : PySem.W.nsIn K mainGlobals "InvalidPlaces" = some (some (.ref C_InvalidPlaces)))
    (xa_InvalidNumber : PySem.W.nsIn K mainGlobals "InvalidNumber" = some (some (.ref C_InvalidNumber)))
    (xa_InvalidOrder : PySem.W.nsIn K mainGlobals "InvalidOrder" = some (some (.ref C_InvalidOrder)))
    (xa_InvalidColumns : PySem.W.nsIn K mainGlobals "InvalidColumns" = some (some (.ref C_InvalidColumns)))
    (xi_InvalidTable : PySem.W.findIn K (.ref C_InvalidTable) "__init__" = some (some (.ref FI_InvalidTable))) (xt_InvalidTable : PySem.W.typeIn K (.ref FI_InvalidTable) = some (.type "function")) (xn_InvalidTable : PySem.W.findIn K (.ref C_InvalidTable) "index" = some none) (xl_InvalidTable : K.lookup FI_InvalidTable = some ⟨xoc_InvalidTable, xod_InvalidTable, .func (PySem.W.fnOf "__init__" "InvalidTable.__init__" (defArgs (inS 2 0)) (defBody (inS 2 0)) (defScope (inS 2 0)) .none xkV_InvalidTable xdc_InvalidTable xpm_InvalidTable xan_InvalidTable xcd_InvalidTable xct_InvalidTable), xsl_InvalidTable⟩) (xc_InvalidTable : PySem.W.codeIn K xcd_InvalidTable "InvalidTable.__init__" = true) (xk_InvalidTable : PySem.W.keepIn K (.ref FI_InvalidTable) = true) (x_InvalidTable : OexC K C_InvalidTable)
    (xi_MissingColumn : PySem.W.findIn K (.ref C_MissingColumn) "__init__" = some (some (.ref FI_MissingColumn))) (xt_MissingColumn : PySem.W.typeIn K (.ref FI_MissingColumn) = some (.type "function")) (xn_MissingColumn : PySem.W.findIn K (.ref C_MissingColumn) "column" = some none) (xl_MissingColumn : K.lookup FI_MissingColumn = some ⟨xoc_MissingColumn, xod_MissingColumn, .func (PySem.W.fnOf "__init__" "MissingColumn.__init__" (defArgs (inS 15 0)) (defBody (inS 15 0)) (defScope (inS 15 0)) .none xkV_MissingColumn xdc_MissingColumn xpm_MissingColumn xan_MissingColumn xcd_MissingColumn xct_MissingColumn), xsl_MissingColumn⟩) (xc_MissingColumn : PySem.W.codeIn K xcd_MissingColumn "MissingColumn.__init__" = true) (xk_MissingColumn : PySem.W.keepIn K (.ref FI_MissingColumn) = true) (x_MissingColumn : OexL K C_MissingColumn)
    (xi_InvalidProgram : PySem.W.findIn K (.ref C_InvalidProgram) "__init__" = some (some (.ref FI_InvalidProgram))) (xt_InvalidProgram : PySem.W.typeIn K (.ref FI_InvalidProgram) = some (.type "function")) (xn_InvalidProgram : PySem.W.findIn K (.ref C_InvalidProgram) "index" = some none) (xl_InvalidProgram : K.lookup FI_InvalidProgram = some ⟨xoc_InvalidProgram, xod_InvalidProgram, .func (PySem.W.fnOf "__init__" "InvalidProgram.__init__" (defArgs (inS 5 0)) (defBody (inS 5 0)) (defScope (inS 5 0)) .none xkV_InvalidProgram xdc_InvalidProgram xpm_InvalidProgram xan_InvalidProgram xcd_InvalidProgram xct_InvalidProgram), xsl_InvalidProgram⟩) (xc_InvalidProgram : PySem.W.codeIn K xcd_InvalidProgram "InvalidProgram.__init__" = true) (xk_InvalidProgram : PySem.W.keepIn K (.ref FI_InvalidProgram) = true) (x_InvalidProgram : OexC K C_InvalidProgram)
    (xe_InvalidTable_TableError : PySem.W.exmOne K (.ref C_InvalidTable) (.ref C_TableError) = some true)
    (xe_MissingColumn_TableError : PySem.W.exmOne K (.ref C_MissingColumn) (.ref C_TableError) = some false)
    (xe_InvalidProgram_TableError : PySem.W.exmOne K (.ref C_InvalidProgram) (.ref C_TableError) = some true)
    (xe_InvalidTable_FindError : PySem.W.exmOne K (.ref C_InvalidTable) (.ref C_FindError) = some false)
    (xe_MissingColumn_FindError : PySem.W.exmOne K (.ref C_MissingColumn) (.ref C_FindError) = some true)
    (xe_InvalidProgram_FindError : PySem.W.exmOne K (.ref C_InvalidProgram) (.ref C_FindError) = some false)
    (xe_InvalidTable_LimitError : PySem.W.exmOne K (.ref C_InvalidTable) (.ref C_LimitError) = some false)
    (xe_MissingColumn_LimitError : PySem.W.exmOne K (.ref C_MissingColumn) (.ref C_LimitError) = some false)
    (xe_InvalidProgram_LimitError : PySem.W.exmOne K (.ref C_InvalidProgram) (.ref C_LimitError) = some false)
    (st_InvalidTable : PySem.W.subIn K (.ref C_InvalidTable) (.type "StopIteration") = some false)
    (st_MissingColumn : PySem.W.subIn K (.ref C_MissingColumn) (.type "StopIteration") = some false)
    (st_InvalidProgram : PySem.W.subIn K (.ref C_InvalidProgram) (.type "StopIteration") = some false)
    (kx_InvalidTable : kexB K C_InvalidTable = true)
    (kx_MissingColumn : kexB K C_MissingColumn = true)
    (kx_InvalidProgram : kexB K C_InvalidProgram = true)
    (kt_ArithmeticError : kitTab K [(C_InvalidTable, .type "ArithmeticError", false), (C_MissingColumn, .type "ArithmeticError", false), (C_InvalidProgram, .type "ArithmeticError", false)] = true)
    (kt_LookupError : kitTab K [(C_InvalidTable, .type "LookupError", false), (C_MissingColumn, .type "LookupError", true), (C_InvalidProgram, .type "LookupError", false)] = true)
    (kt_ValueError : kitTab K [(C_InvalidTable, .type "ValueError", true), (C_MissingColumn, .type "ValueError", false), (C_InvalidProgram, .type "ValueError", true)] = true)
    (kt_LimitError : kitTab K [(C_InvalidTable, .ref C_LimitError, false), (C_MissingColumn, .ref C_LimitError, false), (C_InvalidProgram, .ref C_LimitError, false)] = true)
    (kt_FindError : kitTab K [(C_InvalidTable, .ref C_FindError, false), (C_MissingColumn, .ref C_FindError, true), (C_InvalidProgram, .ref C_FindError, false)] = true)
    (kt_TableError : kitTab K [(C_InvalidTable, .ref C_TableError, true), (C_MissingColumn, .ref C_TableError, false), (C_InvalidProgram, .ref C_TableError, true)] = true)
    (kt_LastRecord : kitTab K [(C_InvalidTable, .ref C_LastRecord, false), (C_MissingColumn, .ref C_LastRecord, false), (C_InvalidProgram, .ref C_LastRecord, false)] = true)
    (kt_TooManyEdits : kitTab K [(C_InvalidTable, .ref C_TooManyEdits, false), (C_MissingColumn, .ref C_TooManyEdits, false), (C_InvalidProgram, .ref C_TooManyEdits, false)] = true)
    (kt_TooManyRecords : kitTab K [(C_InvalidTable, .ref C_TooManyRecords, false), (C_MissingColumn, .ref C_TooManyRecords, false), (C_InvalidProgram, .ref C_TooManyRecords, false)] = true)
    (kt_NothingToUndo : kitTab K [(C_InvalidTable, .ref C_NothingToUndo, false), (C_MissingColumn, .ref C_NothingToUndo, false), (C_InvalidProgram, .ref C_NothingToUndo, false)] = true)
    (kt_NoPlace : kitTab K [(C_InvalidTable, .ref C_NoPlace, false), (C_MissingColumn, .ref C_NoPlace, false), (C_InvalidProgram, .ref C_NoPlace, false)] = true)
    (kt_MissingColumn : kitTab K [(C_InvalidTable, .ref C_MissingColumn, false), (C_MissingColumn, .ref C_MissingColumn, true), (C_InvalidProgram, .ref C_MissingColumn, false)] = true)
    (kt_InvalidCommand : kitTab K [(C_InvalidTable, .ref C_InvalidCommand, false), (C_MissingColumn, .ref C_InvalidCommand, false), (C_InvalidProgram, .ref C_InvalidCommand, false)] = true)
    (kt_InvalidEdit : kitTab K [(C_InvalidTable, .ref C_InvalidEdit, false), (C_MissingColumn, .ref C_InvalidEdit, false), (C_InvalidProgram, .ref C_InvalidEdit, false)] = true)
    (kt_InvalidValue : kitTab K [(C_InvalidTable, .ref C_InvalidValue, false), (C_MissingColumn, .ref C_InvalidValue, false), (C_InvalidProgram, .ref C_InvalidValue, false)] = true)
    (kt_InvalidRecord : kitTab K [(C_InvalidTable, .ref C_InvalidRecord, false), (C_MissingColumn, .ref C_InvalidRecord, false), (C_InvalidProgram, .ref C_InvalidRecord, false)] = true)
    (kt_InvalidLimit : kitTab K [(C_InvalidTable, .ref C_InvalidLimit, false), (C_MissingColumn, .ref C_InvalidLimit, false), (C_InvalidProgram, .ref C_InvalidLimit, false)] = true)
    (kt_InvalidText : kitTab K [(C_InvalidTable, .ref C_InvalidText, false), (C_MissingColumn, .ref C_InvalidText, false), (C_InvalidProgram, .ref C_InvalidText, false)] = true)
    (kt_InvalidPlaces : kitTab K [(C_InvalidTable, .ref C_InvalidPlaces, false), (C_MissingColumn, .ref C_InvalidPlaces, false), (C_InvalidProgram, .ref C_InvalidPlaces, false)] = true)
    (kt_InvalidNumber : kitTab K [(C_InvalidTable, .ref C_InvalidNumber, false), (C_MissingColumn, .ref C_InvalidNumber, false), (C_InvalidProgram, .ref C_InvalidNumber, false)] = true)
    (kt_InvalidProgram : kitTab K [(C_InvalidTable, .ref C_InvalidProgram, false), (C_MissingColumn, .ref C_InvalidProgram, false), (C_InvalidProgram, .ref C_InvalidProgram, true)] = true)
    (kt_InvalidOrder : kitTab K [(C_InvalidTable, .ref C_InvalidOrder, false), (C_MissingColumn, .ref C_InvalidOrder, false), (C_InvalidProgram, .ref C_InvalidOrder, false)] = true)
    (kt_InvalidColumns : kitTab K [(C_InvalidTable, .ref C_InvalidColumns, false), (C_MissingColumn, .ref C_InvalidColumns, false), (C_InvalidProgram, .ref C_InvalidColumns, false)] = true)
    (kt_InvalidTable : kitTab K [(C_InvalidTable, .ref C_InvalidTable, true), (C_MissingColumn, .ref C_InvalidTable, false), (C_InvalidProgram, .ref C_InvalidTable, false)] = true)
    (cq_sorted_places : cd16 = .ref c_sorted_places) (lk_sorted_places : K.lookup c_sorted_places = some ⟨moc_sorted_places, mod_sorted_places, .fields mvs_sorted_places, msl_sorted_places⟩) (pv_sorted_places : mvs_sorted_places[11]? = some (.ref P_sorted_places)) (hd_sorted_places : PySem.W.codeHdIn K c_sorted_places P_sorted_places = true) (kn_sorted_places : K.lookup P_sorted_places = none) (gt_sorted_places : h.get? P_sorted_places = some { cls := .none, data := .fields #[] }) :
    LawG l w K 27 "_law_script" m_law mg fa h := by
  have e := hfa.symm.trans (PySem.W.mg_of X G a56)
  cases e
  refine ⟨(PySem.W.fnOf "law" "law" (defArgs (topS 97)) (defBody (topS 97)) (defScope (topS 97)) .none kV56 dc56 pm56 an56 cd56 ct56), [(c_sorted_places, P_sorted_places)], { w := some w, T := [(P_sorted_places, ("sorted_places" ++ ".<locals>." : Str) ++ "<lambda>")], gd := True, C := clsOf [("InvalidTable", C_InvalidTable), ("MissingColumn", C_MissingColumn), ("InvalidProgram", C_InvalidProgram), ("TableError", C_TableError), ("FindError", C_FindError), ("LimitError", C_LimitError), ("LastRecord", C_LastRecord), ("TooManyEdits", C_TooManyEdits), ("TooManyRecords", C_TooManyRecords), ("NothingToUndo", C_NothingToUndo), ("NoPlace", C_NoPlace), ("InvalidCommand", C_InvalidCommand), ("InvalidEdit", C_InvalidEdit), ("InvalidValue", C_InvalidValue), ("InvalidRecord", C_InvalidRecord), ("InvalidLimit", C_InvalidLimit), ("InvalidText", C_InvalidText), ("InvalidPlaces", C_InvalidPlaces), ("InvalidNumber", C_InvalidNumber), ("InvalidOrder", C_InvalidOrder), ("InvalidColumns", C_InvalidColumns)] 0 }, fun c q hc => ?_, fun q hq => ?_, fun s v => .of_eq rfl, fun base hK hG hT => ?_⟩
  · simp only [List.mem_cons, List.not_mem_nil, or_false, Prod.mk.injEq] at hc
    obtain ⟨rfl, rfl⟩ := hc
    exact ⟨gt_sorted_places, kn_sorted_places, PySem.W.codeHd_of_K X hd_sorted_places⟩
  · simp only [List.mem_cons, List.not_mem_nil, or_false] at hq
    subst hq
    exact ⟨c_sorted_places, by simp⟩
  · letI : Lab := { w := some w, T := [(P_sorted_places, ("sorted_places" ++ ".<locals>." : Str) ++ "<lambda>")], gd := True, C := clsOf [("InvalidTable", C_InvalidTable), ("MissingColumn", C_MissingColumn), ("InvalidProgram", C_InvalidProgram), ("TableError", C_TableError), ("FindError", C_FindError), ("LimitError", C_LimitError), ("LastRecord", C_LastRecord), ("TooManyEdits", C_TooManyEdits), ("TooManyRecords", C_TooManyRecords), ("NothingToUndo", C_NothingToUndo), ("NoPlace", C_NoPlace), ("InvalidCommand", C_InvalidCommand), ("InvalidEdit", C_InvalidEdit), ("InvalidValue", C_InvalidValue), ("InvalidRecord", C_InvalidRecord), ("InvalidLimit", C_InvalidLimit), ("InvalidText", C_InvalidText), ("InvalidPlaces", C_InvalidPlaces), ("InvalidNumber", C_InvalidNumber), ("InvalidOrder", C_InvalidOrder), ("InvalidColumns", C_InvalidColumns)] 0 }
    haveI : LabR := ⟨trivial⟩
    exact ok_law (mkTx rfl X G a0 l0 c0 k0 a1 l1 c1 k1 a2 l2 c2 k2 a3 l3 c3 k3 a4 l4 c4 k4 a5 l5 c5 k5 a6 l6 c6 k6 a7 l7 c7 k7 a8 l8 c8 k8 a9 l9 c9 k9 a10 l10 c10 k10 a11 l11 c11 k11 a12 l12 c12 k12 a13 l13 c13 k13 a14 l14 c14 k14 a15 l15 c15 k15 a16 l16 c16 k16 a17 l17 c17 k17 a18 l18 c18 k18 a19 l19 c19 k19 a20 l20 c20 k20 a21 l21 c21 k21 a22 l22 c22 k22 a23 l23 c23 k23 a24 l24 c24 k24 a25 l25 c25 k25 a26 l26 c26 k26 a27 l27 c27 k27 a28 l28 c28 k28 a29 l29 c29 k29 a30 l30 c30 k30 a31 l31 c31 k31 a32 l32 c32 k32 a33 l33 c33 k33 a34 l34 c34 k34 a35 l35 c35 k35 a36 l36 c36 k36 a37 l37 c37 k37 a38 l38 c38 k38 a39 l39 c39 k39 a40 l40 c40 k40 a41 l41 c41 k41 a42 l42 c42 k42 a43 l43 c43 k43 a44 l44 c44 k44 a45 l45 c45 k45 a46 l46 c46 k46 a47 l47 c47 k47 a48 l48 c48 k48 a49 l49 c49 k49 a50 l50 c50 k50 a51 l51 c51 k51 a52 l52 c52 k52 a53 l53 c53 k53 a54 l54 c54 k54 a55 l55 c55 k55 a56 l56 c56 k56 n_ArithmeticError n_LookupError n_ValueError n_abs n_all n_bool n_divmod n_enumerate n_int n_isinstance n_len n_list n_max n_min n_range n_repr n_set n_sorted n_str n_sum n_tuple c_MOST_COLUMNS c_MOST_RECORDS c_MOST_KEYS c_DIRECTIONS c_LEAST_SIZE c_MOST_SIZE c_MOST_TIMES c_CUTS c_BARE_WORDS c_MOST_NESTED c_MOST_COMMANDS c_START xa_InvalidTable xa_MissingColumn xa_InvalidProgram xa_TableError xa_FindError xa_LimitError xa_LastRecord xa_TooManyEdits xa_TooManyRecords xa_NothingToUndo xa_NoPlace xa_InvalidCommand xa_InvalidEdit xa_InvalidValue xa_InvalidRecord xa_InvalidLimit xa_InvalidText xa_InvalidPlaces xa_InvalidNumber xa_InvalidOrder xa_InvalidColumns xi_InvalidTable xt_InvalidTable xn_InvalidTable xl_InvalidTable xc_InvalidTable xk_InvalidTable x_InvalidTable xi_MissingColumn xt_MissingColumn xn_MissingColumn xl_MissingColumn xc_MissingColumn xk_MissingColumn x_MissingColumn xi_InvalidProgram xt_InvalidProgram xn_InvalidProgram xl_InvalidProgram xc_InvalidProgram xk_InvalidProgram x_InvalidProgram xe_InvalidTable_TableError xe_MissingColumn_TableError xe_InvalidProgram_TableError xe_InvalidTable_FindError xe_MissingColumn_FindError xe_InvalidProgram_FindError xe_InvalidTable_LimitError xe_MissingColumn_LimitError xe_InvalidProgram_LimitError st_InvalidTable st_MissingColumn st_InvalidProgram kx_InvalidTable kx_MissingColumn kx_InvalidProgram kt_ArithmeticError kt_LookupError kt_ValueError kt_LimitError kt_FindError kt_TableError kt_LastRecord kt_TooManyEdits kt_TooManyRecords kt_NothingToUndo kt_NoPlace kt_MissingColumn kt_InvalidCommand kt_InvalidEdit kt_InvalidValue kt_InvalidRecord kt_InvalidLimit kt_InvalidText kt_InvalidPlaces kt_InvalidNumber kt_InvalidProgram kt_InvalidOrder kt_InvalidColumns kt_InvalidTable cq_sorted_places (hT c_sorted_places P_sorted_places (by simp)) (show (P_sorted_places, ("sorted_places" ++ ".<locals>." : Str) ++ "<lambda>") ∈ ([(P_sorted_places, ("sorted_places" ++ ".<locals>." : Str) ++ "<lambda>")] : List (Addr × Str)) by simp) (fun p hp e => by
      change p ∈ ([(P_sorted_places, ("sorted_places" ++ ".<locals>." : Str) ++ "<lambda>")] : List (Addr × Str)) at hp
      simp only [List.mem_cons, List.not_mem_nil, or_false] at hp
      rw [hp]) rfl)
end DL
end L2
open PySem PySem.W PyProof.Rows
set_option maxHeartbeats 0 in
theorem PySem.Challenge.cw_sortcuts_k18_programs_and_tables_refused_holds : PySem.Challenge.rw_sortcuts_k18_programs_and_tables_refused.Holds := by
  w_on; o_law; k_head; (case hw => w_witness2)
  k_fill
  refine L2.DL.walk_g (l := PySem.Challenge.rw_sortcuts_k18_programs_and_tables_refused) (n := 63) (k := 27) (x := "_law_script") (m := L2.DL.m_law) rfl (by decide) rfl ⟨rfl, by decide, by decide⟩ (fun w h Y => PySem.W.km_in_of Y) ?F (fun ns _ => L2.DL.law_spec ns)
  case F =>
    intro w mg fa h Y KX G hmg
    refine' L2.DL.all_mk KX G hmg ?a0 ?l0 ?c0 ?k0 ?a1 ?l1 ?c1 ?k1 ?a2 ?l2 ?c2 ?k2 ?a3 ?l3 ?c3 ?k3 ?a4 ?l4 ?c4 ?k4 ?a5 ?l5 ?c5 ?k5 ?a6 ?l6 ?c6 ?k6 ?a7 ?l7 ?c7 ?k7 ?a8 ?l8 ?c8 ?k8 ?a9 ?l9 ?c9 ?k9 ?a10 ?l10 ?c10 ?k10 ?a11 ?l11 ?c11 ?k11 ?a12 ?l12 ?c12 ?k12 ?a13 ?l13 ?c13 ?k13 ?a14 ?l14 ?c14 ?k14 ?a15 ?l15 ?c15 ?k15 ?a16 ?l16 ?c16 ?k16 ?a17 ?l17 ?c17 ?k17 ?a18 ?l18 ?c18 ?k18 ?a19 ?l19 ?c19 ?k19 ?a20 ?l20 ?c20 ?k20 ?a21 ?l21 ?c21 ?k21 ?a22 ?l22 ?c22 ?k22 ?a23 ?l23 ?c23 ?k23 ?a24 ?l24 ?c24 ?k24 ?a25 ?l25 ?c25 ?k25 ?a26 ?l26 ?c26 ?k26 ?a27 ?l27 ?c27 ?k27 ?a28 ?l28 ?c28 ?k28 ?a29 ?l29 ?c29 ?k29 ?a30 ?l30 ?c30 ?k30 ?a31 ?l31 ?c31 ?k31 ?a32 ?l32 ?c32 ?k32 ?a33 ?l33 ?c33 ?k33 ?a34 ?l34 ?c34 ?k34 ?a35 ?l35 ?c35 ?k35 ?a36 ?l36 ?c36 ?k36 ?a37 ?l37 ?c37 ?k37 ?a38 ?l38 ?c38 ?k38 ?a39 ?l39 ?c39 ?k39 ?a40 ?l40 ?c40 ?k40 ?a41 ?l41 ?c41 ?k41 ?a42 ?l42 ?c42 ?k42 ?a43 ?l43 ?c43 ?k43 ?a44 ?l44 ?c44 ?k44 ?a45 ?l45 ?c45 ?k45 ?a46 ?l46 ?c46 ?k46 ?a47 ?l47 ?c47 ?k47 ?a48 ?l48 ?c48 ?k48 ?a49 ?l49 ?c49 ?k49 ?a50 ?l50 ?c50 ?k50 ?a51 ?l51 ?c51 ?k51 ?a52 ?l52 ?c52 ?k52 ?a53 ?l53 ?c53 ?k53 ?a54 ?l54 ?c54 ?k54 ?a55 ?l55 ?c55 ?k55 ?a56 ?l56 ?c56 ?k56 ?n_ArithmeticError ?n_LookupError ?n_ValueError ?n_abs ?n_all ?n_bool ?n_divmod ?n_enumerate ?n_int ?n_isinstance ?n_len ?n_list ?n_max ?n_min ?n_range ?n_repr ?n_set ?n_sorted ?n_str ?n_sum ?n_tuple ?c_MOST_COLUMNS ?c_MOST_RECORDS ?c_MOST_KEYS ?c_DIRECTIONS ?c_LEAST_SIZE ?c_MOST_SIZE ?c_MOST_TIMES ?c_CUTS ?c_BARE_WORDS ?c_MOST_NESTED ?c_MOST_COMMANDS ?c_START ?xa_InvalidTable ?xa_MissingColumn ?xa_InvalidProgram ?xa_TableError ?xa_FindError ?xa_LimitError ?xa_LastRecord ?xa_TooManyEdits ?xa_TooManyRecords ?xa_NothingToUndo ?xa_NoPlace ?xa_InvalidCommand ?xa_InvalidEdit ?xa_InvalidValue ?xa_InvalidRecord ?xa_InvalidLimit ?xa_InvalidText ?xa_InvalidPlaces ?xa_InvalidNumber ?xa_InvalidOrder ?xa_InvalidColumns ?xi_InvalidTable ?xt_InvalidTable ?xn_InvalidTable ?xl_InvalidTable ?xc_InvalidTable ?xk_InvalidTable ?x_InvalidTable ?xi_MissingColumn ?xt_MissingColumn ?xn_MissingColumn ?xl_MissingColumn ?xc_MissingColumn ?xk_MissingColumn ?x_MissingColumn ?xi_InvalidProgram ?xt_InvalidProgram ?xn_InvalidProgram ?xl_InvalidProgram ?xc_InvalidProgram ?xk_InvalidProgram ?x_InvalidProgram ?xe_InvalidTable_TableError ?xe_MissingColumn_TableError ?xe_InvalidProgram_TableError ?xe_InvalidTable_FindError ?xe_MissingColumn_FindError ?xe_InvalidProgram_FindError ?xe_InvalidTable_LimitError ?xe_MissingColumn_LimitError ?xe_InvalidProgram_LimitError ?st_InvalidTable ?st_MissingColumn ?st_InvalidProgram ?kx_InvalidTable ?kx_MissingColumn ?kx_InvalidProgram ?kt_ArithmeticError ?kt_LookupError ?kt_ValueError ?kt_LimitError ?kt_FindError ?kt_TableError ?kt_LastRecord ?kt_TooManyEdits ?kt_TooManyRecords ?kt_NothingToUndo ?kt_NoPlace ?kt_MissingColumn ?kt_InvalidCommand ?kt_InvalidEdit ?kt_InvalidValue ?kt_InvalidRecord ?kt_InvalidLimit ?kt_InvalidText ?kt_InvalidPlaces ?kt_InvalidNumber ?kt_InvalidProgram ?kt_InvalidOrder ?kt_InvalidColumns ?kt_InvalidTable ?cq_sorted_places ?lk_sorted_places ?pv_sorted_places ?hd_sorted_places ?kn_sorted_places ?gt_sorted_places
    (case a0 => k_is)
    (case l0 => k_is)
    (case c0 => k_is)
    (case k0 => k_is)
    (case a1 => k_is)
    (case l1 => k_is)
    (case c1 => k_is)
    (case k1 => k_is)
    (case a2 => k_is)
    (case l2 => k_is)
    (case c2 => k_is)
    (case k2 => k_is)
    (case a3 => k_is)
    (case l3 => k_is)
    (case c3 => k_is)
    (case k3 => k_is)
    (case a4 => k_is)
    (case l4 => k_is)
    (case c4 => k_is)
    (case k4 => k_is)
    (case a5 => k_is)
    (case l5 => k_is)
    (case c5 => k_is)
    (case k5 => k_is)
    (case a6 => k_is)
    (case l6 => k_is)
    (case c6 => k_is)
    (case k6 => k_is)
    (case a7 => k_is)
    (case l7 => k_is)
    (case c7 => k_is)
    (case k7 => k_is)
    (case a8 => k_is)
    (case l8 => k_is)
    (case c8 => k_is)
    (case k8 => k_is)
    (case a9 => k_is)
    (case l9 => k_is)
    (case c9 => k_is)
    (case k9 => k_is)
    (case a10 => k_is)
    (case l10 => k_is)
    (case c10 => k_is)
    (case k10 => k_is)
    (case a11 => k_is)
    (case l11 => k_is)
    (case c11 => k_is)
    (case k11 => k_is)
    (case a12 => k_is)
    (case l12 => k_is)
    (case c12 => k_is)
    (case k12 => k_is)
    (case a13 => k_is)
    (case l13 => k_is)
    (case c13 => k_is)
    (case k13 => k_is)
    (case a14 => k_is)
    (case l14 => k_is)
    (case c14 => k_is)
    (case k14 => k_is)
    (case a15 => k_is)
    (case l15 => k_is)
    (case c15 => k_is)
    (case k15 => k_is)
    (case a16 => k_is)
    (case l16 => k_is)
    (case c16 => k_is)
    (case k16 => k_is)
    (case a17 => k_is)
    (case l17 => k_is)
    (case c17 => k_is)
    (case k17 => k_is)
    (case a18 => k_is)
    (case l18 => k_is)
    (case c18 => k_is)
    (case k18 => k_is)
    (case a19 => k_is)
    (case l19 => k_is)
    (case c19 => k_is)
    (case k19 => k_is)
    (case a20 => k_is)
    (case l20 => k_is)
    (case c20 => k_is)
    (case k20 => k_is)
    (case a21 => k_is)
    (case l21 => k_is)
    (case c21 => k_is)
    (case k21 => k_is)
    (case a22 => k_is)
    (case l22 => k_is)
    (case c22 => k_is)
    (case k22 => k_is)
    (case a23 => k_is)
    (case l23 => k_is)
    (case c23 => k_is)
    (case k23 => k_is)
    (case a24 => k_is)
    (case l24 => k_is)
    (case c24 => k_is)
    (case k24 => k_is)
    (case a25 => k_is)
    (case l25 => k_is)
    (case c25 => k_is)
    (case k25 => k_is)
    (case a26 => k_is)
    (case l26 => k_is)
    (case c26 => k_is)
    (case k26 => k_is)
    (case a27 => k_is)
    (case l27 => k_is)
    (case c27 => k_is)
    (case k27 => k_is)
    (case a28 => k_is)
    (case l28 => k_is)
    (case c28 => k_is)
    (case k28 => k_is)
    (case a29 => k_is)
    (case l29 => k_is)
    (case c29 => k_is)
    (case k29 => k_is)
    (case a30 => k_is)
    (case l30 => k_is)
    (case c30 => k_is)
    (case k30 => k_is)
    (case a31 => k_is)
    (case l31 => k_is)
    (case c31 => k_is)
    (case k31 => k_is)
    (case a32 => k_is)
    (case l32 => k_is)
    (case c32 => k_is)
    (case k32 => k_is)
    (case a33 => k_is)
    (case l33 => k_is)
    (case c33 => k_is)
    (case k33 => k_is)
    (case a34 => k_is)
    (case l34 => k_is)
    (case c34 => k_is)
    (case k34 => k_is)
    (case a35 => k_is)
    (case l35 => k_is)
    (case c35 => k_is)
    (case k35 => k_is)
    (case a36 => k_is)
    (case l36 => k_is)
    (case c36 => k_is)
    (case k36 => k_is)
    (case a37 => k_is)
    (case l37 => k_is)
    (case c37 => k_is)
    (case k37 => k_is)
    (case a38 => k_is)
    (case l38 => k_is)
    (case c38 => k_is)
    (case k38 => k_is)
    (case a39 => k_is)
    (case l39 => k_is)
    (case c39 => k_is)
    (case k39 => k_is)
    (case a40 => k_is)
    (case l40 => k_is)
    (case c40 => k_is)
    (case k40 => k_is)
    (case a41 => k_is)
    (case l41 => k_is)
    (case c41 => k_is)
    (case k41 => k_is)
    (case a42 => k_is)
    (case l42 => k_is)
    (case c42 => k_is)
    (case k42 => k_is)
    (case a43 => k_is)
    (case l43 => k_is)
    (case c43 => k_is)
    (case k43 => k_is)
    (case a44 => k_is)
    (case l44 => k_is)
    (case c44 => k_is)
    (case k44 => k_is)
    (case a45 => k_is)
    (case l45 => k_is)
    (case c45 => k_is)
    (case k45 => k_is)
    (case a46 => k_is)
    (case l46 => k_is)
    (case c46 => k_is)
    (case k46 => k_is)
    (case a47 => k_is)
    (case l47 => k_is)
    (case c47 => k_is)
    (case k47 => k_is)
    (case a48 => k_is)
    (case l48 => k_is)
    (case c48 => k_is)
    (case k48 => k_is)
    (case a49 => k_is)
    (case l49 => k_is)
    (case c49 => k_is)
    (case k49 => k_is)
    (case a50 => k_is)
    (case l50 => k_is)
    (case c50 => k_is)
    (case k50 => k_is)
    (case a51 => k_is)
    (case l51 => k_is)
    (case c51 => k_is)
    (case k51 => k_is)
    (case a52 => k_is)
    (case l52 => k_is)
    (case c52 => k_is)
    (case k52 => k_is)
    (case a53 => k_is)
    (case l53 => k_is)
    (case c53 => k_is)
    (case k53 => k_is)
    (case a54 => k_is)
    (case l54 => k_is)
    (case c54 => k_is)
    (case k54 => k_is)
    (case a55 => k_is)
    (case l55 => k_is)
    (case c55 => k_is)
    (case k55 => k_is)
    (case a56 => k_is)
    (case l56 => k_is)
    (case c56 => k_is)
    (case k56 => k_is)
    (case n_ArithmeticError => k_is)
    (case n_LookupError => k_is)
    (case n_ValueError => k_is)
    (case n_abs => k_is)
    (case n_all => k_is)
    (case n_bool => k_is)
    (case n_divmod => k_is)
    (case n_enumerate => k_is)
    (case n_int => k_is)
    (case n_isinstance => k_is)
    (case n_len => k_is)
    (case n_list => k_is)
    (case n_max => k_is)
    (case n_min => k_is)
    (case n_range => k_is)
    (case n_repr => k_is)
    (case n_set => k_is)
    (case n_sorted => k_is)
    (case n_str => k_is)
    (case n_sum => k_is)
    (case n_tuple => k_is)
    (case xa_InvalidTable => k_is)
    (case xa_MissingColumn => k_is)
    (case xa_InvalidProgram => k_is)
    (case xa_TableError => k_is)
    (case xa_FindError => k_is)
    (case xa_LimitError => k_is)
    (case xa_LastRecord => k_is)
    (case xa_TooManyEdits => k_is)
    (case xa_TooManyRecords => k_is)
    (case xa_NothingToUndo => k_is)
    (case xa_NoPlace => k_is)
    (case xa_InvalidCommand => k_is)
    (case xa_InvalidEdit => k_is)
    (case xa_InvalidValue => k_is)
    (case xa_InvalidRecord => k_is)
    (case xa_InvalidLimit => k_is)
    (case xa_InvalidText => k_is)
    (case xa_InvalidPlaces => k_is)
    (case xa_InvalidNumber => k_is)
    (case xa_InvalidOrder => k_is)
    (case xa_InvalidColumns => k_is)
    (case xi_InvalidTable => k_is)
    (case xt_InvalidTable => k_is)
    (case xn_InvalidTable => k_is)
    (case xl_InvalidTable => k_is)
    (case xc_InvalidTable => k_is)
    (case xk_InvalidTable => k_is)
    (case xi_MissingColumn => k_is)
    (case xt_MissingColumn => k_is)
    (case xn_MissingColumn => k_is)
    (case xl_MissingColumn => k_is)
    (case xc_MissingColumn => k_is)
    (case xk_MissingColumn => k_is)
    (case xi_InvalidProgram => k_is)
    (case xt_InvalidProgram => k_is)
    (case xn_InvalidProgram => k_is)
    (case xl_InvalidProgram => k_is)
    (case xc_InvalidProgram => k_is)
    (case xk_InvalidProgram => k_is)
    (case st_InvalidTable => k_is)
    (case st_MissingColumn => k_is)
    (case st_InvalidProgram => k_is)
    (case c_MOST_COLUMNS => (intro _; refine' L2.DL.cInt KX G ?q1; (case q1 => k_is)))
    (case c_MOST_RECORDS => (intro _; refine' L2.DL.cInt KX G ?q1; (case q1 => k_is)))
    (case c_MOST_KEYS => (intro _; refine' L2.DL.cInt KX G ?q1; (case q1 => k_is)))
    (case c_DIRECTIONS => (intro _; refine' L2.DL.cStrs (ss := ["down", "up"]) KX G ?s1 ?s2 ?s3 ?s4 ?s5; (case s1 => k_is); (case s2 => k_is); (case s3 => rfl); (case s4 => decide); (case s5 => exact .cons ⟨_, rfl⟩ (.cons ⟨_, rfl⟩ .nil))))
    (case c_LEAST_SIZE => (intro _; refine' L2.DL.cInt KX G ?q1; (case q1 => k_is)))
    (case c_MOST_SIZE => (intro _; refine' L2.DL.cInt KX G ?q1; (case q1 => k_is)))
    (case c_MOST_TIMES => (intro _; refine' L2.DL.cInt KX G ?q1; (case q1 => k_is)))
    (case c_CUTS => (intro _; refine' L2.DL.cStrs (ss := ["first", "last"]) KX G ?s1 ?s2 ?s3 ?s4 ?s5; (case s1 => k_is); (case s2 => k_is); (case s3 => rfl); (case s4 => decide); (case s5 => exact .cons ⟨_, rfl⟩ (.cons ⟨_, rfl⟩ .nil))))
    (case c_BARE_WORDS => (intro _; refine' L2.DL.cStrs (ss := ["reverse", "restore"]) KX G ?s1 ?s2 ?s3 ?s4 ?s5; (case s1 => k_is); (case s2 => k_is); (case s3 => rfl); (case s4 => decide); (case s5 => exact .cons ⟨_, rfl⟩ (.cons ⟨_, rfl⟩ .nil))))
    (case c_MOST_NESTED => (intro _; refine' L2.DL.cInt KX G ?q1; (case q1 => k_is)))
    (case c_MOST_COMMANDS => (intro _; refine' L2.DL.cInt KX G ?q1; (case q1 => k_is)))
    (case c_START => (intro _; refine' L2.DL.cTup1 (ss := ["place", "up"]) KX G ?s1 ?s2 ?s3 ?s4 ?s5 ?s6 ?s7 ?s8 ?s9; (case s1 => k_is); (case s2 => k_is); (case s3 => rfl); (case s4 => decide); (case s5 => rfl); (case s6 => k_is); (case s7 => rfl); (case s8 => decide); (case s9 => exact .cons ⟨_, rfl⟩ (.cons ⟨_, rfl⟩ .nil))))
    (case kx_InvalidTable => kernel_rfl)
    (case kx_MissingColumn => kernel_rfl)
    (case kx_InvalidProgram => kernel_rfl)
    (case kt_ArithmeticError => kernel_rfl)
    (case kt_LookupError => kernel_rfl)
    (case kt_ValueError => kernel_rfl)
    (case kt_LimitError => kernel_rfl)
    (case kt_FindError => kernel_rfl)
    (case kt_TableError => kernel_rfl)
    (case kt_LastRecord => kernel_rfl)
    (case kt_TooManyEdits => kernel_rfl)
    (case kt_TooManyRecords => kernel_rfl)
    (case kt_NothingToUndo => kernel_rfl)
    (case kt_NoPlace => kernel_rfl)
    (case kt_MissingColumn => kernel_rfl)
    (case kt_InvalidCommand => kernel_rfl)
    (case kt_InvalidEdit => kernel_rfl)
    (case kt_InvalidValue => kernel_rfl)
    (case kt_InvalidRecord => kernel_rfl)
    (case kt_InvalidLimit => kernel_rfl)
    (case kt_InvalidText => kernel_rfl)
    (case kt_InvalidPlaces => kernel_rfl)
    (case kt_InvalidNumber => kernel_rfl)
    (case kt_InvalidProgram => kernel_rfl)
    (case kt_InvalidOrder => kernel_rfl)
    (case kt_InvalidColumns => kernel_rfl)
    (case kt_InvalidTable => kernel_rfl)
    (case x_InvalidTable => (refine' L2.DL.oex_mk ?l1 ?r1 ?s1 ?e1 ?t1 ?k1; (case l1 => k_is); (case r1 => rfl); (case s1 => k_is); (case e1 => k_is); (case t1 => k_is); (case k1 => k_is)))
    (case x_MissingColumn => (refine' L2.DL.oel_mk ?l1 ?r1 ?s1 ?e1 ?t1 ?k1; (case l1 => k_is); (case r1 => rfl); (case s1 => k_is); (case e1 => k_is); (case t1 => k_is); (case k1 => k_is)))
    (case x_InvalidProgram => (refine' L2.DL.oex_mk ?l1 ?r1 ?s1 ?e1 ?t1 ?k1; (case l1 => k_is); (case r1 => rfl); (case s1 => k_is); (case e1 => k_is); (case t1 => k_is); (case k1 => k_is)))
    (case xe_InvalidTable_TableError => kts_exm)
    (case xe_MissingColumn_TableError => kts_exm)
    (case xe_InvalidProgram_TableError => kts_exm)
    (case xe_InvalidTable_FindError => kts_exm)
    (case xe_MissingColumn_FindError => kts_exm)
    (case xe_InvalidProgram_FindError => kts_exm)
    (case xe_InvalidTable_LimitError => kts_exm)
    (case xe_MissingColumn_LimitError => kts_exm)
    (case xe_InvalidProgram_LimitError => kts_exm)
    (case cq_sorted_places => exact rfl)
    (case lk_sorted_places => k_is)
    (case pv_sorted_places => exact rfl)
    (case hd_sorted_places => kernel_rfl)
    (case kn_sorted_places => kernel_rfl)
    (case gt_sorted_places => exact PySem.W.km_tabs_of Y _ (by first | k_mem | decide))


set_option Elab.async false
set_option maxRecDepth 100000
set_option maxHeartbeats 4000000
set_option autoImplicit false
namespace L2
namespace DL
open PySem PySem.Spec PyProof.Rows
local instance labNone_K18G : Lab := { w := none, T := [], gd := True }
def fbL (d : PyData) : List PyData := match insC d with
  | none => [.none]
  | some cs => match badL cs 0 0 with
    | none => []
    | some k => [.int (k : Nat)]
abbrev fbB := (sSeq (sSet 4 (fCB m__law_counted (fCons (rdF 3) (fCons (fC (.int 3)) fNil)))) (sSeq (sSet 1 (fBin addD (rdF 1) (rdF 4))) (sIf (fOr (fTst (fBin eqD (rdF 4) (fC (.int 0)))) (fTst (fBin gtD (rdF 1) (fC (.int 400))))) (sRet (fFrz (fLst (fCons (rdF 2) fNil)))) sNil)))
theorem fb_loop {P : Option DV} : ∀ (cs : List PyData) (t : Int) (k : Nat) (z2 z3 z4 : Option DV), (∀ c ∈ cs, gdD c = true) →
    match badL cs t k with
    | none => ∃ t' z2' z3' z4', forD cpG fbB ((rangeD (k : Int) cs.length).zipWith (fun a b => .tuple [a, b]) cs) [P, some (.fr (.int t)), z2, z3, z4] = some (.nx [P, some (.fr (.int t')), z2', z3', z4'])
    | some j => ∃ e, forD cpG fbB ((rangeD (k : Int) cs.length).zipWith (fun a b => .tuple [a, b]) cs) [P, some (.fr (.int t)), z2, z3, z4] = some (.rt (.list [.int (j : Nat)]) e)
  | [], t, k, z2, z3, z4, _ => ⟨t, z2, z3, z4, rfl⟩
  | c :: cs, t, k, z2, z3, z4, h => by
    have ec : m__law_counted [c, .int 3] = some (.int (cnt 3 c)) := cnt_any 3 12 (by decide) c (h c List.mem_cons_self)
    rw [List.length_cons, rangeD_succ, List.zipWith_cons_cons]
    let E : DEnv := [P, some (.fr (.int (t + cnt 3 c))), some (.fr (.int (k : Nat))), some (.fr c), some (.fr (.int (cnt 3 c)))]
    have st : ∀ {g : DEnv → Option DFlow} {fl : DFlow}, g E = some fl → sSeq (sSet 4 (fCB m__law_counted (fCons (rdF 3) (fCons (fC (.int 3)) fNil)))) (sSeq (sSet 1 (fBin addD (rdF 1) (rdF 4))) g) [P, some (.fr (.int t)), some (.fr (.int (k : Nat))), some (.fr c), z4] = some fl := fun {g fl} hg =>
      ev_seq (e1 := [P, some (.fr (.int t)), some (.fr (.int (k : Nat))), some (.fr c), some (.fr (.int (cnt 3 c)))]) (ev_setE (ev_cb (ev_cons rfl (ev_cons rfl ev_nil)) ec) rfl) (ev_seq (e1 := E) (ev_setE (ev_bin rfl rfl rfl) rfl) hg)
    have q1 : eqD (.int (cnt 3 c)) (.int 0) = some (.bool (decide (cnt 3 c = 0))) := rfl
    have q2 : gtD (.int (t + cnt 3 c)) (.int 400) = some (.bool (decide (t + cnt 3 c > 400))) := rfl
    by_cases hr : cnt 3 c = 0 ∨ t + cnt 3 c > 400
    · have hb : badL (c :: cs) t k = some k := if_pos hr
      rw [hb]
      have tt : fOr (fTst (fBin eqD (rdF 4) (fC (.int 0)))) (fTst (fBin gtD (rdF 1) (fC (.int 400)))) E = some (true, E) := by
        by_cases h0 : cnt 3 c = 0
        · rw [decide_eq_true h0] at q1
          exact ev_or1 (ev_tst (ev_bin rfl rfl q1) rfl)
        · rw [decide_eq_false h0] at q1
          rw [decide_eq_true (hr.resolve_left h0)] at q2
          exact ev_or0 (ev_tst (ev_bin rfl rfl q1) rfl) (ev_tst (ev_bin rfl rfl q2) rfl)
      exact ⟨E, ev_forRt rfl (st (ev_ifT tt (ev_ret (ev_frz (ev_lst (ev_cons rfl ev_nil) (by show (1 : Nat) ≤ 100000; decide))))))⟩
    · have hb : badL (c :: cs) t k = badL cs (t + cnt 3 c) (k + 1) := if_neg hr
      rw [hb]
      have ih := fb_loop (P := P) cs (t + cnt 3 c) (k + 1) (some (.fr (.int (k : Nat)))) (some (.fr c)) (some (.fr (.int (cnt 3 c)))) fun x hx => h x (List.mem_cons_of_mem _ hx)
      have hs : ((k : Nat) : Int) + 1 = ((k + 1 : Nat) : Int) := by omega
      rw [hs]
      rw [decide_eq_false (fun z => hr (.inl z))] at q1
      rw [decide_eq_false (fun z => hr (.inr z))] at q2
      have step : fbB [P, some (.fr (.int t)), some (.fr (.int (k : Nat))), some (.fr c), z4] = some (.nx E) := st (ev_ifF (ev_or0 (ev_tst (ev_bin rfl rfl q1) rfl) (ev_tst (ev_bin rfl rfl q2) rfl)) rfl)
      cases hj : badL cs (t + cnt 3 c) (k + 1) with
      | none =>
        rw [hj] at ih
        obtain ⟨t', y2, y3, y4, e⟩ := ih
        exact ⟨t', y2, y3, y4, ev_forN rfl step e⟩
      | some j =>
        rw [hj] at ih
        obtain ⟨e', e⟩ := ih
        exact ⟨e', ev_forN rfl step e⟩
theorem first_bad_any {d : PyData} (hd : gdD d = true) : m__law_first_bad [d] = some (.list (fbL d)) := by
  unfold fbL
  cases hi : insC d with
  | none => exact ev_runF rfl (env := [some (.fr d), none, none, none, none]) (ev_seqR (ev_ifT (ev_not (k := false) (ev_isiD rfl (ins_no hi))) (ev_ret rfl)))
  | some cs =>
    obtain rfl := ins_yes hi
    have L := fb_loop (P := some (.fr (.tuple cs))) cs 0 0 none none none (gdDs_mem (gd_tup hd).2)
    have pre : ∀ {g : DEnv → Option DFlow} {fl : DFlow}, sSeq (sFor (iArg enumTA (fCons (rdF 0) fNil)) cpG fbB) g [some (.fr (.tuple cs)), some (.fr (.int 0)), none, none, none] = some fl → sSeq ((sIf (fNot (fTst (fIsi "tuple" (rdF 0)))) (sRet (fFrz (fLst (fCons (fC .none) fNil)))) sNil)) (sSeq (sSet 1 (fC (.int 0))) (sSeq (sFor (iArg enumTA (fCons (rdF 0) fNil)) cpG fbB) g)) [some (.fr (.tuple cs)), none, none, none, none] = some fl := fun {g fl} h =>
      ev_seq (e1 := [some (.fr (.tuple cs)), none, none, none, none]) (ev_ifF (ev_not (k := true) (ev_isiD rfl rfl)) rfl) (ev_seq (e1 := [some (.fr (.tuple cs)), some (.fr (.int 0)), none, none, none]) rfl h)
    dsimp only
    cases hj : badL cs 0 0 with
    | none =>
      rw [hj] at L
      obtain ⟨t', y2, y3, y4, e⟩ := L
      exact ev_runF rfl (pre (ev_seq (ev_for (ds := (rangeD ((0 : Nat) : Int) cs.length).zipWith (fun a b => .tuple [a, b]) cs) rfl e) (ev_ret rfl)))
    | some j =>
      rw [hj] at L
      obtain ⟨e', e⟩ := L
      exact ev_runF rfl (pre (ev_seqR (ev_for (ds := (rangeD ((0 : Nat) : Int) cs.length).zipWith (fun a b => .tuple [a, b]) cs) rfl e)))
/-! ### drawn programs are good -/
theorem dk_small {c : Int} (h0 : 0 ≤ c) (h1 : c ≤ 29) : Dk 0 2 (.int c) := by
  obtain ⟨k, rfl⟩ : ∃ k : Nat, c = k := ⟨c.toNat, by omega⟩
  have hk : k < 30 := by omega
  have : ∀ k, k < 30 → (gdD (.int (k : Nat)) && decide ((PyData.int (k : Nat)).depth ≤ 0) && decide (mz (.int (k : Nat)) ≤ 2)) = true := by decide +kernel
  exact Dk.of_dec _ _ _ (this k hk)
theorem dk_pl {p : Pl} (h : PlOk p) : Dk 1 80 (plE p) := by
  cases p with
  | sort d c =>
    have h1 : Dk 0 50 (.str (dS d)) := by cases d <;> exact Dk.of_dec _ _ _ (by decide +kernel)
    exact ((Tk.cons h1 (Tk.one (dk_small h.1 (by have := h.2; omega)))).tup (by decide)).mono (by decide) (by decide)
  | rev => exact Dk.of_dec _ _ _ (by decide +kernel)
  | res => exact Dk.of_dec _ _ _ (by decide +kernel)
  | cut f k =>
    have h1 : Dk 0 55 (.str (cS f)) := by cases f <;> exact Dk.of_dec _ _ _ (by decide +kernel)
    exact ((Tk.cons h1 (Tk.one (dk_small (by have := h.1; omega) h.2))).tup (by decide)).mono (by decide) (by decide)
theorem szC_pos : ∀ (n : Nat) (c : Cm n), 1 ≤ szC n c
  | 0, _ => Nat.le_refl _
  | _ + 1, .inl _ => Nat.le_refl _
  | n + 1, .inr (t, ps) => by show 1 ≤ 1 + _; omega
theorem tk_cms {n k w : Nat} : ∀ {cs : List (Cm n)}, (∀ c ∈ cs, Dk k (w * szC n c) (cmE n c)) → Tk k ((w + 2) * (cs.map (szC n)).sum) (cs.map (szC n)).sum (cs.map (cmE n))
  | [], _ => Tk.nil
  | c :: cs, h => by
    have hp := szC_pos n c
    have ih := tk_cms (cs := cs) fun x hx => h x (List.mem_cons_of_mem _ hx)
    refine (Tk.cons (h c List.mem_cons_self) ih).mono (Nat.le_refl _) ?_ ?_
    · rw [List.map_cons, List.sum_cons, Nat.mul_add, Nat.add_mul w 2 (szC n c)]; omega
    · rw [List.map_cons, List.sum_cons]; omega
theorem dk_cm {tm : Int} (ht : tm ≤ TMx) : ∀ (n : Nat) (c : Cm n), CmOk tm n c → szC n c ≤ 400 → Dk (2 * n + 1) ((110 + 2 * n) * szC n c) (cmE n c)
  | 0, p, h, _ => (dk_pl h).mono (by decide) (by show 80 ≤ 110 * 1; decide)
  | n + 1, .inl p, h, _ => (dk_pl (p := p) h).mono (by omega) (by show 80 ≤ (110 + 2 * (n + 1)) * 1; omega)
  | n + 1, .inr (t, ps), h, hz => by
    have hz' : 1 + (ps.map (szC n)).sum ≤ 400 := hz
    have hm : ∀ c ∈ ps, szC n c ≤ 400 := fun c hc => by
      have : szC n c ≤ (ps.map (szC n)).sum := by
        clear hz hz' h
        induction ps with
        | nil => cases hc
        | cons x xs ih =>
          rw [List.map_cons, List.sum_cons]
          rcases List.mem_cons.mp hc with rfl | hc
          · omega
          · have := ih hc; omega
      omega
    have tk := tk_cms (w := 110 + 2 * n) fun c hc => dk_cm ht n c (h.2.2 c hc) (hm c hc)
    have d3 := tk.tup (by omega)
    have d1 : Dk 0 62 (.str "repeat") := Dk.of_dec _ _ _ (by decide +kernel)
    have d2 := dk_big (i := t) (by have := h.1; omega) (Int.le_trans h.2.1 ht)
    have r := (Tk.cons (d1.mono (Nat.zero_le (2 * n + 2)) (Nat.le_refl _)) (Tk.cons (d2.mono (Nat.zero_le _) (Nat.le_refl _)) (Tk.one (d3.mono (by omega) (Nat.le_refl _))))).tup (by decide)
    refine r.mono (by omega) ?_
    show _ ≤ (110 + 2 * (n + 1)) * (1 + (ps.map (szC n)).sum)
    rw [Nat.mul_add]
    have e : 110 + 2 * n + 2 = 110 + 2 * (n + 1) := by omega
    rw [e]
    omega
theorem tk_cp {tm : Int} (ht : tm ≤ TMx) {n : Nat} {cs : List (Cm n)} (h : ∀ c ∈ cs, CmOk tm n c) (hs : (cs.map (szC n)).sum ≤ 400) : Tk (2 * n + 1) ((112 + 2 * n) * (cs.map (szC n)).sum) (cs.map (szC n)).sum (cs.map (cmE n)) := by
  have hm : ∀ c ∈ cs, szC n c ≤ 400 := fun c hc => by
    have : szC n c ≤ (cs.map (szC n)).sum := by
      clear hs h
      induction cs with
      | nil => cases hc
      | cons x xs ih =>
        rw [List.map_cons, List.sum_cons]
        rcases List.mem_cons.mp hc with rfl | hc
        · omega
        · have := ih hc; omega
    omega
  have := tk_cms (w := 110 + 2 * n) fun c hc => dk_cm ht n c (h c hc) (hm c hc)
  rwa [show 110 + 2 * n + 2 = 112 + 2 * n by omega] at this
end DL
end L2


set_option Elab.async false
set_option maxRecDepth 100000
set_option maxHeartbeats 4000000
set_option autoImplicit false
namespace L2
namespace DL
open PySem PySem.Spec PyProof.Rows
local instance labNone_K18H : Lab := { w := none, T := [], gd := True }
theorem six_none (n d : Nat) : HT.sIx n d none = d := by simp [HT.sIx]
theorem six_some {n d : Nat} {i : Int} (h0 : 0 ≤ i) (h1 : i ≤ n) : HT.sIx n d (some i) = i.toNat := by
  show (if i < 0 then (i + (n : Int)).toNat else min i.toNat n) = _
  rw [if_neg (by omega), Nat.min_eq_left (by omega)]
theorem cut_lo {ds : List PyData} {i : Int} (h0 : 0 ≤ i) (h1 : i ≤ ds.length) : cutD ds none (some i) = ds.take i.toNat := by
  unfold cutD
  rw [six_none, six_some h0 h1, List.drop_zero, Nat.sub_zero]
theorem cut_hi {ds : List PyData} {i : Int} (h0 : 0 ≤ i) (h1 : i ≤ ds.length) : cutD ds (some i) none = ds.drop i.toNat := by
  unfold cutD
  rw [six_none, six_some h0 h1, List.take_of_length_le]
  rw [List.length_drop]
  exact Nat.le_refl _
theorem take_min {α : Type} (l : List α) (i : Nat) : l.take (min i l.length) = l.take i := by
  rcases Nat.le_total i l.length with h | h
  · rw [Nat.min_eq_left h]
  · rw [Nat.min_eq_right h, List.take_of_length_le (Nat.le_refl _), List.take_of_length_le h]
theorem drop_min {α : Type} (l : List α) (i : Nat) : l.drop (min i l.length) = l.drop i := by
  rcases Nat.le_total i l.length with h | h
  · rw [Nat.min_eq_left h]
  · rw [Nat.min_eq_right h, List.drop_of_length_le (Nat.le_refl _), List.drop_of_length_le h]
theorem six_pos {n d : Nat} {i : Int} (h0 : 0 ≤ i) : HT.sIx n d (some i) = min i.toNat n := by
  show (if i < 0 then (i + (n : Int)).toNat else min i.toNat n) = _
  rw [if_neg (by omega)]
theorem cut_loF {ds : List PyData} {i : Int} (h0 : 0 ≤ i) : cutD ds none (some i) = ds.take i.toNat := by
  unfold cutD
  rw [six_none, six_pos h0, List.drop_zero, Nat.sub_zero, take_min]
theorem cut_hiF {ds : List PyData} {i : Int} (h0 : 0 ≤ i) : cutD ds (some i) none = ds.drop i.toNat := by
  unfold cutD
  rw [six_none, six_pos h0, drop_min, List.take_of_length_le]
  rw [List.length_drop]
  omega
/-! ### bent programs -/
theorem ev_par3F {i j l : Nat} {fa : DEnv → Option (List PyData × DEnv)} {env e1 e2 : DEnv} {u v w : PyData} (h : fa env = some ([u, v, w], e1)) (he : ((e1.set i (some (.fr u))).set j (some (.fr v))).set l (some (.fr w)) = e2) : sPar3 i j l fa env = some (.nx e2) := by
  unfold sPar3; rw [h, ← he]; rfl
def pre11 : DEnv → Option DFlow := sSeq ((sSetN 2 (fLst (fCons (fTup (fCons (fC (.str "up")) fNil)) (fCons (fTup (fCons (fC (.str "up")) (fCons (fC (.int 4)) fNil))) (fCons (fTup (fCons (fC (.str "up")) (fCons (fNeg (fC (.int 1))) fNil))) (fCons (fTup (fCons (fC (.str "up")) (fCons (fC (.bool true)) fNil))) (fCons (fTup (fCons (fC (.str "up")) (fCons (fC (.str "0")) fNil))) (fCons (fTup (fCons (fC (.str "up")) (fCons (fC (.int 0)) (fCons (fC (.int 1)) fNil)))) (fCons (fTup (fCons (fC (.str "sort")) (fCons (fC (.int 0)) fNil))) (fCons (fTup (fCons (fC (.str "first")) (fCons (fC (.int 1)) fNil))) (fCons (fC .none) fNil)))))))))))) (sSeq ((sSetN 2 (nAdd (rdF 2) (fFrz (fLst (fCons (fTup (fCons (fC (.str "first")) (fCons (fC (.int 30)) fNil))) (fCons (fTup (fCons (fC (.str "last")) (fCons (fC (.int 2)) (fCons (fC (.int 3)) fNil)))) (fCons (fTup (fCons (fC (.str "reverse")) (fCons (fC (.int 0)) fNil))) (fCons (fTup (fCons (fC (.str "restore")) (fCons (fC (.int 1)) fNil))) (fCons (fTup (fCons (fC (.str "Up")) (fCons (fC (.int 0)) fNil))) (fCons (fC (.str "up")) (fCons (fC (.int 5)) (fCons (fTup fNil) (fCons (fFrz (fLst (fCons (fC (.str "up")) (fCons (fC (.int 0)) fNil)))) fNil)))))))))))))) (sSeq ((sSetN 2 (nAdd (rdF 2) (fFrz (fLst (fCons (fC (.dict [])) (fCons (fTup (fCons (fFrz (fLst (fCons (fC (.str "up")) fNil))) (fCons (fC (.int 0)) fNil))) (fCons (fTup (fCons (fC (.int 0)) (fCons (fC (.str "up")) fNil))) (fCons (fTup (fCons (fTup (fCons (fC (.str "up")) (fCons (fC (.int 0)) fNil))) fNil)) (fCons (fTup (fCons (fC (.str "place")) (fCons (fC (.str "up")) fNil))) (fCons (fTup (fCons (fC (.str "first")) (fCons (fC .none) fNil))) (fCons (fTup (fCons (fC (.str "down")) (fCons (fFrz (fLst (fCons (fC (.int 0)) fNil))) fNil))) fNil)))))))))))) (sSeq ((sSetN 2 (nAdd (rdF 2) (fFrz (fLst (fCons (fTup (fCons (fC (.str "repeat")) (fCons (fC (.int 0)) (fCons (fTup fNil) fNil)))) (fCons (fTup (fCons (fC (.str "repeat")) (fCons (fC (.bool true)) (fCons (fTup fNil) fNil)))) (fCons (fTup (fCons (fC (.str "repeat")) (fCons (fBin addD (fBin powD (fC (.int 10)) (fC (.int 30))) (fC (.int 1))) (fCons (fTup fNil) fNil)))) (fCons (fTup (fCons (fC (.str "repeat")) (fCons (fC (.int 2)) (fCons (fFrz (fLst fNil)) fNil)))) (fCons (fTup (fCons (fC (.str "last")) (fCons (fC (.int 1)) fNil))) fNil)))))))))) (sSeq ((sSetN 2 (nAdd (rdF 2) (fFrz (fLst (fCons (fTup (fCons (fC (.str "repeat")) (fCons (fC (.int 2)) fNil))) (fCons (fTup (fCons (fC (.str "repeat")) (fCons (fC (.int 2)) (fCons (fTup fNil) (fCons (fTup fNil) fNil))))) (fCons (fTup (fCons (fC (.str "repeat")) (fCons (fC (.int 2)) (fCons (fTup (fCons (fC (.str "up")) (fCons (fC (.int 0)) fNil))) fNil)))) (fCons (fTup (fCons (fC (.str "repeat")) (fCons (fNeg (fC (.int 1))) (fCons (fTup fNil) fNil)))) (fCons (fTup (fCons (fC (.str "repeat")) (fCons (fTup fNil) (fCons (fC (.int 2)) fNil)))) fNil)))))))))) ((sApp 2 (fTup (fCons (fC (.str "repeat")) (fCons (fC (.int 1)) (fCons (fTup (fCons (fTup (fCons (fC (.str "repeat")) (fCons (fC (.int 1)) (fCons (fTup (fCons (fTup (fCons (fC (.str "first")) (fCons (fC (.int 1)) fNil))) fNil)) fNil)))) fNil)) fNil))))))))))
def odd11 : List PyData := match pre11 [none, none, none, none, none, none] with
  | some (.nx [_, _, some (.ow l), _, _, _]) => l
  | _ => []
theorem odd_len : odd11.length = 36 := by decide +kernel
theorem odd_ok : odd11.all (fun d => gdD d && decide (d.depth ≤ 6) && decide (mz d ≤ 400)) = true := by decide +kernel
theorem odd_dk {d : PyData} (h : d ∈ odd11) : Dk 6 400 d := Dk.of_dec _ _ _ (List.all_eq_true.mp odd_ok d h)
abbrev obE (es ds : List PyData) (k : Nat) (x3 x4 x5 : Option DV) : DEnv := [some (.rf es), some (.fr (.tuple ds)), some (.ow (odd11.take k)), x3, x4, x5]
theorem cutX {ds : List PyData} {i : Int} (h0 : 0 ≤ i) : (slD (.tuple ds) none (some i) = some (.tuple (ds.take i.toNat))) ∧ slD (.tuple ds) (some i) none = some (.tuple (ds.drop i.toNat)) := by
  constructor
  · show some (PyData.tuple (cutD ds none (some i))) = _
    rw [cut_loF h0]
  · show some (PyData.tuple (cutD ds (some i) none)) = _
    rw [cut_hiF h0]
def Bnt (k w n : Nat) (d : PyData) : Prop := (∃ ds', d = .tuple ds' ∧ Tk k w n ds') ∨ (insC d = none ∧ Dk k w d)
theorem bent_spec {k w n : Nat} (hk : 6 ≤ k) (hn : n ≤ 1000) {ds : List PyData} (hd : Tk k w n ds) {es : List PyData} (hp : PoolOk es) : ∃ d es', m__law_bent es [.tuple ds] = some (d, es') ∧ PoolOk es' ∧ Bnt (k + 2) (61 * w + 500) (61 * n + 3) d := by
  have hl := hd.n
  obtain ⟨way, es1, e1, p1, a1, b1⟩ := draw_spec hp (m := 6) (by decide) (by decide)
  obtain ⟨at', es2, e2, p2, a2, b2⟩ := draw_spec p1 (m := (ds.length : Int) + 1) (by omega) (by omega)
  obtain ⟨ti, es3, e3, p3, a3, b3⟩ := draw_spec p2 (m := 36) (by decide) (by decide)
  have hti : ti.toNat < odd11.length := by rw [odd_len]; omega
  obtain ⟨th, hth, ixT⟩ : ∃ th, th ∈ odd11 ∧ ixD (.list odd11) (.int ti) = some th := by
    refine ⟨odd11[ti.toNat], List.getElem_mem hti, ?_⟩
    have h1 : ti < (odd11.length : Int) := by rw [odd_len]; exact b3
    simp [ixD, atI, ixN, a3, h1, hti]
  have dt := odd_dk hth
  have lnD : lenD [.tuple ds] = some (.int (ds.length : Nat)) := rfl
  have lnO : lenD [.list odd11] = some (.int 36) := by
    show some (PyData.int (odd11.length : Nat)) = _
    rw [odd_len]; rfl
  let E : List PyData → DEnv := fun es => [some (.rf es), some (.fr (.tuple ds)), some (.ow odd11), some (.fr (.int way)), some (.fr (.int at')), some (.fr th)]
  have start : ∀ {g : DEnv → Option DFlow} {fl : DFlow}, g (E es3) = some fl → sSeq ((sSetN 2 (fLst (fCons (fTup (fCons (fC (.str "up")) fNil)) (fCons (fTup (fCons (fC (.str "up")) (fCons (fC (.int 4)) fNil))) (fCons (fTup (fCons (fC (.str "up")) (fCons (fNeg (fC (.int 1))) fNil))) (fCons (fTup (fCons (fC (.str "up")) (fCons (fC (.bool true)) fNil))) (fCons (fTup (fCons (fC (.str "up")) (fCons (fC (.str "0")) fNil))) (fCons (fTup (fCons (fC (.str "up")) (fCons (fC (.int 0)) (fCons (fC (.int 1)) fNil)))) (fCons (fTup (fCons (fC (.str "sort")) (fCons (fC (.int 0)) fNil))) (fCons (fTup (fCons (fC (.str "first")) (fCons (fC (.int 1)) fNil))) (fCons (fC .none) fNil)))))))))))) (sSeq ((sSetN 2 (nAdd (rdF 2) (fFrz (fLst (fCons (fTup (fCons (fC (.str "first")) (fCons (fC (.int 30)) fNil))) (fCons (fTup (fCons (fC (.str "last")) (fCons (fC (.int 2)) (fCons (fC (.int 3)) fNil)))) (fCons (fTup (fCons (fC (.str "reverse")) (fCons (fC (.int 0)) fNil))) (fCons (fTup (fCons (fC (.str "restore")) (fCons (fC (.int 1)) fNil))) (fCons (fTup (fCons (fC (.str "Up")) (fCons (fC (.int 0)) fNil))) (fCons (fC (.str "up")) (fCons (fC (.int 5)) (fCons (fTup fNil) (fCons (fFrz (fLst (fCons (fC (.str "up")) (fCons (fC (.int 0)) fNil)))) fNil)))))))))))))) (sSeq ((sSetN 2 (nAdd (rdF 2) (fFrz (fLst (fCons (fC (.dict [])) (fCons (fTup (fCons (fFrz (fLst (fCons (fC (.str "up")) fNil))) (fCons (fC (.int 0)) fNil))) (fCons (fTup (fCons (fC (.int 0)) (fCons (fC (.str "up")) fNil))) (fCons (fTup (fCons (fTup (fCons (fC (.str "up")) (fCons (fC (.int 0)) fNil))) fNil)) (fCons (fTup (fCons (fC (.str "place")) (fCons (fC (.str "up")) fNil))) (fCons (fTup (fCons (fC (.str "first")) (fCons (fC .none) fNil))) (fCons (fTup (fCons (fC (.str "down")) (fCons (fFrz (fLst (fCons (fC (.int 0)) fNil))) fNil))) fNil)))))))))))) (sSeq ((sSetN 2 (nAdd (rdF 2) (fFrz (fLst (fCons (fTup (fCons (fC (.str "repeat")) (fCons (fC (.int 0)) (fCons (fTup fNil) fNil)))) (fCons (fTup (fCons (fC (.str "repeat")) (fCons (fC (.bool true)) (fCons (fTup fNil) fNil)))) (fCons (fTup (fCons (fC (.str "repeat")) (fCons (fBin addD (fBin powD (fC (.int 10)) (fC (.int 30))) (fC (.int 1))) (fCons (fTup fNil) fNil)))) (fCons (fTup (fCons (fC (.str "repeat")) (fCons (fC (.int 2)) (fCons (fFrz (fLst fNil)) fNil)))) (fCons (fTup (fCons (fC (.str "last")) (fCons (fC (.int 1)) fNil))) fNil)))))))))) (sSeq ((sSetN 2 (nAdd (rdF 2) (fFrz (fLst (fCons (fTup (fCons (fC (.str "repeat")) (fCons (fC (.int 2)) fNil))) (fCons (fTup (fCons (fC (.str "repeat")) (fCons (fC (.int 2)) (fCons (fTup fNil) (fCons (fTup fNil) fNil))))) (fCons (fTup (fCons (fC (.str "repeat")) (fCons (fC (.int 2)) (fCons (fTup (fCons (fC (.str "up")) (fCons (fC (.int 0)) fNil))) fNil)))) (fCons (fTup (fCons (fC (.str "repeat")) (fCons (fNeg (fC (.int 1))) (fCons (fTup fNil) fNil)))) (fCons (fTup (fCons (fC (.str "repeat")) (fCons (fTup fNil) (fCons (fC (.int 2)) fNil)))) fNil)))))))))) (sSeq ((sApp 2 (fTup (fCons (fC (.str "repeat")) (fCons (fC (.int 1)) (fCons (fTup (fCons (fTup (fCons (fC (.str "repeat")) (fCons (fC (.int 1)) (fCons (fTup (fCons (fTup (fCons (fC (.str "first")) (fCons (fC (.int 1)) fNil))) fNil)) fNil)))) fNil)) fNil)))))) (sSeq ((sPar3 3 4 5 (fCons (fCR 0 m__law_draw (fCons (fC (.int 6)) fNil)) (fCons (fCR 0 m__law_draw (fCons (fBin addD (fLenN 1) (fC (.int 1))) fNil)) (fCons (fIxN 2 (fCR 0 m__law_draw (fCons (fLenN 2) fNil))) fNil))))) g)))))) [some (.rf es), some (.fr (.tuple ds)), none, none, none, none] = some fl := fun {g fl} hg => by
    refine ev_seq (e1 := obE es ds 9 none none none) (by kernel_rfl) ?_
    refine ev_seq (e1 := obE es ds 18 none none none) (by kernel_rfl) ?_
    refine ev_seq (e1 := obE es ds 25 none none none) (by kernel_rfl) ?_
    refine ev_seq (e1 := obE es ds 30 none none none) (by kernel_rfl) ?_
    refine ev_seq (e1 := obE es ds 35 none none none) (by kernel_rfl) ?_
    refine ev_seq (e1 := obE es ds 36 none none none) (by kernel_rfl) ?_
    have hf : odd11.take 36 = odd11 := by rw [List.take_of_length_le (by rw [odd_len]; decide)]
    show sSeq _ g [some (.rf es), some (.fr (.tuple ds)), some (.ow (odd11.take 36)), none, none, none] = _
    rw [hf]
    refine ev_seq (e1 := E es3) ?_ hg
    exact ev_par3F (ev_cons (ev_crE rfl (ev_cons rfl ev_nil) rfl e1 rfl) (ev_cons (ev_crE rfl (ev_cons (ev_bin (ev_lenN rfl lnD) rfl rfl) ev_nil) rfl e2 rfl) (ev_cons (ev_ixN rfl (ev_crE rfl (ev_cons (ev_lenN rfl lnO) ev_nil) rfl e3 rfl) rfl ixT) ev_nil))) rfl
  have c1 := (cutX (ds := ds) a2).1
  have c2 := (cutX (ds := ds) a2).2
  have ht : ∀ i, Tk k w n (ds.take i) := fun i => hd.sub (List.take_sublist i ds)
  have hdr : ∀ i, Tk k w n (ds.drop i) := fun i => hd.sub (List.drop_sublist i ds)
  have tt : Tk k 402 1 [th] := Tk.one (dt.mono hk (Nat.le_refl _))
  have lt : ∀ i, (ds.take i).length ≤ n := fun i => (ht i).n
  have ld : ∀ i, (ds.drop i).length ≤ n := fun i => (hdr i).n
  have mode0 : ∀ i : Int, 0 ≤ i → Bnt (k + 2) (61 * w + 500) (61 * n + 3) (.tuple ((ds.take at'.toNat ++ [th]) ++ ds.drop i.toNat)) := fun i _ => .inl ⟨_, rfl, (((ht at'.toNat).app tt).app (hdr i.toNat)).mono (by omega) (by omega) (by omega)⟩
  have add0 : ∀ {xs ys : List PyData}, xs.length ≤ 2000 → ys.length ≤ 2000 → addD (.tuple xs) (.tuple ys) = some (.tuple (xs ++ ys)) := fun {xs ys} h1 h2 => ev_add (by show _ ≤ 100000; omega)
  have one : ∀ d : PyData, ([d] : List PyData).length ≤ 2000 := fun d => by show (1 : Nat) ≤ 2000; decide
  have fr0 : ∀ i : Int, 0 ≤ i → i = at' + 1 - way → fBin addD (fBin addD (fSl (rdF 1) oNone (oSome (rdF 4))) (fTup (fCons (rdF 5) fNil))) (fSl (rdF 1) (oSome (fBin subD (fBin addD (rdF 4) (fC (.int 1))) (rdF 3))) oNone) (E es3) = some (.tuple ((ds.take at'.toNat ++ [th]) ++ ds.drop i.toNat), E es3) := fun i h0 hi => by
    refine ev_bin (ev_bin (ev_sl rfl rfl (ev_oS rfl) c1) rfl (add0 ?_ (one th))) (ev_sl (e2 := E es3) rfl (ev_oS (i := i) (ev_bin (ev_bin rfl rfl rfl) rfl ?_)) rfl (cutX h0).2) (add0 ?_ ?_)
    · have := lt at'.toNat; omega
    · rw [hi]; rfl
    · have := lt at'.toNat; rw [List.length_append]; show _ + 1 ≤ _; omega
    · have := ld i.toNat; omega
  have dD := hd.tup (by omega : n ≤ 100000)
  have dR : Dk 0 62 (.str "repeat") := Dk.of_dec _ _ _ (by decide +kernel)
  have rept : ∀ {j : Int} {x : PyData} {u : Nat}, 0 ≤ j → j ≤ 29 → Dk (k + 1) u x → Dk (k + 2) (u + 75) (.tuple [.str "repeat", .int j, x]) := fun {j x u} h0 h1 hx =>
    ((Tk.cons (dR.mono (Nat.zero_le (k + 1)) (Nat.le_refl _)) (Tk.cons ((dk_small h0 h1).mono (Nat.zero_le _) (Nat.le_refl _)) (Tk.one hx))).tup (by decide)).mono (Nat.le_refl _) (by omega)
  have S : ∀ {d : PyData} {es' : List PyData}, (sSeq (sIf (fTst (fBin ltD (rdF 3) (fC (.int 2)))) (sRet (fBin addD (fBin addD (fSl (rdF 1) oNone (oSome (rdF 4))) (fTup (fCons (rdF 5) fNil))) (fSl (rdF 1) (oSome (fBin subD (fBin addD (rdF 4) (fC (.int 1))) (rdF 3))) oNone))) sNil) (sSeq (sIf (fTst (fBin eqD (rdF 3) (fC (.int 2)))) (sRet (fTup (fCons (fTup (fCons (fC (.str "repeat")) (fCons (fBin addD (fC (.int 1)) (fCR 0 m__law_draw (fCons (fC (.int 3)) fNil))) (fCons (rdF 1) fNil)))) fNil))) sNil) (sSeq (sIf (fTst (fBin eqD (rdF 3) (fC (.int 3)))) (sRet (fBin rep3D (rdF 1) (fBin addD (fC (.int 2)) (fBin mulD (fCR 0 m__law_draw (fCons (fC (.int 60)) fNil)) (fCB intOfD (fCons (fBin ltD (fLenN 1) (fC (.int 20))) fNil)))))) sNil) (sSeq (sIf (fTst (fBin eqD (rdF 3) (fC (.int 4)))) (sRet (fBin ixD (fFrz (fLst (fCons (fFrz (nListOf (rdF 1))) (fCons (fC .none) (fCons (fC (.str "up")) (fCons (fC (.int 7)) (fCons (fC (.dict [])) (fCons (fC (.bool true)) (fCons (fTup (fCons (fC (.str "repeat")) (fCons (fC (.int 2)) (fCons (fTup fNil) fNil)))) fNil))))))))) (fCR 0 m__law_draw (fCons (fC (.int 7)) fNil)))) sNil) (sRet (fBin addD (fTup (fCons (fTup (fCons (fC (.str "repeat")) (fCons (fC (.int 2)) (fCons (fBin addD (fSl (rdF 1) oNone (oSome (rdF 4))) (fTup (fCons (rdF 5) fNil))) fNil)))) fNil)) (fSl (rdF 1) (oSome (rdF 4)) oNone))))))) (E es3) = some (.rt d (some (.rf es') :: [some (.fr (.tuple ds)), some (.ow odd11), some (.fr (.int way)), some (.fr (.int at')), some (.fr th)])) → m__law_bent es [.tuple ds] = some (d, es') := fun {d es'} h => ev_runR rfl (env := [some (.fr (.tuple ds)), some (.ow odd11), some (.fr (.int way)), some (.fr (.int at')), some (.fr th)]) (start h)
  by_cases hway : way < 2
  · have q : ltD (.int way) (.int 2) = some (.bool true) := by
      show some (PyData.bool (decide (way < 2))) = _
      rw [decide_eq_true hway]
    exact ⟨_, es3, S (ev_seqR (ev_ifT (ev_tst (ev_bin rfl rfl q) rfl) (ev_ret (fr0 (at' + 1 - way) (by omega) rfl)))), p3, mode0 _ (by omega)⟩
  have q0 : ltD (.int way) (.int 2) = some (.bool false) := by
    show some (PyData.bool (decide (way < 2))) = _
    rw [decide_eq_false hway]
  have hw4 : way = 2 ∨ way = 3 ∨ way = 4 ∨ way = 5 := by omega
  rcases hw4 with rfl | rfl | rfl | rfl
  · obtain ⟨r, es4, e4, p4, a4, b4⟩ := draw_spec p3 (m := 3) (by decide) (by decide)
    refine ⟨.tuple [.tuple [.str "repeat", .int (1 + r), .tuple ds]], es4, S (ev_seq (ev_ifF (ev_tst (ev_bin rfl rfl q0) rfl) rfl) (ev_seqR (ev_ifT (ev_tst (ev_bin rfl rfl rfl) rfl) (ev_ret (ev_tup (ev_cons (ev_tup (ev_cons rfl (ev_cons (ev_bin rfl (ev_crE rfl (ev_cons rfl ev_nil) rfl e4 rfl) rfl) (ev_cons rfl ev_nil))) (by show (3 : Nat) ≤ 100000; decide)) ev_nil) (by show (1 : Nat) ≤ 100000; decide)))))), p4, .inl ⟨_, rfl, ?_⟩⟩
    exact (Tk.one (rept (j := 1 + r) (by omega) (by omega) dD)).mono (Nat.le_refl _) (by omega) (by omega)
  · obtain ⟨r, es4, e4, p4, a4, b4⟩ := draw_spec p3 (m := 60) (by decide) (by decide)
    have fin : ∀ j : Int, 2 ≤ j → j ≤ 61 → (fBin addD (fC (.int 2)) (fBin mulD (fCR 0 m__law_draw (fCons (fC (.int 60)) fNil)) (fCB intOfD (fCons (fBin ltD (fLenN 1) (fC (.int 20))) fNil)))) (E es3) = some (.int j, E es4) → ∃ d es', m__law_bent es [.tuple ds] = some (d, es') ∧ PoolOk es' ∧ Bnt (k + 2) (61 * w + 500) (61 * n + 3) d := fun j h2 h61 ej => by
      have er : rep3D (.tuple ds) (.int j) = some (.tuple (List.replicate j.toNat ds).flatten) := by
        show (if (1 ≤ j ∨ j = 0 ∧ ds ≠ []) ∧ j ≤ 1000 ∧ ds.length ≤ 1000 then some (PyData.tuple (List.replicate j.toNat ds).flatten) else none) = _
        rw [if_pos ⟨.inl (by omega), by omega, by omega⟩]
      refine ⟨_, es4, S (ev_seq (ev_ifF (ev_tst (ev_bin rfl rfl q0) rfl) rfl) (ev_seq (ev_ifF (ev_tst (ev_bin rfl rfl rfl) rfl) rfl) (ev_seqR (ev_ifT (ev_tst (ev_bin rfl rfl rfl) rfl) (ev_ret (ev_bin rfl ej er)))))), p4, .inl ⟨_, rfl, ?_⟩⟩
      have hj : j.toNat ≤ 61 := by omega
      exact (hd.rep j.toNat).mono (by omega) (Nat.le_trans (Nat.mul_le_mul_right _ hj) (by omega)) (Nat.le_trans (Nat.mul_le_mul_right _ hj) (by omega))
    have q1 : ltD (.int (ds.length : Nat)) (.int 20) = some (.bool (decide ((ds.length : Int) < 20))) := rfl
    have mul01 : ∀ b : Bool, mulD (.int r) (.int (if b then 1 else 0)) = some (.int (if b then r else 0)) := fun b => by
      have c1 : r.natAbs < 18446744073709551616 := by omega
      cases b
      · simp [mulD, intD, cMul, c1]
      · simp [mulD, intD, cMul, c1]
    have ev2 := fun b (hb : decide ((ds.length : Int) < 20) = b) => (show (fBin addD (fC (.int 2)) (fBin mulD (fCR 0 m__law_draw (fCons (fC (.int 60)) fNil)) (fCB intOfD (fCons (fBin ltD (fLenN 1) (fC (.int 20))) fNil)))) (E es3) = some (.int (2 + if b then r else 0), E es4) from ev_bin rfl (ev_bin (ev_crE rfl (ev_cons rfl ev_nil) rfl e4 rfl) (ev_cb (ev_cons (ev_bin (ev_lenN rfl lnD) rfl (q1.trans (by rw [hb]))) ev_nil) (int_of b)) (mul01 b)) rfl)
    cases hb : decide ((ds.length : Int) < 20) with
    | true => exact fin (2 + r) (by omega) (by omega) (ev2 true hb)
    | false => exact fin (2 + 0) (by omega) (by omega) (ev2 false hb)
  · obtain ⟨r, es4, e4, p4, a4, b4⟩ := draw_spec p3 (m := 7) (by decide) (by decide)
    have lst : nListOf (rdF 1) (E es3) = some (ds, E es3) := rfl
    have fin : ∀ d, ixD (.list [.list ds, .none, .str "up", .int 7, .dict [], .bool true, .tuple [.str "repeat", .int 2, .tuple []]]) (.int r) = some d → Bnt (k + 2) (61 * w + 500) (61 * n + 3) d → ∃ d es', m__law_bent es [.tuple ds] = some (d, es') ∧ PoolOk es' ∧ Bnt (k + 2) (61 * w + 500) (61 * n + 3) d := fun d hi hB =>
      ⟨d, es4, S (ev_seq (ev_ifF (ev_tst (ev_bin rfl rfl q0) rfl) rfl) (ev_seq (ev_ifF (ev_tst (ev_bin rfl rfl rfl) rfl) rfl) (ev_seq (ev_ifF (ev_tst (ev_bin rfl rfl rfl) rfl) rfl) (ev_seqR (ev_ifT (ev_tst (ev_bin rfl rfl rfl) rfl) (ev_ret (ev_bin (ev_frz (ev_lst (ev_cons (ev_frz lst) (ev_cons rfl (ev_cons rfl (ev_cons rfl (ev_cons rfl (ev_cons rfl (ev_cons rfl ev_nil))))))) (by show (7 : Nat) ≤ 100000; decide))) (ev_crE rfl (ev_cons rfl ev_nil) rfl e4 rfl) hi))))))), p4, hB⟩
    have hr : r = 0 ∨ r = 1 ∨ r = 2 ∨ r = 3 ∨ r = 4 ∨ r = 5 ∨ r = 6 := by omega
    rcases hr with rfl | rfl | rfl | rfl | rfl | rfl | rfl
    · exact fin _ rfl (.inr ⟨rfl, hd.lst.mono (by omega) (by omega)⟩)
    · exact fin _ rfl (.inr ⟨rfl, (Dk.of_dec 0 50 _ (by decide +kernel)).mono (Nat.zero_le _) (by omega)⟩)
    · exact fin _ rfl (.inr ⟨rfl, (Dk.of_dec 0 50 _ (by decide +kernel)).mono (Nat.zero_le _) (by omega)⟩)
    · exact fin _ rfl (.inr ⟨rfl, (Dk.of_dec 0 50 _ (by decide +kernel)).mono (Nat.zero_le _) (by omega)⟩)
    · exact fin _ rfl (.inr ⟨rfl, (Dk.of_dec 2 50 _ (by decide +kernel)).mono (by omega) (by omega)⟩)
    · exact fin _ rfl (.inr ⟨rfl, (Dk.of_dec 0 50 _ (by decide +kernel)).mono (Nat.zero_le _) (by omega)⟩)
    · have : Tk 2 100 3 [.str "repeat", .int 2, .tuple []] := ⟨by decide +kernel, by decide +kernel, by decide +kernel, by decide⟩
      refine fin _ rfl (.inl ⟨_, rfl, ?_⟩)
      exact this.mono (by omega) (by omega) (by omega)
  · have inner : Dk (k + 1) (w + 405) (.tuple (ds.take at'.toNat ++ [th])) := (((ht at'.toNat).app tt).tup (by omega)).mono (Nat.le_refl _) (by omega)
    refine ⟨.tuple ([.tuple [.str "repeat", .int 2, .tuple (ds.take at'.toNat ++ [th])]] ++ ds.drop at'.toNat), es3, S (ev_seq (ev_ifF (ev_tst (ev_bin rfl rfl q0) rfl) rfl) (ev_seq (ev_ifF (ev_tst (ev_bin rfl rfl rfl) rfl) rfl) (ev_seq (ev_ifF (ev_tst (ev_bin rfl rfl rfl) rfl) rfl) (ev_seq (ev_ifF (ev_tst (ev_bin rfl rfl rfl) rfl) rfl) (ev_ret (ev_bin (ev_tup (ev_cons (ev_tup (ev_cons rfl (ev_cons rfl (ev_cons (ev_bin (ev_sl rfl rfl (ev_oS rfl) c1) rfl (add0 ?_ (one th))) ev_nil))) (by show (3 : Nat) ≤ 100000; decide)) ev_nil) (by show (1 : Nat) ≤ 100000; decide)) (ev_sl rfl (ev_oS rfl) rfl c2) (add0 (one _) ?_))))))), p3, .inl ⟨_, rfl, ?_⟩⟩
    · have := lt at'.toNat; omega
    · have := ld at'.toNat; omega
    · exact ((Tk.one (rept (j := 2) (by decide) (by decide) inner)).app ((hdr at'.toNat).mono (by omega) (Nat.le_refl _) (Nat.le_refl _))).mono (Nat.le_refl _) (by omega) (by omega)
end DL
end L2


set_option Elab.async false
set_option maxRecDepth 100000
set_option maxHeartbeats 4000000
set_option autoImplicit false
namespace L2
namespace DL
open PySem PySem.Spec PyProof.Rows
local instance labNone_K18I : Lab := { w := none, T := [], gd := True }
theorem dir_cases {s : Str} (h : s ∈ dirsD) : s = "up" ∨ s = "down" := by simpa [dirsD] using h
theorem is_key_spec {k : Ky} (h : 0 ≤ k.1 ∧ k.1 < 4 ∧ k.2 ∈ dirsD) : m_is_key [kd k] = some (.bool true) := by
  obtain ⟨c, s⟩ := k
  obtain ⟨h0, h1, h2⟩ := h
  dsimp only at h0 h1 h2
  have hc : c = 0 ∨ c = 1 ∨ c = 2 ∨ c = 3 := by omega
  rcases dir_cases h2 with rfl | rfl <;> rcases hc with rfl | rfl | rfl | rfl <;> kernel_rfl
theorem is_place_spec {s : Str} (h : s ∈ dirsD) : m_is_place_part [plD s] = some (.bool true) := by
  rcases dir_cases h with rfl | rfl <;> kernel_rfl
theorem any_ints (c : Int) : ∀ cs : List Int, ((cs.map PyData.int).any fun z => PyData.eqv z (.int c)) = decide (c ∈ cs)
  | [] => rfl
  | x :: cs => by
    rw [List.map_cons, List.any_cons, any_ints c cs]
    show (decide (x = c) || decide (c ∈ cs)) = _
    by_cases h : x = c
    · subst h; simp
    · rw [decide_eq_false h, Bool.false_or]
      simp only [List.mem_cons]
      rw [decide_eq_decide]
      exact ⟨.inr, fun z => z.elim (fun w => absurd w.symm h) id⟩
theorem in_ints (c : Int) (cs : List Int) : inB (.int c) (.list (cs.map .int)) = some (decide (c ∈ cs)) := by
  show (if shD (.int c) && shD (.list (cs.map .int)) then some ((cs.map PyData.int).any fun z => PyData.eqv z (.int c)) else none) = _
  rw [(ly_int c).sh (by decide), (Ly.list (ly_ints cs)).sh (by decide), any_ints]
  rfl
abbrev chkBody := sSeq (sIf (fOr (fNot (fTst (fCB m_is_key (fCons (rdF 3) fNil)))) (fTst (fCmpN inD (fIxN 3 (fC (.int 0))) 1))) sNone sNil) (sApp 1 (fIxN 3 (fC (.int 0))))
theorem chk_loop (o : Option DV) : ∀ (ks : List Ky) (is : List PyData) (cs : List Int) (z2 z3 : Option DV), is.length = ks.length → (∀ k ∈ ks, 0 ≤ k.1 ∧ k.1 < 4 ∧ k.2 ∈ dirsD) → (∀ c ∈ cs, 0 ≤ c ∧ c < 4) → (cs ++ ks.map (·.1)).Nodup → cs.length + ks.length ≤ 1000 →
    ∃ cs' z2' z3', forD (gTupD 2 (gsCons (gSet 2) (gsCons (gSet 3) gsNil))) chkBody (List.zipWith (fun a b => PyData.tuple [a, b]) is (ks.map kd)) [o, some (.ow (cs.map .int)), z2, z3] = some (.nx [o, some (.ow cs'), z2', z3'])
  | [], is, cs, z2, z3, hl, _, _, _, _ => by
    cases is with
    | nil => exact ⟨_, z2, z3, rfl⟩
    | cons _ _ => cases hl
  | k :: ks, is, cs, z2, z3, hl, hk, hc, nd, hz => by
    cases is with
    | nil => cases hl
    | cons i is =>
      have h1 := hk k List.mem_cons_self
      have hnot : k.1 ∉ cs := fun z => by
        rw [List.map_cons, List.nodup_append] at nd
        exact nd.2.2 k.1 z k.1 List.mem_cons_self rfl
      obtain ⟨cs', z2', z3', e⟩ := chk_loop o ks is (cs ++ [k.1]) (some (.fr i)) (some (.fr (kd k))) (by simpa using hl) (fun x hx => hk x (List.mem_cons_of_mem _ hx)) (fun c hcc => by
        rcases List.mem_append.mp hcc with z | z
        · exact hc c z
        · rw [List.mem_singleton] at z; rw [z]; exact ⟨h1.1, h1.2.1⟩) (by rw [List.append_assoc]; exact nd) (by rw [List.length_append]; rw [List.length_cons] at hz; show cs.length + 1 + ks.length ≤ 1000; omega)
      refine ⟨cs', z2', z3', ?_⟩
      rw [List.map_append] at e
      have e1 := is_key_spec h1
      have e2 := in_ints k.1 cs
      rw [decide_eq_false hnot] at e2
      have hlen : cs.length < 100000 := by rw [List.length_cons] at hz; omega
      rw [List.map_cons, List.zipWith_cons_cons, forD]
      simp [gTupD, gsCons, gSet, gsNil, chkBody, sSeq, sIf, fOr, fNot, fTst, fCB, fCons, fNil, rdF, e1, truthD, fCmpN, fIxN, fC, rdB, ixD, kd, atI, ixN, inD, e2, sNil, sApp, rdO, wrO, lim, hlen]
      simp [kd] at e1 e
      simp [e1, truthD, sSeq, sIf, fOr, fNot, fTst, fCB, fCons, fNil, rdF, fCmpN, fIxN, fC, rdB, ixD, atI, ixN, inD, e2, sNil, sApp, rdO, wrO, lim, hlen]
      exact e
theorem cut_last (xs : List PyData) (x : PyData) : cutD (xs ++ [x]) none (some (-1)) = xs := by
  unfold cutD
  simp [HT.sIx]
  rw [show ((-1 : Int) + (xs.length + 1)).toNat = xs.length by omega]
  simp
theorem check_order_spec {ks : List Ky} {s : Str} (hk : KOk 4 ks) (hs : s ∈ dirsD) (hl : ks.length ≤ 4) : m_check_order [ordD ks s] = some .none := by
  obtain ⟨cs', z2, z3, e⟩ := chk_loop (some (.fr (ordD ks s))) ks (rangeD 0 (ks.map kd).length) [] none none (by rw [rangeD_len, List.length_map]) hk.rg (by simp) (by simpa using hk.nd) (by simp; omega)
  have e2 := is_place_spec hs
  have hc := cut_last (ks.map kd) (plD s)
  have ha : atI (ks.map kd ++ [plD s]) (-1) = some (plD s) := atI_last _ _
  have hl2 : ¬ ((ks.length : Int) + 1 = 0) := by omega
  unfold m_check_order runF mb_check_order
  simp [ordD] at e ⊢
  simp [startE, sSeq, sIf, fOr, fNot, fTst, fIsi, isiT, tyN, rdF, truthD, fBin, fLenN, rdB, lenD, fC, eqD, eqB, hl2, sNil, sSetN, fLst, fNil, lim, sFor, iArg, fCons, fSl, oNone, oSome, fNeg, slD, hc, enumTA, enumD]
  rw [e]
  simp [fCB, fCons, fNil, fIxN, fC, fNeg, rdB, ixD, ha, e2]
def flipS (s : Str) : Str := if s = "up" then "down" else "up"
def flK (k : Ky) : Ky := (k.1, flipS k.2)
theorem opposite_spec {s : Str} (h : s ∈ dirsD) : m_opposite [.str s] = some (.str (flipS s)) := by
  rcases dir_cases h with rfl | rfl <;> kernel_rfl
def pairs (xs : List (PyData × Str)) : List PyData := xs.map fun x => .tuple [x.1, .str x.2]
theorem ordD_pairs (ks : List Ky) (s : Str) : ordD ks s = .tuple (pairs (ks.map (fun k => (.int k.1, k.2)) ++ [(.str "place", s)])) := by
  unfold ordD pairs
  rw [List.map_append, List.map_map]
  rfl
theorem turn_lc (o : Option DV) : ∀ xs : List (PyData × Str), (∀ x ∈ xs, x.2 ∈ dirsD) → lcD (gTupD 2 (gsCons (gSet 1) (gsCons (gSet 2) gsNil))) fYes (fTup (fCons (rdF 1) (fCons (fCB m_opposite (fCons (rdF 2) fNil)) fNil))) [1, 2] (pairs xs) [o, none, none] = some (pairs (xs.map fun x => (x.1, flipS x.2)), [o, none, none])
  | [], _ => rfl
  | x :: xs, h => by
    have e1 := opposite_spec (h x List.mem_cons_self)
    have ih := turn_lc o xs fun y hy => h y (List.mem_cons_of_mem _ hy)
    show lcD _ _ _ _ (.tuple [x.1, .str x.2] :: pairs xs) _ = _
    rw [lcD]
    simp [gTupD, gsCons, gSet, gsNil, fYes, fTup, fCons, rdF, fCB, fNil, e1, lim, wipeE]
    rw [ih]
    exact ⟨_, rfl, rfl⟩
theorem pairs_len (xs : List (PyData × Str)) : (pairs xs).length = xs.length := by unfold pairs; rw [List.length_map]
theorem turned_spec {ks : List Ky} {s : Str} (hk : KOk 4 ks) (hs : s ∈ dirsD) (hl : ks.length ≤ 4) : m_turned [ordD ks s] = some (ordD (ks.map flK) (flipS s)) := by
  have e1 := check_order_spec hk hs hl
  have hx : ∀ x ∈ (ks.map (fun k => (PyData.int k.1, k.2)) ++ [(PyData.str "place", s)]), x.2 ∈ dirsD := fun x hx => by
    rcases List.mem_append.mp hx with z | z
    · obtain ⟨k, h1, rfl⟩ := List.mem_map.mp z
      exact (hk.rg k h1).2.2
    · rw [List.mem_singleton] at z; rw [z]; exact hs
  have e2 := turn_lc (some (.fr (ordD ks s))) _ hx
  have hlen : (pairs (ks.map (fun k => (PyData.int k.1, k.2)) ++ [(PyData.str "place", s)])).length ≤ 100000 := by
    rw [pairs_len, List.length_append, List.length_map]
    show ks.length + 1 ≤ _
    omega
  have eo : ordD (ks.map flK) (flipS s) = .tuple (pairs ((ks.map (fun k => (PyData.int k.1, k.2)) ++ [(PyData.str "place", s)]).map fun x => (x.1, flipS x.2))) := by
    rw [ordD_pairs, List.map_append, List.map_map, List.map_map]
    rfl
  unfold m_turned runF mb_turned
  simp only [startE, List.map_cons, List.map_nil, List.length_cons, List.length_nil, sSeq, sExpr, fCB, fCons, fNil, rdF, List.cons_append, List.nil_append]
  simp [e1, sRet, fFrz, nLc, iSeq, wipeE]
  rw [ordD_pairs] at e2 ⊢
  have hn : nLc (iSeq (rdF 0)) (gTupD 2 (gsCons (gSet 1) (gsCons (gSet 2) gsNil))) fYes (fTup (fCons (rdF 1) (fCons (fCB m_opposite (fCons (rdF 2) fNil)) fNil))) [1, 2]
      [some (.fr (.tuple (pairs (ks.map (fun k => (PyData.int k.1, k.2)) ++ [(PyData.str "place", s)])))), none, none] =
      some (pairs ((ks.map (fun k => (PyData.int k.1, k.2)) ++ [(PyData.str "place", s)]).map fun x => (x.1, flipS x.2)), [some (.fr (.tuple (pairs (ks.map (fun k => (PyData.int k.1, k.2)) ++ [(PyData.str "place", s)])))), none, none]) := by
    show (if (pairs (ks.map (fun k => (PyData.int k.1, k.2)) ++ [(PyData.str "place", s)])).length ≤ lim then _ else none) = _
    rw [if_pos hlen]
    exact e2
  simp [fCB, fCons, fFrz, fNil, hn, tupleD, eo]
abbrev rbBody (f : Nat) := (sSeq (sIf (fTst (fBin ltD (rdF 2) (fC (.int 0)))) (sRet (rdF 2)) sNil) (sSet 2 (fCB (rc_room_behind f 1) (fCons (rdF 3) (fCons (rdF 1) (fCons (rdF 2) fNil))))))
theorem mem_le_sum : ∀ {l : List Nat} {x : Nat}, x ∈ l → x ≤ l.sum
  | a :: l, x, h => by
    rw [List.sum_cons]
    rcases List.mem_cons.mp h with rfl | h
    · omega
    · have := mem_le_sum h; omega
theorem roomc_loop {α : Type} {e : α → PyData} {z : α → Nat} {f : Nat} {dp : Int} (P : Option DV) : ∀ {cs : List α}, (∀ c ∈ cs, ∀ room : Int, (z c : Int) ≤ room → rc_room_behind f 1 [e c, .int dp, .int room] = some (.int (room - z c))) →
    ∀ (room : Int) (y : Option DV), ((cs.map z).sum : Int) ≤ room → ∃ y', forD (gSet 3) (rbBody f) (cs.map e) [P, some (.fr (.int dp)), some (.fr (.int room)), y] = some (.nx [P, some (.fr (.int dp)), some (.fr (.int (room - ((cs.map z).sum : Nat)))), y'])
  | [], _, room, y, _ => ⟨y, by rw [List.map_nil, forD]; simp⟩
  | c :: cs, h, room, y, hr => by
    rw [List.map_cons, List.sum_cons] at hr
    obtain ⟨y', e1⟩ := roomc_loop (e := e) (z := z) P (cs := cs) (fun x hx => h x (List.mem_cons_of_mem _ hx)) (room - z c) (some (.fr (e c))) (by omega)
    refine ⟨y', ev_forN (e1 := [P, some (.fr (.int dp)), some (.fr (.int room)), some (.fr (e c))]) rfl (e2 := [P, some (.fr (.int dp)), some (.fr (.int (room - z c))), some (.fr (e c))]) ?_ ?_⟩
    · have h0 : ¬ room < 0 := by omega
      have e2 := h c List.mem_cons_self room (by omega)
      simp [rbBody, sSeq, sIf, fTst, fBin, rdF, fC, intD, truthD, h0, sNil, sSet, fCB, fCons, fNil, e2]
    · rw [e1, List.map_cons, List.sum_cons]
      have : room - (z c : Int) - ((cs.map z).sum : Nat) = room - ((z c + (cs.map z).sum : Nat) : Int) := by omega
      rw [this]
theorem room_pl {p : Pl} (hp : PlOk p) (f : Nat) (dp room : Int) : rc_room_behind (f + 1) 1 [plE p, .int dp, .int room] = some (.int (room - 1)) := by
  show runF 3 3 (mb_room_behind_command (rc_room_behind f)) _ = _
  simp [runF, mb_room_behind_command, sSeq, sIf, sRet, sNil, fTst, fCB, fCons, fNil, rdF, startE, plain_yes (PC.of hp), truthD, fBin, intD, fC]
theorem room_cm {tm : Int} (ht : tm ≤ 1000000000000000000000000000000) : ∀ (n f : Nat), 2 * n + 1 ≤ f → ∀ (c : Cm n), CmOk tm n c → ∀ dp room : Int, dp + n ≤ 4 → (szC n c : Int) ≤ room → rc_room_behind f 1 [cmE n c, .int dp, .int room] = some (.int (room - szC n c))
  | 0, f + 1, _, p, h, dp, room, _, _ => room_pl (p := p) h f dp room
  | n + 1, f + 1, _, .inl p, h, dp, room, _, _ => room_pl (p := p) h f dp room
  | n + 1, f + 2, hf, .inr (t, ps), h, dp, room, hd, hr => by
    have hz : szC (n + 1) (.inr (t, ps)) = 1 + (ps.map (szC n)).sum := rfl
    rw [hz] at hr ⊢
    have e1 : rc_room_behind (f + 1) 0 [.tuple (ps.map (cmE n)), .int (dp + 1), .int (room - 1)] = some (.int (room - 1 - (ps.map (szC n)).sum)) := by
      show runF 3 4 (mb_room_behind (rc_room_behind f)) _ = _
      obtain ⟨z', e⟩ := roomc_loop (e := cmE n) (z := szC n) (f := f) (dp := dp + 1) (some (.fr (.tuple (ps.map (cmE n))))) (cs := ps) (fun c hc room hr => room_cm ht n f (by omega) c (h.2.2 c hc) (dp + 1) room (by omega) hr) (room - 1) none (by omega)
      have h0 : ¬ (4 < dp + 1) := by omega
      refine ev_runF rfl (env := [some (.fr (.tuple (ps.map (cmE n)))), some (.fr (.int (dp + 1))), some (.fr (.int (room - 1 - (ps.map (szC n)).sum))), z']) ?_
      refine ev_seq (e1 := startE 4 [.tuple (ps.map (cmE n)), .int (dp + 1), .int (room - 1)]) ?_ (ev_seq (ev_for (ev_seqI (env := startE 4 [.tuple (ps.map (cmE n)), .int (dp + 1), .int (room - 1)]) rfl rfl) e) rfl)
      simp [sIf, fOr, fNot, fTst, fIsi, tyN, isiT, rdF, startE, truthD, fBin, fC, cv_MOST_NESTED, intD, h0, sNil]
    show runF 3 3 (mb_room_behind_command (rc_room_behind (f + 1))) _ = _
    have e2 := plain_no t (ps.map (cmE n))
    have e3 := rep_yes h.1 (Int.le_trans h.2.1 ht) (ps.map (cmE n))
    have e4 : cmE (n + 1) (.inr (t, ps)) = repC t (ps.map (cmE n)) := rfl
    rw [e4]
    unfold repC at e2 e3 ⊢
    simp [runF, mb_room_behind_command, sSeq, sIf, sRet, sNil, fTst, fCB, fCons, fNil, rdF, rdB, fIxN, ixD, atI, ixN, startE, e2, e3, truthD, fBin, intD, addD, fC, e1]
    omega
abbrev ckBody := (sSeq (sSet 1 (fCB m_room_behind_command (fCons (rdF 3) (fCons (fC (.int 1)) (fCons (rdF 1) fNil))))) (sIf (fTst (fBin ltD (rdF 1) (fC (.int 0)))) (sRaise "InvalidProgram" "index" (rdF 2)) sNil))
theorem checkc_loop {α : Type} {e : α → PyData} {z : α → Nat} (P : Option DV) : ∀ {cs : List α}, (∀ c ∈ cs, ∀ room : Int, (z c : Int) ≤ room → m_room_behind_command [e c, .int 1, .int room] = some (.int (room - z c))) → ∀ (is : List PyData) (room : Int) (z2 z3 : Option DV), is.length = cs.length → ((cs.map z).sum : Int) ≤ room →
    ∃ y2 y3, forD (gTupD 2 (gsCons (gSet 2) (gsCons (gSet 3) gsNil))) ckBody (is.zipWith (fun a b => .tuple [a, b]) (cs.map e)) [P, some (.fr (.int room)), z2, z3] = some (.nx [P, some (.fr (.int (room - ((cs.map z).sum : Nat)))), y2, y3])
  | [], _, is, room, z2, z3, hi, _ => by
    refine ⟨z2, z3, ?_⟩
    rw [List.map_nil, List.zipWith_nil_right, forD]
    simp
  | c :: cs, h, i :: is, room, z2, z3, hi, hr => by
    rw [List.map_cons, List.sum_cons] at hr
    obtain ⟨y2, y3, e1⟩ := checkc_loop (e := e) (z := z) P (cs := cs) (fun x hx => h x (List.mem_cons_of_mem _ hx)) is (room - z c) (some (.fr i)) (some (.fr (e c))) (by simpa using hi) (by omega)
    refine ⟨y2, y3, ?_⟩
    rw [List.map_cons, List.zipWith_cons_cons]
    refine ev_forN (e1 := [P, some (.fr (.int room)), some (.fr i), some (.fr (e c))]) rfl (e2 := [P, some (.fr (.int (room - z c))), some (.fr i), some (.fr (e c))]) ?_ ?_
    · have h0 : ¬ room - (z c : Int) < 0 := by omega
      have e2 := h c List.mem_cons_self room (by omega)
      simp [ckBody, sSeq, sSet, fCB, fCons, fNil, rdF, fC, e2, sIf, fTst, fBin, intD, truthD, h0, sNil]
    · rw [e1, List.map_cons, List.sum_cons]
      have : room - (z c : Int) - ((cs.map z).sum : Nat) = room - ((z c + (cs.map z).sum : Nat) : Int) := by omega
      rw [this]
theorem check_cx {tm : Int} (ht : tm ≤ 1000000000000000000000000000000) {n : Nat} (hn : n ≤ 3) {cs : List (Cm n)} (h : ∀ c ∈ cs, CmOk tm n c) (hs : (cs.map (szC n)).sum ≤ 400) : m_check_program [.tuple (cs.map (cmE n))] = some (.ok .none) := by
  obtain ⟨y2, y3, e⟩ := checkc_loop (e := cmE n) (z := szC n) (some (.fr (.tuple (cs.map (cmE n))))) (cs := cs) (fun c hc room hr => room_cm ht n 12 (by omega) c (h c hc) 1 room (by omega) hr) (rangeD 0 (cs.map (cmE n)).length) 400 none none (by rw [rangeD_len, List.length_map]) (by omega)
  refine ev_runX0 rfl (env := [some (.fr (.tuple (cs.map (cmE n)))), some (.fr (.int (400 - ((cs.map (szC n)).sum : Nat)))), y2, y3]) ?_
  exact ev_seq (e1 := startE 4 [.tuple (cs.map (cmE n))]) rfl (ev_seq (e1 := [some (.fr (.tuple (cs.map (cmE n)))), some (.fr (.int 400)), none, none]) rfl (ev_for (e1 := [some (.fr (.tuple (cs.map (cmE n)))), some (.fr (.int 400)), none, none]) rfl e))

end DL
end L2


set_option Elab.async false
set_option maxRecDepth 100000
set_option maxHeartbeats 4000000
set_option autoImplicit false
namespace L2
namespace DL
open PySem PySem.Spec PyProof.Rows
local instance labNone_K18J : Lab := { w := none, T := [], gd := True }
theorem flip_dS (b : Bool) : flipS (dS b) = dS (!b) := by cases b <;> decide
theorem oD_fl (o : Od) : oD (flO o) = ordD ((o.1.map toKy).map flK) (flipS (dS o.2)) := by
  unfold oD flO
  rw [flip_dS, List.map_map, List.map_map]
  congr 1
  refine List.map_congr_left fun k _ => ?_
  show (k.1, dS (!k.2)) = (k.1, flipS (dS k.2))
  rw [flip_dS]
theorem turned_o {o : Od} (h : OOk o) : m_turned [oD o] = some (oD (flO o)) := by
  rw [oD_fl]
  exact turned_spec h.k (dS_in _) (by rw [List.length_map]; exact h.len)
theorem oD_tup (o : Od) : oD o = .tuple ((o.1.map fun k => kd (toKy k)) ++ [plD (dS o.2)]) := by
  unfold oD ordD
  rw [List.map_map]
  rfl
def itE (b : Bool) : Option KB → PyData
  | none => plD (dS b)
  | some k => kd (toKy k)
theorem oD_its (o : Od) : oD o = .tuple ((o.1.map some ++ [none]).map (itE o.2)) := by
  rw [oD_tup, List.map_append, List.map_map]
  rfl
def offB (c : Int) : Option KB → Bool
  | none => true
  | some k => !decide (k.1 = c)
theorem off_its (c : Int) (o : Od) : ((o.1.map some ++ [none]).filter (offB c)).map (itE o.2) = ((offO c o.1).map fun k => kd (toKy k)) ++ [plD (dS o.2)] := by
  rw [List.filter_append, List.map_append, List.filter_map, List.map_map]
  rfl
theorem ne_place (c : Int) : neD (.str "place") (.int c) = some (.bool true) := by
  show (if shD (.str "place") && shD (.int c) then some (PyData.eqv (.str "place") (.int c)) else none).map (fun k => PyData.bool (!k)) = _
  rw [show shD (.str "place") = true by kernel_rfl, (ly_int c).sh (by decide)]
  rfl
theorem sorted_first_spec (c : Int) (d : Bool) {o : Od} (h : OOk o) : m_sorted_first [.int c, .str (dS d), oD o] = some (oD (putO c d o)) := by
  have hl := h.len
  have e := lc_flt (i := 3) (ft := fTst (fCmpN neD (fIxN 3 (fC (.int 0))) 0)) (fe := rdF 3) (e := itE o.2) (q := itE o.2) (p := offB c) (env := [some (.fr (.int c)), some (.fr (.str (dS d))), some (.fr (oD o)), none]) rfl (o.1.map some ++ [none]) (fun x _ => by
    cases x with
    | none => exact ev_tst (ev_cmpN (ev_ixN rfl rfl rfl rfl) rfl (ne_place c)) rfl
    | some k => rfl) fun x _ _ => rfl
  rw [off_its] at e
  have hn : ((o.1.map some ++ [none]).map (itE o.2)).length ≤ lim := by
    simp only [List.length_map, List.length_append, List.length_singleton]
    show _ ≤ 100000
    omega
  have hf : (offO c o.1).length ≤ o.1.length := List.length_filter_le ..
  refine ev_runF rfl (env := [some (.fr (.int c)), some (.fr (.str (dS d))), some (.fr (oD o)), none]) (ev_ret (ev_bin (e1 := startE 4 [.int c, .str (dS d), oD o]) (a := .tuple [kd (toKy (c, d))]) (b := .tuple (((offO c o.1).map fun k => kd (toKy k)) ++ [plD (dS o.2)])) rfl (ev_cb (ev_cons (ev_frz (ev_lc (ev_seqI (e1 := startE 4 [.int c, .str (dS d), oD o]) rfl (by rw [oD_its]; rfl)) hn rfl e)) ev_nil) rfl) ?_))
  rw [oD_tup]
  refine ev_add ?_
  simp only [List.length_singleton, List.length_append, List.length_map]
  show _ ≤ 100000
  omega
theorem eqW {a b : Str} (h : a ≠ b) : eqD (.str a) (.str b) = some (.bool false) := by
  show some (PyData.bool (decide (a = b))) = _
  rw [decide_eq_false h]
theorem after_plain_spec {p : Pl} (hp : PlOk p) {o : Od} (h : OOk o) : m_after_plain [plE p, oD o] = some (oD (semP p o).2) := by
  have e1 := turned_o h
  cases p with
  | sort d c =>
    have e2 := sorted_first_spec c d h
    have w : inD (.str (dS d)) cv_DIRECTIONS = some (.bool true) := by cases d <;> kernel_rfl
    exact ev_runF rfl (env := startE 2 [plE (.sort d c), oD o]) (ev_seqR (ev_ifT (ev_tst (ev_bin (ev_ixN rfl rfl rfl rfl) rfl w) rfl) (ev_ret (ev_cb (ev_cons (ev_ixN rfl rfl rfl rfl) (ev_cons (ev_ixN rfl rfl rfl rfl) (ev_cons rfl ev_nil))) e2))))
  | rev =>
    have w : inD (.str "reverse") cv_DIRECTIONS = some (.bool false) := by kernel_rfl
    exact ev_runF rfl (env := startE 2 [plE .rev, oD o]) (ev_seq (ev_ifF (ev_tst (ev_bin (ev_ixN rfl rfl rfl rfl) rfl w) rfl) rfl) (ev_seqR (ev_ifT (ev_tst (ev_bin (ev_ixN rfl rfl rfl rfl) rfl rfl) rfl) (ev_ret (ev_cb (ev_cons rfl ev_nil) e1)))))
  | res =>
    have w : inD (.str "restore") cv_DIRECTIONS = some (.bool false) := by kernel_rfl
    exact ev_runF rfl (env := startE 2 [plE .res, oD o]) (ev_seq (ev_ifF (ev_tst (ev_bin (ev_ixN rfl rfl rfl rfl) rfl w) rfl) rfl) (ev_seq (ev_ifF (ev_tst (ev_bin (ev_ixN rfl rfl rfl rfl) rfl (eqW (by decide))) rfl) rfl) (ev_seqR (ev_ifT (ev_tst (ev_bin (ev_ixN rfl rfl rfl rfl) rfl rfl) rfl) rfl))))
  | cut f k =>
    have w : inD (.str (cS f)) cv_DIRECTIONS = some (.bool false) := by cases f <;> kernel_rfl
    exact ev_runF rfl (env := startE 2 [plE (.cut f k), oD o]) (ev_seq (ev_ifF (ev_tst (ev_bin (ev_ixN rfl rfl rfl rfl) rfl w) rfl) rfl) (ev_seq (ev_ifF (ev_tst (ev_bin (ev_ixN rfl rfl rfl rfl) rfl (eqW (by cases f <;> decide))) rfl) rfl) (ev_seq (ev_ifF (ev_tst (ev_bin (ev_ixN rfl rfl rfl rfl) rfl (eqW (by cases f <;> decide))) rfl) rfl) rfl)))
theorem picks_of_plain_spec {p : Pl} (hp : PlOk p) {o : Od} (h : OOk o) : m_picks_of_plain [plE p, oD o] = some (.list ((semP p o).1.map pkD)) := by
  have e1 := turned_o h
  cases p with
  | sort d c => exact ev_runF rfl (env := startE 2 [plE (.sort d c), oD o]) (ev_seq (ev_ifF (ev_tst (ev_bin (ev_ixN rfl rfl rfl rfl) rfl (eqW (by cases d <;> decide))) rfl) rfl) (ev_seq (ev_ifF (ev_tst (ev_bin (ev_ixN rfl rfl rfl rfl) rfl (eqW (by cases d <;> decide))) rfl) rfl) rfl))
  | rev => exact ev_runF rfl (env := startE 2 [plE .rev, oD o]) (ev_seq (ev_ifF (ev_tst (ev_bin (ev_ixN rfl rfl rfl rfl) rfl (eqW (by decide))) rfl) rfl) (ev_seq (ev_ifF (ev_tst (ev_bin (ev_ixN rfl rfl rfl rfl) rfl (eqW (by decide))) rfl) rfl) rfl))
  | res => exact ev_runF rfl (env := startE 2 [plE .res, oD o]) (ev_seq (ev_ifF (ev_tst (ev_bin (ev_ixN rfl rfl rfl rfl) rfl (eqW (by decide))) rfl) rfl) (ev_seq (ev_ifF (ev_tst (ev_bin (ev_ixN rfl rfl rfl rfl) rfl (eqW (by decide))) rfl) rfl) rfl))
  | cut f k =>
    cases f with
    | true => exact ev_runF rfl (env := startE 2 [plE (.cut true k), oD o]) (ev_seqR (ev_ifT (ev_tst (ev_bin (ev_ixN rfl rfl rfl rfl) rfl rfl) rfl) rfl))
    | false => exact ev_runF rfl (env := startE 2 [plE (.cut false k), oD o]) (ev_seq (ev_ifF (ev_tst (ev_bin (ev_ixN rfl rfl rfl rfl) rfl (eqW (by decide))) rfl) rfl) (ev_seqR (ev_ifT (ev_tst (ev_bin (ev_ixN rfl rfl rfl rfl) rfl rfl) rfl) (ev_ret (ev_frz (ev_lst (ev_cons (ev_tup (ev_cons (ev_cb (ev_cons rfl ev_nil) e1) (ev_cons (ev_ixN rfl rfl rfl rfl) ev_nil)) (by show (2 : Nat) ≤ 100000; decide)) ev_nil) (by show (1 : Nat) ≤ 100000; decide)))))))
/-! ### commands in general -/
theorem sem_len : ∀ (n : Nat) (c : Cm n) (o : Od), (sem n c o).1.length ≤ szC n c
  | 0, p, o => by cases p <;> simp [sem, semP, szC]
  | n + 1, .inl p, o => by cases p <;> simp [sem, semP, szC]
  | n + 1, .inr (t, ps), o => by
    show (seqS (sem n) ps o).1.length ≤ 1 + (ps.map (szC n)).sum
    have : ∀ (ps : List (Cm n)) (o : Od), (seqS (sem n) ps o).1.length ≤ (ps.map (szC n)).sum := by
      intro ps
      induction ps with
      | nil => exact fun _ => Nat.le_refl _
      | cons c cs ih =>
        intro o
        rw [seqS, List.length_append, List.map_cons, List.sum_cons]
        exact Nat.add_le_add (sem_len n c o) (ih _)
    have := this ps o
    omega
theorem seq_len {n : Nat} : ∀ (ps : List (Cm n)) (o : Od), (seqS (sem n) ps o).1.length ≤ (ps.map (szC n)).sum
  | [], _ => Nat.le_refl _
  | c :: cs, o => by
    rw [seqS, List.length_append, List.map_cons, List.sum_cons]
    exact Nat.add_le_add (sem_len n c o) (seq_len cs _)
abbrev apBody (f : Nat) := (sSeq (sAsg (fCB (rc_after_repeat f 1) (fCons (rdF 3) (fCons (rdF 1) fNil))) (gTupD 2 (gsCons (gSet 4) (gsCons (gSet 1) gsNil)))) (sExt 2 (rdF 4)))
theorem ap_loop {α : Type} {e : α → PyData} {F : α → Od → List Pk × Od} {f : Nat} (P : Option DV) : ∀ {cs : List α}, (∀ c ∈ cs, ∀ o, OOk o → OOk (F c o).2 ∧ rc_after_repeat f 1 [e c, oD o] = some (.tuple [.list ((F c o).1.map pkD), oD (F c o).2])) → ∀ (o : Od) (acc : List Pk) (z w : Option DV), OOk o → acc.length + (seqS F cs o).1.length ≤ 100000 →
    ∃ z' w', forD (gSet 3) (apBody f) (cs.map e) [P, some (.fr (oD o)), some (.ow (acc.map pkD)), z, w] = some (.nx [P, some (.fr (oD (seqS F cs o).2)), some (.ow ((acc ++ (seqS F cs o).1).map pkD)), z', w'])
  | [], _, o, acc, z, w, _, _ => ⟨z, w, by rw [List.map_nil, forD]; simp [seqS]⟩
  | c :: cs, h, o, acc, z, w, ho, hl => by
    obtain ⟨h1, h2⟩ := h c List.mem_cons_self o ho
    rw [seqS, List.length_append] at hl
    obtain ⟨z', w', ih⟩ := ap_loop (e := e) (F := F) P (cs := cs) (fun x hx => h x (List.mem_cons_of_mem _ hx)) (F c o).2 (acc ++ (F c o).1) (some (.fr (e c))) (some (.fr (.list ((F c o).1.map pkD)))) h1 (by rw [List.length_append]; omega)
    refine ⟨z', w', ev_forN (e1 := [P, some (.fr (oD o)), some (.ow (acc.map pkD)), some (.fr (e c)), w]) rfl (e2 := [P, some (.fr (oD (F c o).2)), some (.ow ((acc ++ (F c o).1).map pkD)), some (.fr (e c)), some (.fr (.list ((F c o).1.map pkD)))]) ?_ ?_⟩
    · refine ev_seq (ev_asg2 (e2 := [P, some (.fr (oD (F c o).2)), some (.ow (acc.map pkD)), some (.fr (e c)), some (.fr (.list ((F c o).1.map pkD)))]) (ev_cb (ev_cons rfl (ev_cons rfl ev_nil)) h2) rfl) (ev_ext rfl rfl rfl ?_ ?_)
      · rw [List.length_map, List.length_map]; show _ ≤ 100000; omega
      · rw [List.map_append]; rfl
    · rw [ih, seqS, List.append_assoc]
theorem ap_run {α : Type} {e : α → PyData} {F : α → Od → List Pk × Od} {f : Nat} {cs : List α} (h : ∀ c ∈ cs, ∀ o, OOk o → OOk (F c o).2 ∧ rc_after_repeat f 1 [e c, oD o] = some (.tuple [.list ((F c o).1.map pkD), oD (F c o).2])) {o : Od} (ho : OOk o) (hl : (seqS F cs o).1.length ≤ 100000) :
    rc_after_repeat (f + 1) 2 [.tuple (cs.map e), oD o] = some (.tuple [.list ((seqS F cs o).1.map pkD), oD (seqS F cs o).2]) := by
  obtain ⟨z, w, e1⟩ := ap_loop (e := e) (F := F) (some (.fr (.tuple (cs.map e)))) h o [] none none ho (by simpa using hl)
  rw [List.nil_append] at e1
  show runF 2 5 (mb_after_program (rc_after_repeat f)) _ = _
  exact ev_runF rfl (env := [some (.fr (.tuple (cs.map e))), some (.fr (oD (seqS F cs o).2)), some (.fr (.list ((seqS F cs o).1.map pkD))), z, w]) (ev_seq (e1 := [some (.fr (.tuple (cs.map e))), some (.fr (oD o)), some (.ow []), none, none]) rfl (ev_seq (ev_for (e1 := [some (.fr (.tuple (cs.map e))), some (.fr (oD o)), some (.ow []), none, none]) rfl e1) rfl))
theorem after_pl {p : Pl} (hp : PlOk p) {o : Od} (h : OOk o) (f : Nat) : rc_after_repeat (f + 1) 1 [plE p, oD o] = some (.tuple [.list ((semP p o).1.map pkD), oD (semP p o).2]) := by
  have e1 := picks_of_plain_spec hp h
  have e2 := after_plain_spec hp h
  have e3 : ∃ (w : Str) (r : List PyData), plE p = .tuple (.str w :: r) ∧ w ≠ "repeat" := (PC.of hp).head
  obtain ⟨w, r, e4, e5⟩ := e3
  show runF 2 2 (mb_after_command (rc_after_repeat f)) _ = _
  refine ev_runF rfl (env := startE 2 [plE p, oD o]) (ev_seq (e1 := startE 2 [plE p, oD o]) (ev_ifF (ev_tst (ev_bin (ev_ixN (z := .str w) rfl rfl rfl (by rw [e4]; simp [ixD, atI, ixN])) rfl (eqW e5)) rfl) rfl) (ev_ret (ev_tup (ev_cons (ev_cb (ev_cons rfl (ev_cons rfl ev_nil)) e1) (ev_cons (ev_cb (ev_cons rfl (ev_cons rfl ev_nil)) e2) ev_nil)) (by show (2 : Nat) ≤ 100000; decide))))
theorem mod2 (t : Int) : modD (.int t) (.int 2) = some (.int (t % 2)) := rfl
theorem after_cm {tm : Int} : ∀ (n f : Nat), 3 * n + 1 ≤ f → ∀ (c : Cm n), CmOk tm n c → szC n c ≤ 100000 → ∀ o, OOk o → rc_after_repeat f 1 [cmE n c, oD o] = some (.tuple [.list ((sem n c o).1.map pkD), oD (sem n c o).2])
  | 0, f + 1, _, p, h, _, o, ho => after_pl (p := p) h ho f
  | n + 1, f + 1, _, .inl p, h, _, o, ho => after_pl (p := p) h ho f
  | n + 1, f + 4, hf, .inr (t, ps), h, hs, o, ho => by
    have hs' : (ps.map (szC n)).sum ≤ 100000 := by
      have : szC (n + 1) (.inr (t, ps)) = 1 + (ps.map (szC n)).sum := rfl
      omega
    have q : ∀ c ∈ ps, ∀ o, OOk o → OOk (sem n c o).2 ∧ rc_after_repeat (f + 1) 1 [cmE n c, oD o] = some (.tuple [.list ((sem n c o).1.map pkD), oD (sem n c o).2]) := fun c hc o ho =>
      ⟨(sem_ok (h.2.2 c hc) ho).1, after_cm n (f + 1) (by omega) c (h.2.2 c hc) (Nat.le_trans (mem_le_sum (List.mem_map_of_mem hc)) hs') o ho⟩
    have e1 := ap_run (e := cmE n) q ho (Nat.le_trans (seq_len ps o) hs')
    have ho2 : OOk (seqS (sem n) ps o).2 := (seq_ok (fun c hc o ho => sem_ok (h.2.2 c hc) ho) ho).1
    have e2 := ap_run (e := cmE n) q ho2 (Nat.le_trans (seq_len ps _) hs')
    have e3 : rc_after_repeat (f + 3) 0 [.int t, .tuple (ps.map (cmE n)), oD o] = some (.tuple [.list ((seqS (sem n) ps o).1.map pkD), oD (if t % 2 = 0 then (seqS (sem n) ps (seqS (sem n) ps o).2).2 else (seqS (sem n) ps o).2)]) := by
      show runF 3 4 (mb_after_repeat (rc_after_repeat (f + 2))) _ = _
      by_cases z : t % 2 = 0
      · rw [if_pos z]
        refine ev_runF rfl (env := [some (.fr (.int t)), some (.fr (.tuple (ps.map (cmE n)))), some (.fr (oD (seqS (sem n) ps (seqS (sem n) ps o).2).2)), some (.fr (.list ((seqS (sem n) ps o).1.map pkD)))]) (ev_seq (ev_asg2 (e2 := [some (.fr (.int t)), some (.fr (.tuple (ps.map (cmE n)))), some (.fr (oD (seqS (sem n) ps o).2)), some (.fr (.list ((seqS (sem n) ps o).1.map pkD)))]) (ev_cb (ev_cons rfl (ev_cons rfl ev_nil)) e1) rfl) (ev_seq (ev_ifT (ev_tst (ev_bin (ev_bin rfl rfl (mod2 t)) rfl (by rw [z]; rfl)) rfl) (ev_setE (ev_bin (ev_cb (ev_cons rfl (ev_cons rfl ev_nil)) e2) rfl rfl) rfl)) rfl))
      · rw [if_neg z]
        refine ev_runF rfl (env := [some (.fr (.int t)), some (.fr (.tuple (ps.map (cmE n)))), some (.fr (oD (seqS (sem n) ps o).2)), some (.fr (.list ((seqS (sem n) ps o).1.map pkD)))]) (ev_seq (ev_asg2 (e2 := [some (.fr (.int t)), some (.fr (.tuple (ps.map (cmE n)))), some (.fr (oD (seqS (sem n) ps o).2)), some (.fr (.list ((seqS (sem n) ps o).1.map pkD)))]) (ev_cb (ev_cons rfl (ev_cons rfl ev_nil)) e1) rfl) (ev_seq (ev_ifF (ev_tst (ev_bin (ev_bin rfl rfl (mod2 t)) rfl (by show some (PyData.bool (decide (t % 2 = 0))) = _; rw [decide_eq_false z])) rfl) rfl) rfl))
    show runF 2 2 (mb_after_command (rc_after_repeat (f + 3))) _ = _
    exact ev_runF rfl (env := startE 2 [repE t (ps.map (cmE n)), oD o]) (ev_seqR (ev_ifT (ev_tst (ev_bin (ev_ixN rfl rfl rfl rfl) rfl rfl) rfl) (ev_ret (ev_cb (ev_cons (ev_ixN rfl rfl rfl rfl) (ev_cons (ev_ixN rfl rfl rfl rfl) (ev_cons rfl ev_nil))) e3))))
theorem after_program_spec {tm : Int} {n : Nat} (hn : n ≤ 3) {cs : List (Cm n)} (h : ∀ c ∈ cs, CmOk tm n c) (hs : (cs.map (szC n)).sum ≤ 100000) {o : Od} (ho : OOk o) : m_after_program [.tuple (cs.map (cmE n)), oD o] = some (.tuple [.list ((seqS (sem n) cs o).1.map pkD), oD (seqS (sem n) cs o).2]) :=
  ap_run (f := 11) (e := cmE n) (fun c hc o ho => ⟨(sem_ok (h c hc) ho).1, after_cm n 11 (by omega) c (h c hc) (Nat.le_trans (mem_le_sum (List.mem_map_of_mem hc)) hs) o ho⟩) ho (Nat.le_trans (seq_len cs o) hs)
end DL
end L2


set_option Elab.async false
set_option maxRecDepth 100000
set_option maxHeartbeats 4000000
set_option autoImplicit false
namespace L2
namespace DL
open PySem PySem.Spec PyProof.Rows
local instance labNone_K18K : Lab := { w := none, T := [], gd := True }
/-! ### tables told -/
def isInt : PyData → Bool
  | .int _ => true
  | _ => false
def isRec : PyData → Bool
  | .tuple ds => decide (1 ≤ ds.length) && decide (ds.length ≤ 5) && ds.all isInt
  | _ => false
def rowLen : PyData → Nat
  | .tuple ds => ds.length
  | _ => 0
def rowOk (w : Nat) (r : PyData) : Bool := isRec r && (rowLen r == w)
def badAt (w : Nat) : List PyData → Nat → Option Nat
  | [], _ => none
  | r :: rs, i => if rowOk w r then badAt w rs (i + 1) else some i
def rowsBad : List PyData → Option Nat
  | [] => none
  | r :: rs => if isRec r then badAt (rowLen r) rs 1 else some 0
def tabBad : PyData → Option PyData
  | .tuple rs => if 1 ≤ rs.length ∧ rs.length ≤ 30 then (rowsBad rs).map fun j => .int (j : Nat) else some .none
  | _ => some .none
theorem is_integer_spec (d : PyData) : m_is_integer [d] = some (.bool (isInt d)) := by cases d <;> rfl
theorem rec_lc (fe : DEnv → Option (PyData × DEnv)) (hfe : ∀ (o : Option DV) (d : PyData), fe [o, some (.fr d)] = some (.bool (isInt d), [o, some (.fr d)])) (ds : List PyData) (hl : ds.length ≤ 5) :
    fCB allD (fCons (fFrz (nLc (iSeq (rdF 0)) (gSet 1) fYes fe [1])) fNil) [some (.fr (.tuple ds)), none] = some (.bool (ds.all isInt), [some (.fr (.tuple ds)), none]) := by
  refine ev_cb (ev_cons (ev_frz (ds := ds.map fun d => .bool (isInt d)) ?_) ev_nil) (all_map isInt ds)
  show (if ds.length ≤ lim then lcD _ _ _ _ ds [some (.fr (.tuple ds)), none] else none) = _
  rw [if_pos (by show _ ≤ 100000; omega)]
  exact lc_map rfl ds fun d _ => hfe _ d
theorem is_record_spec (d : PyData) : m_is_record [d] = some (.bool (isRec d)) := by
  cases d with
  | tuple ds =>
    by_cases h1 : (1 : Int) ≤ ds.length
    · by_cases h5 : (ds.length : Int) ≤ 5
      · have e := rec_lc (fCB m_is_integer (fCons (rdF 1) fNil)) (fun o d => ev_cb (ev_cons rfl ev_nil) (is_integer_spec d)) ds (by omega)
        refine (ev_runF rfl (ev_seq (e1 := [some (.fr (.tuple ds)), none]) ?_ (ev_ret e))).trans ?_
        · refine ev_ifF (e1 := [some (.fr (.tuple ds)), none]) ?_ rfl
          simp [startE, fOr, fNot, fTst, fIsi, isiT, tyN, rdF, truthD, fChain, fC, fLenN, rdB, lenD, leD, intD, cv_MOST_COLUMNS, h1, h5]
        · have h1' : 1 ≤ ds.length := by omega
          have h5' : ds.length ≤ 5 := by omega
          simp [isRec, h1', h5']
      · have h5' : ¬ ds.length ≤ 5 := by omega
        simp [m_is_record, runF, mb_is_record, sSeq, sIf, sRet, startE, fOr, fNot, fTst, fIsi, isiT, tyN, rdF, truthD, fChain, fC, fLenN, rdB, lenD, leD, intD, cv_MOST_COLUMNS, h1, h5, isRec, h5']
    · have h1' : ds = [] := by
        cases ds with
        | nil => rfl
        | cons _ _ => exact absurd (by rw [List.length_cons]; omega) h1
      subst h1'
      rfl
  | _ => rfl
theorem isRec_tup {d : PyData} (h : isRec d = true) : ∃ ds, d = .tuple ds := by
  cases d with
  | tuple ds => exact ⟨ds, rfl⟩
  | _ => cases h
abbrev chkRow (m : List PyData → Option PyData) (S : DEnv → Option DFlow) := sIf (fOr (fNot (fTst (fCB m (fCons (rdF 2) fNil)))) (fTst (fBin neD (fLenN 2) (fCB lenD (fCons (fIxN 0 (fC (.int 0))) fNil))))) S sNil
abbrev enG := gTupD 2 (gsCons (gSet 1) (gsCons (gSet 2) gsNil))
section
variable {m : List PyData → Option PyData} (hm : ∀ d, m [d] = some (.bool (isRec d))) {S : DEnv → Option DFlow}
include hm
theorem row_good {xs : List PyData} {rest : List PyData} {i r : PyData} (h : rowOk xs.length r = true) : chkRow m S [some (.fr (.tuple (.tuple xs :: rest))), some (.fr i), some (.fr r)] = some (.nx [some (.fr (.tuple (.tuple xs :: rest))), some (.fr i), some (.fr r)]) := by
  rw [rowOk, Bool.and_eq_true] at h
  obtain ⟨h1, h2⟩ := h
  obtain ⟨ys, rfl⟩ := isRec_tup h1
  have h2' : ys.length = xs.length := by simpa [rowLen] using h2
  have e := hm (.tuple ys)
  rw [h1] at e
  simp [chkRow, sIf, fOr, fNot, fTst, fCB, fCons, fNil, rdF, e, truthD, fBin, neD, eqB, fLenN, rdB, lenD, fIxN, ixD, atI, ixN, fC, h2', sNil]
theorem row_bad {xs : List PyData} {rest : List PyData} {i r : PyData} (h : rowOk xs.length r = false) : chkRow m S [some (.fr (.tuple (.tuple xs :: rest))), some (.fr i), some (.fr r)] = S [some (.fr (.tuple (.tuple xs :: rest))), some (.fr i), some (.fr r)] := by
  have e := hm r
  cases h1 : isRec r with
  | false =>
    rw [h1] at e
    simp [chkRow, sIf, fOr, fNot, fTst, fCB, fCons, fNil, rdF, e, truthD]
  | true =>
    obtain ⟨ys, rfl⟩ := isRec_tup h1
    have h2' : ¬ ys.length = xs.length := by simpa [rowOk, h1, rowLen] using h
    have h2i : ¬ ((ys.length : Int) = xs.length) := by omega
    rw [h1] at e
    simp [chkRow, sIf, fOr, fNot, fTst, fCB, fCons, fNil, rdF, e, truthD, fBin, neD, eqB, fLenN, rdB, lenD, fIxN, ixD, atI, ixN, fC, h2i]
theorem row_bad0 {o : Option DV} {i r : PyData} (h : isRec r = false) : chkRow m S [o, some (.fr i), some (.fr r)] = S [o, some (.fr i), some (.fr r)] := by
  have e := hm r
  rw [h] at e
  simp [chkRow, sIf, fOr, fNot, fTst, fCB, fCons, fNil, rdF, e, truthD]
theorem rows_loop {fl : PyData → DEnv → DFlow} (hS : ∀ o i r, S [o, some (.fr i), some (.fr r)] = some (fl i [o, some (.fr i), some (.fr r)])) (hfl : ∀ {i e d ds env e1}, enG d env = some e1 → chkRow m S e1 = some (fl i e) → forD enG (chkRow m S) (d :: ds) env = some (fl i e)) {xs : List PyData} {rest : List PyData} :
    ∀ (rs : List PyData) (k : Nat) (z1 z2 : Option DV), ∃ z1' z2', forD enG (chkRow m S) ((rangeD k rs.length).zipWith (fun a b => .tuple [a, b]) rs) [some (.fr (.tuple (.tuple xs :: rest))), z1, z2] =
      some (match badAt xs.length rs k with
        | none => .nx [some (.fr (.tuple (.tuple xs :: rest))), z1', z2']
        | some j => fl (.int (j : Nat)) [some (.fr (.tuple (.tuple xs :: rest))), z1', z2'])
  | [], k, z1, z2 => ⟨z1, z2, rfl⟩
  | r :: rs, k, z1, z2 => by
    rw [List.length_cons, rangeD_succ, List.zipWith_cons_cons, badAt]
    cases h : rowOk xs.length r with
    | true =>
      obtain ⟨a, b, e⟩ := rows_loop hS hfl rs (k + 1) (some (.fr (.int k))) (some (.fr r))
      exact ⟨a, b, ev_forN rfl (row_good hm h) e⟩
    | false => exact ⟨_, _, hfl rfl ((row_bad hm h).trans (hS _ _ _))⟩
theorem tab_loop {fl : PyData → DEnv → DFlow} (hS : ∀ o i r, S [o, some (.fr i), some (.fr r)] = some (fl i [o, some (.fr i), some (.fr r)])) (hfl : ∀ {i e d ds env e1}, enG d env = some e1 → chkRow m S e1 = some (fl i e) → forD enG (chkRow m S) (d :: ds) env = some (fl i e)) (rs : List PyData) (z1 z2 : Option DV) :
    ∃ z1' z2', forD enG (chkRow m S) (enumD rs) [some (.fr (.tuple rs)), z1, z2] =
      some (match rowsBad rs with
        | none => .nx [some (.fr (.tuple rs)), z1', z2']
        | some j => fl (.int (j : Nat)) [some (.fr (.tuple rs)), z1', z2']) := by
  cases rs with
  | nil => exact ⟨z1, z2, rfl⟩
  | cons r rs =>
    rw [enum_cons, rowsBad]
    cases h : isRec r with
    | false => exact ⟨_, _, hfl rfl ((row_bad0 hm h).trans (hS _ _ _))⟩
    | true =>
      obtain ⟨xs, rfl⟩ := isRec_tup h
      obtain ⟨a, b, e⟩ := rows_loop (xs := xs) (rest := rs) hm hS hfl rs 1 (some (.fr (.int 0))) (some (.fr (.tuple xs)))
      exact ⟨a, b, ev_forN rfl (row_good hm (by simp [rowOk, h, rowLen])) e⟩
end
def tabX (d : PyData) : XR := match tabBad d with
  | none => .ok .none
  | some x => .ex "InvalidTable" "index" x
theorem check_table_spec (d : PyData) : m_check_table [d] = some (tabX d) := by
  cases d with
  | tuple rs =>
    by_cases h : 1 ≤ rs.length ∧ rs.length ≤ 30
    · have hb : tabBad (.tuple rs) = (rowsBad rs).map fun j => .int (j : Nat) := if_pos h
      obtain ⟨z1, z2, e⟩ := tab_loop is_record_spec (S := sRaise "InvalidTable" "index" (rdF 1)) (fl := fun i e => .ex "InvalidTable" "index" i e) (fun _ _ _ => rfl) (fun hg hb => ev_forX hg hb) rs none none
      have h1 : (1 : Int) ≤ rs.length := by omega
      have h3 : (rs.length : Int) ≤ 30 := by omega
      have e1 : sIf (fOr (fNot (fTst (fIsi "tuple" (rdF 0)))) (fNot (fTst (fChain leD leD (fC (.int 1)) (fLenN 0) (fC cv_MOST_RECORDS))))) (sRaise "InvalidTable" "index" (fC .none)) sNil [some (.fr (.tuple rs)), none, none] = some (.nx [some (.fr (.tuple rs)), none, none]) := by
        simp [sIf, sNil, fOr, fNot, fTst, fIsi, isiT, tyN, rdF, truthD, fChain, fC, fLenN, rdB, lenD, leD, intD, cv_MOST_RECORDS, h1, h3]
      unfold tabX
      rw [hb]
      cases hr : rowsBad rs with
      | none =>
        rw [hr] at e
        exact ev_runX0 rfl (ev_seq e1 (ev_for rfl e))
      | some j =>
        rw [hr] at e
        exact ev_runXX rfl (ev_seq e1 (ev_for rfl e))
    · have hb : tabBad (.tuple rs) = some .none := if_neg h
      unfold tabX
      rw [hb]
      have hc : ¬ ((1 : Int) ≤ rs.length ∧ (rs.length : Int) ≤ 30) := by omega
      by_cases h1 : (1 : Int) ≤ rs.length
      · have h3 : ¬ (rs.length : Int) ≤ 30 := fun z => hc ⟨h1, z⟩
        simp [m_check_table, runX, mb_check_table, startE, sSeq, sIf, sRaise, fOr, fNot, fTst, fIsi, isiT, tyN, rdF, truthD, fChain, fC, fLenN, rdB, lenD, leD, intD, cv_MOST_RECORDS, h1, h3]
      · simp [m_check_table, runX, mb_check_table, startE, sSeq, sIf, sRaise, fOr, fNot, fTst, fIsi, isiT, tyN, rdF, truthD, fChain, fC, fLenN, rdB, lenD, leD, intD, cv_MOST_RECORDS, h1]
  | _ => rfl
/-! ### rows that are ints -/
def RowI (w : Nat) (r : PyData) : Prop := ∃ is : List Int, r = .tuple (is.map .int) ∧ is.length = w
theorem RowI.ok {w : Nat} {r : PyData} (h : RowI w r) (h1 : 1 ≤ w) (h5 : w ≤ 5) : rowOk w r = true ∧ isRec r = true ∧ rowLen r = w := by
  obtain ⟨is, rfl, hl⟩ := h
  have : isRec (.tuple (is.map .int)) = true := by
    have a1 : 1 ≤ is.length := by omega
    have a5 : is.length ≤ 5 := by omega
    simp [isRec, a1, a5, isInt]
  exact ⟨by simp [rowOk, this, rowLen, hl], this, by simp [rowLen, hl]⟩
theorem bad_none {w : Nat} (h1 : 1 ≤ w) (h5 : w ≤ 5) : ∀ (rs : List PyData) (k : Nat), (∀ r ∈ rs, RowI w r) → badAt w rs k = none
  | [], _, _ => rfl
  | r :: rs, k, h => by
    rw [badAt, ((h r List.mem_cons_self).ok h1 h5).1]
    exact bad_none h1 h5 rs (k + 1) fun x hx => h x (List.mem_cons_of_mem _ hx)
structure TabI (rs : List PyData) : Prop where
  l1 : 1 ≤ rs.length
  l2 : rs.length ≤ 30
  row : ∃ w, 1 ≤ w ∧ w ≤ 5 ∧ ∀ r ∈ rs, RowI w r
theorem TabI.good {rs : List PyData} (h : TabI rs) : tabBad (.tuple rs) = none := by
  obtain ⟨w, h1, h5, hr⟩ := h.row
  rw [tabBad, if_pos ⟨h.l1, h.l2⟩]
  cases rs with
  | nil => rfl
  | cons r rs =>
    obtain ⟨a, b, c⟩ := (hr r List.mem_cons_self).ok h1 h5
    rw [rowsBad, b, c]
    show (badAt w rs 1).map _ = none
    rw [bad_none h1 h5 rs 1 fun x hx => hr x (List.mem_cons_of_mem _ hx)]
    rfl
theorem RowI.ly {w : Nat} {r : PyData} (h : RowI w r) : Ly 1 r := by
  obtain ⟨is, rfl, _⟩ := h
  exact Ly.tuple (ly_ints is)

end DL
end L2


set_option Elab.async false
set_option maxRecDepth 100000
set_option maxHeartbeats 4000000
set_option autoImplicit false
namespace L2
namespace DL
open PySem PySem.Spec PyProof.Rows
/-! ### orders, commands, picks: what they are apart from data -/
def dirsD : List Str := ["up", "down"]
abbrev Ky := Int × Str
def kd (k : Ky) : PyData := .tuple [.int k.1, .str k.2]
def plD (s : Str) : PyData := .tuple [.str "place", .str s]
def ordD (ks : List Ky) (s : Str) : PyData := .tuple (ks.map kd ++ [plD s])
structure KOk (n : Int) (ks : List Ky) : Prop where
  nd : (ks.map (·.1)).Nodup
  rg : ∀ k ∈ ks, 0 ≤ k.1 ∧ k.1 < n ∧ k.2 ∈ dirsD
abbrev KB := Int × Bool
abbrev Od := List KB × Bool
def dS (b : Bool) : Str := if b then "up" else "down"
def toKy (k : KB) : Ky := (k.1, dS k.2)
def oD (o : Od) : PyData := ordD (o.1.map toKy) (dS o.2)
structure OOk (o : Od) : Prop where
  nd : (o.1.map (·.1)).Nodup
  rg : ∀ k ∈ o.1, 0 ≤ k.1 ∧ k.1 < 4
theorem dS_in (b : Bool) : dS b ∈ dirsD := by cases b <;> simp [dS, dirsD]
theorem OOk.k {o : Od} (h : OOk o) : KOk 4 (o.1.map toKy) := by
  refine ⟨?_, fun k hk => ?_⟩
  · rw [List.map_map]; exact h.nd
  · obtain ⟨x, hx, rfl⟩ := List.mem_map.mp hk
    exact ⟨(h.rg x hx).1, (h.rg x hx).2, dS_in _⟩
theorem nodup_le {α : Type} [DecidableEq α] : ∀ (l t : List α), l.Nodup → (∀ x ∈ l, x ∈ t) → l.length ≤ t.length
  | [], _, _, _ => Nat.zero_le _
  | a :: l, t, hn, hs => by
    have ha := hs a List.mem_cons_self
    rw [List.nodup_cons] at hn
    have := nodup_le l (t.erase a) hn.2 fun x hx => by
      have hne : x ≠ a := fun z => hn.1 (by rw [← z]; exact hx)
      exact (List.mem_erase_of_ne hne).mpr (hs x (List.mem_cons_of_mem _ hx))
    rw [List.length_erase_of_mem ha] at this
    have hp : 0 < t.length := List.length_pos_of_mem ha
    rw [List.length_cons]
    omega
theorem OOk.len {o : Od} (h : OOk o) : o.1.length ≤ 4 := by
  have := nodup_le (o.1.map (·.1)) [0, 1, 2, 3] h.nd fun c hc => by
    obtain ⟨k, hk, rfl⟩ := List.mem_map.mp hc
    obtain ⟨a, b⟩ := h.rg k hk
    simp only [List.mem_cons, List.not_mem_nil, or_false]
    omega
  rwa [List.length_map] at this
def start0 : Od := ([], true)
def nK (k : KB) : KB := (k.1, !k.2)
def flO (o : Od) : Od := (o.1.map nK, !o.2)
def offO (c : Int) (ks : List KB) : List KB := ks.filter fun k => !decide (k.1 = c)
def putO (c : Int) (d : Bool) (o : Od) : Od := ((c, d) :: offO c o.1, o.2)
theorem start0_ok : OOk start0 := ⟨List.nodup_nil, fun _ h => nomatch h⟩
theorem OOk.fl {o : Od} (h : OOk o) : OOk (flO o) := by
  refine ⟨?_, fun k hk => ?_⟩
  · show ((o.1.map nK).map (·.1)).Nodup
    rw [List.map_map]; exact h.nd
  · obtain ⟨x, hx, rfl⟩ := List.mem_map.mp hk
    exact h.rg x hx
theorem OOk.put {o : Od} (h : OOk o) {c : Int} (h0 : 0 ≤ c) (h1 : c < 4) (d : Bool) : OOk (putO c d o) := by
  refine ⟨?_, fun k hk => ?_⟩
  · show (c :: (offO c o.1).map (·.1)).Nodup
    rw [List.nodup_cons]
    refine ⟨fun z => ?_, ?_⟩
    · obtain ⟨k, hk, e⟩ := List.mem_map.mp z
      have := (List.mem_filter.mp hk).2
      simp [e] at this
    · exact List.Sublist.nodup (List.Sublist.map _ List.filter_sublist) h.nd
  · rcases List.mem_cons.mp hk with rfl | hk
    · exact ⟨h0, h1⟩
    · exact h.rg k (List.mem_filter.mp hk).1
inductive Pl where
  | sort (d : Bool) (c : Int) | rev | res | cut (f : Bool) (k : Int)
def PlOk : Pl → Prop
  | .sort _ c => 0 ≤ c ∧ c < 4
  | .cut _ k => 2 ≤ k ∧ k ≤ 29
  | _ => True
def cS (b : Bool) : Str := if b then "first" else "last"
def plE : Pl → PyData
  | .sort d c => .tuple [.str (dS d), .int c]
  | .rev => .tuple [.str "reverse"]
  | .res => .tuple [.str "restore"]
  | .cut f k => .tuple [.str (cS f), .int k]
abbrev Pk := Od × Int
def pkD (p : Pk) : PyData := .tuple [oD p.1, .int p.2]
abbrev PkOk (p : Pk) : Prop := OOk p.1 ∧ 2 ≤ p.2 ∧ p.2 ≤ 29
def semP : Pl → Od → List Pk × Od
  | .sort d c, o => ([], putO c d o)
  | .rev, o => ([], flO o)
  | .res, _ => ([], start0)
  | .cut f k, o => ([(if f then o else flO o, k)], o)
theorem semP_ok {p : Pl} (h : PlOk p) {o : Od} (ho : OOk o) : OOk (semP p o).2 ∧ ∀ x ∈ (semP p o).1, PkOk x := by
  cases p with
  | sort d c => exact ⟨ho.put h.1 h.2 d, fun _ z => nomatch z⟩
  | rev => exact ⟨ho.fl, fun _ z => nomatch z⟩
  | res => exact ⟨start0_ok, fun _ z => nomatch z⟩
  | cut f k =>
    refine ⟨ho, fun x hx => ?_⟩
    rw [show x = (if f then o else flO o, k) from List.mem_singleton.mp hx]
    refine ⟨?_, h.1, h.2⟩
    cases f
    · exact ho.fl
    · exact ho
def Cm : Nat → Type
  | 0 => Pl
  | n + 1 => Pl ⊕ (Int × List (Cm n))
def repE (t : Int) (ps : List PyData) : PyData := .tuple [.str "repeat", .int t, .tuple ps]
def cmE : (n : Nat) → Cm n → PyData
  | 0, p => plE p
  | _ + 1, .inl p => plE p
  | n + 1, .inr (t, ps) => repE t (ps.map (cmE n))
def seqS {α : Type} (f : α → Od → List Pk × Od) : List α → Od → List Pk × Od
  | [], o => ([], o)
  | c :: cs, o => ((f c o).1 ++ (seqS f cs (f c o).2).1, (seqS f cs (f c o).2).2)
def sem : (n : Nat) → Cm n → Od → List Pk × Od
  | 0, p, o => semP p o
  | _ + 1, .inl p, o => semP p o
  | n + 1, .inr (t, ps), o => ((seqS (sem n) ps o).1, if t % 2 = 0 then (seqS (sem n) ps (seqS (sem n) ps o).2).2 else (seqS (sem n) ps o).2)
def CmOk (tm : Int) : (n : Nat) → Cm n → Prop
  | 0, p => PlOk p
  | _ + 1, .inl p => PlOk p
  | n + 1, .inr (t, ps) => 1 ≤ t ∧ t ≤ tm ∧ ∀ c ∈ ps, CmOk tm n c
def szC : (n : Nat) → Cm n → Nat
  | 0, _ => 1
  | _ + 1, .inl _ => 1
  | n + 1, .inr (_, ps) => 1 + (ps.map (szC n)).sum
theorem seq_ok {α : Type} {f : α → Od → List Pk × Od} {cs : List α} (h : ∀ c ∈ cs, ∀ o, OOk o → OOk (f c o).2 ∧ ∀ x ∈ (f c o).1, PkOk x) : ∀ {o : Od}, OOk o → OOk (seqS f cs o).2 ∧ ∀ x ∈ (seqS f cs o).1, PkOk x := by
  induction cs with
  | nil => exact fun ho => ⟨ho, fun _ z => nomatch z⟩
  | cons c cs ih =>
    intro o ho
    obtain ⟨a, b⟩ := h c List.mem_cons_self o ho
    obtain ⟨a2, b2⟩ := ih (fun x hx => h x (List.mem_cons_of_mem _ hx)) a
    refine ⟨a2, fun x hx => ?_⟩
    rcases List.mem_append.mp hx with z | z
    · exact b x z
    · exact b2 x z
theorem sem_ok {tm : Int} : ∀ {n : Nat} {c : Cm n}, CmOk tm n c → ∀ {o : Od}, OOk o → OOk (sem n c o).2 ∧ ∀ x ∈ (sem n c o).1, PkOk x
  | 0, p, h, o, ho => semP_ok (p := p) h ho
  | n + 1, .inl p, h, o, ho => semP_ok (p := p) h ho
  | n + 1, .inr (t, ps), h, o, ho => by
    have q : ∀ c ∈ ps, ∀ o, OOk o → OOk (sem n c o).2 ∧ ∀ x ∈ (sem n c o).1, PkOk x := fun c hc o ho => sem_ok (h.2.2 c hc) ho
    obtain ⟨a, b⟩ := seq_ok q ho
    refine ⟨?_, b⟩
    show OOk (if t % 2 = 0 then _ else _)
    split
    · exact (seq_ok q a).1
    · exact a
/-! ### what turns do to an order -/
def offs (P ks : List KB) : List KB := ks.filter fun k => !decide (k.1 ∈ P.map (·.1))
def phi (b : Bool) (ks : List KB) : List KB := if b then ks.map nK else ks
structure ShF (f : Od → Od) (P : List KB) (b : Bool) : Prop where
  eq : ∀ o, f o = (P ++ phi b (offs P o.1), o.2.xor b)
end DL
end L2


set_option Elab.async false
set_option maxRecDepth 100000
set_option maxHeartbeats 4000000
set_option autoImplicit false
namespace L2
namespace DL
open PySem PySem.Spec PyProof.Rows
/-! ### picks, shortened -/
def keep : Int → List Pk → List Pk
  | _, [] => []
  | m, p :: ps => if p.2 < m then p :: keep p.2 ps else keep m ps
def minS : Int → List Pk → Int
  | m, [] => m
  | m, p :: ps => if p.2 < m then minS p.2 ps else minS m ps
theorem keep_app : ∀ (m : Int) (a b : List Pk), keep m (a ++ b) = keep m a ++ keep (minS m a) b
  | _, [], _ => rfl
  | m, p :: a, b => by
    rw [List.cons_append, keep, keep, minS]
    split
    · rw [keep_app]; rfl
    · rw [keep_app]
def minIs (m x : Int) : Option Pk → Prop
  | none => x = m
  | some q => x = q.2
theorem keep_last : ∀ (m : Int) (ps : List Pk), minIs m (minS m ps) (keep m ps).getLast?
  | m, [] => rfl
  | m, p :: ps => by
    rw [keep, minS]
    split
    · have := keep_last p.2 ps
      rw [List.getLast?_cons]
      generalize (keep p.2 ps).getLast? = o at this ⊢
      cases o with
      | none => exact this
      | some q => exact this
    · exact keep_last m ps
def dedup : List Pk → List Pk
  | [] => []
  | [p] => [p]
  | p :: q :: r => if p.1 = q.1 then dedup (q :: r) else p :: dedup (q :: r)
def short (ps : List Pk) : List Pk := dedup (keep 30 ps)
theorem dedup_ne : ∀ (p : Pk) (L : List Pk), dedup (p :: L) ≠ []
  | p, [] => by simp [dedup]
  | p, q :: L => by
    rw [dedup]
    split
    · exact dedup_ne q L
    · simp
theorem dedup_last : ∀ (L : List Pk), (dedup L).getLast? = L.getLast?
  | [] => rfl
  | [p] => rfl
  | p :: q :: r => by
    rw [dedup]
    have ih := dedup_last (q :: r)
    split
    · rw [ih, List.getLast?_cons_cons]
    · have hne := dedup_ne q r
      cases hd : dedup (q :: r) with
      | nil => exact absurd hd hne
      | cons a b => rw [List.getLast?_cons_cons, List.getLast?_cons_cons, ← hd, ih]
def snocIs (L : List Pk) (p : Pk) : Option Pk → List Pk
  | none => [p]
  | some q => if q.1 = p.1 then (dedup L).dropLast ++ [p] else dedup L ++ [p]
theorem dedup_snoc : ∀ (L : List Pk) (p : Pk), dedup (L ++ [p]) = snocIs L p L.getLast?
  | [], p => rfl
  | [q], p => by
    show dedup [q, p] = if q.1 = p.1 then [p] else [q, p]
    simp only [dedup]
  | a :: b :: r, p => by
    have ih := dedup_snoc (b :: r) p
    rw [List.getLast?_cons_cons]
    show dedup (a :: b :: (r ++ [p])) = _
    rw [dedup, show b :: (r ++ [p]) = (b :: r) ++ [p] from rfl, ih]
    cases hl : (b :: r).getLast? with
    | none => simp at hl
    | some q =>
      unfold snocIs
      dsimp only
      rw [dedup]
      by_cases hab : a.1 = b.1
      · rw [if_pos hab, if_pos hab]
      · rw [if_neg hab, if_neg hab]
        have hne := dedup_ne b r
        cases hd : dedup (b :: r) with
        | nil => exact absurd hd hne
        | cons x y => split <;> simp
structure SameS (a b : List Pk × Od) : Prop where
  o : a.2 = b.2
  k : ∀ m, keep m a.1 = keep m b.1 ∧ minS m a.1 = minS m b.1
end DL
end L2


set_option Elab.async false
set_option maxRecDepth 100000
set_option maxHeartbeats 4000000
set_option autoImplicit false
namespace L2
namespace DL
open PySem PySem.Spec PyProof.Rows PySem.Calls
variable [Lab]
section
variable {X : Cx} {F : Fm} {e a b : Expr} {f : DEnv → Option (PyData × DEnv)} {pos p : Pos}
end
end DL
end L2


set_option Elab.async false
set_option maxRecDepth 100000
set_option maxHeartbeats 4000000
set_option autoImplicit false
namespace L2
namespace DL
open PySem PySem.Spec PyProof.Rows PySem.Calls
variable [Lab]
section
variable {X : Cx} {F : Fm} {a e : Expr} {f : DEnv → Option (PyData × DEnv)} {pos p : Pos} {pins : List (Addr × Obj)} {σ : St} {H : Hp} {s : Shared}
/-! ### tuple(range(e)) -/
def fTupRg (f : DEnv → Option (PyData × DEnv)) (env : DEnv) : Option (PyData × DEnv) := (f env).bind fun x => match x.1 with
  | .int j => if j ≤ 100000 ∧ -100000 ≤ j then some (.tuple (rangeD 0 j.toNat), x.2) else none
  | _ => none
theorem ev_tupRg {env e1 : DEnv} {j : Nat} (h : f env = some (.int j, e1)) (hj : j ≤ 100000) : fTupRg f env = some (.tuple (rangeD 0 j), e1) := by
  unfold fTupRg; rw [h]
  show (if (j : Int) ≤ 100000 ∧ -100000 ≤ (j : Int) then some (PyData.tuple (rangeD 0 ((j : Nat) : Int).toNat), e1) else none) = _
  rw [if_pos (by omega), Int.toNat_natCast]
/-! ### sorted(t, key=lambda y: body), t a tuple -/
def nSortT (fi fb : DEnv → Option (PyData × DEnv)) (env : DEnv) : Option (List PyData × DEnv) := (fi env).bind fun x => match x.1 with
  | .tuple ds => (keysD fb x.2 ds).bind fun ks => if ks.all intsT then some (sortD ds ks, x.2) else none
  | _ => none
end
end DL
end L2


set_option Elab.async false
set_option maxRecDepth 100000
set_option maxHeartbeats 4000000
set_option autoImplicit false
namespace L2
namespace DL
open PySem PySem.Spec PyProof.Rows
structure KvOk (n : Nat) (kv : Nat → List Int) : Prop where
  len : ∀ i j, i < n → j < n → (kv i).length = (kv j).length
  inj : ∀ i j, i < n → j < n → kv i = kv j → i = j
abbrev Tab := List (List Int)
def rowD (r : List Int) : PyData := .tuple (r.map .int)
def tabD (t : Tab) : PyData := .tuple (t.map rowD)
def sg (d : Str) (x : Int) : Int := if d = "up" then x else -x
def cellT (t : Tab) (i : Nat) (c : Int) : Int := (t.getD i []).getD c.toNat 0
def kvs (t : Tab) (ks : List Ky) (i : Nat) : List Int := ks.map fun k => sg k.2 (cellT t i k.1)
def kv (t : Tab) (ks : List Ky) (s : Str) (i : Nat) : List Int := kvs t ks i ++ [sg s i]
structure TabW (w : Nat) (t : Tab) : Prop where
  l1 : 1 ≤ t.length
  l2 : t.length ≤ 30
  w1 : 1 ≤ w
  w5 : w ≤ 5
  row : ∀ r ∈ t, r.length = w
/-! ### places by an order -/
def kvO (t : Tab) (o : Od) (i : Nat) : List Int := kv t (o.1.map toKy) (dS o.2) i
def srtP (key : Nat → List Int) (l : List Nat) : List Nat := l.mergeSort (PySem.W.dataLe false fun i : Nat => PyData.tuple ((key i).map .int))
structure KvA (key : Nat → List Int) : Prop where
  len : ∀ i j, (key i).length = (key j).length
  inj : ∀ i j, key i = key j → i = j
theorem srtP_perm (key : Nat → List Int) (l : List Nat) : (srtP key l).Perm l := List.mergeSort_perm _ _
theorem srtP_len (key : Nat → List Int) (l : List Nat) : (srtP key l).length = l.length := (srtP_perm key l).length_eq
/-! ### what picks leave -/
def pickedP (t : Tab) : List Pk → List Nat → List Nat
  | [], l => l
  | p :: ps, l => pickedP t ps ((srtP (kvO t p.1) l).take p.2.toNat)
def runP (t : Tab) (r : List Pk × Od) : List Nat := srtP (kvO t r.2) (pickedP t r.1 (List.range t.length))
theorem pickedP_sub (t : Tab) : ∀ (ps : List Pk) {l : List Nat} {i : Nat}, i ∈ pickedP t ps l → i ∈ l
  | [], _, _, h => h
  | p :: ps, l, i, h => (srtP_perm _ l).mem_iff.mp (List.mem_of_mem_take (pickedP_sub t ps h))
theorem pickedP_len (t : Tab) : ∀ (ps : List Pk) (l : List Nat), (pickedP t ps l).length ≤ l.length
  | [], _ => Nat.le_refl _
  | p :: ps, l => by
    refine Nat.le_trans (pickedP_len t ps _) ?_
    rw [List.length_take, srtP_len]
    omega
structure StandL (t : Tab) (x : List Nat × Od) (l : List Nat) : Prop where
  nd : x.1.Nodup
  so : x.1.Pairwise fun i j => kvO t x.2 i < kvO t x.2 j
  pm : x.1.Perm l
theorem runP_lt {t : Tab} {r : List Pk × Od} {i : Nat} (h : i ∈ runP t r) : i < t.length := List.mem_range.mp (pickedP_sub t _ ((srtP_perm _ _).mem_iff.mp h))
theorem runP_len (t : Tab) (r : List Pk × Od) : (runP t r).length ≤ t.length := by
  unfold runP
  rw [srtP_len]
  exact Nat.le_trans (pickedP_len t _ _) (by rw [List.length_range]; exact Nat.le_refl _)
end DL
end L2


set_option Elab.async false
set_option maxRecDepth 100000
set_option maxHeartbeats 4000000
set_option autoImplicit false
namespace L2
namespace DL
open PySem PySem.Spec PyProof.Rows
/-! ### picks, shortened one by one -/
def stepS (F : List Pk) (p : Pk) : List Pk := match F.getLast? with
  | none => [p]
  | some q => if q.2 ≤ p.2 then F else if q.1 = p.1 then F.dropLast ++ [p] else F ++ [p]
def foldS (F : List Pk) (ps : List Pk) : List Pk := ps.foldl stepS F
theorem foldS_app (F a b : List Pk) : foldS F (a ++ b) = foldS (foldS F a) b := List.foldl_append
theorem foldS_snoc (F a : List Pk) (p : Pk) : foldS F (a ++ [p]) = stepS (foldS F a) p := by rw [foldS_app]; rfl
theorem snoc_or {α : Type} (l : List α) : l = [] ∨ ∃ m x, l = m ++ [x] := by
  rcases l.eq_nil_or_concat with h | ⟨m, x, h⟩
  · exact .inl h
  · exact .inr ⟨m, x, by rw [h, List.concat_eq_append]⟩
/-- short is that -/
theorem short_snoc (a : List Pk) {p : Pk} (hp : p.2 < 30) : short (a ++ [p]) = stepS (short a) p := by
  unfold short
  rw [keep_app]
  have hl := keep_last 30 a
  have hd := dedup_last (keep 30 a)
  show dedup (keep 30 a ++ if p.2 < minS 30 a then p :: keep p.2 [] else keep (minS 30 a) []) = _
  unfold stepS
  rw [hd]
  generalize keep 30 a = K at hl hd ⊢
  have e0 : keep p.2 [] = [] := rfl
  have e1 : keep (minS 30 a) [] = [] := rfl
  rw [e0, e1]
  by_cases h : p.2 < minS 30 a
  · rw [if_pos h, dedup_snoc]
    cases hK : K.getLast? with
    | none => rfl
    | some q =>
      rw [hK] at hl
      have hq : minS 30 a = q.2 := hl
      show (if q.1 = p.1 then _ else _) = if q.2 ≤ p.2 then _ else _
      rw [if_neg (show ¬ q.2 ≤ p.2 by omega)]
  · rw [if_neg h, List.append_nil]
    cases hK : K.getLast? with
    | none =>
      rw [hK] at hl
      have hq : minS 30 a = 30 := hl
      omega
    | some q =>
      rw [hK] at hl
      have hq : minS 30 a = q.2 := hl
      show _ = if q.2 ≤ p.2 then _ else _
      rw [if_pos (by omega)]
theorem short_fold : ∀ (n : Nat) (a : List Pk), a.length = n → (∀ p ∈ a, p.2 < 30) → short a = foldS [] a
  | 0, a, h, _ => by rw [List.eq_nil_of_length_eq_zero h]; rfl
  | n + 1, a, h, hp => by
    rcases snoc_or a with rfl | ⟨b, p, rfl⟩
    · rfl
    · rw [short_snoc b (hp p (by simp)), foldS_snoc, short_fold n b (by rw [List.length_append] at h; simpa using h) fun q hq => hp q (List.mem_append_left _ hq)]
theorem short_eq {a : List Pk} (h : ∀ p ∈ a, PkOk p) : short a = foldS [] a := short_fold a.length a rfl fun p hp => by have := (h p hp).2.2; omega
/-! ### the same: orders alike, picks alike whatever was picked before -/
structure Alk (a b : List Pk × Od) : Prop where
  o : a.2 = b.2
  k : ∀ F, foldS F a.1 = foldS F b.1
theorem Alk.refl (a : List Pk × Od) : Alk a a := ⟨rfl, fun _ => rfl⟩
theorem Alk.trans {a b c : List Pk × Od} (h : Alk a b) (h2 : Alk b c) : Alk a c := ⟨h.o.trans h2.o, fun F => (h.k F).trans (h2.k F)⟩
theorem Alk.symm {a b : List Pk × Od} (h : Alk a b) : Alk b a := ⟨h.o.symm, fun F => (h.k F).symm⟩
theorem Alk.short {a b : List Pk × Od} (h : Alk a b) (ha : ∀ p ∈ a.1, PkOk p) (hb : ∀ p ∈ b.1, PkOk p) : short a.1 = short b.1 := by
  rw [short_eq ha, short_eq hb, h.k]
section
variable {α : Type} {f : α → Od → List Pk × Od}
end
end DL
end L2


set_option Elab.async false
set_option maxRecDepth 100000
set_option maxHeartbeats 4000000
set_option autoImplicit false
namespace L2
namespace DL
open PySem PySem.Spec PyProof.Rows
end DL
end L2


set_option Elab.async false
set_option maxRecDepth 100000
set_option maxHeartbeats 4000000
set_option autoImplicit false
namespace L2
namespace DL
open PySem PySem.Spec PyProof.Rows
local instance labNone_RnD : Lab := { w := none, T := [], gd := True }
end DL
end L2


set_option Elab.async false
set_option maxRecDepth 100000
set_option maxHeartbeats 4000000
set_option autoImplicit false
namespace L2
namespace DL
open PySem PySem.Spec PyProof.Rows PySem.Calls
variable [Lab]
section
variable {X : Cx} {F : Fm} {k n j : Nat} {f : Addr} {fd : FuncData} {ps ks : List Str} {x y : Str} {p pos pn : Pos} {e : Expr} {es : List Expr} {fa fb : DEnv → Option (List PyData × DEnv)}
end
end DL
end L2


set_option Elab.async false
set_option maxRecDepth 100000
set_option maxHeartbeats 4000000
set_option autoImplicit false
/-! ### a for loop in a generator -/
namespace L2
open PySem PySem.Spec PyProof.Rows GenW
section
variable {prog : Program} {w : World} {A : Around} {R : GenEnd} {Y : Protocol} {n : Nat} {s₀ : Shared} {c : Code} {fs : List Frame} {s : Shared} {env : Env} {K : Flow → Sem PySem.Fin} {J : Value → Sem PySem.Fin} {gd : Bool → Bool} {lv : List Value → List Value} {tg iter : Expr} {it : Value} {body : List Stmt} {pos : Pos}
end
section
variable {X : Cx} {tg iter : Expr} {body : List Stmt} {pos : Pos} {wi : TI} {g : TG} {tb : TGn}
end
end L2


set_option Elab.async false
set_option maxRecDepth 100000
set_option maxHeartbeats 4000000
set_option autoImplicit false
/-! ### generators' bodies over data -/
namespace L2
namespace DL
open PySem PySem.Spec PyProof.Rows GenW
variable [Lab]
section
variable {X : Cx} {F : Fm} {tg iter e : Expr} {s : Stmt} {ss : List Stmt} {pos yp : Pos} {f : DEnv → Option (PyData × DEnv)} {fi b fy fz : DEnv → Option (List PyData × DEnv)} {fs : DEnv → Option DFlow} {g : PyData → DEnv → Option DEnv}
def yPlain (f : DEnv → Option DFlow) (env : DEnv) : Option (List PyData × DEnv) := (f env).bind fun fl => match fl with
  | .nx e => some ([], e)
  | _ => none
def yYield (f : DEnv → Option (PyData × DEnv)) (env : DEnv) : Option (List PyData × DEnv) := (f env).map fun x => ([x.1], x.2)
def yNil (env : DEnv) : Option (List PyData × DEnv) := some ([], env)
def ySeq (f g : DEnv → Option (List PyData × DEnv)) (env : DEnv) : Option (List PyData × DEnv) := (f env).bind fun x => (g x.2).map fun y => (x.1 ++ y.1, y.2)
def forY (g : PyData → DEnv → Option DEnv) (b : DEnv → Option (List PyData × DEnv)) : List PyData → DEnv → Option (List PyData × DEnv)
  | [], env => some ([], env)
  | d :: ds, env => (g d env).bind fun e1 => (b e1).bind fun x => (forY g b ds x.2).map fun y => (x.1 ++ y.1, y.2)
def yFor (fi : DEnv → Option (List PyData × DEnv)) (g : PyData → DEnv → Option DEnv) (b : DEnv → Option (List PyData × DEnv)) (env : DEnv) : Option (List PyData × DEnv) := (fi env).bind fun x => forY g b x.1 x.2
end
section
variable {P : Program} {w : World} {K : PySem.W.Frag} {mg : Str → Option Value} {base : Heap} {x qual : Str} {st : Stmt} {f : Addr} {fd : FuncData} {N ps : List Str} {k : Nat} {g : DEnv → Option (List PyData × DEnv)}
end
section
variable {X : Cx} {F : Fm} {k n : Nat} {f : Addr} {fd : FuncData} {ps : List Str} {x nm : Str} {p p2 pos pos2 : Pos} {e : Expr} {es : List Expr} {fa : DEnv → Option (List PyData × DEnv)}
end
/-- repr may be written -/
class LabR [Lab] : Prop where
  on : Lab.gd
end DL
end L2


set_option Elab.async false
set_option maxRecDepth 100000
set_option maxHeartbeats 4000000
set_option autoImplicit false
namespace L2
namespace DL
open PySem PySem.Spec PyProof.Rows
section
variable [Lab]
variable {X : Cx} {F : Fm}
def rep3D : PyData → PyData → Option PyData
  | .tuple xs, .int k => if (1 ≤ k ∨ k = 0 ∧ xs ≠ []) ∧ k ≤ 1000 ∧ xs.length ≤ 1000 then some (.tuple (List.replicate k.toNat xs).flatten) else none
  | _, _ => none
end
end DL
end L2


set_option Elab.async false
set_option maxRecDepth 100000
set_option maxHeartbeats 4000000
set_option autoImplicit false
namespace L2
namespace DL
open PySem PySem.Spec PyProof.Rows
section
variable [Lab]
variable {X : Cx} {F : Fm} {pos : Pos}
end
end DL
end L2


set_option Elab.async false
set_option maxRecDepth 100000
set_option maxHeartbeats 4000000
set_option autoImplicit false
namespace L2
namespace DL
open PySem PySem.Spec PyProof.Rows
local instance labNone_K18L : Lab := { w := none, T := [], gd := True }
/-! ### a table is checked -/
theorem check_table_okX {rs : List PyData} (ht : TabI rs) : m_check_table [.tuple rs] = some (.ok .none) := by
  rw [check_table_spec]
  unfold tabX
  rw [ht.good]
theorem TabW.tab {w : Nat} {t : Tab} (h : TabW w t) : TabI (t.map rowD) := by
  refine ⟨by rw [List.length_map]; exact h.l1, by rw [List.length_map]; exact h.l2, w, h.w1, h.w5, fun r hr => ?_⟩
  obtain ⟨is, hi, rfl⟩ := List.mem_map.mp hr
  exact ⟨is, rfl, h.row is hi⟩
theorem rows_of {w : Nat} : ∀ {rs : List PyData}, (∀ r ∈ rs, RowI w r) → ∃ t : Tab, rs = t.map rowD ∧ ∀ r ∈ t, r.length = w
  | [], _ => ⟨[], rfl, fun _ h => nomatch h⟩
  | r :: rs, h => by
    obtain ⟨t, rfl, ht⟩ := rows_of (rs := rs) fun x hx => h x (List.mem_cons_of_mem _ hx)
    obtain ⟨is, rfl, hl⟩ := h r List.mem_cons_self
    refine ⟨is :: t, rfl, fun r hr => ?_⟩
    rcases List.mem_cons.mp hr with rfl | hr
    · exact hl
    · exact ht r hr
theorem TabI.tabW {rs : List PyData} (h : TabI rs) : ∃ w t, rs = List.map rowD t ∧ TabW w t := by
  obtain ⟨w, w1, w5, hr⟩ := h.row
  obtain ⟨t, rfl, ht⟩ := rows_of hr
  have l1 := h.l1
  have l2 := h.l2
  rw [List.length_map] at l1 l2
  exact ⟨w, t, rfl, l1, l2, w1, w5, ht⟩
/-! ### what the program's defs give -/
theorem at_nat {α : Type} {l : List α} {i : Nat} (h : i < l.length) : atI l (i : Int) = some l[i] := by
  have h1 : (i : Int) < (l.length : Int) := by omega
  simp [atI, ixN, h1, h]
theorem at_row {w : Nat} {t : Tab} (h : TabW w t) {i : Nat} (hi : i < t.length) : ixD (tabD t) (.int i) = some (rowD (t.getD i [])) := by
  show atI (t.map rowD) (i : Int) = _
  rw [at_nat (by rw [List.length_map]; exact hi), List.getElem_map]
  congr 2
  rw [List.getD_eq_getElem?_getD, List.getElem?_eq_getElem hi]
  rfl
theorem at_cell {w : Nat} {t : Tab} (h : TabW w t) {i : Nat} (hi : i < t.length) {c : Int} (c0 : 0 ≤ c) (c1 : c < w) : ixD (rowD (t.getD i [])) (.int c) = some (.int (cellT t i c)) := by
  have hr : t.getD i [] ∈ t := by
    rw [List.getD_eq_getElem?_getD, List.getElem?_eq_getElem hi]
    exact List.getElem_mem hi
  have hl := h.row _ hr
  obtain ⟨k, rfl⟩ : ∃ k : Nat, c = k := ⟨c.toNat, by omega⟩
  have hk : k < (t.getD i []).length := by omega
  show atI ((t.getD i []).map PyData.int) (k : Int) = _
  rw [at_nat (by rw [List.length_map]; exact hk), List.getElem_map]
  congr 2
  unfold cellT
  rw [Int.toNat_natCast]
  exact (List.getElem_eq_getD (h := hk) 0)
theorem eq_place (c : Int) : eqD (.int c) (.str "place") = some (.bool false) := by
  have h1 : shD (.int c) = true := (ly_int c).sh (by decide)
  have h2 : shD (.str "place") = true := by decide +kernel
  show ((if shD (.int c) && shD (.str "place") then some (PyData.eqv (.int c) (.str "place")) else none).map PyData.bool) = _
  rw [h1, h2]
  rfl
abbrev svBody := sSeq (sSet 6 (fIf (fTst (fBin eqD (rdF 4) (fC (.str "place")))) (rdF 2) (fBin ixD (fIxN 0 (rdF 2)) (rdF 4)))) (sApp 3 (fIf (fTst (fBin eqD (rdF 5) (fC (.str "up")))) (rdF 6) (fNeg (rdF 6))))
theorem sv_app {a b c d : Option DV} {x : Int} {s : Str} {fs : List PyData} (hl : fs.length < 1000) : sApp 3 (fIf (fTst (fBin eqD (rdF 5) (fC (.str "up")))) (rdF 6) (fNeg (rdF 6))) [a, b, c, some (.ow fs), d, some (.fr (.str s)), some (.fr (.int x))] = some (.nx [a, b, c, some (.ow (fs ++ [.int (sg s x)])), d, some (.fr (.str s)), some (.fr (.int x))]) := by
  have hl' : fs.length < 100000 := by omega
  by_cases h : s = "up"
  · subst h
    simp [sApp, rdO, wrO, fIf, fTst, fBin, eqD, eqB, rdF, fC, truthD, lim, hl', sg]
  · simp [sApp, rdO, wrO, fIf, fTst, fBin, eqD, eqB, rdF, fC, truthD, lim, hl', sg, h, fNeg]
theorem sv_turn {w : Nat} {t : Tab} (ht : TabW w t) {i : Nat} (hi : i < t.length) {o z3 : Option DV} {k : Ky} (h0 : 0 ≤ k.1) (h1 : k.1 < w) {fs : List PyData} (hl : fs.length < 1000) :
    svBody [some (.fr (tabD t)), o, some (.fr (.int i)), some (.ow fs), some (.fr (.int k.1)), some (.fr (.str k.2)), z3] = some (.nx [some (.fr (tabD t)), o, some (.fr (.int i)), some (.ow (fs ++ [.int (sg k.2 (cellT t i k.1))])), some (.fr (.int k.1)), some (.fr (.str k.2)), some (.fr (.int (cellT t i k.1)))]) := by
  refine ev_seq (e1 := [some (.fr (tabD t)), o, some (.fr (.int i)), some (.ow fs), some (.fr (.int k.1)), some (.fr (.str k.2)), some (.fr (.int (cellT t i k.1)))]) ?_ (sv_app hl)
  have e1 := eq_place k.1
  have e2 := at_row ht hi
  have e3 := at_cell ht hi h0 h1
  simp [sSet, fIf, fTst, fBin, rdF, fC, e1, truthD, fIxN, rdB, e2]
  simpa using e3
theorem sv_last {t : Tab} {i : Nat} {o z3 : Option DV} {s : Str} {fs : List PyData} (hl : fs.length < 1000) :
    svBody [some (.fr (tabD t)), o, some (.fr (.int i)), some (.ow fs), some (.fr (.str "place")), some (.fr (.str s)), z3] = some (.nx [some (.fr (tabD t)), o, some (.fr (.int i)), some (.ow (fs ++ [.int (sg s i)])), some (.fr (.str "place")), some (.fr (.str s)), some (.fr (.int i))]) := by
  refine ev_seq (e1 := [some (.fr (tabD t)), o, some (.fr (.int i)), some (.ow fs), some (.fr (.str "place")), some (.fr (.str s)), some (.fr (.int i))]) ?_ (sv_app hl)
  simp [sSet, fIf, fTst, fBin, rdF, fC, eqD, eqB, truthD]
theorem sv_loop {w : Nat} {t : Tab} (ht : TabW w t) {i : Nat} (hi : i < t.length) {o : Option DV} {s : Str} : ∀ (ks : List Ky) (fs : List PyData) (z1 z2 z3 : Option DV), (∀ k ∈ ks, 0 ≤ k.1 ∧ k.1 < (w : Int)) → fs.length + ks.length < 900 →
    ∃ z1' z2' z3', forD (gTupD 2 (gsCons (gSet 4) (gsCons (gSet 5) gsNil))) svBody (ks.map kd ++ [plD s]) [some (.fr (tabD t)), o, some (.fr (.int i)), some (.ow fs), z1, z2, z3] = some (.nx [some (.fr (tabD t)), o, some (.fr (.int i)), some (.ow (fs ++ (kv t ks s i).map .int)), z1', z2', z3'])
  | [], fs, z1, z2, z3, _, hl => ⟨_, _, _, ev_forN rfl (sv_last (by rw [List.length_nil] at hl; omega)) rfl⟩
  | k :: ks, fs, z1, z2, z3, h, hl => by
    rw [List.length_cons] at hl
    obtain ⟨h0, h1⟩ := h k List.mem_cons_self
    obtain ⟨a, b, c, e⟩ := sv_loop ht hi (o := o) (s := s) ks (fs ++ [.int (sg k.2 (cellT t i k.1))]) (some (.fr (.int k.1))) (some (.fr (.str k.2))) (some (.fr (.int (cellT t i k.1)))) (fun x hx => h x (List.mem_cons_of_mem _ hx)) (by rw [List.length_append]; show fs.length + 1 + _ < _; omega)
    refine ⟨a, b, c, ev_forN rfl (sv_turn ht hi h0 h1 (by omega)) (e.trans ?_)⟩
    rw [List.append_assoc]
    rfl
theorem sort_values_spec {w : Nat} {t : Tab} (ht : TabW w t) {i : Nat} (hi : i < t.length) {ks : List Ky} {s : Str} (hk : ∀ k ∈ ks, 0 ≤ k.1 ∧ k.1 < (w : Int)) (hl : ks.length ≤ 4) : m_sort_values [tabD t, ordD ks s, .int i] = some (.tuple ((kv t ks s i).map .int)) := by
  obtain ⟨a, b, c, e⟩ := sv_loop ht hi (o := some (.fr (ordD ks s))) (s := s) ks [] none none none hk (by rw [List.length_nil]; omega)
  refine ev_runF rfl (ev_seq (e1 := [some (.fr (tabD t)), some (.fr (ordD ks s)), some (.fr (.int i)), some (.ow []), none, none, none]) rfl (ev_seq (ev_for rfl e) (ev_ret (e1 := _) (ev_cb (ev_cons rfl ev_nil) ?_))))
  rfl
theorem count_columns_spec {w : Nat} {t : Tab} (ht : TabW w t) : m_count_columns [tabD t] = some (.ok (.int w)) := by
  have e := check_table_okX ht.tab
  have hp : 0 < t.length := ht.l1
  have e2 := at_row ht hp
  have hl : (t.getD 0 []).length = w := ht.row _ (by rw [List.getD_eq_getElem?_getD, List.getElem?_eq_getElem hp]; exact List.getElem_mem hp)
  refine ev_runX rfl (ev_seq (e1 := [some (.fr (tabD t))]) (ev_exX (ev_cX (ev_cons rfl ev_nil) e)) (ev_ret (ev_cb (ev_cons (d := rowD (t.getD 0 [])) (e1 := [some (.fr (tabD t))]) ?_ ev_nil) ?_)))
  · have e3 : ixD (tabD t) (.int 0) = some (rowD (t.getD 0 [])) := e2
    simp [fIxN, rdB, fC, e3]
  · show some (PyData.int ((List.map PyData.int (t.getD 0 [])).length : Int)) = _
    rw [List.length_map, hl]
end DL
end L2


set_option Elab.async false
set_option maxRecDepth 100000
set_option maxHeartbeats 4000000
set_option autoImplicit false
namespace L2
namespace DL
open PySem PySem.Spec PyProof.Rows
local instance labNone_K18M : Lab := { w := none, T := [], gd := True }
/-! ### running: what the program's defs give -/
def placeD (l : List Nat) : PyData := .tuple (l.map fun i : Nat => PyData.int i)
def pickT (t : Tab) (l : List Nat) : Tab := l.map fun i => t.getD i []
def WO (w : Nat) (o : Od) : Prop := ∀ k ∈ o.1, k.1 < (w : Int)
def colsC : (n : Nat) → Cm n → List Int
  | 0, .sort _ c => [c]
  | 0, _ => []
  | _ + 1, .inl (.sort _ c) => [c]
  | _ + 1, .inl _ => []
  | n + 1, .inr (_, ps) => ps.flatMap (colsC n)
def colP : Pl → List Int
  | .sort _ c => [c]
  | _ => []
theorem cols0 (p : Cm 0) : colsC 0 p = colP p := by cases p <;> rfl
theorem colsI {n : Nat} (p : Pl) : colsC (n + 1) (.inl p) = colP p := by cases p <;> rfl
theorem WO.fl {w : Nat} {o : Od} (h : WO w o) : WO w (flO o) := fun k hk => by
  obtain ⟨x, hx, rfl⟩ := List.mem_map.mp hk
  exact h x hx
theorem WO.semP {w : Nat} {p : Pl} (hp : ∀ c ∈ colP p, c < (w : Int)) {o : Od} (h : WO w o) : WO w (DL.semP p o).2 ∧ ∀ x ∈ (DL.semP p o).1, WO w x.1 := by
  cases p with
  | sort d c =>
    refine ⟨fun k hk => ?_, fun _ z => nomatch z⟩
    rcases List.mem_cons.mp hk with rfl | hk
    · exact hp c List.mem_cons_self
    · exact h k (List.mem_filter.mp hk).1
  | rev => exact ⟨h.fl, fun _ z => nomatch z⟩
  | res => exact ⟨(fun _ z => nomatch z), (fun _ z => nomatch z)⟩
  | cut f k =>
    refine ⟨h, fun x hx => ?_⟩
    rw [show x = (if f then o else flO o, k) from List.mem_singleton.mp hx]
    cases f
    · exact h.fl
    · exact h
theorem WO.seq {w : Nat} {α : Type} {f : α → Od → List Pk × Od} {cs : List α} (h : ∀ c ∈ cs, ∀ o, WO w o → WO w (f c o).2 ∧ ∀ x ∈ (f c o).1, WO w x.1) : ∀ {o : Od}, WO w o → WO w (seqS f cs o).2 ∧ ∀ x ∈ (seqS f cs o).1, WO w x.1 := by
  induction cs with
  | nil => exact fun ho => ⟨ho, fun _ z => nomatch z⟩
  | cons c cs ih =>
    intro o ho
    obtain ⟨a, b⟩ := h c List.mem_cons_self o ho
    obtain ⟨a2, b2⟩ := ih (fun x hx => h x (List.mem_cons_of_mem _ hx)) a
    refine ⟨a2, fun x hx => ?_⟩
    rcases List.mem_append.mp hx with z | z
    · exact b x z
    · exact b2 x z
theorem WO.sem {w : Nat} : ∀ {n : Nat} {c : Cm n}, (∀ x ∈ colsC n c, x < (w : Int)) → ∀ {o : Od}, WO w o → WO w (DL.sem n c o).2 ∧ ∀ x ∈ (DL.sem n c o).1, WO w x.1
  | 0, p, h, o, ho => WO.semP (p := p) (by rw [← cols0]; exact h) ho
  | n + 1, .inl p, h, o, ho => WO.semP (p := p) (by rw [← colsI (n := n)]; exact h) ho
  | n + 1, .inr (t, ps), h, o, ho => by
    have q : ∀ c ∈ ps, ∀ o, WO w o → WO w (DL.sem n c o).2 ∧ ∀ x ∈ (DL.sem n c o).1, WO w x.1 := fun c hc o ho => WO.sem (fun x hx => h x (List.mem_flatMap.mpr ⟨c, hc, hx⟩)) ho
    obtain ⟨a, b⟩ := WO.seq q ho
    refine ⟨?_, b⟩
    show WO w (if t % 2 = 0 then _ else _)
    split
    · exact (WO.seq q a).1
    · exact a
theorem wo_start (w : Nat) : WO w start0 := fun _ h => nomatch h
theorem keys_img {α : Type} {fb : DEnv → Option (PyData × DEnv)} {env : DEnv} {e g : α → PyData} : ∀ xs : List α, (∀ x ∈ xs, keyOf fb env (e x) = some (g x)) → keysD fb env (xs.map e) = some (xs.map g)
  | [], _ => rfl
  | x :: xs, h => by
    rw [List.map_cons, keysD, h x List.mem_cons_self]
    show (keysD fb env (xs.map e)).map _ = _
    rw [keys_img xs fun y hy => h y (List.mem_cons_of_mem _ hy)]
    rfl
theorem sort_img (l : List Nat) (key : Nat → List Int) : sortD (l.map fun i : Nat => PyData.int i) (l.map fun i => .tuple ((key i).map .int)) = (srtP key l).map fun i : Nat => PyData.int i := by
  have e := PySem.W.sort_maps (r := PySem.W.dataLe false fun i : Nat => PyData.tuple ((key i).map .int)) (s := PySem.W.dataLe false fun b : PyData × PyData => b.2) (fun i : Nat => (PyData.int (i : Nat), PyData.tuple ((key i).map .int))) (l := l) fun _ _ _ _ => rfl
  have ez : (l.map fun i : Nat => PyData.int i).zip (l.map fun i => PyData.tuple ((key i).map .int)) = l.map fun i : Nat => (PyData.int (i : Nat), PyData.tuple ((key i).map .int)) := by rw [List.zip_map']
  unfold sortD
  rw [ez, ← e, List.map_map]
  rfl
theorem sorted_places_spec {w : Nat} {t : Tab} (ht : TabW w t) {o : Od} (ho : OOk o) (hw : WO w o) {l : List Nat} (hl : ∀ i ∈ l, i < t.length) : m_sorted_places [tabD t, placeD l, oD o] = some (placeD (srtP (kvO t o) l)) := by
  have ek := keys_img (fb := fCB m_sort_values (fCons (rdF 0) (fCons (rdF 2) (fCons (rdF 3) fNil)))) (env := [some (.fr (tabD t)), some (.fr (placeD l)), some (.fr (oD o))]) (e := fun i : Nat => PyData.int i) (g := fun i => PyData.tuple ((kvO t o i).map .int)) l fun i hi => by
    have e := sort_values_spec ht (i := i) (hl i hi) (ks := o.1.map toKy) (s := dS o.2) (fun k h => by
      obtain ⟨x, hx, rfl⟩ := List.mem_map.mp h
      exact ⟨(ho.rg x hx).1, hw x hx⟩) (by rw [List.length_map]; exact ho.len)
    unfold keyOf
    rw [ev_cb (o := m_sort_values) (ds := [tabD t, oD o, .int i]) (e1 := [some (.fr (tabD t)), some (.fr (placeD l)), some (.fr (oD o)), some (.fr (.int i))]) rfl e]
    rfl
  have ea : (l.map fun i => PyData.tuple ((kvO t o i).map .int)).all intsT = true := by
    rw [List.all_eq_true]
    intro d hd
    obtain ⟨i, hi, rfl⟩ := List.mem_map.mp hd
    cases e : kvO t o i with
    | nil =>
      unfold kvO kv at e
      exact absurd (List.append_eq_nil_iff.mp e).2 (by simp)
    | cons x xs => simp [intsT]
  have es : nSortT (rdF 1) (fCB m_sort_values (fCons (rdF 0) (fCons (rdF 2) (fCons (rdF 3) fNil)))) [some (.fr (tabD t)), some (.fr (placeD l)), some (.fr (oD o))] = some ((srtP (kvO t o) l).map fun i : Nat => PyData.int i, [some (.fr (tabD t)), some (.fr (placeD l)), some (.fr (oD o))]) := by
    show (keysD _ _ (l.map fun i : Nat => PyData.int i)).bind _ = _
    rw [ek]
    show (if _ then _ else none) = _
    rw [if_pos ea, sort_img]
  exact ev_runF (env := [some (.fr (tabD t)), some (.fr (placeD l)), some (.fr (oD o))]) rfl (ev_ret (ev_cb (ev_cons (ev_frz es) ev_nil) rfl))
theorem six_min {n d : Nat} {i : Int} (h0 : 0 ≤ i) : HT.sIx n d (some i) = min i.toNat n := by
  show (if i < 0 then (i + (n : Int)).toNat else min i.toNat n) = _
  rw [if_neg (by omega)]
theorem cut_take {ds : List PyData} {i : Int} (h0 : 0 ≤ i) : cutD ds none (some i) = ds.take i.toNat := by
  unfold cutD
  rw [six_min h0, show HT.sIx ds.length 0 none = 0 by simp [HT.sIx], List.drop_zero, Nat.sub_zero]
  by_cases z : i.toNat ≤ ds.length
  · rw [Nat.min_eq_left z]
  · rw [Nat.min_eq_right (by omega), List.take_of_length_le (Nat.le_refl _), List.take_of_length_le (by omega)]
abbrev pkG := gTupD 2 (gsCons (gSet 3) (gsCons (gSet 4) gsNil))
abbrev pkBody := (sSet 1 (fSl (fCB m_sorted_places (fCons (rdF 0) (fCons (rdF 1) (fCons (rdF 3) fNil)))) oNone (oSome (rdF 4))))
theorem pk_loop {w : Nat} {t : Tab} (ht : TabW w t) (Q : Option DV) : ∀ (ps : List Pk) (l : List Nat) (x y : Option DV), (∀ p ∈ ps, PkOk p ∧ WO w p.1) → (∀ i ∈ l, i < t.length) → ∃ x' y', forD pkG pkBody (ps.map pkD) [some (.fr (tabD t)), some (.fr (placeD l)), Q, x, y] = some (.nx [some (.fr (tabD t)), some (.fr (placeD (pickedP t ps l))), Q, x', y'])
  | [], l, x, y, _, _ => ⟨x, y, by rw [List.map_nil, forD]; rfl⟩
  | p :: ps, l, x, y, h, hl => by
    obtain ⟨h1, h2⟩ := h p List.mem_cons_self
    have e := sorted_places_spec ht h1.1 h2 hl
    obtain ⟨x', y', ih⟩ := pk_loop ht Q ps ((srtP (kvO t p.1) l).take p.2.toNat) (some (.fr (oD p.1))) (some (.fr (.int p.2))) (fun q hq => h q (List.mem_cons_of_mem _ hq)) (fun i hi => hl i ((srtP_perm _ l).mem_iff.mp (List.mem_of_mem_take hi)))
    refine ⟨x', y', ?_⟩
    rw [List.map_cons]
    refine ev_forN (e1 := [some (.fr (tabD t)), some (.fr (placeD l)), Q, some (.fr (oD p.1)), some (.fr (.int p.2))]) rfl (ev_setE (ev_sl (ev_cb (ev_cons rfl (ev_cons rfl (ev_cons rfl ev_nil))) e) rfl (ev_oS rfl) (d := placeD ((srtP (kvO t p.1) l).take p.2.toNat)) ?_) rfl) ih
    show some (PyData.tuple (cutD _ none (some p.2))) = _
    rw [cut_take (by have := h1.2.1; omega), ← List.map_take]
    rfl
theorem picked_spec {w : Nat} {t : Tab} (ht : TabW w t) {ps : List Pk} (h : ∀ p ∈ ps, PkOk p ∧ WO w p.1) {l : List Nat} (hl : ∀ i ∈ l, i < t.length) : m_picked [tabD t, placeD l, .list (ps.map pkD)] = some (placeD (pickedP t ps l)) := by
  obtain ⟨x, y, e⟩ := pk_loop ht (some (.fr (.list (ps.map pkD)))) ps l none none h hl
  exact ev_runF (env := [some (.fr (tabD t)), some (.fr (placeD (pickedP t ps l))), some (.fr (.list (ps.map pkD))), x, y]) rfl (ev_seq (ev_for (e1 := [some (.fr (tabD t)), some (.fr (placeD l)), some (.fr (.list (ps.map pkD))), none, none]) rfl e) rfl)
theorem every_spec {w : Nat} {t : Tab} (ht : TabW w t) : m_every_place [tabD t] = some (placeD (List.range t.length)) := by
  have hl := ht.l2
  refine ev_runF (env := [some (.fr (tabD t))]) rfl (ev_ret ?_)
  show fTupRg (fLenN 0) [some (.fr (tabD t))] = _
  rw [ev_tupRg (j := t.length) (e1 := [some (.fr (tabD t))]) (ev_lenN rfl (by show some (PyData.int ((t.map rowD).length : Nat)) = _; rw [List.length_map])) (by omega)]
  unfold placeD rangeD
  congr 3
  refine List.map_congr_left fun i _ => ?_
  rw [Int.zero_add]
theorem records_spec {w : Nat} {t : Tab} (ht : TabW w t) {l : List Nat} (hl : ∀ i ∈ l, i < t.length) (hn : l.length ≤ 1000) : m_records_at [tabD t, placeD l] = some (tabD (pickT t l)) := by
  have e := lc_img (i := 2) (fe := fIxN 0 (rdF 2)) (e := fun i : Nat => PyData.int i) (q := fun i => rowD (t.getD i [])) (env := [some (.fr (tabD t)), some (.fr (placeD l)), none]) rfl l fun i hi => ev_ixN rfl rfl rfl (at_row ht (hl i hi))
  refine ev_runF (env := [some (.fr (tabD t)), some (.fr (placeD l)), none]) rfl (ev_ret (ev_cb (ev_cons (ev_frz (ev_lc (ev_seqI rfl rfl) (by rw [List.length_map]; show _ ≤ 100000; omega) rfl e)) ev_nil) ?_))
  unfold tabD pickT
  rw [List.map_map]
  rfl
theorem below_any {cs : List Int} {w : Int} (hl : cs.length ≤ 100000) : m_check_columns_below [.list (cs.map .int), .int w] = some (.ok .none) ∧ (∀ c ∈ cs, c < w) ∨ (∃ d, m_check_columns_below [.list (cs.map .int), .int w] = some (.ex "MissingColumn" "column" d)) ∧ ∃ c ∈ cs, w ≤ c := by
  let E (a : Option DV) : DEnv := [some (.fr (.list (cs.map .int))), some (.fr (.int w)), a, none]
  have e := lc_flt (i := 3) (ft := fTst (fBin geD (rdF 3) (rdF 1))) (fe := rdF 3) (e := PyData.int) (q := PyData.int) (p := fun c => decide (w ≤ c)) (env := E none) rfl cs (fun c _ => ev_tst (d := .bool (decide (w ≤ c))) (ev_bin rfl rfl rfl) rfl) fun c _ _ => rfl
  let B := cs.filter fun c => decide (w ≤ c)
  have s1 : sSetN 2 (nLc (iSeq (rdF 0)) (gSet 3) (fTst (fBin geD (rdF 3) (rdF 1))) (rdF 3) [3]) (E none) = some (.nx (E (some (.ow (B.map .int))))) := ev_setN (ev_lc (ev_seqI (d := .list (cs.map .int)) rfl rfl) (by rw [List.length_map]; exact hl) rfl e) rfl
  have mB : ∀ c, c ∈ B ↔ c ∈ cs ∧ w ≤ c := fun c => by show c ∈ cs.filter _ ↔ _; rw [List.mem_filter, decide_eq_true_eq]
  cases hB : B with
  | nil =>
    rw [hB] at s1 mB
    refine .inl ⟨ev_runX0 rfl (env := E (some (.ow []))) (ev_seq s1 (ev_ifF (ev_truN rfl rfl) rfl)), fun c hc => Int.not_le.mp fun z => ?_⟩
    exact absurd ((mB c).mpr ⟨hc, z⟩) (by simp)
  | cons b B' =>
    rw [hB] at s1 mB
    have hb := (mB b).mp List.mem_cons_self
    have hmin : ∃ m, minI (b :: B') = some m := by
      clear s1 mB hB hb
      induction B' generalizing b with
      | nil => exact ⟨b, rfl⟩
      | cons x xs ih => obtain ⟨m, e⟩ := ih x; exact ⟨_, by show (minI (x :: xs)).map _ = _; rw [e]; rfl⟩
    obtain ⟨m, em⟩ := hmin
    have m2 : minLD [.list ((b :: B').map .int)] = some (.int m) := by show (intsL ((b :: B').map .int)).bind _ = _; rw [intsL_map]; show (minI (b :: B')).map _ = _; rw [em]; rfl
    refine .inr ⟨⟨.int m, ev_runXe rfl (env := E (some (.fr (.list ((b :: B').map .int))))) (ev_seq s1 (ev_ifT (ev_truN rfl rfl) ?_))⟩, b, hb.1, hb.2⟩
    unfold sRaise
    rw [ev_cb (o := minLD) (fa := fCons (rdF 2) fNil) (env := E (some (.ow ((b :: B').map .int)))) (ds := [.list ((b :: B').map .int)]) (e1 := E (some (.fr (.list ((b :: B').map .int))))) (ev_cons rfl ev_nil) m2]
    rfl
abbrev pcBody (f : Nat) := (sIf (fTst (fBin inD (fIxN 2 (fC (.int 0))) (fC cv_DIRECTIONS))) (sApp 1 (fIxN 2 (fC (.int 1)))) (sIf (fTst (fBin eqD (fIxN 2 (fC (.int 0))) (fC (.str "repeat")))) (sExt 1 (fCB (rc_program_columns f 0) (fCons (fIxN 2 (fC (.int 2))) fNil))) sNil))
theorem pc_loop {α : Type} {e : α → PyData} {g : α → List Int} {f : Nat} (P : Option DV) : ∀ {cs : List α}, (∀ c ∈ cs, ∀ acc : List Int, acc.length + (g c).length ≤ 100000 → pcBody f [P, some (.ow (acc.map .int)), some (.fr (e c))] = some (.nx [P, some (.ow ((acc ++ g c).map .int)), some (.fr (e c))])) → ∀ (acc : List Int) (z : Option DV), acc.length + (cs.flatMap g).length ≤ 100000 →
    ∃ z', forD (gSet 2) (pcBody f) (cs.map e) [P, some (.ow (acc.map .int)), z] = some (.nx [P, some (.ow ((acc ++ cs.flatMap g).map .int)), z'])
  | [], _, acc, z, _ => ⟨z, by rw [List.map_nil, forD, List.flatMap_nil, List.append_nil]⟩
  | c :: cs, h, acc, z, hl => by
    rw [List.flatMap_cons, List.length_append] at hl
    obtain ⟨z', ih⟩ := pc_loop (e := e) P (cs := cs) (fun x hx => h x (List.mem_cons_of_mem _ hx)) (acc ++ g c) (some (.fr (e c))) (by rw [List.length_append]; omega)
    rw [List.append_assoc, ← List.flatMap_cons] at ih
    exact ⟨z', ev_forN rfl (h c List.mem_cons_self acc (by omega)) ih⟩
theorem pc_run {α : Type} {e : α → PyData} {g : α → List Int} {f : Nat} {cs : List α} (h : ∀ P, ∀ c ∈ cs, ∀ acc : List Int, acc.length + (g c).length ≤ 100000 → pcBody f [P, some (.ow (acc.map .int)), some (.fr (e c))] = some (.nx [P, some (.ow ((acc ++ g c).map .int)), some (.fr (e c))])) (hl : (cs.flatMap g).length ≤ 100000) :
    rc_program_columns (f + 1) 0 [.tuple (cs.map e)] = some (.list ((cs.flatMap g).map .int)) := by
  obtain ⟨z, e1⟩ := pc_loop (e := e) (g := g) (some (.fr (.tuple (cs.map e)))) (h _) [] none (by simpa using hl)
  rw [List.nil_append] at e1
  show runF 1 3 (mb_program_columns (rc_program_columns f)) _ = _
  exact ev_runF rfl (env := [some (.fr (.tuple (cs.map e))), some (.fr (.list ((cs.flatMap g).map .int))), z]) (ev_seq (e1 := [some (.fr (.tuple (cs.map e))), some (.ow []), none]) rfl (ev_seq (ev_for (e1 := [some (.fr (.tuple (cs.map e))), some (.ow []), none]) rfl e1) rfl))
theorem pc_pl {p : Pl} {f : Nat} {P : Option DV} {acc : List Int} (hl : acc.length + (colP p).length ≤ 100000) : pcBody f [P, some (.ow (acc.map .int)), some (.fr (plE p))] = some (.nx [P, some (.ow ((acc ++ colP p).map .int)), some (.fr (plE p))]) := by
  cases p with
  | sort d c =>
    have w : inD (.str (dS d)) cv_DIRECTIONS = some (.bool true) := by cases d <;> kernel_rfl
    rw [List.map_append]
    exact ev_ifT (ev_tst (ev_bin (ev_ixN rfl rfl rfl rfl) rfl w) rfl) (ev_app rfl (ev_ixN rfl rfl rfl rfl) rfl (by rw [List.length_map]; exact hl) rfl)
  | rev =>
    have w : inD (.str "reverse") cv_DIRECTIONS = some (.bool false) := by kernel_rfl
    rw [show acc ++ colP .rev = acc from List.append_nil _]
    exact ev_ifF (ev_tst (ev_bin (ev_ixN rfl rfl rfl rfl) rfl w) rfl) (ev_ifF (ev_tst (ev_bin (ev_ixN rfl rfl rfl rfl) rfl (eqW (by decide))) rfl) rfl)
  | res =>
    have w : inD (.str "restore") cv_DIRECTIONS = some (.bool false) := by kernel_rfl
    rw [show acc ++ colP .res = acc from List.append_nil _]
    exact ev_ifF (ev_tst (ev_bin (ev_ixN rfl rfl rfl rfl) rfl w) rfl) (ev_ifF (ev_tst (ev_bin (ev_ixN rfl rfl rfl rfl) rfl (eqW (by decide))) rfl) rfl)
  | cut b k =>
    have w : inD (.str (cS b)) cv_DIRECTIONS = some (.bool false) := by cases b <;> kernel_rfl
    rw [show acc ++ colP (.cut b k) = acc from List.append_nil _]
    exact ev_ifF (ev_tst (ev_bin (ev_ixN rfl rfl rfl rfl) rfl w) rfl) (ev_ifF (ev_tst (ev_bin (ev_ixN rfl rfl rfl rfl) rfl (eqW (by cases b <;> decide))) rfl) rfl)
theorem cols_len : ∀ (n : Nat) (c : Cm n), (colsC n c).length ≤ szC n c
  | 0, p => by rw [cols0]; cases p <;> simp [colP, szC]
  | n + 1, .inl p => by rw [colsI]; cases p <;> simp [colP, szC]
  | n + 1, .inr (t, ps) => by
    show (ps.flatMap (colsC n)).length ≤ 1 + (ps.map (szC n)).sum
    have : ∀ qs : List (Cm n), (qs.flatMap (colsC n)).length ≤ (qs.map (szC n)).sum := by
      intro qs
      induction qs with
      | nil => exact Nat.le_refl _
      | cons c cs ih =>
        rw [List.flatMap_cons, List.length_append, List.map_cons, List.sum_cons]
        exact Nat.add_le_add (cols_len n c) ih
    have := this ps
    omega
theorem colss_len {n : Nat} : ∀ (qs : List (Cm n)), (qs.flatMap (colsC n)).length ≤ (qs.map (szC n)).sum
  | [] => Nat.le_refl _
  | c :: cs => by
    rw [List.flatMap_cons, List.length_append, List.map_cons, List.sum_cons]
    exact Nat.add_le_add (cols_len n c) (colss_len cs)
theorem pc_cm : ∀ (n f : Nat), n ≤ f → ∀ (c : Cm n), szC n c ≤ 100000 → ∀ (P : Option DV) (acc : List Int), acc.length + (colsC n c).length ≤ 100000 → pcBody f [P, some (.ow (acc.map .int)), some (.fr (cmE n c))] = some (.nx [P, some (.ow ((acc ++ colsC n c).map .int)), some (.fr (cmE n c))])
  | 0, f, _, p, _, P, acc, hl => by rw [cols0] at hl ⊢; exact pc_pl (p := p) hl
  | n + 1, f, _, .inl p, _, P, acc, hl => by rw [colsI] at hl ⊢; exact pc_pl (p := p) hl
  | n + 1, f + 1, hf, .inr (t, ps), hs, P, acc, hl => by
    have hz : szC (n + 1) (.inr (t, ps)) = 1 + (ps.map (szC n)).sum := rfl
    have hcl := colss_len ps
    have e1 := pc_run (e := cmE n) (g := colsC n) (f := f) (cs := ps) (fun P c hc acc ha => pc_cm n f (by omega) c (by have := mem_le_sum (List.mem_map_of_mem (f := szC n) hc); omega) P acc ha) (by omega)
    have w : inD (.str "repeat") cv_DIRECTIONS = some (.bool false) := by kernel_rfl
    rw [List.map_append]
    exact ev_ifF (ev_tst (ev_bin (ev_ixN rfl rfl rfl rfl) rfl w) rfl) (ev_ifT (ev_tst (ev_bin (ev_ixN rfl rfl rfl rfl) rfl rfl) rfl) (ev_ext rfl (ev_cb (ev_cons (ev_ixN rfl rfl rfl rfl) ev_nil) e1) rfl (by rw [List.length_map, List.length_map]; exact hl) rfl))
theorem program_columns_spec {n : Nat} (hn : n ≤ 11) {cs : List (Cm n)} (hs : (cs.map (szC n)).sum ≤ 100000) : m_program_columns [.tuple (cs.map (cmE n))] = some (.list ((cs.flatMap (colsC n)).map .int)) :=
  pc_run (f := 11) (fun P c hc acc ha => pc_cm n 11 hn c (by have := mem_le_sum (List.mem_map_of_mem (f := szC n) hc); omega) P acc ha) (Nat.le_trans (colss_len cs) hs)
def cpE {n : Nat} (cs : List (Cm n)) : PyData := .tuple (cs.map (cmE n))
/-- a program that fits a table -/
structure Prg (tm : Int) (w n : Nat) (cs : List (Cm n)) : Prop where
  ok : ∀ c ∈ cs, CmOk tm n c
  sz : (cs.map (szC n)).sum ≤ 400
  co : ∀ c ∈ cs, ∀ x ∈ colsC n c, x < (w : Int)
theorem run_places_spec {tm : Int} (htm : tm ≤ 1000000000000000000000000000000) {w : Nat} {t : Tab} (ht : TabW w t) {n : Nat} (hn : n ≤ 3) {cs : List (Cm n)} (h : Prg tm w n cs) : m_run_places [tabD t, cpE cs] = some (.ok (placeD (runP t (seqS (sem n) cs start0)))) := by
  have c1 := count_columns_spec ht
  have c2 := check_cx htm hn h.ok h.sz
  have c3 := program_columns_spec (n := n) (by omega) (cs := cs) (by have := h.sz; omega)
  have c4 := (below_any (cs := cs.flatMap (colsC n)) (w := (w : Int)) (by have := h.sz; have := colss_len cs; omega)).resolve_right fun ⟨_, x, hx, hw⟩ => by
    obtain ⟨c, hc, hx⟩ := List.mem_flatMap.mp hx
    have := h.co c hc x hx
    omega
  have e1 : m_check_run [tabD t, cpE cs] = some (.ok .none) := ev_runX0 rfl (env := [some (.fr (tabD t)), some (.fr (cpE cs)), some (.fr (.int w))]) (ev_seq (e1 := [some (.fr (tabD t)), some (.fr (cpE cs)), some (.fr (.int w))]) (ev_stX (ev_cX (ev_cons rfl ev_nil) c1) rfl) (ev_seq (ev_exX (ev_cX (ev_cons rfl ev_nil) c2)) (ev_exX (ev_cX (ev_cons (ev_cb (ev_cons rfl ev_nil) c3) (ev_cons rfl ev_nil)) c4.1))))
  have e2 := after_program_spec hn h.ok (by have := h.sz; omega) start0_ok
  have q1 := seq_ok (fun c hc o ho => sem_ok (h.ok c hc) ho) start0_ok (cs := cs)
  have q2 := WO.seq (w := w) (f := sem n) (cs := cs) (fun c hc o ho => WO.sem (h.co c hc) ho) (wo_start w)
  have e3 := every_spec ht
  have e4 := picked_spec ht (ps := (seqS (sem n) cs start0).1) (fun p hp => ⟨q1.2 p hp, q2.2 p hp⟩) (l := List.range t.length) fun i hi => List.mem_range.mp hi
  have e5 := sorted_places_spec ht q1.1 q2.1 (l := pickedP t (seqS (sem n) cs start0).1 (List.range t.length)) fun i hi => List.mem_range.mp (pickedP_sub t _ hi)
  exact ev_runX rfl (env := [some (.fr (tabD t)), some (.fr (cpE cs)), some (.fr (.list ((seqS (sem n) cs start0).1.map pkD))), some (.fr (oD (seqS (sem n) cs start0).2))]) (ev_seq (e1 := [some (.fr (tabD t)), some (.fr (cpE cs)), none, none]) (ev_exX (ev_cX (ev_cons rfl (ev_cons rfl ev_nil)) e1)) (ev_seq (ev_asg2 (ev_cb (ev_cons rfl (ev_cons rfl ev_nil)) e2) rfl) (ev_ret (ev_cb (ev_cons rfl (ev_cons (ev_cb (ev_cons rfl (ev_cons (ev_cb (ev_cons rfl ev_nil) e3) (ev_cons rfl ev_nil))) e4) (ev_cons rfl ev_nil))) e5))))
theorem run_spec {tm : Int} (htm : tm ≤ 1000000000000000000000000000000) {w : Nat} {t : Tab} (ht : TabW w t) {n : Nat} (hn : n ≤ 3) {cs : List (Cm n)} (h : Prg tm w n cs) : m_run [tabD t, cpE cs] = some (.ok (tabD (pickT t (runP t (seqS (sem n) cs start0))))) := by
  have e1 := run_places_spec htm ht hn h
  have e2 := records_spec ht (l := runP t (seqS (sem n) cs start0)) (fun i hi => runP_lt hi) (by have := runP_len t (seqS (sem n) cs start0); have := ht.l2; omega)
  exact ev_runXo (env := [some (.fr (tabD t)), some (.fr (cpE cs))]) rfl (ev_retXo (ev_cb2X rfl (ev_cX (ev_cons rfl (ev_cons rfl ev_nil)) e1) e2))
end DL
end L2


set_option Elab.async false
set_option maxRecDepth 100000
set_option maxHeartbeats 4000000
set_option autoImplicit false
namespace L2
namespace DL
open PySem PySem.Spec PyProof.Rows
local instance labNone_K18N : Lab := { w := none, T := [], gd := True }
/-! ### any data that is a program is one of the program's own -/
theorem plE_of {d : PyData} (h : plnB d = true) : ∃ p : Pl, d = plE p ∧ PlOk p := by
  unfold plnB at h
  split at h
  · rename_i w
    cases w with
    | str s =>
      have := wrd_iff.mp h
      simp only [bareW, List.mem_cons, List.not_mem_nil, or_false] at this
      rcases this with rfl | rfl
      · exact ⟨.rev, rfl, trivial⟩
      · exact ⟨.res, rfl, trivial⟩
    | _ => cases h
  · rename_i w x
    cases w with
    | str s =>
      obtain ⟨h1, h2⟩ := (Bool.and_eq_true _ _).mp h
      by_cases hd : wrdB dirW (.str s) = true
      · rw [if_pos hd] at h2
        have hd := wrd_iff.mp hd
        simp only [dirW, List.mem_cons, List.not_mem_nil, or_false] at hd
        cases x with
        | int i =>
          obtain ⟨a, b⟩ := (Bool.and_eq_true _ _).mp h2
          have a := of_decide_eq_true a
          have b := of_decide_eq_true b
          rcases hd with rfl | rfl
          · exact ⟨.sort false i, rfl, a, by omega⟩
          · exact ⟨.sort true i, rfl, a, by omega⟩
        | _ => cases h2
      · rw [if_neg hd] at h2
        obtain ⟨h3, h4⟩ := (Bool.and_eq_true _ _).mp h2
        have hd := wrd_iff.mp h3
        simp only [cutW, List.mem_cons, List.not_mem_nil, or_false] at hd
        cases x with
        | int i =>
          obtain ⟨a, b⟩ := (Bool.and_eq_true _ _).mp h4
          have a := of_decide_eq_true a
          have b := of_decide_eq_true b
          rcases hd with rfl | rfl
          · exact ⟨.cut true i, rfl, a, b⟩
          · exact ⟨.cut false i, rfl, a, b⟩
        | _ => cases h4
    | _ => cases h
  · cases h
theorem beg_of {d : PyData} (h : begB d = true) : ∃ (i : Int) (p : PyData), d = .tuple [.str "repeat", .int i, p] ∧ 1 ≤ i ∧ i ≤ TMx := by
  unfold begB at h
  split at h
  · rename_i w t p
    obtain ⟨h1, h2⟩ := (Bool.and_eq_true _ _).mp h
    cases w with
    | str s =>
      have := List.mem_singleton.mp (wrd_iff.mp h1)
      subst this
      cases t with
      | int i =>
        obtain ⟨a, b⟩ := (Bool.and_eq_true _ _).mp h2
        exact ⟨i, p, rfl, of_decide_eq_true a, of_decide_eq_true b⟩
      | _ => cases h2
    | _ => cases h1
  · cases h
theorem cms_of {L : Nat} (ih : ∀ c : PyData, cnt L c ≠ 0 → ∃ x : Cm L, c = cmE L x ∧ CmOk TMx L x ∧ (szC L x : Int) = cnt L c) : ∀ cs : List PyData, (cs.map (cnt L)).any (fun x => decide (x = 0)) = false → ∃ xs : List (Cm L), cs = xs.map (cmE L) ∧ (∀ x ∈ xs, CmOk TMx L x) ∧ (((xs.map (szC L)).sum : Nat) : Int) = (cs.map (cnt L)).sum
  | [], _ => ⟨[], rfl, (fun _ h => nomatch h), rfl⟩
  | c :: cs, h => by
    rw [List.map_cons, List.any_cons] at h
    obtain ⟨h1, h2⟩ := Bool.or_eq_false_iff.mp h
    obtain ⟨x, e1, o1, s1⟩ := ih c (of_decide_eq_false h1)
    obtain ⟨xs, e2, o2, s2⟩ := cms_of ih cs h2
    refine ⟨x :: xs, by rw [List.map_cons, ← e1, ← e2], fun y hy => ?_, ?_⟩
    · rcases List.mem_cons.mp hy with rfl | hy
      · exact o1
      · exact o2 y hy
    · rw [List.map_cons, List.sum_cons, List.map_cons, List.sum_cons, ← s1, ← s2]
      omega
theorem cm_of : ∀ (L : Nat) (c : PyData), cnt L c ≠ 0 → ∃ x : Cm L, c = cmE L x ∧ CmOk TMx L x ∧ (szC L x : Int) = cnt L c
  | 0, c, h => by
    have hp : plnB c = true := by
      cases hb : plnB c with
      | true => rfl
      | false => unfold cnt at h; rw [hb] at h; exact absurd rfl h
    obtain ⟨p, e, ok⟩ := plE_of hp
    exact ⟨p, e, ok, by rw [cnt_pl hp]; rfl⟩
  | L + 1, c, h => by
    by_cases hp : plnB c = true
    · obtain ⟨p, e, ok⟩ := plE_of hp
      exact ⟨.inl p, e, ok, by rw [cnt_pl hp]; rfl⟩
    · have hb : begB c = true := by
        cases hb : begB c with
        | true => rfl
        | false => exact absurd (cnt_no (Bool.eq_false_iff.mpr hp) hb) h
      obtain ⟨i, p, rfl, h1, h2⟩ := beg_of hb
      have e : cnt (L + 1) (.tuple [.str "repeat", .int i, p]) = (match insC p with | some cs => if (cs.map (cnt L)).any (fun x => decide (x = 0)) then (0 : Int) else 1 + (cs.map (cnt L)).sum | none => 0) := by
        show (if plnB _ = true then (1 : Int) else if begB _ = true then _ else 0) = _
        rw [if_neg hp, if_pos hb]
        rfl
      rw [e] at h ⊢
      cases hi : insC p with
      | none => rw [hi] at h; exact absurd rfl h
      | some cs =>
        obtain rfl := ins_yes hi
        have hi' : insC (.tuple cs) = some cs := rfl
        rw [hi'] at h
        dsimp only at h ⊢
        by_cases hz : (cs.map (cnt L)).any (fun x => decide (x = 0)) = true
        · rw [if_pos hz] at h; exact absurd rfl h
        · obtain ⟨xs, e2, o2, s2⟩ := cms_of (cm_of L) cs (Bool.eq_false_iff.mpr hz)
          refine ⟨.inr (i, xs), by rw [e2]; rfl, ⟨h1, h2, o2⟩, ?_⟩
          rw [if_neg hz, ← s2]
          show ((1 + (xs.map (szC L)).sum : Nat) : Int) = _
          omega
/-! ### small indices -/
theorem rep_ok : ∀ i : Nat, i < 402 → reprOkE (.int (i : Nat)) = true := by decide +kernel
def Sml (x : PyData) : Prop := x = .none ∨ ∃ j : Nat, j ≤ 401 ∧ x = .int j
theorem rep_of {x : PyData} (h : Sml x) : ∃ s, reprE [x] = some (.str s) ∧ Ly 0 (.str s) := by
  rcases h with rfl | ⟨j, hj, rfl⟩
  · exact ⟨_, rfl, ly_shown rfl⟩
  · refine ⟨(PyData.int (j : Nat)).shown, ?_, ly_shown rfl⟩
    show (if reprOkE (.int (j : Nat)) then some (PyData.str (PyData.int (j : Nat)).shown) else none) = _
    rw [if_pos (rep_ok j (by omega))]
theorem eqD_self {k : Nat} {a : PyData} (ha : Ly k a) (hk : k ≤ 64) : eqD a a = some (.bool true) ∧ neD a a = some (.bool false) := by
  unfold eqD neD; rw [eqB_self ha hk]; exact ⟨rfl, rfl⟩
theorem ne_fault {x : PyData} (hx : Ly 0 x) : neD (.list [x]) (.list []) = some (.bool true) := by
  have a1 := (Ly.list (ds := [x]) fun d hd => by rw [List.mem_singleton] at hd; rw [hd]; exact hx).sh (by decide)
  show ((if shD (.list [x]) && shD (.list []) then some (PyData.eqv (.list [x]) (.list [])) else none).map fun k => PyData.bool (!k)) = _
  rw [a1, show shD (.list []) = true from rfl]
  rfl
theorem ly_small {x : PyData} (h : Sml x) : Ly 0 x := by
  rcases h with rfl | ⟨j, _, rfl⟩
  · exact ly_none
  · exact ly_int _
theorem badAt_lt {w : Nat} : ∀ (rs : List PyData) (i j : Nat), badAt w rs i = some j → j < i + rs.length
  | [], _, _, h => by cases h
  | r :: rs, i, j, h => by
    rw [badAt] at h
    rw [List.length_cons]
    split at h
    · have := badAt_lt rs _ _ h; omega
    · cases h; omega
theorem tab_small {d x : PyData} (h : tabBad d = some x) : Sml x := by
  cases d with
  | tuple rs =>
    rw [tabBad] at h
    split at h
    · rename_i hl
      obtain ⟨j, hj, rfl⟩ := mpd h
      refine .inr ⟨j, ?_, rfl⟩
      cases rs with
      | nil => cases hj
      | cons r rs =>
        rw [rowsBad] at hj
        split at hj
        · have := badAt_lt _ _ _ hj
          have := hl.2
          rw [List.length_cons] at this
          omega
        · cases hj; omega
    · cases h; exact .inl rfl
  | _ => cases h; exact .inl rfl
theorem ints5_of : ∀ ds : List PyData, ds.all isInt = true → ∃ is : List Int, ds = is.map .int
  | [], _ => ⟨[], rfl⟩
  | d :: ds, h => by
    rw [List.all_cons, Bool.and_eq_true] at h
    obtain ⟨is, rfl⟩ := ints5_of ds h.2
    cases d with
    | int i => exact ⟨i :: is, rfl⟩
    | _ => cases h.1
theorem rec_row {r : PyData} (h : isRec r = true) : ∃ is : List Int, r = .tuple (is.map .int) ∧ 1 ≤ is.length ∧ is.length ≤ 5 := by
  cases r with
  | tuple ds =>
    simp only [isRec, Bool.and_eq_true, decide_eq_true_eq] at h
    obtain ⟨is, rfl⟩ := ints5_of ds h.2
    rw [List.length_map] at h
    exact ⟨is, rfl, h.1.1, h.1.2⟩
  | _ => cases h
theorem bad_rows {w : Nat} : ∀ (rs : List PyData) (i : Nat), badAt w rs i = none → ∀ r ∈ rs, RowI w r
  | [], _, _, _, h => nomatch h
  | r :: rs, i, h, x, hx => by
    rw [badAt] at h
    split at h
    · rename_i hr
      rcases List.mem_cons.mp hx with rfl | hx
      · rw [rowOk, Bool.and_eq_true] at hr
        obtain ⟨is, rfl, _, _⟩ := rec_row hr.1
        have := beq_iff_eq.mp hr.2
        exact ⟨is, rfl, by rw [rowLen, List.length_map] at this; exact this⟩
      · exact bad_rows rs _ h x hx
    · cases h
theorem tab_of {d : PyData} (h : tabBad d = none) : ∃ w t, d = tabD t ∧ TabW w t := by
  cases d with
  | tuple rs =>
    rw [tabBad] at h
    split at h
    · rename_i hl
      have h := Option.map_eq_none_iff.mp h
      cases rs with
      | nil => exact absurd hl.1 (by simp)
      | cons r rs =>
        rw [rowsBad] at h
        split at h
        · rename_i hr
          obtain ⟨is, rfl, a, b⟩ := rec_row hr
          have hw : rowLen (.tuple (is.map PyData.int)) = is.length := by rw [rowLen, List.length_map]
          rw [hw] at h
          have hI : TabI (.tuple (is.map PyData.int) :: rs) := ⟨hl.1, hl.2, is.length, a, b, fun x hx => by
            rcases List.mem_cons.mp hx with rfl | hx
            · exact ⟨is, rfl, rfl⟩
            · exact bad_rows rs _ h x hx⟩
          obtain ⟨w, t, e, ht⟩ := hI.tabW
          exact ⟨w, t, by rw [e]; rfl, ht⟩
        · cases h
    · cases h
  | _ => cases h
theorem ev_exXe {f : DEnv → Option DX} {env e1 : DEnv} {c a : Str} {d : PyData} (h : f env = some (.ex c a d e1)) : sExprX f env = some (.ex c a d e1) := by unfold sExprX; rw [h]; rfl
theorem ev_stXe {f : DEnv → Option DX} {env e1 : DEnv} {i : Nat} {c a : Str} {d : PyData} (h : f env = some (.ex c a d e1)) : sSetX i f env = some (.ex c a d e1) := by unfold sSetX; rw [h]; rfl
/-! ### the first wrong command, as the program tells it -/
theorem chk_fb (d : PyData) : chkX d = match fbL d with
    | [] => .ok .none
    | x :: _ => .ex "InvalidProgram" "index" x := by
  unfold chkX fbL
  cases insC d with
  | none => rfl
  | some cs =>
    dsimp only
    have h := bad_eq cs 0 0 (by decide)
    rw [show (400 : Int) - 0 = 400 from rfl] at h
    rw [h]
    cases badL cs 0 0 <;> rfl
theorem badL_le : ∀ (cs : List PyData) (t : Int) (k j : Nat), t ≤ 400 → badL cs t k = some j → (j : Int) ≤ k + (400 - t)
  | [], _, _, _, _, h => by cases h
  | c :: cs, t, k, j, ht, h => by
    have hc := cnt_nn 3 c
    unfold badL at h
    split at h
    · cases h; omega
    · have := badL_le cs _ (k + 1) j (by omega) h
      omega
theorem fb_cases (d : PyData) : fbL d = [] ∨ ∃ x, fbL d = [x] ∧ Sml x := by
  unfold fbL
  cases insC d with
  | none => exact .inr ⟨_, rfl, .inl rfl⟩
  | some cs =>
    dsimp only
    cases hj : badL cs 0 0 with
    | none => exact .inl rfl
    | some k =>
      have := badL_le cs 0 0 k (by decide) hj
      exact .inr ⟨_, rfl, .inr ⟨k, by omega, rfl⟩⟩
theorem badL_none : ∀ (cs : List PyData) (t : Int) (k : Nat), t ≤ 400 → badL cs t k = none → (cs.map (cnt 3)).any (fun x => decide (x = 0)) = false ∧ t + (cs.map (cnt 3)).sum ≤ 400
  | [], t, _, ht, _ => ⟨rfl, by show t + 0 ≤ 400; omega⟩
  | c :: cs, t, k, ht, h => by
    unfold badL at h
    split at h
    · cases h
    · rename_i hn
      obtain ⟨a, b⟩ := badL_none cs _ (k + 1) (by omega) h
      rw [List.map_cons, List.any_cons, List.sum_cons, a, Bool.or_false]
      exact ⟨decide_eq_false fun z => hn (.inl z), by omega⟩
/-- a program of the program's own -/
structure CsO (cs : List (Cm 3)) : Prop where
  ok : ∀ c ∈ cs, CmOk TMx 3 c
  sz : (cs.map (szC 3)).sum ≤ 400
theorem prg_fb {d : PyData} (h : fbL d = []) : ∃ cs : List (Cm 3), d = cpE cs ∧ CsO cs := by
  unfold fbL at h
  cases hi : insC d with
  | none => rw [hi] at h; cases h
  | some ds =>
    rw [hi] at h
    dsimp only at h
    cases hj : badL ds 0 0 with
    | some k => rw [hj] at h; cases h
    | none =>
      obtain ⟨a, b⟩ := badL_none ds 0 0 (by decide) hj
      obtain ⟨cs, e, ok, s⟩ := cms_of (cm_of 3) ds a
      exact ⟨cs, by rw [ins_yes hi, e]; rfl, ok, by omega⟩
/-! ### the least missing column -/
def colL (cs : List (Cm 3)) : List Int := cs.flatMap (colsC 3)
def Lst (w : Int) (cs : List Int) (m : Int) : Prop := (m ∈ cs ∧ w ≤ m) ∧ ∀ c ∈ cs, w ≤ c → m ≤ c
theorem Lst.eq {w : Int} {cs : List Int} {a b : Int} (h : Lst w cs a) (k : Lst w cs b) : a = b :=
  Int.le_antisymm (h.2 b k.1.1 k.1.2) (k.2 a h.1.1 h.1.2)
theorem below_x {cs : List Int} {w : Int} (hl : cs.length ≤ 100000) : m_check_columns_below [.list (cs.map .int), .int w] = some (.ok .none) ∧ (∀ c ∈ cs, c < w) ∨ ∃ m, m_check_columns_below [.list (cs.map .int), .int w] = some (.ex "MissingColumn" "column" (.int m)) ∧ Lst w cs m := by
  let E (a : Option DV) : DEnv := [some (.fr (.list (cs.map .int))), some (.fr (.int w)), a, none]
  have e := lc_flt (i := 3) (ft := fTst (fBin geD (rdF 3) (rdF 1))) (fe := rdF 3) (e := PyData.int) (q := PyData.int) (p := fun c => decide (w ≤ c)) (env := E none) rfl cs (fun c _ => ev_tst (d := .bool (decide (w ≤ c))) (ev_bin rfl rfl rfl) rfl) fun c _ _ => rfl
  let B := cs.filter fun c => decide (w ≤ c)
  have s1 : sSetN 2 (nLc (iSeq (rdF 0)) (gSet 3) (fTst (fBin geD (rdF 3) (rdF 1))) (rdF 3) [3]) (E none) = some (.nx (E (some (.ow (B.map .int))))) := ev_setN (ev_lc (ev_seqI (d := .list (cs.map .int)) rfl rfl) (by rw [List.length_map]; exact hl) rfl e) rfl
  have mB : ∀ c, c ∈ B ↔ c ∈ cs ∧ w ≤ c := fun c => by show c ∈ cs.filter _ ↔ _; rw [List.mem_filter, decide_eq_true_eq]
  cases hB : B with
  | nil =>
    rw [hB] at s1 mB
    refine .inl ⟨ev_runX0 rfl (env := E (some (.ow []))) (ev_seq s1 (ev_ifF (ev_truN rfl rfl) rfl)), fun c hc => Int.not_le.mp fun z => ?_⟩
    exact absurd ((mB c).mpr ⟨hc, z⟩) (by simp)
  | cons b B' =>
    rw [hB] at s1 mB
    have hmin : ∃ m, minI (b :: B') = some m := by
      clear s1 mB hB
      induction B' generalizing b with
      | nil => exact ⟨b, rfl⟩
      | cons x xs ih => obtain ⟨m, e⟩ := ih x; exact ⟨_, by show (minI (x :: xs)).map _ = _; rw [e]; rfl⟩
    obtain ⟨m, em⟩ := hmin
    obtain ⟨q1, q2⟩ := minI_is em
    have m2 : minLD [.list ((b :: B').map .int)] = some (.int m) := by show (intsL ((b :: B').map .int)).bind _ = _; rw [intsL_map]; show (minI (b :: B')).map _ = _; rw [em]; rfl
    refine .inr ⟨m, ev_runXe rfl (env := E (some (.fr (.list ((b :: B').map .int))))) (ev_seq s1 (ev_ifT (ev_truN rfl rfl) ?_)), (mB m).mp q1, fun c hc hw => q2 c ((mB c).mpr ⟨hc, hw⟩)⟩
    unfold sRaise
    rw [ev_cb (o := minLD) (fa := fCons (rdF 2) fNil) (env := E (some (.ow ((b :: B').map .int)))) (ds := [.list ((b :: B').map .int)]) (e1 := E (some (.fr (.list ((b :: B').map .int))))) (ev_cons rfl ev_nil) m2]
    rfl
/-! ### what check_run answers, for any table and program -/
inductive Oc (R P : PyData) : XR → Prop
  | tab {x : PyData} : tabBad R = some x → Oc R P (.ex "InvalidTable" "index" x)
  | prg {w : Nat} {t : Tab} {x : PyData} : R = tabD t → TabW w t → fbL P = [x] → Oc R P (.ex "InvalidProgram" "index" x)
  | mis {w : Nat} {t : Tab} {cs : List (Cm 3)} {m : Int} : R = tabD t → TabW w t → P = cpE cs → fbL P = [] → CsO cs → Lst w (colL cs) m → Oc R P (.ex "MissingColumn" "column" (.int m))
  | ok {w : Nat} {t : Tab} {cs : List (Cm 3)} : R = tabD t → TabW w t → P = cpE cs → fbL P = [] → Prg TMx w 3 cs → Oc R P (.ok .none)
theorem check_run_any {R P : PyData} (hP : gdD P = true) : ∃ r, m_check_run [R, P] = some r ∧ Oc R P r := by
  cases hT : tabBad R with
  | some x =>
    refine ⟨_, ?_, .tab hT⟩
    have c0 : m_check_table [R] = some (.ex "InvalidTable" "index" x) := by rw [check_table_spec]; unfold tabX; rw [hT]
    have c1 : m_count_columns [R] = some (.ex "InvalidTable" "index" x) := ev_runXe rfl (env := [some (.fr R)]) (ev_seqX (ev_exXe (ev_cX (ev_cons rfl ev_nil) c0)))
    exact ev_runXe rfl (env := [some (.fr R), some (.fr P), none]) (ev_seqX (ev_stXe (ev_cX (ev_cons rfl ev_nil) c1)))
  | none =>
    obtain ⟨w, t, rfl, ht⟩ := tab_of hT
    have c1 := count_columns_spec ht
    let E : DEnv := [some (.fr (tabD t)), some (.fr P), some (.fr (.int w))]
    have s1 : sSetX 2 (fCX m_count_columns (fCons (rdF 0) fNil)) [some (.fr (tabD t)), some (.fr P), none] = some (.nx E) := ev_stX (ev_cX (ev_cons rfl ev_nil) c1) rfl
    have cP := check_any hP
    rw [chk_fb] at cP
    rcases fb_cases P with hf | ⟨x, hf, _⟩
    · rw [hf] at cP
      obtain ⟨cs, rfl, hcs⟩ := prg_fb hf
      have hsz := hcs.sz
      have c3 := program_columns_spec (n := 3) (by decide) (cs := cs) (by omega)
      have cl : (colL cs).length ≤ 100000 := by have := colss_len cs; unfold colL; omega
      have tl : ∀ {fl : DFlow}, sExprX (fCX m_check_columns_below (fCons (fCB m_program_columns (fCons (rdF 1) fNil)) (fCons (rdF 2) fNil))) E = some fl → mb_check_run [some (.fr (tabD t)), some (.fr (cpE cs)), none] = some fl := fun {fl} h =>
        ev_seq s1 (ev_seq (ev_exX (e1 := E) (ev_cX (ev_cons rfl ev_nil) cP)) h)
      rcases below_x (cs := colL cs) (w := (w : Int)) cl with ⟨eb, h⟩ | ⟨m, eb, hm⟩
      · refine ⟨_, ?_, .ok rfl ht rfl hf ⟨hcs.ok, hcs.sz, fun c hc x hx => h x (List.mem_flatMap.mpr ⟨c, hc, hx⟩)⟩⟩
        exact ev_runX0 rfl (env := E) (tl (ev_exX (e1 := E) (ev_cX (ev_cons (ev_cb (ev_cons rfl ev_nil) c3) (ev_cons rfl ev_nil)) eb)))
      · refine ⟨_, ?_, .mis rfl ht rfl hf hcs hm⟩
        exact ev_runXe rfl (env := E) (tl (ev_exXe (e1 := E) (ev_cX (ev_cons (ev_cb (ev_cons rfl ev_nil) c3) (ev_cons rfl ev_nil)) eb)))
    · rw [hf] at cP
      refine ⟨_, ?_, .prg rfl ht hf⟩
      exact ev_runXe rfl (env := E) (ev_seq s1 (ev_seqX (ev_exXe (ev_cX (ev_cons rfl ev_nil) cP))))
end DL
end L2


set_option Elab.async false
set_option maxRecDepth 100000
set_option maxHeartbeats 4000000
set_option autoImplicit false
namespace L2
namespace DL
open PySem PySem.Spec PyProof.Rows
local instance labNone_K18O : Lab := { w := none, T := [], gd := True }
/-! ### plain commands in words -/
def numT (i : Int) : Str := Str.ofString (toString i)
def tokP : Pl → Str
  | .sort d c => dS d ++ ":" ++ numT c
  | .rev => "reverse"
  | .res => "restore"
  | .cut f k => cS f ++ ":" ++ numT k
theorem all_pl {P : Pl → Prop} (h1 : P .rev) (h2 : P .res) (h3 : ∀ d, P (.sort d 0) ∧ P (.sort d 1) ∧ P (.sort d 2) ∧ P (.sort d 3))
    (h4 : ∀ f, P (.cut f 2) ∧ P (.cut f 3) ∧ P (.cut f 4) ∧ P (.cut f 5) ∧ P (.cut f 6) ∧ P (.cut f 7) ∧ P (.cut f 8) ∧ P (.cut f 9) ∧ P (.cut f 10) ∧ P (.cut f 11) ∧ P (.cut f 12) ∧ P (.cut f 13) ∧ P (.cut f 14) ∧ P (.cut f 15) ∧ P (.cut f 16) ∧ P (.cut f 17) ∧ P (.cut f 18) ∧ P (.cut f 19) ∧ P (.cut f 20) ∧ P (.cut f 21) ∧ P (.cut f 22) ∧ P (.cut f 23) ∧ P (.cut f 24) ∧ P (.cut f 25) ∧ P (.cut f 26) ∧ P (.cut f 27) ∧ P (.cut f 28) ∧ P (.cut f 29)) {p : Pl} (hp : PlOk p) : P p := by
  match p, hp with
  | .rev, _ => exact h1
  | .res, _ => exact h2
  | .sort d c, hp =>
    obtain ⟨a, b⟩ := hp
    obtain ⟨q0, q1, q2, q3⟩ := h3 d
    have : c = 0 ∨ c = 1 ∨ c = 2 ∨ c = 3 := by omega
    rcases this with rfl | rfl | rfl | rfl <;> assumption
  | .cut f k, hp =>
    obtain ⟨a, b⟩ := hp
    have q := h4 f
    have : k = 2 ∨ k = 3 ∨ k = 4 ∨ k = 5 ∨ k = 6 ∨ k = 7 ∨ k = 8 ∨ k = 9 ∨ k = 10 ∨ k = 11 ∨ k = 12 ∨ k = 13 ∨ k = 14 ∨ k = 15 ∨ k = 16 ∨ k = 17 ∨ k = 18 ∨ k = 19 ∨ k = 20 ∨ k = 21 ∨ k = 22 ∨ k = 23 ∨ k = 24 ∨ k = 25 ∨ k = 26 ∨ k = 27 ∨ k = 28 ∨ k = 29 := by omega
    rcases this with rfl | rfl | rfl | rfl | rfl | rfl | rfl | rfl | rfl | rfl | rfl | rfl | rfl | rfl | rfl | rfl | rfl | rfl | rfl | rfl | rfl | rfl | rfl | rfl | rfl | rfl | rfl | rfl <;> simp only [q]
theorem wc_pl {p : Pl} (hp : PlOk p) (f : Nat) : rc_written_command (f + 1) 0 [plE p] = some (.str (tokP p)) :=
  all_pl (P := fun p => rc_written_command (f + 1) 0 [plE p] = some (.str (tokP p))) (by kernel_rfl) (by kernel_rfl) (fun d => by cases d <;> (and_intros <;> kernel_rfl)) (fun g => by cases g <;> (and_intros <;> kernel_rfl)) hp
/-- a word: not empty, no space in it, plain signs, short -/
def wordB (w : Str) : Bool := !w.cps.isEmpty && !w.cps.toList.contains 32 && w.cps.toList.all (· < 128) && decide (w.length ≤ 40)
theorem tk_pl {p : Pl} (hp : PlOk p) : (wordB (tokP p) && !decide (tokP p = "(") && !Txt.startswith (tokP p) ")x") = true :=
  all_pl (P := fun p => (wordB (tokP p) && !decide (tokP p = "(") && !Txt.startswith (tokP p) ")x") = true) (by kernel_rfl) (by kernel_rfl) (fun d => by cases d <;> (and_intros <;> kernel_rfl)) (fun g => by cases g <;> (and_intros <;> kernel_rfl)) hp
/-! ### numbers in words -/
theorem nm_tl (n : Nat) : TL.tl (numT (n : Int)) = TL.numL n := TL.tl_num n
theorem num_len {n : Nat} (h : n ≤ 1000000000000000000000000000000) : (numT (n : Int)).length ≤ 31 := by
  rw [TL.len_tl, nm_tl]
  exact TL.numL_len (k := 31) (by decide) (by omega)
/-! ### the word that ends a repeat -/
def tokR (t : Int) : Str := ")x" ++ numT t
theorem tokR_tl (n : Nat) : TL.tl (tokR n) = 41 :: 120 :: TL.numL n := by
  show TL.tl (")x" ++ numT (n : Int)) = _
  rw [TL.tl_append, nm_tl]
  rfl
theorem tokR_len {n : Nat} (h : n ≤ 1000000000000000000000000000000) : (tokR n).length ≤ 33 := by
  have h1 := num_len h
  rw [TL.len_tl, nm_tl] at h1
  rw [TL.len_tl, tokR_tl, List.length_cons, List.length_cons]
  omega
theorem tokR_word {n : Nat} (h : n ≤ 1000000000000000000000000000000) : wordB (tokR n) = true := by
  have h1 := tokR_tl n
  have hd := TL.numL_digits n
  unfold wordB
  rw [Bool.and_eq_true, Bool.and_eq_true, Bool.and_eq_true]
  have e : (tokR (n : Int)).cps.toList = 41 :: 120 :: TL.numL n := h1
  refine ⟨⟨⟨?_, ?_⟩, ?_⟩, decide_eq_true (Nat.le_trans (tokR_len h) (by decide))⟩
  · rw [Bool.not_eq_true']
    cases hh : (tokR (n : Int)).cps.isEmpty with
    | false => rfl
    | true =>
      rw [Array.isEmpty_iff.mp hh] at e
      cases e
  · rw [e, Bool.not_eq_true']
    cases hh : (41 :: 120 :: TL.numL n).contains 32 with
    | false => rfl
    | true =>
      rw [List.contains_iff_mem] at hh
      rcases List.mem_cons.mp hh with z | hh
      · cases z
      · rcases List.mem_cons.mp hh with z | hh
        · cases z
        · have := hd 32 hh; omega
  · rw [e, List.all_eq_true]
    intro c hc
    rcases List.mem_cons.mp hc with rfl | hc
    · rfl
    · rcases List.mem_cons.mp hc with rfl | hc
      · rfl
      · have := hd c hc
        exact decide_eq_true (by omega)
/-! ### programs in words -/
def toks : (n : Nat) → Cm n → List Str
  | 0, p => [tokP p]
  | _ + 1, .inl p => [tokP p]
  | n + 1, .inr (t, ps) => "(" :: (ps.flatMap (toks n) ++ [tokR t])
abbrev spS : Str := " "
def jn (ts : List Str) : Str := Txt.join spS ts
theorem tl_jn (ts : List Str) : TL.tl (jn ts) = TL.joinL [32] (ts.map TL.tl) := by
  unfold jn
  rw [TL.join_eq, TL.tl_join]
  rfl
theorem joinL_app (S : List Nat) : ∀ a b : List (List Nat), a ≠ [] → b ≠ [] → TL.joinL S (a ++ b) = TL.joinL S a ++ (S ++ TL.joinL S b)
  | [], _, h, _ => absurd rfl h
  | [p], b, _, hb => by
    cases b with
    | nil => exact absurd rfl hb
    | cons q r => rfl
  | p :: q :: r, b, _, hb => by
    show p ++ (S ++ TL.joinL S ((q :: r) ++ b)) = (p ++ (S ++ TL.joinL S (q :: r))) ++ (S ++ TL.joinL S b)
    rw [joinL_app S (q :: r) b (by simp) hb]
    simp only [List.append_assoc]
/-- joined pieces that are joined themselves -/
theorem joinL_flat (S : List Nat) : ∀ tss : List (List (List Nat)), (∀ ts ∈ tss, ts ≠ []) → TL.joinL S (tss.map (TL.joinL S)) = TL.joinL S tss.flatten
  | [], _ => rfl
  | [ts], _ => by
    show TL.joinL S ts = TL.joinL S (ts ++ [])
    rw [List.append_nil]
  | ts :: us :: r, h => by
    have ih := joinL_flat S (us :: r) fun x hx => h x (List.mem_cons_of_mem _ hx)
    have hu : us ≠ [] := h us (List.mem_cons_of_mem _ List.mem_cons_self)
    show TL.joinL S ts ++ (S ++ TL.joinL S ((us :: r).map (TL.joinL S))) = TL.joinL S (ts ++ (us :: r).flatten)
    rw [ih, joinL_app S ts _ (h ts List.mem_cons_self) (by
      rw [List.flatten_cons]
      intro z
      exact hu (List.append_eq_nil_iff.mp z).1)]
theorem jn_flat (tss : List (List Str)) (h : ∀ ts ∈ tss, ts ≠ []) : jn (tss.map jn) = jn tss.flatten := by
  apply TL.ext_tl
  rw [tl_jn, tl_jn, List.map_map, List.map_flatten, ← joinL_flat [32] (tss.map (List.map TL.tl)) fun ts hts => by
    obtain ⟨us, hus, rfl⟩ := List.mem_map.mp hts
    intro z
    exact h us hus (List.map_eq_nil_iff.mp z), List.map_map]
  congr 1
  exact List.map_congr_left fun ts _ => tl_jn ts
theorem jn_one (t : Str) : jn [t] = t := by
  apply TL.ext_tl
  rw [tl_jn]
  rfl
theorem toks_ne : ∀ (n : Nat) (c : Cm n), toks n c ≠ []
  | 0, _ => List.cons_ne_nil _ _
  | _ + 1, .inl _ => List.cons_ne_nil _ _
  | _ + 1, .inr _ => List.cons_ne_nil _ _
abbrev MX : Int := 1000000000000000000000000000000
theorem rep_nat {t : Int} (h0 : 1 ≤ t) (h1 : t ≤ MX) : ∃ n : Nat, t = n ∧ 1 ≤ n ∧ n ≤ 1000000000000000000000000000000 := by
  have h1 : t ≤ 1000000000000000000000000000000 := h1
  exact ⟨t.toNat, by omega, by omega, by omega⟩
/-- each word is a word; how many there are -/
theorem toks_ok {tm : Int} (ht : tm ≤ MX) : ∀ (n : Nat) (c : Cm n), CmOk tm n c → (∀ w ∈ toks n c, wordB w = true) ∧ (toks n c).length ≤ 2 * szC n c
  | 0, p, h => by
    have := tk_pl (p := p) h
    rw [Bool.and_eq_true, Bool.and_eq_true] at this
    exact ⟨fun w hw => by rw [List.mem_singleton.mp hw]; exact this.1.1, by show 1 ≤ 2; decide⟩
  | _ + 1, .inl p, h => by
    have := tk_pl (p := p) h
    rw [Bool.and_eq_true, Bool.and_eq_true] at this
    exact ⟨fun w hw => by rw [List.mem_singleton.mp hw]; exact this.1.1, by show 1 ≤ 2; decide⟩
  | n + 1, .inr (t, ps), h => by
    obtain ⟨h0, h1, h2⟩ := h
    obtain ⟨k, rfl, k0, k1⟩ := rep_nat h0 (Int.le_trans h1 ht)
    have key : (∀ w ∈ ps.flatMap (toks n), wordB w = true) ∧ (ps.flatMap (toks n)).length ≤ 2 * (ps.map (szC n)).sum := by
      clear h1
      induction ps with
      | nil => exact ⟨fun w hw => (by cases hw), Nat.le_refl _⟩
      | cons c cs ih =>
        obtain ⟨a1, a2⟩ := toks_ok ht n c (h2 c List.mem_cons_self)
        obtain ⟨b1, b2⟩ := ih fun x hx => h2 x (List.mem_cons_of_mem _ hx)
        rw [List.flatMap_cons, List.map_cons, List.sum_cons]
        refine ⟨fun w hw => ?_, by rw [List.length_append]; omega⟩
        rcases List.mem_append.mp hw with z | z
        · exact a1 w z
        · exact b1 w z
    refine ⟨fun w hw => ?_, ?_⟩
    · rcases List.mem_cons.mp hw with rfl | hw
      · kernel_rfl
      · rcases List.mem_append.mp hw with z | z
        · exact key.1 w z
        · rw [List.mem_singleton.mp z]; exact tokR_word k1
    · show ((("(" : Str) :: (ps.flatMap (toks n) ++ [tokR (k : Int)]))).length ≤ 2 * (1 + (ps.map (szC n)).sum)
      rw [List.length_cons, List.length_append, List.length_singleton]
      have := key.2
      omega
theorem word_len {w : Str} (h : wordB w = true) : w.length ≤ 40 := by
  unfold wordB at h
  rw [Bool.and_eq_true] at h
  exact of_decide_eq_true h.2
/-- how long joined words are -/
theorem jn_len : ∀ (ts : List Str), (jn ts).length ≤ (ts.map (·.length)).sum + ts.length
  | [] => Nat.zero_le _
  | [t] => by rw [jn_one]; simp
  | t :: u :: r => by
    have ih := jn_len (u :: r)
    have e : TL.tl (jn (t :: u :: r)) = TL.tl t ++ ([32] ++ TL.tl (jn (u :: r))) := by rw [tl_jn, tl_jn]; rfl
    rw [TL.len_tl, e, List.length_append, List.length_append, ← TL.len_tl, ← TL.len_tl]
    simp only [List.map_cons, List.sum_cons, List.length_cons, List.length_nil] at ih ⊢
    omega
theorem words_sum : ∀ {ts : List Str}, (∀ w ∈ ts, wordB w = true) → (ts.map (·.length)).sum ≤ 40 * ts.length
  | [], _ => Nat.le_refl _
  | t :: ts, h => by
    have h1 := word_len (h t List.mem_cons_self)
    have h2 := words_sum (ts := ts) fun x hx => h x (List.mem_cons_of_mem _ hx)
    rw [List.map_cons, List.sum_cons, List.length_cons]
    omega
theorem jn_le {ts : List Str} (h : ∀ w ∈ ts, wordB w = true) : (jn ts).length ≤ 41 * ts.length := by
  have h1 := jn_len ts
  have h2 := words_sum h
  omega
/-! ### written_command -/
theorem ev_tm1 {g : Str → PyData → Option PyData} {f fe : DEnv → Option (PyData × DEnv)} {env e1 e2 : DEnv} {a : Str} {b d : PyData} (h : f env = some (.str a, e1)) (h2 : fe e1 = some (b, e2)) (h3 : g a b = some d) : fTM1 g f fe env = some (d, e2) := by
  unfold fTM1; rw [h]; show (fe e1).bind _ = _; rw [h2]; show (g a b).map _ = _; rw [h3]; rfl
theorem ev_fmtI {f : DEnv → Option (PyData × DEnv)} {env e1 : DEnv} {i : Int} (h : f env = some (.int i, e1)) (h2 : i.natAbs.log2 < 1920) : fFmt f env = some (.str (numT i), e1) := by
  unfold fFmt; rw [h]; show (fmtD (.int i)).map _ = _
  have : fmtD (.int i) = some (numT i) := if_pos h2
  rw [this]; rfl
theorem ev_jc {f : DEnv → Option (PyData × DEnv)} {g : DEnv → Option (List Str × DEnv)} {env e1 e2 : DEnv} {y : Str} {ys : List Str} (h : f env = some (.str y, e1)) (h2 : g e1 = some (ys, e2)) : fJCons f g env = some (y :: ys, e2) := by
  unfold fJCons; rw [h]; show (g e1).map _ = _; rw [h2]; rfl
theorem ev_jnd {g : DEnv → Option (List Str × DEnv)} {env e1 : DEnv} {ys : List Str} {s : Str} (h : g env = some (ys, e1)) (h2 : (ys.map (·.length)).sum ≤ lim) (h3 : ys.foldl (· ++ ·) Str.empty = s) : fJoined g env = some (.str s, e1) := by
  unfold fJoined; rw [h]; show (if (ys.map (·.length)).sum ≤ lim then _ else _) = _; rw [if_pos h2, h3]
theorem log_ok {n : Nat} (h : n ≤ 1000000000000000000000000000000) : ((n : Int)).natAbs.log2 < 1920 := by
  rw [Int.natAbs_natCast]
  by_cases h0 : n = 0
  · subst h0; decide
  · rw [Nat.log2_lt h0]
    exact Nat.lt_of_le_of_lt h (by decide +kernel)
theorem joinG_l {ys : List Str} (h : (ys.map (·.length)).sum + ys.length ≤ 100000) : joinG spS (.list (ys.map .str)) = some (.str (jn ys)) := by
  show (strsOf (ys.map PyData.str)).bind _ = _
  rw [strsOf_map]
  show (if (ys.map (·.length)).sum + ys.length * spS.length ≤ lim then some (PyData.str (Txt.join spS ys)) else none) = _
  have : spS.length = 1 := by decide +kernel
  rw [this, Nat.mul_one, if_pos h]
  rfl
theorem sum_jn {tm : Int} (ht : tm ≤ MX) {n : Nat} : ∀ {ps : List (Cm n)}, (∀ c ∈ ps, CmOk tm n c) → ((ps.map fun c => jn (toks n c)).map (·.length)).sum ≤ 82 * (ps.map (szC n)).sum
  | [], _ => Nat.le_refl _
  | c :: cs, h => by
    obtain ⟨a1, a2⟩ := toks_ok ht n c (h c List.mem_cons_self)
    have h1 := jn_le a1
    have h2 := sum_jn ht (ps := cs) fun x hx => h x (List.mem_cons_of_mem _ hx)
    rw [List.map_cons, List.map_cons, List.sum_cons, List.map_cons, List.sum_cons]
    omega
theorem len_sz {n : Nat} : ∀ ps : List (Cm n), ps.length ≤ (ps.map (szC n)).sum
  | [] => Nat.le_refl _
  | c :: cs => by
    have h1 := szC_pos n c
    have h2 := len_sz cs
    rw [List.length_cons, List.map_cons, List.sum_cons]
    omega
theorem jn_rep {n : Nat} (t : Int) (ps : List (Cm n)) : jn (("(" : Str) :: (ps.map (fun c => jn (toks n c)) ++ [tokR t])) = jn (toks (n + 1) (.inr (t, ps))) := by
  have h := jn_flat ([("(" : Str)] :: (ps.map (toks n) ++ [[tokR t]])) (by
    intro ts hts
    rcases List.mem_cons.mp hts with rfl | hts
    · exact List.cons_ne_nil _ _
    · rcases List.mem_append.mp hts with z | z
      · obtain ⟨c, _, rfl⟩ := List.mem_map.mp z
        exact toks_ne n c
      · rw [List.mem_singleton.mp z]
        exact List.cons_ne_nil _ _)
  rw [List.map_cons, List.map_append, List.map_map, jn_one, List.map_cons, jn_one, List.map_nil] at h
  show jn (("(" : Str) :: (ps.map (jn ∘ toks n) ++ [tokR t])) = _
  rw [h, List.flatten_cons, List.flatten_append, ← List.flatMap_def]
  rfl
theorem wc_cm {tm : Int} (ht : tm ≤ MX) : ∀ (n f : Nat), n + 1 ≤ f → ∀ c : Cm n, CmOk tm n c → szC n c ≤ 400 → rc_written_command f 0 [cmE n c] = some (.str (jn (toks n c)))
  | 0, f, hf, p, h, _ => by
    obtain ⟨g, rfl⟩ : ∃ g, f = g + 1 := ⟨f - 1, by omega⟩
    show rc_written_command (g + 1) 0 [plE p] = some (.str (jn [tokP p]))
    rw [jn_one]
    exact wc_pl h g
  | n + 1, f, hf, .inl p, h, _ => by
    obtain ⟨g, rfl⟩ : ∃ g, f = g + 1 := ⟨f - 1, by omega⟩
    show rc_written_command (g + 1) 0 [plE p] = some (.str (jn [tokP p]))
    rw [jn_one]
    exact wc_pl h g
  | n + 1, f, hf, .inr (t, ps), h, hs => by
    obtain ⟨g, rfl⟩ : ∃ g, f = g + 1 := ⟨f - 1, by omega⟩
    obtain ⟨h0, h1, h2⟩ := h
    obtain ⟨k, rfl, k0, k1⟩ := rep_nat h0 (Int.le_trans h1 ht)
    have hs' : 1 + (ps.map (szC n)).sum ≤ 400 := hs
    have hm : ∀ c ∈ ps, szC n c ≤ 400 := fun c hc => by
      have := mem_le_sum (List.mem_map.mpr ⟨c, hc, rfl⟩ : szC n c ∈ ps.map (szC n))
      omega
    have hl := len_sz ps
    let X : List PyData := ps.map (cmE n)
    let Y : List Str := ps.map fun c => jn (toks n c)
    let E0 : DEnv := [some (.fr (.tuple [.str "repeat", .int (k : Nat), .tuple X])), none, none]
    let E1 : DEnv := [some (.fr (.tuple [.str "repeat", .int (k : Nat), .tuple X])), some (.ow (Y.map .str)), none]
    have t1 : fTst (fBin inD (fIxN 0 (fC (.int 0))) (fC cv_BARE_WORDS)) E0 = some (false, E0) := ev_tst (d := .bool false) (ev_bin (a := .str "repeat") (ev_ixN (i := .int 0) (d0 := .tuple [.str "repeat", .int (k : Nat), .tuple X]) (d := .tuple [.str "repeat", .int (k : Nat), .tuple X]) rfl rfl rfl rfl) rfl (by kernel_rfl)) rfl
    have t2 : fTst (fBin eqD (fIxN 0 (fC (.int 0))) (fC (.str "repeat"))) E0 = some (true, E0) := ev_tst (d := .bool true) (ev_bin (a := .str "repeat") (ev_ixN (i := .int 0) (d0 := .tuple [.str "repeat", .int (k : Nat), .tuple X]) (d := .tuple [.str "repeat", .int (k : Nat), .tuple X]) rfl rfl rfl rfl) rfl (by kernel_rfl)) rfl
    have t3 : nLc (iSeq (fIxN 0 (fC (.int 2)))) (gSet 2) fYes (fCB (rc_written_command g 0) (fCons (rdF 2) fNil)) [2] E0 = some (Y.map .str, E0) := by
      refine ev_lc (ds := X) (ev_seqI (ev_ixN (i := .int 2) (d0 := .tuple [.str "repeat", .int (k : Nat), .tuple X]) (d := .tuple [.str "repeat", .int (k : Nat), .tuple X]) rfl rfl rfl rfl) rfl) (by show (ps.map (cmE n)).length ≤ 100000; rw [List.length_map]; omega) rfl ?_
      have := lc_img (i := 2) (fe := fCB (rc_written_command g 0) (fCons (rdF 2) fNil)) (e := cmE n) (q := fun c => .str (jn (toks n c))) (env := E0) rfl ps fun c hc => ev_cb (ev_cons rfl ev_nil) (wc_cm ht n g (by omega) c (h2 c hc) (hm c hc))
      refine this.trans ?_
      show some (ps.map _, E0) = some ((ps.map _).map _, E0)
      rw [List.map_map]
      rfl
    let E2 : DEnv := [some (.fr (.tuple [.str "repeat", .int (k : Nat), .tuple X])), some (.fr (.list (Y.map .str))), none]
    have t4 : fJoined (fJCons (fC (.str ")x")) (fJCons (fFmt (fIxN 0 (fC (.int 1)))) fJNil)) E2 = some (.str (tokR k), E2) := by
      refine ev_jnd (ys := [")x", numT k]) (ev_jc rfl (ev_jc (ev_fmtI (i := (k : Nat)) (ev_ixN (i := .int 1) (d0 := .tuple [.str "repeat", .int (k : Nat), .tuple X]) (d := .tuple [.str "repeat", .int (k : Nat), .tuple X]) rfl rfl rfl rfl) (log_ok k1)) rfl)) ?_ ?_
      · have := num_len k1
        show (")x" : Str).length + ((numT k).length + 0) ≤ 100000
        have h2 : (")x" : Str).length = 2 := by decide +kernel
        omega
      · apply TL.ext_tl
        show TL.tl ((Str.empty ++ ")x") ++ numT k) = TL.tl (")x" ++ numT k)
        rw [TL.tl_append, TL.tl_append, TL.tl_append]
        rfl
    have hY := sum_jn ht h2
    have hYl : Y.length = ps.length := List.length_map ..
    refine ev_runF rfl (ev_seq (ev_ifF t1 rfl) (ev_seqR (ev_ifT t2 (ev_seq (e1 := E1) (ev_setN t3 rfl) (ev_ret (ev_tm1 (a := spS) rfl (ev_frz (ev_nAdd (a := (("(" : Str) :: Y).map .str) (b := [.str (tokR k)]) (ev_frz (ev_nAdd (a := [.str "("]) (b := Y.map .str) (ev_frz (ev_lst (ev_cons rfl ev_nil) (by show 1 ≤ 100000; decide))) rfl ?_)) (ev_frz (ev_lst (ev_cons t4 ev_nil) (by show 1 ≤ 100000; decide))) ?_)) ?_))))))
    · show 1 + (Y.map _).length ≤ 100000
      rw [List.length_map, hYl]; omega
    · show ((("(" : Str) :: Y).map PyData.str).length + 1 ≤ 100000
      rw [List.length_map, List.length_cons, hYl]; omega
    · have e : (("(" : Str) :: Y).map PyData.str ++ [.str (tokR k)] = ((("(" : Str) :: (Y ++ [tokR (k : Int)]))).map PyData.str := by
        rw [List.map_cons, List.map_cons, List.map_append]; rfl
      rw [e, joinG_l, jn_rep]
      have h3 := tokR_len k1
      have h4 : ("(" : Str).length = 1 := by decide +kernel
      rw [List.map_cons, List.sum_cons, List.map_append, List.sum_append, List.length_cons, List.length_append, hYl]
      show _ + (_ + ((tokR (k : Int)).length + 0)) + (ps.length + 1 + 1) ≤ _
      have h5 : (Y.map (·.length)).sum ≤ 82 * (ps.map (szC n)).sum := hY
      omega

end DL
end L2


set_option Elab.async false
set_option maxRecDepth 100000
set_option maxHeartbeats 4000000
set_option autoImplicit false
namespace L2
namespace DL
open PySem PySem.Spec PyProof.Rows
local instance labNone_K18Q : Lab := { w := none, T := [], gd := True }
structure PgO (n : Nat) (cs : List (Cm n)) : Prop where
  n3 : n ≤ 3
  ok : ∀ c ∈ cs, CmOk MX n c
  sz : (cs.map (szC n)).sum ≤ 400
def txt {n : Nat} (cs : List (Cm n)) : Str := jn (cs.flatMap (toks n))
theorem fmt_prog {n : Nat} {cs : List (Cm n)} (h : PgO n cs) : m_format_program [cpE cs] = some (.ok (.str (txt cs))) := by
  have hc := check_cx (tm := MX) (Int.le_refl _) h.n3 h.ok h.sz
  have hsz := h.sz
  have hn := h.n3
  have hl := len_sz cs
  let E : DEnv := [some (.fr (cpE cs)), none]
  have e : m_format_program [cpE cs] = some (.ok (.str (txt cs))) := by
    have h2 : fCX m_check_program (fCons (rdF 0) fNil) E = some (.ok .none E) := ev_cX rfl hc
    have h3 : nLc (iSeq (rdF 0)) (gSet 1) fYes (fCB m_written_command (fCons (rdF 1) fNil)) [1] E = some ((cs.map fun c => jn (toks n c)).map .str, E) := by
      refine ev_lc (ds := cs.map (cmE n)) rfl (by show (cs.map (cmE n)).length ≤ 100000; rw [List.length_map]; omega) rfl ?_
      have := lc_img (i := 1) (fe := fCB m_written_command (fCons (rdF 1) fNil)) (e := cmE n) (q := fun c => .str (jn (toks n c))) (env := E) rfl cs fun c hc => ev_cb (ev_cons rfl ev_nil) (wc_cm (Int.le_refl _) n 12 (by omega) c (h.ok c hc) (by
        have := mem_le_sum (List.mem_map.mpr ⟨c, hc, rfl⟩ : szC n c ∈ cs.map (szC n))
        omega))
      refine this.trans ?_
      rw [List.map_map]
      rfl
    refine ev_runX rfl (ev_seq (e1 := E) ?_ (ev_ret (ev_tm1 (a := spS) rfl (ev_frz h3) ?_)))
    · show ((fCX m_check_program (fCons (rdF 0) fNil) E).map _) = _
      rw [h2]; rfl
    · have hs := sum_jn (Int.le_refl MX) h.ok
      rw [joinG_l (by rw [List.length_map]; omega)]
      have hj := jn_flat (cs.map (toks n)) fun ts hts => by
        obtain ⟨c, _, rfl⟩ := List.mem_map.mp hts
        exact toks_ne n c
      rw [List.map_map] at hj
      show some (PyData.str (jn (cs.map (jn ∘ toks n)))) = some (.str (txt cs))
      rw [hj, ← List.flatMap_def]
      rfl
  exact e
theorem ints_map : ∀ bs : List Int, intsD (bs.map .int) = some bs
  | [] => rfl
  | b :: bs => by
    show (intsD (bs.map .int)).map _ = _
    rw [ints_map bs]
    rfl
/-! ### how many commands -/
def cnp : (n : Nat) → Cm n → Int
  | 0, _ => 1
  | _ + 1, .inl _ => 1
  | n + 1, .inr (t, ps) => t * (ps.map (cnp n)).sum
theorem cnps_b {n : Nat} {B : Int} (hB : 0 ≤ B) : ∀ {ps : List (Cm n)}, (∀ c ∈ ps, 0 ≤ cnp n c ∧ cnp n c ≤ (szC n c : Int) * B) → 0 ≤ (ps.map (cnp n)).sum ∧ (ps.map (cnp n)).sum ≤ ((ps.map (szC n)).sum : Nat) * B
  | [], _ => ⟨Int.le_refl _, by show (0 : Int) ≤ ((0 : Nat) : Int) * B; rw [Int.natCast_zero, Int.zero_mul]; exact Int.le_refl _⟩
  | c :: cs, h => by
    obtain ⟨a1, a2⟩ := h c List.mem_cons_self
    obtain ⟨b1, b2⟩ := cnps_b hB (ps := cs) fun x hx => h x (List.mem_cons_of_mem _ hx)
    rw [List.map_cons, List.sum_cons, List.map_cons, List.sum_cons, Int.natCast_add, Int.add_mul]
    omega
theorem cnp_b : ∀ (n : Nat) (c : Cm n), CmOk MX n c → 0 ≤ cnp n c ∧ cnp n c ≤ (szC n c : Int) * MX ^ n
  | 0, _, _ => ⟨show (0 : Int) ≤ 1 by decide, show (1 : Int) ≤ ((1 : Nat) : Int) * MX ^ 0 by decide⟩
  | n + 1, .inl p, _ => by
    refine ⟨show (0 : Int) ≤ 1 by decide, ?_⟩
    show (1 : Int) ≤ ((1 : Nat) : Int) * MX ^ (n + 1)
    rw [Int.natCast_one, Int.one_mul]
    have : (0 : Int) < MX ^ (n + 1) := Int.pow_pos (by decide)
    omega
  | n + 1, .inr (t, ps), h => by
    obtain ⟨h0, h1, h2⟩ := h
    have hB : (0 : Int) < MX ^ n := Int.pow_pos (by decide)
    obtain ⟨b1, b2⟩ := cnps_b (Int.le_of_lt hB) fun c hc => cnp_b n c (h2 c hc)
    refine ⟨Int.mul_nonneg (by omega) b1, ?_⟩
    show t * (ps.map (cnp n)).sum ≤ ((1 + (ps.map (szC n)).sum : Nat) : Int) * MX ^ (n + 1)
    have e1 : t * (ps.map (cnp n)).sum ≤ MX * (((ps.map (szC n)).sum : Nat) * MX ^ n) := Int.mul_le_mul h1 b2 b1 (by decide)
    have e2 : MX * ((((ps.map (szC n)).sum : Nat) : Int) * MX ^ n) = (((ps.map (szC n)).sum : Nat) : Int) * MX ^ (n + 1) := by
      rw [Int.pow_succ, Int.mul_left_comm, Int.mul_comm MX (MX ^ n)]
    have e3 : ((1 + (ps.map (szC n)).sum : Nat) : Int) * MX ^ (n + 1) = MX ^ (n + 1) + (((ps.map (szC n)).sum : Nat) : Int) * MX ^ (n + 1) := by
      rw [Int.natCast_add, Int.natCast_one, Int.add_mul, Int.one_mul]
    have : (0 : Int) < MX ^ (n + 1) := Int.pow_pos (by decide)
    omega
theorem cnp_big {n : Nat} (hn : n ≤ 3) {ps : List (Cm n)} (h : ∀ c ∈ ps, CmOk MX n c) (hs : (ps.map (szC n)).sum ≤ 400) : ((ps.map (cnp n)).sum).natAbs < 10 ^ 200 := by
  have hB : (0 : Int) < MX ^ n := Int.pow_pos (by decide)
  obtain ⟨b1, b2⟩ := cnps_b (Int.le_of_lt hB) fun c hc => cnp_b n c (h c hc)
  have e1 : (((ps.map (szC n)).sum : Nat) : Int) * MX ^ n ≤ 400 * MX ^ n := Int.mul_le_mul_of_nonneg_right (by omega) (Int.le_of_lt hB)
  have e2 : (400 : Int) * MX ^ n < 10 ^ 200 := by
    have : n = 0 ∨ n = 1 ∨ n = 2 ∨ n = 3 := by omega
    rcases this with rfl | rfl | rfl | rfl <;> decide +kernel
  have e3 : (((ps.map (cnp n)).sum).natAbs : Int) < ((10 ^ 200 : Nat) : Int) := by
    rw [Int.natAbs_of_nonneg b1]
    have : ((10 ^ 200 : Nat) : Int) = 10 ^ 200 := by decide +kernel
    omega
  exact Int.ofNat_lt.mp e3
theorem cp_pl {p : Pl} (hp : PlOk p) (f : Nat) : rc_count_performed (f + 1) 0 [plE p] = some (.int 1) := by
  cases p with
  | sort d c => cases d <;> kernel_rfl
  | rev => kernel_rfl
  | res => kernel_rfl
  | cut g k => cases g <;> kernel_rfl
theorem cp_cm : ∀ (n f : Nat), n + 1 ≤ f → n ≤ 3 → ∀ c : Cm n, CmOk MX n c → szC n c ≤ 400 → rc_count_performed f 0 [cmE n c] = some (.int (cnp n c))
  | 0, f, hf, _, p, h, _ => by
    obtain ⟨g, rfl⟩ : ∃ g, f = g + 1 := ⟨f - 1, by omega⟩
    exact cp_pl (p := p) h g
  | n + 1, f, hf, _, .inl p, h, _ => by
    obtain ⟨g, rfl⟩ : ∃ g, f = g + 1 := ⟨f - 1, by omega⟩
    exact cp_pl (p := p) h g
  | n + 1, f, hf, hn, .inr (t, ps), h, hs => by
    obtain ⟨g, rfl⟩ : ∃ g, f = g + 1 := ⟨f - 1, by omega⟩
    obtain ⟨h0, h1, h2⟩ := h
    have hs' : 1 + (ps.map (szC n)).sum ≤ 400 := hs
    have hl := len_sz ps
    let X : List PyData := ps.map (cmE n)
    let R : PyData := .tuple [.str "repeat", .int t, .tuple X]
    let E0 : DEnv := [some (.fr R), none]
    have t2 : fTst (fBin eqD (fIxN 0 (fC (.int 0))) (fC (.str "repeat"))) E0 = some (true, E0) := ev_tst (d := .bool true) (ev_bin (a := .str "repeat") (ev_ixN (i := .int 0) (d0 := R) (d := R) rfl rfl rfl rfl) rfl (by kernel_rfl)) rfl
    have t3 : nLc (iSeq (fIxN 0 (fC (.int 2)))) (gSet 1) fYes (fCB (rc_count_performed g 0) (fCons (rdF 1) fNil)) [1] E0 = some ((ps.map (cnp n)).map .int, E0) := by
      refine ev_lc (ds := X) (ev_seqI (ev_ixN (i := .int 2) (d0 := R) (d := R) rfl rfl rfl rfl) rfl) (by show (ps.map (cmE n)).length ≤ 100000; rw [List.length_map]; omega) rfl ?_
      have := lc_img (i := 1) (fe := fCB (rc_count_performed g 0) (fCons (rdF 1) fNil)) (e := cmE n) (q := fun c => .int (cnp n c)) (env := E0) rfl ps fun c hc => ev_cb (ev_cons rfl ev_nil) (cp_cm n g (by omega) (by omega) c (h2 c hc) (by
        have := mem_le_sum (List.mem_map.mpr ⟨c, hc, rfl⟩ : szC n c ∈ ps.map (szC n))
        omega))
      refine this.trans ?_
      rw [List.map_map]
      rfl
    have b2 := cnp_big (by omega) h2 (by omega)
    have b1 : t.natAbs < 10 ^ 200 := by
      have h1' : t ≤ 1000000000000000000000000000000 := h1
      have p : (1000000000000000000000000000000 : Nat) < 10 ^ 200 := by decide +kernel
      omega
    refine ev_runF rfl (ev_seqR (ev_ifT t2 (ev_ret (ev_bin (a := .int t) (b := .int (ps.map (cnp n)).sum) (ev_ixN (i := .int 1) (d0 := R) (d := R) rfl rfl rfl rfl) (ev_cb (ev_cons (ev_frz t3) ev_nil) ?_) ?_))))
    · show (intsD ((ps.map (cnp n)).map .int)).map _ = _
      rw [ints_map]; rfl
    · exact if_pos (by unfold cMulB; rw [Bool.and_eq_true, decide_eq_true_eq, decide_eq_true_eq]; exact ⟨b1, b2⟩)
theorem cc_spec {n : Nat} {cs : List (Cm n)} (h : PgO n cs) : m_count_commands [cpE cs] = some (.ok (.int (cs.map (cnp n)).sum)) := by
  have hc := check_cx (tm := MX) (Int.le_refl _) h.n3 h.ok h.sz
  have hsz := h.sz
  have hn := h.n3
  have hl := len_sz cs
  let E : DEnv := [some (.fr (cpE cs)), none]
  have h3 : nLc (iSeq (rdF 0)) (gSet 1) fYes (fCB m_count_performed (fCons (rdF 1) fNil)) [1] E = some ((cs.map (cnp n)).map .int, E) := by
    refine ev_lc (ds := cs.map (cmE n)) rfl (by show (cs.map (cmE n)).length ≤ 100000; rw [List.length_map]; omega) rfl ?_
    have := lc_img (i := 1) (fe := fCB m_count_performed (fCons (rdF 1) fNil)) (e := cmE n) (q := fun c => .int (cnp n c)) (env := E) rfl cs fun c hc => ev_cb (ev_cons rfl ev_nil) (cp_cm n 12 (by omega) hn c (h.ok c hc) (by
      have := mem_le_sum (List.mem_map.mpr ⟨c, hc, rfl⟩ : szC n c ∈ cs.map (szC n))
      omega))
    refine this.trans ?_
    rw [List.map_map]
    rfl
  refine ev_runX rfl (ev_seq (e1 := E) (ev_exX (e1 := E) (ev_cX (ev_cons rfl ev_nil) hc)) (ev_ret (ev_cb (ev_cons (ev_frz h3) ev_nil) ?_)))
  show (intsD ((cs.map (cnp n)).map .int)).map _ = _
  rw [ints_map]; rfl


/-! ### the two doors without a table -/
theorem CsO.pg {cs : List (Cm 3)} (h : CsO cs) : PgO 3 cs := ⟨Nat.le_refl 3, h.ok, h.sz⟩
theorem count_any {P : PyData} (hP : gdD P = true) : (∃ x, fbL P = [x] ∧ m_count_commands [P] = some (.ex "InvalidProgram" "index" x)) ∨ (fbL P = [] ∧ ∃ v, m_count_commands [P] = some (.ok v)) := by
  have cP := check_any hP
  rw [chk_fb] at cP
  rcases fb_cases P with hf | ⟨x, hf, _⟩
  · rw [hf] at cP
    obtain ⟨cs, rfl, hcs⟩ := prg_fb hf
    exact .inr ⟨hf, _, cc_spec hcs.pg⟩
  · rw [hf] at cP
    exact .inl ⟨x, hf, ev_runXe rfl (env := [some (.fr P), none]) (ev_seqX (ev_exXe (ev_cX (ev_cons rfl ev_nil) cP)))⟩
theorem format_any {P : PyData} (hP : gdD P = true) : (∃ x, fbL P = [x] ∧ m_format_program [P] = some (.ex "InvalidProgram" "index" x)) ∨ (fbL P = [] ∧ ∃ v, m_format_program [P] = some (.ok v)) := by
  have cP := check_any hP
  rw [chk_fb] at cP
  rcases fb_cases P with hf | ⟨x, hf, _⟩
  · rw [hf] at cP
    obtain ⟨cs, rfl, hcs⟩ := prg_fb hf
    exact .inr ⟨hf, _, fmt_prog hcs.pg⟩
  · rw [hf] at cP
    exact .inl ⟨x, hf, ev_runXe rfl (env := [some (.fr P), none]) (ev_seqX (ev_exXe (ev_cX (ev_cons rfl ev_nil) cP)))⟩
end DL
end L2


set_option Elab.async false
set_option maxRecDepth 100000
set_option maxHeartbeats 4000000
set_option autoImplicit false
namespace L2
namespace DL
open PySem PySem.Spec PyProof.Rows
local instance labNone_K18S : Lab := { w := none, T := [], gd := True }
theorem ev_ySeq {f g : DEnv → Option (List PyData × DEnv)} {env e1 e2 : DEnv} {o1 o2 : List PyData} (h1 : f env = some (o1, e1)) (h2 : g e1 = some (o2, e2)) : ySeq f g env = some (o1 ++ o2, e2) := by
  unfold ySeq
  rw [h1, Option.bind_some, h2]
  rfl
theorem ev_yP {f : DEnv → Option DFlow} {env e1 : DEnv} (h : f env = some (.nx e1)) : yPlain f env = some ([], e1) := by
  unfold yPlain
  rw [h]
  rfl
theorem ev_yY {f : DEnv → Option (PyData × DEnv)} {env e1 : DEnv} {d : PyData} (h : f env = some (d, e1)) : yYield f env = some ([d], e1) := by
  unfold yYield
  rw [h]
  rfl
theorem ev_yN {env : DEnv} : yNil env = some ([], env) := rfl
theorem ev_forY {b : DEnv → Option (List PyData × DEnv)} {g : PyData → DEnv → Option DEnv} {env e1 e2 e3 : DEnv} {d : PyData} {ds o1 o2 : List PyData} (hg : g d env = some e1) (hb : b e1 = some (o1, e2)) (h : forY g b ds e2 = some (o2, e3)) : forY g b (d :: ds) env = some (o1 ++ o2, e3) := by
  rw [forY, hg, Option.bind_some, hb, Option.bind_some, h]
  rfl
/-! ### tables one by one -/
def eachT {n : Nat} (t : Tab) : List (Cm n) → List Nat → Od → List Tab
  | [], _, _ => []
  | c :: cs, l, o => pickT t (srtP (kvO t (sem n c o).2) (pickedP t (sem n c o).1 l)) :: eachT t cs (pickedP t (sem n c o).1 l) (sem n c o).2
theorem eachT_len {n : Nat} (t : Tab) : ∀ (cs : List (Cm n)) (l : List Nat) (o : Od), (eachT t cs l o).length = cs.length
  | [], _, _ => rfl
  | c :: cs, l, o => by rw [eachT, List.length_cons, eachT_len t cs, List.length_cons]
abbrev ytBody := (ySeq (yPlain (sAsg (fCB m_after_command (fCons (rdF 4) (fCons (rdF 3) fNil))) (gTupD 2 (gsCons (gSet 5) (gsCons (gSet 3) gsNil))))) (ySeq (yPlain (sSet 2 (fCB m_picked (fCons (rdF 0) (fCons (rdF 2) (fCons (rdF 5) fNil)))))) (ySeq (yYield (fCB m_records_at (fCons (rdF 0) (fCons (fCB m_sorted_places (fCons (rdF 0) (fCons (rdF 2) (fCons (rdF 3) fNil)))) fNil)))) yNil)))
theorem yt_turn {tm : Int} {w : Nat} {t : Tab} (ht : TabW w t) {n : Nat} (hn : n ≤ 3) {c : Cm n} (hc : CmOk tm n c) (hz : szC n c ≤ 100000) (hco : ∀ x ∈ colsC n c, x < (w : Int)) {o : Od} (ho : OOk o) (hw : WO w o) {l : List Nat} (hl : ∀ i ∈ l, i < t.length) (hll : l.length ≤ 1000) {P z : Option DV} :
    ytBody [some (.fr (tabD t)), P, some (.fr (placeD l)), some (.fr (oD o)), some (.fr (cmE n c)), z] = some ([tabD (pickT t (srtP (kvO t (sem n c o).2) (pickedP t (sem n c o).1 l)))], [some (.fr (tabD t)), P, some (.fr (placeD (pickedP t (sem n c o).1 l))), some (.fr (oD (sem n c o).2)), some (.fr (cmE n c)), some (.fr (.list ((sem n c o).1.map pkD)))]) := by
  have e1 : m_after_command [cmE n c, oD o] = some (.tuple [.list ((sem n c o).1.map pkD), oD (sem n c o).2]) := after_cm n _ (by omega) c hc hz o ho
  have q1 := sem_ok hc ho
  have q2 := WO.sem hco hw
  have e2 := picked_spec ht (ps := (sem n c o).1) (fun p hp => ⟨q1.2 p hp, q2.2 p hp⟩) hl
  have hl2 : ∀ i ∈ pickedP t (sem n c o).1 l, i < t.length := fun i hi => hl i (pickedP_sub t _ hi)
  have e3 := sorted_places_spec ht q1.1 q2.1 hl2
  have e4 := records_spec ht (l := srtP (kvO t (sem n c o).2) (pickedP t (sem n c o).1 l)) (fun i hi => hl2 i ((srtP_perm _ _).mem_iff.mp hi)) (by rw [srtP_len]; exact Nat.le_trans (pickedP_len t _ l) hll)
  generalize placeD (srtP (kvO t (sem n c o).2) (pickedP t (sem n c o).1 l)) = A at e3 e4
  generalize tabD (pickT t (srtP (kvO t (sem n c o).2) (pickedP t (sem n c o).1 l))) = B at e4 ⊢
  generalize placeD (pickedP t (sem n c o).1 l) = C at e2 e3 ⊢
  generalize oD (sem n c o).2 = O2 at e1 e3 ⊢
  generalize PyData.list ((sem n c o).1.map pkD) = Q at e1 e2 ⊢
  generalize cmE n c = M at e1 ⊢
  generalize tabD t = T at e2 e3 e4 ⊢
  generalize placeD l = L at e2 ⊢
  generalize oD o = O1 at e1 ⊢
  have s1 : sAsg (fCB m_after_command (fCons (rdF 4) (fCons (rdF 3) fNil))) (gTupD 2 (gsCons (gSet 5) (gsCons (gSet 3) gsNil))) [some (.fr T), P, some (.fr L), some (.fr O1), some (.fr M), z] = some (.nx [some (.fr T), P, some (.fr L), some (.fr O2), some (.fr M), some (.fr Q)]) := ev_asg2 (ev_cb (ev_cons rfl (ev_cons rfl ev_nil)) e1) rfl
  have s2 : sSet 2 (fCB m_picked (fCons (rdF 0) (fCons (rdF 2) (fCons (rdF 5) fNil)))) [some (.fr T), P, some (.fr L), some (.fr O2), some (.fr M), some (.fr Q)] = some (.nx [some (.fr T), P, some (.fr C), some (.fr O2), some (.fr M), some (.fr Q)]) := ev_setE (ev_cb (ev_cons rfl (ev_cons rfl (ev_cons rfl ev_nil))) e2) rfl
  have s3 : fCB m_records_at (fCons (rdF 0) (fCons (fCB m_sorted_places (fCons (rdF 0) (fCons (rdF 2) (fCons (rdF 3) fNil)))) fNil)) [some (.fr T), P, some (.fr C), some (.fr O2), some (.fr M), some (.fr Q)] = some (B, [some (.fr T), P, some (.fr C), some (.fr O2), some (.fr M), some (.fr Q)]) := ev_cb (ev_cons rfl (ev_cons (ev_cb (ev_cons rfl (ev_cons rfl (ev_cons rfl ev_nil))) e3) ev_nil)) e4
  exact ev_ySeq (ev_yP s1) (ev_ySeq (ev_yP s2) (ev_ySeq (ev_yY s3) ev_yN))
theorem yt_loop {tm : Int} {w : Nat} {t : Tab} (ht : TabW w t) {n : Nat} (hn : n ≤ 3) {P : Option DV} : ∀ {cs : List (Cm n)}, (∀ c ∈ cs, CmOk tm n c ∧ szC n c ≤ 100000 ∧ ∀ x ∈ colsC n c, x < (w : Int)) → ∀ (o : Od) (l : List Nat) (z y : Option DV), OOk o → WO w o → (∀ i ∈ l, i < t.length) → l.length ≤ 1000 →
    ∃ env, forY (gSet 4) ytBody (cs.map (cmE n)) [some (.fr (tabD t)), P, some (.fr (placeD l)), some (.fr (oD o)), z, y] = some ((eachT t cs l o).map tabD, env)
  | [], _, o, l, z, y, _, _, _, _ => ⟨_, rfl⟩
  | c :: cs, h, o, l, z, y, ho, hw, hl, hll => by
    obtain ⟨h1, h2, h3⟩ := h c List.mem_cons_self
    have e1 := yt_turn ht hn h1 h2 h3 ho hw hl hll (P := P) (z := y)
    have q1 := sem_ok h1 ho
    have q2 := WO.sem h3 hw
    obtain ⟨env, ih⟩ := yt_loop ht hn (P := P) (cs := cs) (fun x hx => h x (List.mem_cons_of_mem _ hx)) (sem n c o).2 (pickedP t (sem n c o).1 l) (some (.fr (cmE n c))) (some (.fr (.list ((sem n c o).1.map pkD)))) q1.1 q2.1 (fun i hi => hl i (pickedP_sub t _ hi)) (Nat.le_trans (pickedP_len t _ l) hll)
    refine ⟨env, ?_⟩
    exact ev_forY rfl e1 ih

/-! ### the three doors with a table -/
theorem runp_up {R P : PyData} {c a : Str} {d : PyData} (h : m_check_run [R, P] = some (.ex c a d)) : m_run_places [R, P] = some (.ex c a d) :=
  ev_runXe rfl (env := [some (.fr R), some (.fr P), none, none]) (ev_seqX (ev_exXe (ev_cX (ev_cons rfl (ev_cons rfl ev_nil)) h)))
theorem run_up {R P : PyData} {c a : Str} {d : PyData} (h : m_check_run [R, P] = some (.ex c a d)) : m_run [R, P] = some (.ex c a d) :=
  ev_runXe rfl (env := [some (.fr R), some (.fr P)]) (ev_retXe (ev_cb2E rfl (ev_cX (ev_cons rfl (ev_cons rfl ev_nil)) (runp_up h))))
theorem each_up {R P : PyData} {c a : Str} {d : PyData} (h : m_check_run [R, P] = some (.ex c a d)) : m_each_table [R, P] = some (.ex c a d) := by
  have e : fCX m_check_run (fCons (rdF 0) (fCons (rdF 1) fNil)) [some (.fr R), some (.fr P), none, none, none, none] = some (.ex c a d [some (.fr R), some (.fr P), none, none, none, none]) := ev_cX (ev_cons rfl (ev_cons rfl ev_nil)) h
  show (if ([R, P] : List PyData).length = 2 then (mb_each_table (startE 6 [R, P])).bind _ else none) = _
  rw [if_pos (show ([R, P] : List PyData).length = 2 from rfl)]
  show (mb_each_table [some (.fr R), some (.fr P), none, none, none, none]).bind _ = _
  have q : mb_each_table [some (.fr R), some (.fr P), none, none, none, none] = some (.ex c a d [some (.fr R), some (.fr P), none, none, none, none]) := by
    unfold mb_each_table yHead
    rw [e]
    rfl
  rw [q]
  rfl
theorem each_ok {w : Nat} {t : Tab} (ht : TabW w t) {cs : List (Cm 3)} (h : Prg TMx w 3 cs) (hc : m_check_run [tabD t, cpE cs] = some (.ok .none)) : ∃ ys, m_each_table [tabD t, cpE cs] = some (.ok ys) := by
  have e3 := every_spec ht
  have hl2 := ht.l2
  let V : DEnv := [some (.fr (tabD t)), some (.fr (cpE cs)), none, none, none, none]
  obtain ⟨env, e4⟩ := yt_loop ht (Nat.le_refl 3) (P := some (.fr (cpE cs))) (cs := cs) (fun c hc => ⟨h.ok c hc, by have := mem_le_sum (List.mem_map_of_mem (f := szC 3) hc); have := h.sz; omega, h.co c hc⟩) start0 (List.range t.length) none none start0_ok (wo_start w) (fun i hi => List.mem_range.mp hi) (by rw [List.length_range]; omega)
  have hlen : ((eachT t cs (List.range t.length) start0).map tabD).length ≤ lim := by
    rw [List.length_map, eachT_len]
    have := len_sz cs
    have := h.sz
    show _ ≤ 100000
    omega
  have e : fCX m_check_run (fCons (rdF 0) (fCons (rdF 1) fNil)) V = some (.ok .none V) := ev_cX (ev_cons rfl (ev_cons rfl ev_nil)) hc
  have s2 : sPar 2 3 (fCons (fCB m_every_place (fCons (rdF 0) fNil)) (fCons (fC cv_START) fNil)) V = some (.nx [some (.fr (tabD t)), some (.fr (cpE cs)), some (.fr (placeD (List.range t.length))), some (.fr (oD start0)), none, none]) := ev_par (ev_cons (ev_cb (ev_cons rfl ev_nil) e3) (ev_cons rfl ev_nil)) rfl
  have s3 : yFor (iSeq (rdF 1)) (gSet 4) ytBody [some (.fr (tabD t)), some (.fr (cpE cs)), some (.fr (placeD (List.range t.length))), some (.fr (oD start0)), none, none] = some ((eachT t cs (List.range t.length) start0).map tabD, env) := e4
  have all := ev_ySeq (ev_yP s2) (ev_ySeq s3 ev_yN)
  rw [List.nil_append, List.append_nil] at all
  refine ⟨(eachT t cs (List.range t.length) start0).map tabD, ?_⟩
  have q : mb_each_table V = some (.nx ((eachT t cs (List.range t.length) start0).map tabD) env) := by
    unfold mb_each_table yHead
    rw [e]
    show (ySeq _ _ V).map _ = _
    rw [all]
    rfl
  show (if ([tabD t, cpE cs] : List PyData).length = 2 then (mb_each_table V).bind _ else none) = _
  rw [if_pos (show ([tabD t, cpE cs] : List PyData).length = 2 from rfl), q]
  show (if ((eachT t cs (List.range t.length) start0).map tabD).length ≤ lim then _ else none) = _
  rw [if_pos hlen]
end DL
end L2


set_option Elab.async false
set_option maxRecDepth 100000
set_option maxHeartbeats 4000000
set_option autoImplicit false
namespace L2
namespace DL
open PySem PySem.Spec PyProof.Rows
local instance labNone_K18T : Lab := { w := none, T := [], gd := True }
/-! ### what is asked at a door -/
theorem ev_tryAsR {mt : Str → Option Bool} {at' : Str → Str} {i : Nat} {gb gh : DEnv → Option DFlow} {env e e2 : DEnv} {c a : Str} {d x : PyData} (h : gb env = some (.ex c a d e)) (h2 : mt c = some true) (h3 : a = at' c) (h4 : gh (e.set i (some (.fr (excD c a d)))) = some (.rt x e2)) : sTryAs mt at' i gb gh env = some (.rt x e2) := by
  unfold sTryAs
  rw [h]
  show ((mt c).bind fun b => if b then if a = at' c then (gh (e.set i (some (.fr (excD c a d))))).bind _ else none else _) = _
  rw [h2]
  show (if a = at' c then (gh (e.set i (some (.fr (excD c a d))))).bind _ else none) = _
  rw [if_pos h3, h4]
  rfl
theorem ev_tryAsN {mt : Str → Option Bool} {at' : Str → Str} {i : Nat} {gb gh : DEnv → Option DFlow} {env e : DEnv} (h : gb env = some (.nx e)) : sTryAs mt at' i gb gh env = some (.nx e) := by
  unfold sTryAs
  rw [h]
  rfl
theorem kd_tab (d : PyData) : m__law_kind [excD "InvalidTable" "index" d] = some (.int 0) := by kernel_rfl
theorem kd_prg (d : PyData) : m__law_kind [excD "InvalidProgram" "index" d] = some (.int 3) := by kernel_rfl
theorem kd_mis (d : PyData) : m__law_kind [excD "MissingColumn" "column" d] = some (.int 12) := by kernel_rfl
def flS : XR → DEnv → DFlow
  | .ok _, E => .nx E
  | .ex c a d, E => .ex c a d E
theorem exq {r : XR} {fx : DEnv → Option DX} {E : DEnv} (h : fx E = some (toX E r)) : sExprX fx E = some (flS r E) := by
  unfold sExprX
  rw [h]
  cases r <;> rfl
inductive Cod : XR → PyData → Prop
  | ok {v : PyData} : Cod (.ok v) (.list [])
  | tab {x : PyData} {s : Str} : reprE [x] = some (.str s) → Cod (.ex "InvalidTable" "index" x) (.list [.int 0, .str s])
  | prg {x : PyData} {s : Str} : reprE [x] = some (.str s) → Cod (.ex "InvalidProgram" "index" x) (.list [.int 3, .str s])
  | mis {x : PyData} {s : Str} : reprE [x] = some (.str s) → Cod (.ex "MissingColumn" "column" x) (.list [.int 12, .str s])
abbrev akE (g R P : PyData) (x y : Option DV) : DEnv := [some (.fr g), some (.fr R), some (.fr P), x, y]
abbrev akB := (sIf (fTst (fBin eqD (rdF 0) (fC (.int 0)))) (sExprX (fCX m_count_commands (fCons (rdF 2) fNil))) (sIf (fTst (fBin eqD (rdF 0) (fC (.int 1)))) (sExprX (fCX m_format_program (fCons (rdF 2) fNil))) (sIf (fTst (fBin eqD (rdF 0) (fC (.int 2)))) (sExprX (fCX m_run (fCons (rdF 1) (fCons (rdF 2) fNil)))) (sIf (fTst (fBin eqD (rdF 0) (fC (.int 3)))) (sExprX (fCX m_run_places (fCons (rdF 1) (fCons (rdF 2) fNil)))) (sExprX (fListGX stB m_each_table (fCons (rdF 1) (fCons (rdF 2) fNil))))))))
abbrev akH := (sSeq (sSetN 4 (fLst (fCons (fCB m__law_kind (fCons (rdF 3) fNil)) fNil))) (sSeq (sIf (fTst (fIsC2 mi_InvalidTable mi_InvalidProgram (rdF 3))) (sApp 4 (fCB reprE (fCons (fExA "index" (rdF 3)) fNil))) sNil) (sSeq (sIf (fTst (fIsC mi_MissingColumn (rdF 3))) (sApp 4 (fCB reprE (fCons (fExA "column" (rdF 3)) fNil))) sNil) (sRet (rdF 4)))))
theorem asked_cod {g R P u : PyData} {r : XR} (h : Cod r u) (hb : akB (akE g R P none none) = some (flS r (akE g R P none none))) : m__law_asked [g, R, P] = some u := by
  have sh : ∀ {fl : DEnv}, sTryAs (mt3 mt_TableError mt_FindError mt_LimitError) at_ex 3 akB akH (akE g R P none none) = some (.rt u fl) → m__law_asked [g, R, P] = some u := fun {fl} h => ev_runF (env := fl) rfl (ev_seqR h)
  cases h with
  | ok => exact ev_runF (env := akE g R P none none) rfl (ev_seq (ev_tryAsN hb) rfl)
  | @tab x s hs =>
    let ex := excD "InvalidTable" "index" x
    have a1 : fCB reprE (fCons (fExA "index" (rdF 3)) fNil) (akE g R P (some (.fr ex)) (some (.ow [.int 0]))) = some (.str s, akE g R P (some (.fr ex)) (some (.ow [.int 0]))) := ev_cb (ev_cons (d := x) (by kernel_rfl) ev_nil) hs
    refine sh (ev_tryAsR hb (by kernel_rfl) (by kernel_rfl) (e2 := akE g R P (some (.fr ex)) (some (.fr (.list [.int 0, .str s])))) ?_)
    exact ev_seq (e1 := akE g R P (some (.fr ex)) (some (.ow [.int 0]))) (ev_setN (ev_lst (ev_cons (ev_cb (ev_cons rfl ev_nil) (kd_tab x)) ev_nil) (by decide)) rfl)
      (ev_seq (e1 := akE g R P (some (.fr ex)) (some (.ow [.int 0, .str s]))) (ev_ifT (by kernel_rfl) (ev_app rfl a1 rfl (by decide) rfl))
        (ev_seq (e1 := akE g R P (some (.fr ex)) (some (.ow [.int 0, .str s]))) (ev_ifF (by kernel_rfl) rfl) rfl))
  | @prg x s hs =>
    let ex := excD "InvalidProgram" "index" x
    have a1 : fCB reprE (fCons (fExA "index" (rdF 3)) fNil) (akE g R P (some (.fr ex)) (some (.ow [.int 3]))) = some (.str s, akE g R P (some (.fr ex)) (some (.ow [.int 3]))) := ev_cb (ev_cons (d := x) (by kernel_rfl) ev_nil) hs
    refine sh (ev_tryAsR hb (by kernel_rfl) (by kernel_rfl) (e2 := akE g R P (some (.fr ex)) (some (.fr (.list [.int 3, .str s])))) ?_)
    exact ev_seq (e1 := akE g R P (some (.fr ex)) (some (.ow [.int 3]))) (ev_setN (ev_lst (ev_cons (ev_cb (ev_cons rfl ev_nil) (kd_prg x)) ev_nil) (by decide)) rfl)
      (ev_seq (e1 := akE g R P (some (.fr ex)) (some (.ow [.int 3, .str s]))) (ev_ifT (by kernel_rfl) (ev_app rfl a1 rfl (by decide) rfl))
        (ev_seq (e1 := akE g R P (some (.fr ex)) (some (.ow [.int 3, .str s]))) (ev_ifF (by kernel_rfl) rfl) rfl))
  | @mis x s hs =>
    let ex := excD "MissingColumn" "column" x
    have a1 : fCB reprE (fCons (fExA "column" (rdF 3)) fNil) (akE g R P (some (.fr ex)) (some (.ow [.int 12]))) = some (.str s, akE g R P (some (.fr ex)) (some (.ow [.int 12]))) := ev_cb (ev_cons (d := x) (by kernel_rfl) ev_nil) hs
    refine sh (ev_tryAsR hb (by kernel_rfl) (by kernel_rfl) (e2 := akE g R P (some (.fr ex)) (some (.fr (.list [.int 12, .str s])))) ?_)
    exact ev_seq (e1 := akE g R P (some (.fr ex)) (some (.ow [.int 12]))) (ev_setN (ev_lst (ev_cons (ev_cb (ev_cons rfl ev_nil) (kd_mis x)) ev_nil) (by decide)) rfl)
      (ev_seq (e1 := akE g R P (some (.fr ex)) (some (.ow [.int 12]))) (ev_ifF (by kernel_rfl) rfl)
        (ev_seq (e1 := akE g R P (some (.fr ex)) (some (.ow [.int 12, .str s]))) (ev_ifT (by kernel_rfl) (ev_app rfl a1 rfl (by decide) rfl)) rfl))
theorem dr {i j : Int} (h : i ≠ j) : eqD (.int i) (.int j) = some (.bool false) := by
  show some (PyData.bool (decide (i = j))) = _
  rw [decide_eq_false h]
theorem dr1 (i : Int) : eqD (.int i) (.int i) = some (.bool true) := by
  show some (PyData.bool (decide (i = i))) = _
  rw [decide_eq_true rfl]
abbrev tq (j : Int) := fTst (fBin eqD (rdF 0) (fC (.int j)))
theorem tqF {i j : Int} (h : i ≠ j) (R P : PyData) : tq j (akE (.int i) R P none none) = some (false, akE (.int i) R P none none) := ev_tst (ev_bin rfl rfl (dr h)) rfl
theorem tqT (i : Int) (R P : PyData) : tq i (akE (.int i) R P none none) = some (true, akE (.int i) R P none none) := ev_tst (ev_bin rfl rfl (dr1 i)) rfl
theorem bod0 {R P : PyData} {r : XR} (h : m_count_commands [P] = some r) : akB (akE (.int 0) R P none none) = some (flS r (akE (.int 0) R P none none)) :=
  ev_ifT (tqT 0 R P) (exq (ev_cX (ev_cons rfl ev_nil) h))
theorem bod1 {R P : PyData} {r : XR} (h : m_format_program [P] = some r) : akB (akE (.int 1) R P none none) = some (flS r (akE (.int 1) R P none none)) :=
  ev_ifF (tqF (by decide) R P) (ev_ifT (tqT 1 R P) (exq (ev_cX (ev_cons rfl ev_nil) h)))
theorem bod2 {R P : PyData} {r : XR} (h : m_run [R, P] = some r) : akB (akE (.int 2) R P none none) = some (flS r (akE (.int 2) R P none none)) :=
  ev_ifF (tqF (by decide) R P) (ev_ifF (tqF (by decide) R P) (ev_ifT (tqT 2 R P) (exq (ev_cX (ev_cons rfl (ev_cons rfl ev_nil)) h))))
theorem bod3 {R P : PyData} {r : XR} (h : m_run_places [R, P] = some r) : akB (akE (.int 3) R P none none) = some (flS r (akE (.int 3) R P none none)) :=
  ev_ifF (tqF (by decide) R P) (ev_ifF (tqF (by decide) R P) (ev_ifF (tqF (by decide) R P) (ev_ifT (tqT 3 R P) (exq (ev_cX (ev_cons rfl (ev_cons rfl ev_nil)) h)))))
theorem lgx {g R P : PyData} {fl : DFlow} (h : sExprX (fListGX stB m_each_table (fCons (rdF 1) (fCons (rdF 2) fNil))) (akE (.int 4) R P none none) = some fl) : akB (akE (.int 4) R P none none) = some fl :=
  ev_ifF (tqF (by decide) R P) (ev_ifF (tqF (by decide) R P) (ev_ifF (tqF (by decide) R P) (ev_ifF (tqF (by decide) R P) h)))
theorem bod4o {R P : PyData} {ys : List PyData} (h : m_each_table [R, P] = some (.ok ys)) : akB (akE (.int 4) R P none none) = some (.nx (akE (.int 4) R P none none)) := by
  refine lgx (g := .none) ?_
  have e : fListGX stB m_each_table (fCons (rdF 1) (fCons (rdF 2) fNil)) (akE (.int 4) R P none none) = some (.ok (.list ys) (akE (.int 4) R P none none)) := by
    show ((m_each_table [R, P]).bind _) = _
    rw [h]
    rfl
  unfold sExprX
  rw [e]
  rfl
theorem bod4e {R P : PyData} {c a : Str} {d : PyData} (h : m_each_table [R, P] = some (.ex c a d)) (hc : stB c = true) : akB (akE (.int 4) R P none none) = some (.ex c a d (akE (.int 4) R P none none)) := by
  refine lgx (g := .none) ?_
  have e : fListGX stB m_each_table (fCons (rdF 1) (fCons (rdF 2) fNil)) (akE (.int 4) R P none none) = some (.ex c a d (akE (.int 4) R P none none)) := by
    show ((m_each_table [R, P]).bind _) = _
    rw [h]
    show (if stB c = true then _ else none) = _
    rw [if_pos hc]
  unfold sExprX
  rw [e]
  rfl
/-! ### all five -/
theorem asked01 {R P : PyData} (hP : gdD P = true) : (∃ x s, fbL P = [x] ∧ reprE [x] = some (.str s) ∧ ∀ i : Int, i = 0 ∨ i = 1 → m__law_asked [.int i, R, P] = some (.list [.int 3, .str s])) ∨ (fbL P = [] ∧ ∀ i : Int, i = 0 ∨ i = 1 → m__law_asked [.int i, R, P] = some (.list [])) := by
  rcases fb_cases P with hf | ⟨x, hf, hx⟩
  · refine .inr ⟨hf, fun i hi => ?_⟩
    rcases hi with rfl | rfl
    · rcases count_any hP with ⟨x, h, _⟩ | ⟨_, v, h⟩
      · rw [hf] at h; cases h
      · exact asked_cod .ok (bod0 h)
    · rcases format_any hP with ⟨x, h, _⟩ | ⟨_, v, h⟩
      · rw [hf] at h; cases h
      · exact asked_cod .ok (bod1 h)
  · obtain ⟨s, hs, _⟩ := rep_of hx
    refine .inl ⟨x, s, hf, hs, fun i hi => ?_⟩
    rcases hi with rfl | rfl
    · rcases count_any hP with ⟨y, h, e⟩ | ⟨h, _⟩
      · rw [hf] at h; cases h
        exact asked_cod (.prg hs) (bod0 e)
      · rw [hf] at h; cases h
    · rcases format_any hP with ⟨y, h, e⟩ | ⟨h, _⟩
      · rw [hf] at h; cases h
        exact asked_cod (.prg hs) (bod1 e)
      · rw [hf] at h; cases h
def Dr (i : Int) : Prop := i = 2 ∨ i = 3 ∨ i = 4
theorem asked_ex {R P u x : PyData} {c a : Str} (h : m_check_run [R, P] = some (.ex c a x)) (hu : Cod (.ex c a x) u) (hc : stB c = true) (i : Int) (hi : Dr i) : m__law_asked [.int i, R, P] = some u := by
  rcases hi with rfl | rfl | rfl
  · exact asked_cod hu (bod2 (run_up h))
  · exact asked_cod hu (bod3 (runp_up h))
  · exact asked_cod hu (bod4e (each_up h) hc)
theorem colP_in {p : Pl} (h : PlOk p) : ∀ x ∈ colP p, 0 ≤ x ∧ x < 4 := by
  cases p with
  | sort d k => intro x hx; rw [show x = k from List.mem_singleton.mp hx]; exact h
  | _ => intro x hx; cases hx
theorem colC_in {tm : Int} : ∀ (n : Nat) (c : Cm n), CmOk tm n c → ∀ x ∈ colsC n c, 0 ≤ x ∧ x < 4
  | 0, p, h => by rw [cols0]; exact colP_in h
  | n + 1, .inl p, h => by rw [colsI]; exact colP_in h
  | n + 1, .inr (t, ps), h => fun x hx => by
    obtain ⟨c, hc, hx⟩ := List.mem_flatMap.mp (show x ∈ ps.flatMap (colsC n) from hx)
    exact colC_in n c (h.2.2 c hc) x hx
theorem lst_small {w : Nat} {cs : List (Cm 3)} {m : Int} (hc : CsO cs) (h : Lst w (colL cs) m) : 0 ≤ m ∧ m < 4 := by
  obtain ⟨c, hc', hm⟩ := List.mem_flatMap.mp h.1.1
  exact colC_in 3 c (hc.ok c hc') m hm
end DL
end L2


set_option Elab.async false
set_option maxRecDepth 100000
set_option maxHeartbeats 4000000
set_option autoImplicit false
namespace L2
namespace DL
open PySem PySem.Spec PyProof.Rows
local instance labNone_K18U : Lab := { w := none, T := [], gd := True }
/-! ### the law's own look at tables -/
def faultL : Option PyData → List PyData
  | none => []
  | some x => [x]
abbrev tbG := gTupD 2 (gsCons (gSet 1) (gsCons (gSet 2) gsNil))
abbrev tbBody := (sSeq (sIf (fOr (fNot (fTst (fIsi "tuple" (rdF 2)))) (fOr (fNot (fTst (fChain leD leD (fC (.int 1)) (fLenN 2) (fC (.int 5))))) (fTst (fBin neD (fLenN 2) (fCB lenD (fCons (fIxN 0 (fC (.int 0))) fNil)))))) (sRet (fFrz (fLst (fCons (rdF 1) fNil)))) sNil) (sIf (fNot (fTst (fCB allD (fCons (fFrz (nLc (iSeq (rdF 2)) (gSet 3) fYes (fAndV (fIsi "int" (rdF 3)) (fNotV (fIsi "bool" (rdF 3)))) [3])) fNil)))) (sRet (fFrz (fLst (fCons (rdF 1) fNil)))) sNil))
abbrev tbE (full : List PyData) (i : Nat) (r : PyData) : DEnv := [some (.fr (.tuple full)), some (.fr (.int (i : Nat))), some (.fr r), none]
theorem tb_not {full : List PyData} {i : Nat} {r : PyData} (hr : isiT "tuple" (tyN r) = false) : tbBody (tbE full i r) = some (.rt (.list [.int (i : Nat)]) (tbE full i r)) :=
  ev_seqR (ev_ifT (ev_or1 (ev_not (k := false) (ev_isiD (d := r) rfl hr))) rfl)
theorem le_len {a b : Int} {n : Nat} {f g k : DEnv → Option (PyData × DEnv)} {env : DEnv} (h1 : f env = some (.int a, env)) (h2 : g env = some (.int (n : Nat), env)) (h3 : k env = some (.int b, env)) : fTst (fChain leD leD f g k) env = some (decide (a ≤ (n : Nat)) && decide (((n : Nat) : Int) ≤ b), env) :=
  ev_tst (le_le h1 h2 h3) rfl
theorem tb_turn {xs rest : List PyData} {i : Nat} {r : PyData} : tbBody (tbE (.tuple xs :: rest) i r) = if rowOk xs.length r then some (.nx (tbE (.tuple xs :: rest) i r)) else some (.rt (.list [.int (i : Nat)]) (tbE (.tuple xs :: rest) i r)) := by
  cases hr : isiT "tuple" (tyN r) with
  | false =>
    have hb : rowOk xs.length r = false := by cases r <;> first | rfl | cases hr
    rw [hb, if_neg (by decide)]
    exact tb_not hr
  | true =>
    obtain ⟨ys, rfl⟩ : ∃ ys, r = .tuple ys := by cases r <;> first | exact ⟨_, rfl⟩ | cases hr
    let E : DEnv := tbE (.tuple xs :: rest) i (.tuple ys)
    have e0 : fIxN 0 (fC (.int 0)) E = some (.tuple xs, E) := ev_ixN (i := .int 0) (d0 := .tuple (.tuple xs :: rest)) (d := .tuple (.tuple xs :: rest)) rfl rfl rfl (by simp [ixD, atI, ixN])
    have rt : sRet (fFrz (fLst (fCons (rdF 1) fNil))) E = some (.rt (.list [.int (i : Nat)]) E) := rfl
    have el : fLenN 2 E = some (.int (ys.length : Nat), E) := ev_lenN (d := .tuple ys) rfl rfl
    have el0 : fCB lenD (fCons (fIxN 0 (fC (.int 0))) fNil) E = some (.int (xs.length : Nat), E) := ev_cb (ev_cons e0 ev_nil) rfl
    have c1 := le_len (a := 1) (b := 5) (f := fC (.int 1)) (k := fC (.int 5)) rfl el rfl
    have tn : fTst (fBin neD (fLenN 2) (fCB lenD (fCons (fIxN 0 (fC (.int 0))) fNil))) E = some (!decide (((ys.length : Nat) : Int) = (xs.length : Nat)), E) := ev_tst (d := .bool (!decide (((ys.length : Nat) : Int) = (xs.length : Nat)))) (ev_bin el el0 rfl) rfl
    have ti : fNot (fTst (fIsi "tuple" (rdF 2))) E = some (false, E) := ev_not (k := true) (ev_isiD (d := .tuple ys) rfl rfl)
    by_cases hl : 1 ≤ ys.length ∧ ys.length ≤ 5
    · have hrec : isRec (.tuple ys) = ys.all isInt := by
        rw [isRec, decide_eq_true hl.1, decide_eq_true hl.2]; rfl
      rw [decide_eq_true (show (1 : Int) ≤ (ys.length : Nat) by omega), decide_eq_true (show ((ys.length : Nat) : Int) ≤ 5 by omega)] at c1
      rw [rowOk, hrec, rowLen]
      by_cases hw : ys.length = xs.length
      · rw [decide_eq_true (by omega)] at tn
        have s1 : ∀ S, sIf (fOr (fNot (fTst (fIsi "tuple" (rdF 2)))) (fOr (fNot (fTst (fChain leD leD (fC (.int 1)) (fLenN 2) (fC (.int 5))))) (fTst (fBin neD (fLenN 2) (fCB lenD (fCons (fIxN 0 (fC (.int 0))) fNil)))))) S sNil E = some (.nx E) := fun S => ev_ifF (ev_or0 ti (ev_or0 (ev_not c1) tn)) rfl
        have lc := lc_img (i := 3) (fe := fAndV (fIsi "int" (rdF 3)) (fNotV (fIsi "bool" (rdF 3)))) (e := fun y : PyData => y) (q := fun y => PyData.bool (isInt y)) (env := E) rfl ys fun y _ => by cases y <;> rfl
        rw [List.map_id'] at lc
        have ta : fTst (fCB allD (fCons (fFrz (nLc (iSeq (rdF 2)) (gSet 3) fYes (fAndV (fIsi "int" (rdF 3)) (fNotV (fIsi "bool" (rdF 3)))) [3])) fNil)) E = some (ys.all isInt, E) := ev_tst (d := .bool (ys.all isInt)) (ev_cb (ev_cons (ev_frz (ev_lc (ds := ys) (e1 := E) rfl (by show _ ≤ 100000; omega) rfl lc)) ev_nil) (all_map isInt ys)) rfl
        cases ha : ys.all isInt with
        | false =>
          rw [ha] at ta
          rw [if_neg (by simp)]
          exact ev_seq (s1 _) (ev_ifT (ev_not ta) rt)
        | true =>
          rw [ha] at ta
          rw [if_pos (by simp [hw])]
          exact ev_seq (s1 _) (ev_ifF (ev_not ta) rfl)
      · rw [if_neg (by simp [hw])]
        rw [decide_eq_false (by omega)] at tn
        exact ev_seqR (ev_ifT (ev_or0 ti (ev_or0 (ev_not c1) tn)) rt)
    · have hb : rowOk xs.length (.tuple ys) = false := by
        rw [rowOk, isRec]
        by_cases h1 : 1 ≤ ys.length
        · rw [decide_eq_false (show ¬ ys.length ≤ 5 from fun z => hl ⟨h1, z⟩)]; simp
        · rw [decide_eq_false h1]; simp
      rw [hb, if_neg (by decide)]
      have cf : (decide ((1 : Int) ≤ (ys.length : Nat)) && decide (((ys.length : Nat) : Int) ≤ 5)) = false := by
        by_cases h1 : 1 ≤ ys.length
        · rw [decide_eq_false (show ¬ ((ys.length : Nat) : Int) ≤ 5 by omega), Bool.and_false]
        · rw [decide_eq_false (show ¬ (1 : Int) ≤ (ys.length : Nat) by omega), Bool.false_and]
      rw [cf] at c1
      exact ev_seqR (ev_ifT (ev_or0 ti (ev_or1 (ev_not c1))) rt)
theorem tb_loop {xs rest : List PyData} : ∀ (r : List PyData) (k : Nat) (z1 z2 : Option DV),
    (badAt xs.length r k = none ∧ ∃ y1 y2, forD tbG tbBody ((rangeD (k : Nat) r.length).zipWith (fun a b => .tuple [a, b]) r) [some (.fr (.tuple (.tuple xs :: rest))), z1, z2, none] = some (.nx [some (.fr (.tuple (.tuple xs :: rest))), y1, y2, none])) ∨ ∃ j e, badAt xs.length r k = some j ∧ forD tbG tbBody ((rangeD (k : Nat) r.length).zipWith (fun a b => .tuple [a, b]) r) [some (.fr (.tuple (.tuple xs :: rest))), z1, z2, none] = some (.rt (.list [.int (j : Nat)]) e)
  | [], k, z1, z2 => .inl ⟨rfl, z1, z2, rfl⟩
  | x :: r, k, z1, z2 => by
    rw [List.length_cons, rangeD_succ, List.zipWith_cons_cons, badAt]
    have e := tb_turn (xs := xs) (rest := rest) (i := k) (r := x)
    by_cases hx : rowOk xs.length x = true
    · rw [if_pos hx] at e ⊢
      rcases tb_loop (xs := xs) (rest := rest) r (k + 1) (some (.fr (.int (k : Nat)))) (some (.fr x)) with ⟨h1, y1, y2, h2⟩ | ⟨j, e2, h1, h2⟩
      · exact .inl ⟨h1, y1, y2, ev_forN rfl e (by rw [show ((k : Nat) : Int) + 1 = ((k + 1 : Nat) : Int) by omega]; exact h2)⟩
      · exact .inr ⟨j, e2, h1, ev_forN rfl e (by rw [show ((k : Nat) : Int) + 1 = ((k + 1 : Nat) : Int) by omega]; exact h2)⟩
    · rw [if_neg hx] at e ⊢
      exact .inr ⟨k, _, rfl, ev_forE rfl e⟩
theorem table_bad_any (d : PyData) : m__law_table_bad [d] = some (.list (faultL (tabBad d))) := by
  let E0 : DEnv := [some (.fr d), none, none, none]
  have rt0 : sRet (fFrz (fLst (fCons (fC .none) fNil))) E0 = some (.rt (.list [.none]) E0) := rfl
  cases hr : isiT "tuple" (tyN d) with
  | false =>
    have hb : tabBad d = some .none := by cases d <;> first | rfl | cases hr
    rw [hb]
    exact ev_runF (env := E0) rfl (ev_seqR (ev_ifT (ev_or1 (ev_not (k := false) (ev_isiD (d := d) rfl hr))) rt0))
  | true =>
    obtain ⟨rs, rfl⟩ : ∃ rs, d = .tuple rs := by cases d <;> first | exact ⟨_, rfl⟩ | cases hr
    have l0 : fLenN 0 E0 = some (.int (rs.length : Nat), E0) := ev_lenN (d := .tuple rs) rfl rfl
    have c1 := le_len (a := 1) (b := 30) (f := fC (.int 1)) (k := fC (.int 30)) rfl l0 rfl
    have ti : fNot (fTst (fIsi "tuple" (rdF 0))) E0 = some (false, E0) := ev_not (k := true) (ev_isiD (d := .tuple rs) rfl rfl)
    rw [tabBad]
    by_cases hl : 1 ≤ rs.length ∧ rs.length ≤ 30
    · rw [if_pos hl]
      rw [decide_eq_true (show (1 : Int) ≤ (rs.length : Nat) by omega), decide_eq_true (show ((rs.length : Nat) : Int) ≤ 30 by omega)] at c1
      have s1 : ∀ S, sIf (fOr (fNot (fTst (fIsi "tuple" (rdF 0)))) (fNot (fTst (fChain leD leD (fC (.int 1)) (fLenN 0) (fC (.int 30)))))) S sNil E0 = some (.nx E0) := fun S => ev_ifF (ev_or0 ti (ev_not c1)) rfl
      have go : ∀ {fl : DFlow} {g : DEnv → Option DFlow} {x : PyData} {e : DEnv}, forD tbG tbBody ((rangeD ((0 : Nat) : Int) rs.length).zipWith (fun a b => .tuple [a, b]) rs) E0 = some fl → fl = .rt x e → m__law_table_bad [.tuple rs] = some x := fun {fl} {g} {x} {e} h hf => by
        subst hf
        exact ev_runF (env := e) rfl (ev_seq (s1 _) (ev_seqR (ev_for (ds := (rangeD ((0 : Nat) : Int) rs.length).zipWith (fun a b => .tuple [a, b]) rs) rfl h)))
      cases rs with
      | nil => exact absurd hl.1 (by simp)
      | cons r0 rest =>
        rw [rowsBad]
        cases h0 : isiT "tuple" (tyN r0) with
        | false =>
          have hrec : isRec r0 = false := by cases r0 <;> first | rfl | cases h0
          rw [hrec, if_neg (by decide)]
          refine go (g := sNil) (e := tbE (r0 :: rest) 0 r0) ?_ rfl
          rw [List.length_cons, rangeD_succ, List.zipWith_cons_cons]
          exact ev_forE (e1 := tbE (r0 :: rest) 0 r0) rfl (tb_not h0)
        | true =>
          obtain ⟨xs, rfl⟩ : ∃ xs, r0 = .tuple xs := by cases r0 <;> first | exact ⟨_, rfl⟩ | cases h0
          have hw : rowOk xs.length (.tuple xs) = isRec (.tuple xs) := by rw [rowOk, rowLen, beq_self_eq_true, Bool.and_true]
          rcases tb_loop (xs := xs) (rest := rest) (.tuple xs :: rest) 0 none none with ⟨h1, y1, y2, h2⟩ | ⟨j, e, h1, h2⟩
          · rw [badAt, hw] at h1
            split at h1
            · rename_i hrec
              rw [if_pos hrec, show rowLen (.tuple xs) = xs.length from rfl, h1]
              exact ev_runF rfl (ev_seq (s1 _) (ev_seq (ev_for (ds := (rangeD ((0 : Nat) : Int) (PyData.tuple xs :: rest).length).zipWith (fun a b => .tuple [a, b]) (.tuple xs :: rest)) rfl h2) rfl))
            · cases h1
          · rw [badAt, hw] at h1
            split at h1
            · rename_i hrec
              rw [if_pos hrec, show rowLen (.tuple xs) = xs.length from rfl, h1]
              exact go (g := sNil) h2 rfl
            · rename_i hrec
              cases h1
              rw [if_neg hrec]
              exact go (g := sNil) h2 rfl
    · rw [if_neg hl]
      have cf : (decide ((1 : Int) ≤ (rs.length : Nat)) && decide (((rs.length : Nat) : Int) ≤ 30)) = false := by
        by_cases h1 : 1 ≤ rs.length
        · rw [decide_eq_false (show ¬ ((rs.length : Nat) : Int) ≤ 30 by omega), Bool.and_false]
        · rw [decide_eq_false (show ¬ (1 : Int) ≤ (rs.length : Nat) by omega), Bool.false_and]
      rw [cf] at c1
      exact ev_runF (env := E0) rfl (ev_seqR (ev_ifT (ev_or0 ti (ev_not c1)) rt0))
/-! ### the columns of a program, ascending -/
def sd (xs : List Int) : List Int := ([0, 1, 2, 3] : List Int).filter fun k => decide (k ∈ xs)
theorem sd_pw (xs : List Int) : (sd xs).Pairwise (· < ·) := (show ([0, 1, 2, 3] : List Int).Pairwise (· < ·) by decide).sublist List.filter_sublist
theorem sd_len (xs : List Int) : (sd xs).length ≤ 4 := List.length_filter_le _ _
theorem sd_mem {xs : List Int} (h : ∀ x ∈ xs, 0 ≤ x ∧ x < 4) (k : Int) : k ∈ sd xs ↔ k ∈ xs := by
  unfold sd
  rw [List.mem_filter, decide_eq_true_eq]
  refine ⟨fun z => z.2, fun z => ⟨?_, z⟩⟩
  have := h k z
  have : k = 0 ∨ k = 1 ∨ k = 2 ∨ k = 3 := by omega
  simpa using this
def wdP : Pl → Str
  | .sort d _ => dS d
  | .rev => "reverse"
  | .res => "restore"
  | .cut f _ => cS f
def srtB : Pl → Bool
  | .sort _ _ => true
  | _ => false
theorem wdP_ix : ∀ p : Pl, ixD (plE p) (.int 0) = some (.str (wdP p))
  | .sort _ _ => rfl
  | .rev => rfl
  | .res => rfl
  | .cut _ _ => rfl
theorem ud_in : ∀ p : Pl, inD (.str (wdP p)) (.tuple [.str "up", .str "down"]) = some (.bool (srtB p))
  | .sort d _ => by cases d <;> kernel_rfl
  | .rev => by kernel_rfl
  | .res => by kernel_rfl
  | .cut f _ => by cases f <;> kernel_rfl
theorem rp_eq : ∀ p : Pl, eqD (.str (wdP p)) (.str "repeat") = some (.bool false)
  | .sort d _ => by cases d <;> kernel_rfl
  | .rev => by kernel_rfl
  | .res => by kernel_rfl
  | .cut f _ => by cases f <;> kernel_rfl
abbrev sdB (rc : Nat → List PyData → Option PyData) := (sSeq (sIf (fTst (fBin inD (fIxN 2 (fC (.int 0))) (fTup (fCons (fC (.str "up")) (fCons (fC (.str "down")) fNil))))) (sApp 1 (fIxN 2 (fC (.int 1)))) sNil) (sIf (fTst (fBin eqD (fIxN 2 (fC (.int 0))) (fC (.str "repeat")))) (sExt 1 (fCB (rc 0) (fCons (fIxN 2 (fC (.int 2))) fNil))) sNil))
theorem sd_pl {rc : Nat → List PyData → Option PyData} {p : Pl} {P : Option DV} {acc : List Int} (hl : acc.length < 100000) : sdB rc [P, some (.ow (acc.map .int)), some (.fr (plE p))] = some (.nx [P, some (.ow ((acc ++ colP p).map .int)), some (.fr (plE p))]) := by
  have t1 := ud_in p
  have t2 := rp_eq p
  have t0 := wdP_ix p
  cases p with
  | sort d k =>
    refine ev_seq (e1 := [P, some (.ow ((acc ++ [k]).map .int)), some (.fr (plE (.sort d k)))]) (ev_ifT (ev_tst (ev_bin (ev_ixN rfl rfl rfl t0) rfl t1) rfl) (ev_app (es := acc.map .int) (d := .int k) rfl (ev_ixN rfl rfl rfl rfl) rfl (by rw [List.length_map]; exact hl) ?_)) (ev_ifF (ev_tst (ev_bin (ev_ixN rfl rfl rfl t0) rfl t2) rfl) rfl)
    rw [List.map_append]
    rfl
  | rev => rw [show colP .rev = [] from rfl, List.append_nil]; exact ev_seq (ev_ifF (ev_tst (ev_bin (ev_ixN rfl rfl rfl t0) rfl t1) rfl) rfl) (ev_ifF (ev_tst (ev_bin (ev_ixN rfl rfl rfl t0) rfl t2) rfl) rfl)
  | res => rw [show colP .res = [] from rfl, List.append_nil]; exact ev_seq (ev_ifF (ev_tst (ev_bin (ev_ixN rfl rfl rfl t0) rfl t1) rfl) rfl) (ev_ifF (ev_tst (ev_bin (ev_ixN rfl rfl rfl t0) rfl t2) rfl) rfl)
  | cut f k => rw [show colP (.cut f k) = [] from rfl, List.append_nil]; exact ev_seq (ev_ifF (ev_tst (ev_bin (ev_ixN rfl rfl rfl t0) rfl t1) rfl) rfl) (ev_ifF (ev_tst (ev_bin (ev_ixN rfl rfl rfl t0) rfl t2) rfl) rfl)
def SdC (n f : Nat) (c : Cm n) : Prop := ∀ (P : Option DV) (acc : List Int), acc.length + 4 ≤ 2000 → ∃ ys : List Int, sdB (rc__law_sides f) [P, some (.ow (acc.map .int)), some (.fr (cmE n c))] = some (.nx [P, some (.ow ((acc ++ ys).map .int)), some (.fr (cmE n c))]) ∧ ys.length ≤ 4 ∧ ∀ k : Int, k ∈ ys ↔ k ∈ colsC n c
theorem sd_loop {n f : Nat} {P : Option DV} : ∀ {cs : List (Cm n)}, (∀ c ∈ cs, SdC n f c) → ∀ (acc : List Int) (z : Option DV), acc.length + 4 * cs.length ≤ 2000 →
    ∃ ys z', forD (gSet 2) (sdB (rc__law_sides f)) (cs.map (cmE n)) [P, some (.ow (acc.map .int)), z] = some (.nx [P, some (.ow ((acc ++ ys).map .int)), z']) ∧ ys.length ≤ 4 * cs.length ∧ ∀ k : Int, k ∈ ys ↔ k ∈ cs.flatMap (colsC n)
  | [], _, acc, z, _ => ⟨[], z, by rw [List.append_nil]; rfl, Nat.zero_le _, fun k => Iff.rfl⟩
  | c :: cs, h, acc, z, hl => by
    rw [List.length_cons] at hl
    obtain ⟨ys, e1, l1, m1⟩ := h c List.mem_cons_self P acc (by omega)
    obtain ⟨zs, z', e2, l2, m2⟩ := sd_loop (cs := cs) (fun x hx => h x (List.mem_cons_of_mem _ hx)) (acc ++ ys) (some (.fr (cmE n c))) (by rw [List.length_append]; omega)
    rw [List.append_assoc] at e2
    refine ⟨ys ++ zs, z', ev_forN rfl e1 e2, by rw [List.length_append, List.length_cons]; omega, fun k => ?_⟩
    rw [List.flatMap_cons, List.mem_append, List.mem_append, m1, m2]
theorem sd_run {tm : Int} {n f : Nat} {cs : List (Cm n)} (h : ∀ c ∈ cs, SdC n f c) (ho : ∀ c ∈ cs, CmOk tm n c) (hl : 4 * cs.length ≤ 2000) : rc__law_sides (f + 1) 0 [.tuple (cs.map (cmE n))] = some (.list ((sd (cs.flatMap (colsC n))).map .int)) := by
  obtain ⟨ys, z, e1, l1, m1⟩ := sd_loop (P := some (.fr (.tuple (cs.map (cmE n))))) h [] none (by rw [List.length_nil]; omega)
  rw [List.nil_append] at e1
  show runF 1 3 (mb__law_sides (rc__law_sides f)) _ = _
  have hin : ∀ x ∈ cs.flatMap (colsC n), 0 ≤ x ∧ x < 4 := fun x hx => by
    obtain ⟨c, hc, hx⟩ := List.mem_flatMap.mp hx
    exact colC_in n c (ho c hc) x hx
  have es : nSrtSetL (rdF 1) [some (.fr (.tuple (cs.map (cmE n)))), some (.ow (ys.map .int)), z] = some ((sd (cs.flatMap (colsC n))).map .int, [some (.fr (.tuple (cs.map (cmE n)))), some (.fr (.list (ys.map .int))), z]) :=
    ev_srtSetL rfl (by omega) (by have := sd_len (cs.flatMap (colsC n)); omega) (sd_pw _) fun k => (sd_mem hin k).trans (m1 k).symm
  exact ev_runF rfl (env := [some (.fr (.tuple (cs.map (cmE n)))), some (.fr (.list (ys.map .int))), z]) (ev_seq (e1 := [some (.fr (.tuple (cs.map (cmE n)))), some (.ow []), none]) rfl (ev_seq (ev_for rfl e1) (ev_ret (ev_frz es))))
theorem sd_cm {tm : Int} : ∀ (n f : Nat), n ≤ f → ∀ (c : Cm n), CmOk tm n c → szC n c ≤ 400 → SdC n f c
  | 0, f, _, p, hp, _ => fun P acc hl => ⟨colP p, sd_pl (p := p) (by omega), by cases p <;> simp [colP], fun k => by rw [cols0]⟩
  | n + 1, f, _, .inl p, hp, _ => fun P acc hl => ⟨colP p, sd_pl (p := p) (by omega), by cases p <;> simp [colP], fun k => by rw [colsI]⟩
  | n + 1, 0, hf, .inr (t, ps), _, _ => by omega
  | n + 1, f + 1, hf, .inr (t, ps), hp, hs => fun P acc hl => by
    have hs' : 1 + (ps.map (szC n)).sum ≤ 400 := hs
    have hlen := len_sz ps
    have e1 : rc__law_sides (f + 1) 0 [.tuple (ps.map (cmE n))] = some (.list ((sd (ps.flatMap (colsC n))).map .int)) := sd_run (tm := tm) (fun c hc => sd_cm n f (by omega) c (hp.2.2 c hc) (by have := mem_le_sum (List.mem_map_of_mem (f := szC n) hc); omega)) hp.2.2 (by omega)
    have hin : ∀ x ∈ ps.flatMap (colsC n), 0 ≤ x ∧ x < 4 := fun x hx => by
      obtain ⟨c, hc, hx⟩ := List.mem_flatMap.mp hx
      exact colC_in n c (hp.2.2 c hc) x hx
    have hsl := sd_len (ps.flatMap (colsC n))
    refine ⟨sd (ps.flatMap (colsC n)), ?_, hsl, sd_mem hin⟩
    let R : PyData := .tuple [.str "repeat", .int t, .tuple (ps.map (cmE n))]
    let E : DEnv := [P, some (.ow (acc.map .int)), some (.fr R)]
    have q0 : fIxN 2 (fC (.int 0)) E = some (.str "repeat", E) := ev_ixN (i := .int 0) (d0 := R) (d := R) rfl rfl rfl rfl
    have q2 : fIxN 2 (fC (.int 2)) E = some (.tuple (ps.map (cmE n)), E) := ev_ixN (i := .int 2) (d0 := R) (d := R) rfl rfl rfl rfl
    have t1 : inD (.str "repeat") (.tuple [.str "up", .str "down"]) = some (.bool false) := by kernel_rfl
    have t2 : eqD (.str "repeat") (.str "repeat") = some (.bool true) := by kernel_rfl
    refine ev_seq (e1 := E) (ev_ifF (ev_tst (ev_bin q0 rfl t1) rfl) rfl) (ev_ifT (ev_tst (ev_bin q0 rfl t2) rfl) (ev_ext (es := acc.map .int) rfl (ev_cb (ev_cons q2 ev_nil) e1) rfl (by rw [List.length_map, List.length_map]; show _ ≤ 100000; omega) ?_))
    rw [List.map_append]
    rfl
theorem sides_spec {cs : List (Cm 3)} (h : CsO cs) : m__law_sides [cpE cs] = some (.list ((sd (colL cs)).map .int)) := by
  have hs := h.sz
  have hlen := len_sz cs
  exact sd_run (f := 11) (tm := TMx) (fun c hc => sd_cm 3 11 (by decide) c (h.ok c hc) (by have := mem_le_sum (List.mem_map_of_mem (f := szC 3) hc); omega)) h.ok (by omega)
end DL
end L2


set_option Elab.async false
set_option maxRecDepth 100000
set_option maxHeartbeats 4000000
set_option autoImplicit false
namespace L2
namespace DL
open PySem PySem.Spec PyProof.Rows
local instance labNone_K18V : Lab := { w := none, T := [], gd := True }
/-! ### what is told of a table and a program -/
abbrev trE (R P : PyData) (b f : List PyData) (x4 x5 : Option DV) : DEnv := [some (.fr R), some (.fr P), some (.fr (.list b)), some (.fr (.list f)), x4, x5, none, none]
abbrev trS1 := (sSet 4 (fIf (fTst (fBin neD (rdF 2) (fFrz (fLst fNil)))) (fFrz (fLst (fCons (fC (.int 3)) (fCons (fCB reprE (fCons (fIxN 2 (fC (.int 0))) fNil)) fNil)))) (fFrz (fLst fNil))))
abbrev trS2 := (sIf (fTst (fBin neD (fFrz (nLc (iSeq (fFrz (fLst (fCons (fC (.int 0)) (fCons (fC (.int 1)) fNil))))) (gSet 6) fYes (fCB m__law_asked (fCons (rdF 6) (fCons (rdF 0) (fCons (rdF 1) fNil)))) [6])) (fFrz (fLst (fCons (rdF 4) (fCons (rdF 4) fNil)))))) (sRet (fC (.bool false))) sNil)
abbrev trS3 := (sIf (fTst (fBin neD (rdF 3) (fFrz (fLst fNil)))) (sSetN 4 (fLst (fCons (fC (.int 0)) (fCons (fCB reprE (fCons (fIxN 3 (fC (.int 0))) fNil)) fNil)))) (sIf (fTst (fBin eqD (rdF 2) (fFrz (fLst fNil)))) (sSeq (sSetN 5 (nLc (iSeq (fCB m__law_sides (fCons (rdF 1) fNil))) (gSet 7) (fTst (fBin geD (rdF 7) (fCB lenD (fCons (fIxN 0 (fC (.int 0))) fNil)))) (rdF 7) [7])) (sSet 4 (fIf (fTst (fCmpL neD 5 (fFrz (fLst fNil)))) (fFrz (fLst (fCons (fC (.int 12)) (fCons (fCB reprE (fCons (fIxN 5 (fC (.int 0))) fNil)) fNil)))) (fFrz (fLst fNil))))) sNil))
abbrev trS4 := (sRet (fBin eqD (fFrz (nLc (iSeq (fFrz (fLst (fCons (fC (.int 2)) (fCons (fC (.int 3)) (fCons (fC (.int 4)) fNil)))))) (gSet 6) fYes (fCB m__law_asked (fCons (rdF 6) (fCons (rdF 0) (fCons (rdF 1) fNil)))) [6])) (fFrz (nRepL (fLst (fCons (rdF 4) fNil)) (fC (.int 3))))))
theorem trLc {R P : PyData} {b f : List PyData} {x4 x5 : Option DV} {d : PyData} (is : List Int) (h : ∀ i ∈ is, m__law_asked [.int i, R, P] = some d) {fi : DEnv → Option (List PyData × DEnv)} (hi : fi (trE R P b f x4 x5) = some (is.map .int, trE R P b f x4 x5)) (hl : is.length ≤ 100) : nLc fi (gSet 6) fYes (fCB m__law_asked (fCons (rdF 6) (fCons (rdF 0) (fCons (rdF 1) fNil)))) [6] (trE R P b f x4 x5) = some (is.map fun _ => d, trE R P b f x4 x5) := by
  refine ev_lc (ds := is.map .int) hi (by rw [List.length_map]; show _ ≤ 100000; omega) rfl ?_
  exact lc_img (i := 6) (e := PyData.int) (q := fun _ => d) (env := trE R P b f x4 x5) rfl is fun i hi => ev_cb (ev_cons rfl (ev_cons rfl (ev_cons rfl ev_nil))) (h i hi)
theorem ly_due {k : Int} {s : Str} (h : Ly 0 (.str s)) : Ly 1 (.list [.int k, .str s]) := Ly.list fun d hd => by
  rcases List.mem_cons.mp hd with rfl | hd
  · exact ly_int _
  · rw [List.mem_singleton.mp hd]; exact h
theorem ly_none1 : Ly 1 (.list []) := Ly.list fun _ h => nomatch h
theorem ly_reps {d : PyData} (h : Ly 1 d) : ∀ n : Nat, Ly 2 (.list (List.replicate n d)) := fun n => Ly.list fun x hx => by rw [List.eq_of_mem_replicate hx]; exact h
theorem tr2 {R P : PyData} {b f : List PyData} {d : PyData} (hd : Ly 1 d) (h : ∀ i : Int, i = 0 ∨ i = 1 → m__law_asked [.int i, R, P] = some d) : trS2 (trE R P b f (some (.fr d)) none) = some (.nx (trE R P b f (some (.fr d)) none)) := by
  have e := trLc (R := R) (P := P) (b := b) (f := f) (x4 := some (.fr d)) (x5 := none) (d := d) [0, 1] (fun i hi => h i (by simpa using hi)) (fi := iSeq (fFrz (fLst (fCons (fC (.int 0)) (fCons (fC (.int 1)) fNil))))) rfl (by decide)
  refine ev_ifF (ev_tst (d := .bool false) (ev_bin (ev_frz e) (b := .list [d, d]) rfl ?_) rfl) rfl
  exact (eqD_self (ly_reps hd 2) (by decide)).2
theorem tr4 {R P : PyData} {b f : List PyData} {x4 x5 : Option DV} {d : PyData} {E' : DEnv} (hd : Ly 1 d) (h : ∀ i : Int, Dr i → m__law_asked [.int i, R, P] = some d) (hr : rdF 4 (trE R P b f x4 x5) = some (d, E')) : trS4 (trE R P b f x4 x5) = some (.rt (.bool true) E') := by
  have e := trLc (R := R) (P := P) (b := b) (f := f) (x4 := x4) (x5 := x5) (d := d) [2, 3, 4] (fun i hi => h i (by unfold Dr; simpa using hi)) (fi := iSeq (fFrz (fLst (fCons (fC (.int 2)) (fCons (fC (.int 3)) (fCons (fC (.int 4)) fNil)))))) rfl (by decide)
  refine ev_ret (ev_bin (ev_frz e) (ev_frz (ev_repL (xs := [d]) (k := 3) (ev_lst (ev_cons hr ev_nil) (by show 1 ≤ 100000; decide)) rfl ⟨by decide, by decide, by show 1 ≤ 100; decide⟩)) ?_)
  exact (eqD_self (ly_reps hd 3) (by decide)).1
theorem eq_fault {x : PyData} (hx : Ly 0 x) : eqD (.list [x]) (.list []) = some (.bool false) := by
  have a1 := (Ly.list (ds := [x]) fun d hd => by rw [List.mem_singleton] at hd; rw [hd]; exact hx).sh (by decide)
  show ((if shD (.list [x]) && shD (.list []) then some (PyData.eqv (.list [x]) (.list [])) else none).map PyData.bool) = _
  rw [a1, show shD (.list []) = true from rfl]
  rfl
theorem rep_mis {m : Int} (h : 0 ≤ m ∧ m < 4) : Sml (.int m) := .inr ⟨m.toNat, by omega, by rw [show ((m.toNat : Nat) : Int) = m by omega]⟩
/-- the wanted head of the columns that lack -/
theorem head_least {w : Int} {cs : List (Cm 3)} (hc : CsO cs) {m : Int} (hm : Lst w (colL cs) m) : ∃ r, (sd (colL cs)).filter (fun c => decide (w ≤ c)) = m :: r := by
  have hin : ∀ x ∈ colL cs, 0 ≤ x ∧ x < 4 := fun x hx => by
    obtain ⟨c, hc', hx⟩ := List.mem_flatMap.mp hx
    exact colC_in 3 c (hc.ok c hc') x hx
  have mem : ∀ k, k ∈ (sd (colL cs)).filter (fun c => decide (w ≤ c)) ↔ k ∈ colL cs ∧ w ≤ k := fun k => by rw [List.mem_filter, decide_eq_true_eq, sd_mem hin]
  have pw : ((sd (colL cs)).filter (fun c => decide (w ≤ c))).Pairwise (· < ·) := (sd_pw _).sublist List.filter_sublist
  cases hl : (sd (colL cs)).filter (fun c => decide (w ≤ c)) with
  | nil => have := (mem m).mpr ⟨hm.1.1, hm.1.2⟩; rw [hl] at this; cases this
  | cons a r =>
    rw [hl] at mem pw
    have ha := (mem a).mp List.mem_cons_self
    have h1 := hm.2 a ha.1 ha.2
    rcases List.mem_cons.mp ((mem m).mpr ⟨hm.1.1, hm.1.2⟩) with e | h2
    · exact ⟨r, by rw [e]⟩
    · have := (List.pairwise_cons.mp pw).1 m h2
      omega
theorem lacking_spec {w : Nat} {t : Tab} (ht : TabW w t) {cs : List (Cm 3)} (hc : CsO cs) {b f : List PyData} {x4 : Option DV} : sSetN 5 (nLc (iSeq (fCB m__law_sides (fCons (rdF 1) fNil))) (gSet 7) (fTst (fBin geD (rdF 7) (fCB lenD (fCons (fIxN 0 (fC (.int 0))) fNil)))) (rdF 7) [7]) (trE (tabD t) (cpE cs) b f x4 none) = some (.nx (trE (tabD t) (cpE cs) b f x4 (some (.ow (((sd (colL cs)).filter (fun c => decide ((w : Int) ≤ c))).map .int))))) := by
  let E : DEnv := trE (tabD t) (cpE cs) b f x4 none
  have hp := ht.l1
  have hrow : ∀ o : Option DV, fCB lenD (fCons (fIxN 0 (fC (.int 0))) fNil) (E.set 7 o) = some (.int (w : Nat), E.set 7 o) := fun o => by
    have q : fIxN 0 (fC (.int 0)) (E.set 7 o) = some (rowD (t.getD 0 []), E.set 7 o) := ev_ixN (i := .int 0) (d0 := tabD t) (d := tabD t) rfl rfl rfl (at_row ht (i := 0) hp)
    have hl : (t.getD 0 []).length = w := by rw [List.getD_eq_getElem?_getD, List.getElem?_eq_getElem hp]; exact ht.row _ (List.getElem_mem hp)
    refine ev_cb (ev_cons q ev_nil) ?_
    show some (PyData.int ((((t.getD 0 []).map PyData.int).length : Nat) : Int)) = _
    rw [List.length_map, hl]
  have e := lc_flt (i := 7) (ft := fTst (fBin geD (rdF 7) (fCB lenD (fCons (fIxN 0 (fC (.int 0))) fNil)))) (fe := rdF 7) (e := PyData.int) (q := PyData.int) (p := fun c => decide ((w : Int) ≤ c)) (env := E) rfl (sd (colL cs)) (fun c _ => ev_tst (d := .bool (decide ((w : Int) ≤ c))) (ev_bin (a := .int c) rfl (hrow _) rfl) rfl) fun c _ _ => rfl
  have := sd_len (colL cs)
  exact ev_setN (ev_lc (e1 := E) (ev_seqI (d := .list ((sd (colL cs)).map .int)) (ev_cb (ev_cons rfl ev_nil) (sides_spec hc)) rfl) (by rw [List.length_map]; show _ ≤ 100000; omega) rfl e) rfl
abbrev trDue := (sSet 4 (fIf (fTst (fCmpL neD 5 (fFrz (fLst fNil)))) (fFrz (fLst (fCons (fC (.int 12)) (fCons (fCB reprE (fCons (fIxN 5 (fC (.int 0))) fNil)) fNil)))) (fFrz (fLst fNil))))
theorem ev_cmpL18 {o : PyData → PyData → Option PyData} {i : Nat} {g : DEnv → Option (PyData × DEnv)} {env e1 : DEnv} {a b d x0 : PyData} (h0 : rdB i env = some x0) (h : g env = some (b, e1)) (h2 : rdB i e1 = some a) (h3 : o a b = some d) : fCmpL o i g env = some (d, e1) := by
  unfold fCmpL
  rw [h0]
  show (g env).bind _ = _
  rw [h]
  show ((rdB i e1).bind _) = _
  rw [h2]
  show ((o a b).map _) = _
  rw [h3]
  rfl
theorem ne_ints {m : Int} {r : List Int} : neD (.list ((m :: r).map .int)) (.list []) = some (.bool true) := by
  have a1 := (Ly.list (k := 0) (ds := (m :: r).map .int) fun d hd => by
    obtain ⟨i, _, rfl⟩ := List.mem_map.mp hd
    exact ly_int i).sh (by decide)
  show ((if shD (.list ((m :: r).map .int)) && shD (.list []) then some (PyData.eqv (.list ((m :: r).map .int)) (.list [])) else none).map fun k => PyData.bool (!k)) = _
  rw [a1, show shD (.list []) = true from rfl]
  rfl
theorem told_any {R P : PyData} (hP : gdD P = true) : m__law_told_right [R, P] = some (.bool true) := by
  let F := faultL (tabBad R)
  let B := fbL P
  have s0 : sPar 2 3 (fCons (fCB m__law_first_bad (fCons (rdF 1) fNil)) (fCons (fCB m__law_table_bad (fCons (rdF 0) fNil)) fNil)) [some (.fr R), some (.fr P), none, none, none, none, none, none] = some (.nx (trE R P B F none none)) := ev_par (ev_cons (ev_cb (ev_cons rfl ev_nil) (first_bad_any hP)) (ev_cons (ev_cb (ev_cons rfl ev_nil) (table_bad_any R)) ev_nil)) rfl
  -- the first two doors, whatever comes then
  obtain ⟨d, hd, s1, s2, hcase⟩ : ∃ d, Ly 1 d ∧ trS1 (trE R P B F none none) = some (.nx (trE R P B F (some (.fr d)) none)) ∧ trS2 (trE R P B F (some (.fr d)) none) = some (.nx (trE R P B F (some (.fr d)) none)) ∧ ((∃ x s, B = [x] ∧ Sml x ∧ reprE [x] = some (.str s) ∧ Ly 0 (.str s) ∧ d = .list [.int 3, .str s]) ∨ (B = [] ∧ d = .list [])) := by
    rcases asked01 (R := R) hP with ⟨x, s, hf, hs, ha⟩ | ⟨hf, ha⟩
    · have hx : Sml x := by
        rcases fb_cases P with h | ⟨y, h, hy⟩
        · rw [hf] at h; cases h
        · rw [hf] at h; cases h; exact hy
      have hly : Ly 0 (.str s) := by
        obtain ⟨s', hs', hl⟩ := rep_of hx
        rw [hs] at hs'
        cases hs'
        exact hl
      have hd : Ly 1 (.list [.int 3, .str s]) := ly_due hly
      have hB : B = [x] := hf
      refine ⟨_, hd, ?_, tr2 hd ha, .inl ⟨x, s, hB, hx, hs, hly, rfl⟩⟩
      rw [hB]
      let E := trE R P [x] F none none
      have q0 : fIxN 2 (fC (.int 0)) E = some (x, E) := ev_ixN (i := .int 0) (d0 := .list [x]) (d := .list [x]) rfl rfl rfl rfl
      exact ev_setE (ev_iff (k := true) (ev_tst (ev_bin rfl rfl (ne_fault (ly_small hx))) rfl) (ev_frz (ev_lst (ev_cons rfl (ev_cons (ev_cb (ev_cons q0 ev_nil) hs) ev_nil)) (by show 2 ≤ 100000; decide)))) rfl
    · have hB : B = [] := hf
      refine ⟨_, ly_none1, ?_, tr2 ly_none1 ha, .inr ⟨hB, rfl⟩⟩
      rw [hB]
      exact ev_setE (ev_iff (k := false) (ev_tst (ev_bin (a := .list []) (b := .list []) (d := .bool false) rfl rfl rfl) rfl) rfl) rfl
  have fin : ∀ {e2 e3 : DEnv}, trS3 (trE R P B F (some (.fr d)) none) = some (.nx e2) → trS4 e2 = some (.rt (.bool true) e3) → m__law_told_right [R, P] = some (.bool true) := fun {e2 e3} h3 h4 =>
    ev_runF (env := e3) rfl (ev_seq s0 (ev_seq s1 (ev_seq s2 (ev_seq h3 h4))))
  obtain ⟨r, hr, hoc⟩ := check_run_any (R := R) hP
  cases hoc with
  | @tab x hx =>
    have hF : F = [x] := by show faultL (tabBad R) = _; rw [hx]; rfl
    have hsm := tab_small hx
    obtain ⟨s, hs, hly⟩ := rep_of hsm
    rw [hF] at fin
    let E := trE R P B [x] (some (.fr d)) none
    have q0 : fIxN 3 (fC (.int 0)) E = some (x, E) := ev_ixN (i := .int 0) (d0 := .list [x]) (d := .list [x]) rfl rfl rfl rfl
    refine fin (e2 := trE R P B [x] (some (.ow [.int 0, .str s])) none) (ev_ifT (ev_tst (ev_bin rfl rfl (ne_fault (ly_small hsm))) rfl) (ev_setN (ev_lst (ev_cons rfl (ev_cons (ev_cb (ev_cons q0 ev_nil) hs) ev_nil)) (by show 2 ≤ 100000; decide)) rfl)) (tr4 (ly_due hly) (asked_ex hr (.tab hs) (by kernel_rfl)) rfl)
  | @prg w t x hR ht hx =>
    have hF : F = [] := by show faultL (tabBad R) = _; rw [hR]; show faultL (tabBad (.tuple (t.map rowD))) = _; rw [ht.tab.good]; rfl
    rw [hF] at fin
    rcases hcase with ⟨y, s, hB, hsm, hs, hly, hdd⟩ | ⟨hB, _⟩
    · have : x = y := by have h := hB; rw [show B = fbL P from rfl, hx] at h; cases h; rfl
      subst this
      subst hdd
      rw [hB] at fin
      refine fin (e2 := trE R P [x] [] (some (.fr (.list [.int 3, .str s]))) none) ?_ (tr4 hd (asked_ex hr (.prg hs) (by kernel_rfl)) rfl)
      exact ev_ifF (ev_tst (ev_bin (a := .list []) (b := .list []) (d := .bool false) rfl rfl rfl) rfl) (ev_ifF (ev_tst (ev_bin rfl rfl (eq_fault (ly_small hsm))) rfl) rfl)
    · rw [show B = fbL P from rfl, hx] at hB; cases hB
  | @mis w t cs m hR ht hPc hx hc hm =>
    have hF : F = [] := by show faultL (tabBad R) = _; rw [hR]; show faultL (tabBad (.tuple (t.map rowD))) = _; rw [ht.tab.good]; rfl
    have hB : B = [] := hx
    rw [hF, hB] at fin
    subst hR hPc
    have hsm := rep_mis (lst_small hc hm)
    obtain ⟨s, hs, hly⟩ := rep_of hsm
    obtain ⟨q, hq⟩ := head_least hc hm
    have lk := lacking_spec (b := []) (f := []) (x4 := some (.fr d)) ht hc
    rw [hq] at lk
    let E := trE (tabD t) (cpE cs) [] [] (some (.fr d)) (some (.ow ((m :: q).map .int)))
    have q0 : fIxN 5 (fC (.int 0)) E = some (.int m, E) := ev_ixN (i := .int 0) (d0 := .list ((m :: q).map .int)) (d := .list ((m :: q).map .int)) rfl rfl rfl (by simp [ixD, atI, ixN])
    have sd4 : trDue E = some (.nx (trE (tabD t) (cpE cs) [] [] (some (.fr (.list [.int 12, .str s]))) (some (.ow ((m :: q).map .int))))) :=
      ev_setE (ev_iff (k := true) (ev_tst (ev_cmpL18 (x0 := .list ((m :: q).map .int)) rfl rfl rfl ne_ints) rfl) (ev_frz (ev_lst (ev_cons rfl (ev_cons (ev_cb (ev_cons q0 ev_nil) hs) ev_nil)) (by show 2 ≤ 100000; decide)))) rfl
    refine fin (e2 := trE (tabD t) (cpE cs) [] [] (some (.fr (.list [.int 12, .str s]))) (some (.ow ((m :: q).map .int)))) ?_ (tr4 (ly_due hly) (asked_ex hr (.mis hs) (by kernel_rfl)) rfl)
    exact ev_ifF (ev_tst (ev_bin (a := .list []) (b := .list []) (d := .bool false) rfl rfl rfl) rfl) (ev_ifT (ev_tst (ev_bin (a := .list []) (b := .list []) (d := .bool true) rfl rfl rfl) rfl) (ev_seq lk sd4))
  | @ok w t cs hR ht hPc hx hp =>
    have hF : F = [] := by show faultL (tabBad R) = _; rw [hR]; show faultL (tabBad (.tuple (t.map rowD))) = _; rw [ht.tab.good]; rfl
    have hB : B = [] := hx
    rw [hF, hB] at fin
    subst hR hPc
    have hc : CsO cs := ⟨hp.ok, hp.sz⟩
    have lk := lacking_spec (b := []) (f := []) (x4 := some (.fr d)) ht hc
    have hq : (sd (colL cs)).filter (fun c => decide ((w : Int) ≤ c)) = [] := List.filter_eq_nil_iff.mpr fun c hcc => by
      rw [decide_eq_true_eq]
      have hcc : c ∈ colL cs := by
        unfold sd at hcc
        rw [List.mem_filter, decide_eq_true_eq] at hcc
        exact hcc.2
      obtain ⟨y, hy, hcy⟩ := List.mem_flatMap.mp hcc
      have := hp.co y hy c hcy
      omega
    rw [hq] at lk
    let E := trE (tabD t) (cpE cs) [] [] (some (.fr d)) (some (.ow []))
    have sd4 : trDue E = some (.nx (trE (tabD t) (cpE cs) [] [] (some (.fr (.list []))) (some (.ow [])))) :=
      ev_setE (ev_iff (k := false) (ev_tst (ev_cmpL18 (d := .bool false) (x0 := .list []) rfl rfl rfl rfl) rfl) rfl) rfl
    have al : ∀ i : Int, Dr i → m__law_asked [.int i, tabD t, cpE cs] = some (.list []) := fun i hi => by
      rcases hi with rfl | rfl | rfl
      · exact asked_cod .ok (bod2 (run_spec (tm := TMx) (by decide) ht (by decide) hp))
      · exact asked_cod .ok (bod3 (run_places_spec (tm := TMx) (by decide) ht (by decide) hp))
      · obtain ⟨ys, h⟩ := each_ok ht hp hr
        exact asked_cod (.ok (v := .none)) (bod4o h)
    refine fin (e2 := trE (tabD t) (cpE cs) [] [] (some (.fr (.list []))) (some (.ow []))) ?_ (tr4 ly_none1 al rfl)
    exact ev_ifF (ev_tst (ev_bin (a := .list []) (b := .list []) (d := .bool false) rfl rfl rfl) rfl) (ev_ifT (ev_tst (ev_bin (a := .list []) (b := .list []) (d := .bool true) rfl rfl rfl) rfl) (ev_seq lk sd4))
end DL
end L2


set_option Elab.async false
set_option maxRecDepth 100000
set_option maxHeartbeats 4000000
set_option autoImplicit false
namespace L2
namespace DL
open PySem PySem.Spec PyProof.Rows
local instance labNone_K18W : Lab := { w := none, T := [], gd := True }
/-! ### drawn programs that fit a width -/
def mkR {n : Nat} (t : Int) (qs : List (Cm n)) : Cm (n + 1) := .inr (t, qs)
def mkP {n : Nat} (p : Pl) : Cm (n + 1) := .inl p
def inlE {n : Nat} (ps : List Pl) : List (Cm (n + 1)) := ps.map mkP
theorem inlE_e {n : Nat} (ps : List Pl) : (inlE (n := n) ps).map (cmE (n + 1)) = ps.map plE := by unfold inlE; rw [List.map_map]; rfl
def fm : (n : Nat) → Cm n → Nat
  | 0, _ => 1
  | _ + 1, .inl _ => 1
  | n + 1, .inr (_, ps) => 5 * (ps.map (fm n)).sum
structure DrC (W tm : Int) (n : Nat) (c : Cm n) : Prop where
  ok : CmOk tm n c
  co : ∀ x ∈ colsC n c, x < W
theorem sum_app {α : Type} (f : α → Nat) (a b : List α) : ((a ++ b).map f).sum = (a.map f).sum + (b.map f).sum := by rw [List.map_append, List.sum_append]
theorem sum_ins {α : Type} (f : α → Nat) (l : List α) (i : Nat) (x : α) : ((l.take i ++ [x] ++ l.drop i).map f).sum = (l.map f).sum + f x := by
  have h := sum_app f (l.take i) (l.drop i)
  rw [List.take_append_drop] at h
  rw [sum_app, sum_app, h]
  show _ + (f x + 0) + _ = _
  omega
theorem sum_one {α : Type} {f : α → Nat} : ∀ {l : List α}, (∀ x ∈ l, f x = 1) → (l.map f).sum = l.length
  | [], _ => rfl
  | x :: l, h => by
    rw [List.map_cons, List.sum_cons, sum_one fun y hy => h y (List.mem_cons_of_mem _ hy), h x List.mem_cons_self, List.length_cons]
    omega
theorem szI {n : Nat} (ps : List Pl) : ((inlE (n := n) ps).map (szC (n + 1))).sum = ps.length := by
  rw [sum_one (fun x hx => by obtain ⟨p, _, rfl⟩ := List.mem_map.mp hx; rfl), inlE, List.length_map]
theorem fmI {n : Nat} (ps : List Pl) : ((inlE (n := n) ps).map (fm (n + 1))).sum = ps.length := by
  rw [sum_one (fun x hx => by obtain ⟨p, _, rfl⟩ := List.mem_map.mp hx; rfl), inlE, List.length_map]
theorem fm0 : ∀ ps : List (Cm 0), (ps.map (fm 0)).sum = ps.length
  | [] => rfl
  | _ :: ps => by rw [List.map_cons, List.sum_cons, fm0 ps, List.length_cons]; show 1 + _ = _; omega
theorem sz0 : ∀ ps : List (Cm 0), (ps.map (szC 0)).sum = ps.length
  | [] => rfl
  | _ :: ps => by rw [List.map_cons, List.sum_cons, sz0 ps, List.length_cons]; show 1 + _ = _; omega
def PlF (W : Int) (p : Pl) : Prop := PlOk p ∧ ∀ c ∈ colP p, c < W
theorem drc_inl {W tm : Int} {n : Nat} {ps : List Pl} (h : ∀ p ∈ ps, PlF W p) : ∀ c ∈ inlE (n := n) ps, DrC W tm (n + 1) c := fun c hc => by
  obtain ⟨p, hp, rfl⟩ := List.mem_map.mp hc
  exact ⟨(h p hp).1, fun x hx => (h p hp).2 x (by rw [← colsI (n := n) p]; exact hx)⟩
theorem drc_0 {W tm : Int} {ps : List Pl} (h : ∀ p ∈ ps, PlF W p) : ∀ c ∈ ps, DrC W tm 0 c := fun p hp => ⟨(h p hp).1, fun x hx => (h p hp).2 x (by rw [← cols0 p]; exact hx)⟩
theorem drc_rep {W tm t : Int} {n : Nat} {cs : List (Cm n)} (h1 : 1 ≤ t) (h2 : t ≤ tm) (h : ∀ c ∈ cs, DrC W tm n c) : DrC W tm (n + 1) (mkR t cs) := ⟨⟨h1, h2, fun c hc => (h c hc).ok⟩, fun x hx => by
  obtain ⟨c, hc, hx⟩ := List.mem_flatMap.mp (show x ∈ cs.flatMap (colsC n) from hx)
  exact (h c hc).co x hx⟩
theorem stq_spec {es : List PyData} (hp : PoolOk es) {most W size : Int} (hm : 0 ≤ most ∧ most ≤ 1000) (hw : 0 < W ∧ W ≤ 4) (hs : 2 ≤ size ∧ size ≤ 29) : ∃ (ps : List Pl) (es' : List PyData), m__law_steps es [.int most, .int W, .int size] = some (.tuple (ps.map plE), es') ∧ PoolOk es' ∧ (∀ p ∈ ps, PlF W p) ∧ (ps.length : Int) ≤ most := by
  obtain ⟨cs, es', e, p, h, hl⟩ := stepsW_spec hp hm hw hs
  obtain ⟨ps, rfl, h1, h2⟩ := pcs_toW cs h
  rw [List.length_map] at hl
  refine ⟨ps, es', e, p, fun p hp => ⟨h1 p hp, fun c hc => ?_⟩, hl⟩
  have := h2 p hp
  cases p with
  | sort d c' => rw [List.mem_singleton.mp hc]; exact this
  | _ => exact nomatch hc
theorem add_tup {a b : List PyData} (h : a.length + b.length ≤ 100000) : addD (.tuple a) (.tuple b) = some (.tuple (a ++ b)) := if_pos h
abbrev pgHead (g : DEnv → Option DFlow) := (sSeq (sSet 6 (fCR 0 m__law_steps (fCons (fC (.int 4)) (fCons (rdF 1) (fCons (rdF 2) fNil))))) (sSeq (sIf (fTst (fBin eqD (fCR 0 m__law_draw (fCons (fC (.int 3)) fNil)) (fC (.int 0)))) (sSeq (sSet 8 (fBin addD (fC (.int 1)) (fCR 0 m__law_draw (fCons (rdF 3) fNil)))) (sSet 6 (fBin addD (rdF 6) (fTup (fCons (fTup (fCons (fC (.str "repeat")) (fCons (rdF 8) (fCons (fCR 0 m__law_steps (fCons (fC (.int 3)) (fCons (rdF 1) (fCons (rdF 2) fNil)))) fNil)))) fNil))))) sNil) g))
theorem inner_spec {es : List PyData} {W size tm : Int} {f t i7 i8 : Option DV} {i6 : Option DV} (hp : PoolOk es) (hw : 0 < W ∧ W ≤ 4) (hs : 2 ≤ size ∧ size ≤ 29) (ht : 1 ≤ tm ∧ tm ≤ 1000000000000000000000000000000) :
    ∃ (es' : List PyData) (cs : List (Cm 1)) (i8' : Option DV), (∀ g, pgHead g [some (.rf es), some (.fr (.int W)), some (.fr (.int size)), some (.fr (.int tm)), f, t, i6, i7, i8] = g [some (.rf es'), some (.fr (.int W)), some (.fr (.int size)), some (.fr (.int tm)), f, t, some (.fr (.tuple (cs.map (cmE 1)))), i7, i8']) ∧ PoolOk es' ∧ (∀ c ∈ cs, DrC W tm 1 c) ∧ (cs.map (szC 1)).sum ≤ 8 ∧ (cs.map (fm 1)).sum ≤ 19 := by
  obtain ⟨ps, es1, e1, p1, hc, hl⟩ := stq_spec hp (most := 4) (by omega) hw hs
  obtain ⟨d, es2, e2, p2, a2, b2⟩ := draw_spec p1 (m := 3) (by omega) (by omega)
  by_cases hd : d = 0
  · obtain ⟨o, es3, e3, p3, a3, b3⟩ := draw_spec p2 (m := tm) (by omega) (by omega)
    obtain ⟨qs, es4, e4, p4, hq, hql⟩ := stq_spec p3 (most := 3) (by omega) hw hs
    have hdr := drc_rep (W := W) (tm := tm) (t := 1 + o) (n := 0) (cs := qs) (by omega) (by omega) (drc_0 (tm := tm) hq)
    have z1 : szC 1 (mkR (n := 0) (1 + o) qs) = 1 + List.length (α := Pl) qs := congrArg (1 + ·) (sz0 qs)
    have z2 : fm 1 (mkR (n := 0) (1 + o) qs) = 5 * List.length (α := Pl) qs := congrArg (5 * ·) (fm0 qs)
    refine ⟨es4, inlE (n := 0) ps ++ [mkR (n := 0) (1 + o) qs], some (.fr (.int (1 + o))), fun g => ?_, p4, fun c hc' => ?_, ?_, ?_⟩
    · rw [show (inlE (n := 0) ps ++ [mkR (n := 0) (1 + o) qs]).map (cmE 1) = ps.map plE ++ [.tuple [.str "repeat", .int (1 + o), .tuple (qs.map plE)]] by rw [List.map_append, inlE_e]; rfl]
      have c1 : (ps.map plE).length + 1 ≤ 100000 := by rw [List.length_map]; omega
      generalize ps.map plE = A at e1 c1 ⊢
      generalize qs.map plE = B at e4 ⊢
      simp [sSeq, sSet, sIf, fTst, fBin, fCR, rdO, wrO, fCons, fNil, fC, rdF, e1, e2, e3, e4, hd, eqD, eqB, truthD, addD, fTup, lim, c1]
    · rcases List.mem_append.mp hc' with h | h
      · exact drc_inl hc c h
      · rw [List.mem_singleton.mp h]
        exact hdr
    · rw [sum_app, szI]
      show _ + (szC 1 (mkR (n := 0) (1 + o) qs) + 0) ≤ 8
      omega
    · rw [sum_app, fmI]
      show _ + (fm 1 (mkR (n := 0) (1 + o) qs) + 0) ≤ 19
      omega
  · refine ⟨es2, inlE (n := 0) ps, i8, fun g => ?_, p2, drc_inl hc, by rw [szI]; omega, by rw [fmI]; omega⟩
    rw [inlE_e]
    generalize ps.map plE = A at e1 ⊢
    simp [sSeq, sSet, sIf, fTst, fBin, fCR, rdO, wrO, fCons, fNil, fC, rdF, e1, e2, hd, eqD, eqB, truthD, sNil]
abbrev pgBody := (sSeq (sSet 6 (fCR 0 m__law_steps (fCons (fC (.int 4)) (fCons (rdF 1) (fCons (rdF 2) fNil))))) (sSeq (sIf (fTst (fBin eqD (fCR 0 m__law_draw (fCons (fC (.int 3)) fNil)) (fC (.int 0)))) (sSeq (sSet 8 (fBin addD (fC (.int 1)) (fCR 0 m__law_draw (fCons (rdF 3) fNil)))) (sSet 6 (fBin addD (rdF 6) (fTup (fCons (fTup (fCons (fC (.str "repeat")) (fCons (rdF 8) (fCons (fCR 0 m__law_steps (fCons (fC (.int 3)) (fCons (rdF 1) (fCons (rdF 2) fNil)))) fNil)))) fNil))))) sNil) (sSeq (sSet 7 (fCR 0 m__law_draw (fCons (fBin addD (fLenN 4) (fC (.int 1))) fNil))) (sSet 4 (fBin addD (fBin addD (fSl (rdF 4) oNone (oSome (rdF 7))) (fTup (fCons (fTup (fCons (fC (.str "repeat")) (fCons (fBin addD (fC (.int 1)) (fCR 0 m__law_draw (fCons (rdF 3) fNil))) (fCons (rdF 6) fNil)))) fNil))) (fSl (rdF 4) (oSome (rdF 7)) oNone))))))
theorem prog_turn {es : List PyData} {found : List (Cm 2)} {W size tm : Int} {t i6 i7 i8 : Option DV} (hp : PoolOk es) (hw : 0 < W ∧ W ≤ 4) (hs : 2 ≤ size ∧ size ≤ 29) (ht : 1 ≤ tm ∧ tm ≤ 1000000000000000000000000000000) (hf : ∀ c ∈ found, DrC W tm 2 c) (hl : found.length ≤ 50000) :
    ∃ (es' : List PyData) (found' : List (Cm 2)) (a b c : Option DV), pgBody [some (.rf es), some (.fr (.int W)), some (.fr (.int size)), some (.fr (.int tm)), some (.fr (.tuple (found.map (cmE 2)))), t, i6, i7, i8] = some (.nx [some (.rf es'), some (.fr (.int W)), some (.fr (.int size)), some (.fr (.int tm)), some (.fr (.tuple (found'.map (cmE 2)))), t, a, b, c]) ∧ PoolOk es' ∧ (∀ c ∈ found', DrC W tm 2 c) ∧ found'.length = found.length + 1 ∧ (found'.map (szC 2)).sum ≤ (found.map (szC 2)).sum + 9 ∧ (found'.map (fm 2)).sum ≤ (found.map (fm 2)).sum + 95 := by
  obtain ⟨es1, cs, i8', e1, p1, hc, hs1, hf1⟩ := inner_spec (f := some (.fr (.tuple (found.map (cmE 2))))) (t := t) (i6 := i6) (i7 := i7) (i8 := i8) hp hw hs ht
  obtain ⟨at', es2, e2, p2, a2, b2⟩ := draw_spec p1 (m := (found.length : Int) + 1) (by omega) (by omega)
  obtain ⟨o, es3, e3, p3, a3, b3⟩ := draw_spec p2 (m := tm) (by omega) (by omega)
  have hdr := drc_rep (t := 1 + o) (by omega) (by omega) hc
  have z1 : szC 2 (mkR (1 + o) cs) = 1 + (cs.map (szC 1)).sum := rfl
  have z2 : fm 2 (mkR (1 + o) cs) = 5 * (cs.map (fm 1)).sum := rfl
  refine ⟨es3, found.take at'.toNat ++ [mkR (1 + o) cs] ++ found.drop at'.toNat, some (.fr (.tuple (cs.map (cmE 1)))), some (.fr (.int at')), i8', (e1 _).trans ?_, p3, fun c h => ?_, ?_, ?_, ?_⟩
  · rw [show (found.take at'.toNat ++ [mkR (1 + o) cs] ++ found.drop at'.toNat).map (cmE 2) = (found.map (cmE 2)).take at'.toNat ++ [.tuple [.str "repeat", .int (1 + o), .tuple (cs.map (cmE 1))]] ++ (found.map (cmE 2)).drop at'.toNat by rw [List.map_append, List.map_append, List.map_take, List.map_drop]; rfl]
    have hlm : (found.map (cmE 2)).length = found.length := List.length_map ..
    generalize cs.map (cmE 1) = B at *
    generalize found.map (cmE 2) = A at *
    have t1 : (A.take at'.toNat).length + 1 ≤ 100000 := by rw [List.length_take]; omega
    have t2 : (A.take at'.toNat).length + 1 + (A.drop at'.toNat).length ≤ 100000 := by rw [List.length_take, List.length_drop]; omega
    have c1 := cut_lo (ds := A) a2 (by omega)
    have c2 := cut_hi (ds := A) a2 (by omega)
    have t3 : (A.take at'.toNat ++ [PyData.tuple [.str "repeat", .int (1 + o), .tuple B]]).length + (A.drop at'.toNat).length ≤ 100000 := by rw [List.length_append, List.length_singleton]; exact t2
    rw [← hlm] at e2
    refine ev_seq (e1 := [some (.rf es2), some (.fr (.int W)), some (.fr (.int size)), some (.fr (.int tm)), some (.fr (.tuple A)), t, some (.fr (.tuple B)), some (.fr (.int at')), i8']) (by simp [sSet, fCR, rdO, wrO, fCons, fNil, fBin, fLenN, rdB, lenD, addD, fC, e2]) ?_
    refine ev_setE (e1 := [some (.rf es3), some (.fr (.int W)), some (.fr (.int size)), some (.fr (.int tm)), some (.fr (.tuple A)), t, some (.fr (.tuple B)), some (.fr (.int at')), i8']) (ev_bin (e1 := [some (.rf es3), some (.fr (.int W)), some (.fr (.int size)), some (.fr (.int tm)), some (.fr (.tuple A)), t, some (.fr (.tuple B)), some (.fr (.int at')), i8']) (a := .tuple (A.take at'.toNat ++ [.tuple [.str "repeat", .int (1 + o), .tuple B]])) (b := .tuple (A.drop at'.toNat)) ?_ ?_ (add_tup t3)) rfl
    · refine ev_bin (a := .tuple (A.take at'.toNat)) (b := .tuple [.tuple [.str "repeat", .int (1 + o), .tuple B]]) (e1 := [some (.rf es2), some (.fr (.int W)), some (.fr (.int size)), some (.fr (.int tm)), some (.fr (.tuple A)), t, some (.fr (.tuple B)), some (.fr (.int at')), i8']) ?_ ?_ (add_tup t1)
      · simp [fSl, rdF, oNone, oSome, slD, c1]
      · simp [fTup, fCons, fC, fBin, addD, fCR, rdO, wrO, rdF, fNil, e3, lim]
    · simp [fSl, rdF, oNone, oSome, slD, c2]
  · rcases List.mem_append.mp h with h | h
    · rcases List.mem_append.mp h with h | h
      · exact hf c (List.mem_of_mem_take h)
      · rw [List.mem_singleton.mp h]
        exact hdr
    · exact hf c (List.mem_of_mem_drop h)
  · rw [List.length_append, List.length_append, List.length_singleton, List.length_take, List.length_drop]
    omega
  · rw [sum_ins, z1]
    omega
  · rw [sum_ins, z2]
    omega
theorem prog_loop {W size tm : Int} (hw : 0 < W ∧ W ≤ 4) (hs : 2 ≤ size ∧ size ≤ 29) (ht : 1 ≤ tm ∧ tm ≤ 1000000000000000000000000000000) : ∀ (xs : List PyData) (es : List PyData) (found : List (Cm 2)) (t i6 i7 i8 : Option DV), PoolOk es → (∀ c ∈ found, DrC W tm 2 c) → found.length + xs.length ≤ 50000 →
    ∃ (es' : List PyData) (found' : List (Cm 2)) (t' a b c : Option DV), forD (gSet 5) pgBody xs [some (.rf es), some (.fr (.int W)), some (.fr (.int size)), some (.fr (.int tm)), some (.fr (.tuple (found.map (cmE 2)))), t, i6, i7, i8] = some (.nx [some (.rf es'), some (.fr (.int W)), some (.fr (.int size)), some (.fr (.int tm)), some (.fr (.tuple (found'.map (cmE 2)))), t', a, b, c]) ∧ PoolOk es' ∧ (∀ c ∈ found', DrC W tm 2 c) ∧ found'.length = found.length + xs.length ∧ (found'.map (szC 2)).sum ≤ (found.map (szC 2)).sum + 9 * xs.length ∧ (found'.map (fm 2)).sum ≤ (found.map (fm 2)).sum + 95 * xs.length
  | [], es, found, t, i6, i7, i8, hp, hf, _ => ⟨es, found, t, i6, i7, i8, by rw [forD], hp, hf, rfl, Nat.le_refl _, Nat.le_refl _⟩
  | x :: xs, es, found, t, i6, i7, i8, hp, hf, hl => by
    rw [List.length_cons] at hl
    obtain ⟨es1, f1, a, b, c, e1, p1, g1, g2, g3, g4⟩ := prog_turn (t := some (.fr x)) (i6 := i6) (i7 := i7) (i8 := i8) hp hw hs ht hf (by omega)
    obtain ⟨es', f', t', a', b', c', e2, p2, k1, k2, k3, k4⟩ := prog_loop hw hs ht xs es1 f1 (some (.fr x)) a b c p1 g1 (by omega)
    exact ⟨es', f', t', a', b', c', ev_forN rfl e1 e2, p2, k1, by rw [List.length_cons]; omega, by rw [List.length_cons]; omega, by rw [List.length_cons]; omega⟩
theorem prog_spec {es : List PyData} (hp : PoolOk es) {W size tm : Int} (hw : 0 < W ∧ W ≤ 4) (hs : 2 ≤ size ∧ size ≤ 29) (ht : 1 ≤ tm ∧ tm ≤ 1000000000000000000000000000000) :
    ∃ (cs : List (Cm 2)) (es' : List PyData), m__law_program es [.int W, .int size, .int tm] = some (cpE cs, es') ∧ PoolOk es' ∧ (∀ c ∈ cs, DrC W tm 2 c) ∧ cs.length ≤ 8 ∧ (cs.map (szC 2)).sum ≤ 24 ∧ (cs.map (fm 2)).sum ≤ 196 := by
  obtain ⟨ps, es1, e1, p1, hc, hl⟩ := stq_spec hp (most := 6) (by omega) hw hs
  obtain ⟨d, es2, e2, p2, a2, b2⟩ := draw_spec p1 (m := 3) (by omega) (by omega)
  have hlI : (inlE (n := 1) ps).length = ps.length := List.length_map ..
  obtain ⟨es3, cs, t, a, b, c, e3, p3, h1, h2, h3, h4⟩ := prog_loop hw hs ht (rangeD 0 d.toNat) es2 (inlE (n := 1) ps) none none none none p2 (drc_inl hc) (by rw [rangeD_len]; omega)
  rw [rangeD_len] at h2 h3 h4
  rw [szI] at h3
  rw [fmI] at h4
  rw [inlE_e] at e3
  have hd : d ≤ 1000000 ∧ -1000000 ≤ d := by omega
  refine ⟨cs, es3, ?_, p3, h1, by omega, by omega, by omega⟩
  unfold cpE
  generalize cs.map (cmE 2) = C at e3 ⊢
  generalize ps.map plE = A at e1 e3
  refine ev_runR rfl (env := [some (.fr (.int W)), some (.fr (.int size)), some (.fr (.int tm)), some (.fr (.tuple C)), t, a, b, c]) ?_
  refine ev_seq (e1 := [some (.rf es1), some (.fr (.int W)), some (.fr (.int size)), some (.fr (.int tm)), some (.fr (.tuple A)), none, none, none, none]) ?_ ?_
  · simp [sSet, fCR, rdO, wrO, fCons, fNil, fC, rdF, startE, e1]
  · refine ev_seq (ev_for (e1 := [some (.rf es2), some (.fr (.int W)), some (.fr (.int size)), some (.fr (.int tm)), some (.fr (.tuple A)), none, none, none, none]) ?_ e3) rfl
    simp [iArg, fCons, fCR, rdO, wrO, fC, fNil, e2, rng1, hd]
/-- its ints are not great -/
def RowC (r : PyData) : Prop := ∃ is : List Int, r = .tuple (is.map .int) ∧ ∀ i ∈ is, -1000 ≤ i ∧ i ≤ 1000
def RowJ (w : Nat) (r : PyData) : Prop := RowI w r ∧ RowC r
/-! ### tables drawn -/
abbrev tabEl := fBin subD (fCR 0 m__law_draw (fCons (rdF 5) fNil)) (fBin fdivD (rdF 5) (fC (.int 2)))
theorem tab_lc {sp : Int} (h0 : 0 < sp) (h1 : sp ≤ 1000) (b c d e f g : Option DV) : ∀ (xs es : List PyData), PoolOk es → ∃ (es' : List PyData) (is : List Int), lcD (gSet 8) fYes tabEl [8] xs [some (.rf es), b, c, d, e, some (.fr (.int sp)), f, g, none] = some (is.map PyData.int, [some (.rf es'), b, c, d, e, some (.fr (.int sp)), f, g, none]) ∧ PoolOk es' ∧ is.length = xs.length ∧ ∀ i ∈ is, -1000 ≤ i ∧ i ≤ 1000
  | [], es, hp => ⟨es, [], rfl, hp, rfl, fun _ h => nomatch h⟩
  | x :: xs, es, hp => by
    obtain ⟨r1, es1, e1, p1, a1, b1⟩ := draw_spec hp h0 (by omega)
    obtain ⟨es2, is, e2, p2, l2, b2⟩ := tab_lc h0 h1 b c d e f g xs es1 p1
    refine ⟨es2, (r1 - sp / 2) :: is, ?_, p2, by simp [l2], fun i hi => ?_⟩
    case refine_2 =>
      rcases List.mem_cons.mp hi with rfl | hi
      · omega
      · exact b2 i hi
    have h1' : sp < 1073741824 := by omega
    rw [lcD]
    simp [gSet, fYes, tabEl, fBin, fCR, rdO, wrO, rdF, fCons, fNil, fC, e1, subD, fdivD, intD, wipeE]
    exact e2
theorem ne_nil {k : Nat} {r : PyData} {rs : List PyData} (h : ∀ d ∈ r :: rs, Ly k d) (hk : k < 64) : neD (.list (r :: rs)) (.list []) = some (.bool true) := by
  have s1 := (Ly.list h).sh hk
  have s2 : shD (.list []) = true := rfl
  show ((if shD (.list (r :: rs)) && shD (.list []) then some (PyData.eqv (.list (r :: rs)) (.list [])) else none).map fun k => PyData.bool (!k)) = _
  rw [s1, s2]
  rfl
abbrev tabBody := sIf (fAnd (fTst (fCmpL neD 6 (fFrz (fLst fNil)))) (fTst (fBin eqD (fCR 0 m__law_draw (fCons (fC (.int 6)) fNil)) (fC (.int 0))))) (sApp 6 (fIxN 6 (fCR 0 m__law_draw (fCons (fLenN 6) fNil)))) (sApp 6 (fCB tupleD (fCons (fFrz (nLc (iArg rng1 (fCons (rdF 3) fNil)) (gSet 8) fYes tabEl [8])) fNil)))
theorem tab_new {w : Nat} (hw : w ≤ 5) {sp : Int} (h0 : 0 < sp) (h1 : sp ≤ 1000) {b c e g : Option DV} {es found : List PyData} (hp : PoolOk es) (hl : found.length < 1000) :
    ∃ es' r, sApp 6 (fCB tupleD (fCons (fFrz (nLc (iArg rng1 (fCons (rdF 3) fNil)) (gSet 8) fYes tabEl [8])) fNil)) [some (.rf es), b, c, some (.fr (.int w)), e, some (.fr (.int sp)), some (.ow found), g, none] = some (.nx [some (.rf es'), b, c, some (.fr (.int w)), e, some (.fr (.int sp)), some (.ow (found ++ [r])), g, none]) ∧ PoolOk es' ∧ RowJ w r := by
  obtain ⟨es1, is, e1, p1, l1, b1⟩ := tab_lc h0 h1 b c (some (.fr (.int w))) e (some (.ow found)) g (rangeD 0 w) es hp
  rw [rangeD_len] at l1
  refine ⟨es1, .tuple (is.map .int), ?_, p1, ⟨is, rfl, l1⟩, is, rfl, b1⟩
  have hw2 : (w : Int) ≤ 1000000 ∧ -1000000 ≤ (w : Int) := by omega
  have hl2 : found.length < 100000 := by omega
  have hr : (rangeD 0 w).length ≤ 100000 := by rw [rangeD_len]; omega
  simp [sApp, rdO, fCB, fCons, fFrz, nLc, iArg, rdF, fNil, rng1, hw2, lim, hr, wipeE]
  rw [e1]
  simp [tupleD, wrO, hl2]
theorem tab_turn {w : Nat} (hw : w ≤ 5) {sp : Int} (h0 : 0 < sp) (h1 : sp ≤ 1000) {b c e g : Option DV} {es found : List PyData} (hp : PoolOk es) (hf : ∀ r ∈ found, RowJ w r) (hl : found.length < 1000) :
    ∃ es' r, tabBody [some (.rf es), b, c, some (.fr (.int w)), e, some (.fr (.int sp)), some (.ow found), g, none] = some (.nx [some (.rf es'), b, c, some (.fr (.int w)), e, some (.fr (.int sp)), some (.ow (found ++ [r])), g, none]) ∧ PoolOk es' ∧ RowJ w r := by
  cases found with
  | nil =>
    obtain ⟨es1, r, e1, p1, hr⟩ := tab_new (found := []) hw h0 h1 (b := b) (c := c) (e := e) (g := g) hp hl
    exact ⟨es1, r, ev_ifF (ev_and0 rfl) e1, p1, hr⟩
  | cons r0 rs =>
    have hn := ne_nil (k := 1) (fun d hd => (hf d hd).1.ly) (by decide)
    obtain ⟨r1, es1, e1, p1, a1, b1⟩ := draw_spec hp (m := 6) (by decide) (by decide)
    have t1 : fTst (fCmpL neD 6 (fFrz (fLst fNil))) [some (.rf es), b, c, some (.fr (.int w)), e, some (.fr (.int sp)), some (.ow (r0 :: rs)), g, none] = some (true, [some (.rf es), b, c, some (.fr (.int w)), e, some (.fr (.int sp)), some (.ow (r0 :: rs)), g, none]) := by
      simp [fTst, fCmpL, rdB, fFrz, fLst, fNil, hn, truthD]
    have t2 : fTst (fBin eqD (fCR 0 m__law_draw (fCons (fC (.int 6)) fNil)) (fC (.int 0))) [some (.rf es), b, c, some (.fr (.int w)), e, some (.fr (.int sp)), some (.ow (r0 :: rs)), g, none] = some (decide (r1 = 0), [some (.rf es1), b, c, some (.fr (.int w)), e, some (.fr (.int sp)), some (.ow (r0 :: rs)), g, none]) := by
      simp [fTst, fBin, fCR, rdO, wrO, fCons, fNil, fC, e1, eqD, eqB, truthD]
    by_cases hz : r1 = 0
    · rw [decide_eq_true hz] at t2
      obtain ⟨r2, es2, e2, p2, a2, b2⟩ := draw_spec p1 (m := ((r0 :: rs).length : Int)) (by rw [List.length_cons]; omega) (by omega)
      have hj : r2.toNat < (r0 :: rs).length := by omega
      refine ⟨es2, (r0 :: rs)[r2.toNat], ev_ifT (ev_and1 t1 t2) ?_, p2, hf _ (List.getElem_mem hj)⟩
      have e2' := e2
      rw [List.length_cons] at e2'
      have b2' : r2 < (rs.length : Int) + 1 := by rw [List.length_cons] at b2; omega
      have hl' : rs.length + 1 < 100000 := by rw [List.length_cons] at hl; omega
      have hj' : r2.toNat < rs.length + 1 := hj
      simp [sApp, rdO, wrO, fIxN, rdB, fCR, fCons, fLenN, lenD, fNil] at e2' ⊢
      simp [e2', ixD, atI, ixN, a2, b2', hj', hl', lim]
    · rw [decide_eq_false hz] at t2
      obtain ⟨es2, r, e2, p2, hr⟩ := tab_new (found := r0 :: rs) hw h0 h1 (b := b) (c := c) (e := e) (g := g) p1 hl
      exact ⟨es2, r, ev_ifF (ev_and1 t1 t2) e2, p2, hr⟩
theorem tab_for {w : Nat} (hw : w ≤ 5) {sp : Int} (h0 : 0 < sp) (h1 : sp ≤ 1000) {b c e : Option DV} : ∀ (xs : List PyData) (es found : List PyData) (g : Option DV), PoolOk es → (∀ r ∈ found, RowJ w r) → found.length + xs.length < 1000 →
    ∃ es' found' g', forD (gSet 7) tabBody xs [some (.rf es), b, c, some (.fr (.int w)), e, some (.fr (.int sp)), some (.ow found), g, none] = some (.nx [some (.rf es'), b, c, some (.fr (.int w)), e, some (.fr (.int sp)), some (.ow found'), g', none]) ∧ PoolOk es' ∧ (∀ r ∈ found', RowJ w r) ∧ found'.length = found.length + xs.length
  | [], es, found, g, hp, hf, _ => ⟨es, found, g, rfl, hp, hf, rfl⟩
  | x :: xs, es, found, g, hp, hf, hl => by
    rw [List.length_cons] at hl
    obtain ⟨es1, r, e1, p1, hr⟩ := tab_turn hw h0 h1 (b := b) (c := c) (e := e) (g := some (.fr x)) hp hf (by omega)
    obtain ⟨es2, f2, g2, e2, p2, hf2, l2⟩ := tab_for hw h0 h1 (b := b) (c := c) (e := e) xs es1 (found ++ [r]) (some (.fr x)) p1 (fun y hy => by
      rcases List.mem_append.mp hy with z | z
      · exact hf y z
      · rw [List.mem_singleton] at z; rw [z]; exact hr) (by rw [List.length_append]; show found.length + 1 + xs.length < 1000; omega)
    refine ⟨es2, f2, g2, ev_forN rfl e1 e2, p2, hf2, ?_⟩
    rw [l2]
    simp only [List.length_append, List.length_cons, List.length_nil]
    omega
theorem spread4 {r : Int} (h0 : 0 ≤ r) (h1 : r < 4) : ∃ sp : Int, ixD (.list [.int 2, .int 3, .int 9, .int 1000]) (.int r) = some (.int sp) ∧ 0 < sp ∧ sp ≤ 1000 := by
  have : r = 0 ∨ r = 1 ∨ r = 2 ∨ r = 3 := by omega
  rcases this with rfl | rfl | rfl | rfl
  · exact ⟨2, rfl, by decide, by decide⟩
  · exact ⟨3, rfl, by decide, by decide⟩
  · exact ⟨9, rfl, by decide, by decide⟩
  · exact ⟨1000, rfl, by decide, by decide⟩
theorem table_spec {most : Int} (hm0 : 0 < most) (hm1 : most ≤ 30) {es : List PyData} (hp : PoolOk es) : ∃ rs es', m__law_table es [.int most, .int 5] = some (.tuple rs, es') ∧ PoolOk es' ∧ TabI rs ∧ ∀ r ∈ rs, RowC r := by
  obtain ⟨r1, es1, e1, p1, a1, b1⟩ := draw_spec hp (m := 5) (by decide) (by decide)
  obtain ⟨r2, es2, e2, p2, a2, b2⟩ := draw_spec p1 (m := most) hm0 (by omega)
  obtain ⟨r3, es3, e3, p3, a3, b3⟩ := draw_spec p2 (m := 4) (by decide) (by decide)
  obtain ⟨sp, e4, s0, s1⟩ := spread4 a3 b3
  obtain ⟨w, hw⟩ : ∃ w : Nat, 1 + r1 = (w : Int) := ⟨(1 + r1).toNat, by omega⟩
  obtain ⟨es5, rs, g, e5, p5, hr, l5⟩ := tab_for (w := w) (by omega) s0 s1 (b := some (.fr (.int most))) (c := some (.fr (.int 5))) (e := some (.fr (.int (1 + r2)))) (rangeD 0 (1 + r2).toNat) es3 [] none p3 (fun r h => nomatch h) (by rw [rangeD_len]; show 0 + _ < 1000; omega)
  rw [rangeD_len, List.length_nil] at l5
  refine ⟨rs, es5, ?_, p5, ⟨by omega, by omega, w, by omega, by omega, fun r h => (hr r h).1⟩, fun r h => (hr r h).2⟩
  have hd : 1 + r2 ≤ 1000000 ∧ -1000000 ≤ 1 + r2 := by omega
  simp [m__law_table, runR, mb__law_table, sSeq, sPar, fCons, fBin, fC, fCR, rdO, wrO, rdF, fNil, startE, e1, e2, addD, sSet, fFrz, fLst, lim, e3, e4, sSetN, sFor, iArg, rng1, hd, hw]
  rw [e5]
  simp [sRet, fCB, fCons, rdF, fNil, tupleD, rf0]
abbrev tblEl := (fCR 0 m__law_table (fCons (fIf (fTst (fBin eqD (fCR 0 m__law_draw (fCons (fC (.int 8)) fNil)) (fC (.int 5)))) (fC (.int 30)) (fC (.int 9))) (fCons (fC (.int 5)) fNil)))
theorem tab_22 {most : Int} (hm0 : 0 < most) (hm1 : most ≤ 30) {es : List PyData} (hp : PoolOk es) : ∃ (w : Nat) (t : Tab) (es' : List PyData), m__law_table es [.int most, .int 5] = some (tabD t, es') ∧ PoolOk es' ∧ TabW w t := by
  obtain ⟨rs, es', e, p, h, _⟩ := table_spec hm0 hm1 hp
  obtain ⟨w, t, rfl, ht⟩ := h.tabW
  exact ⟨w, t, es', e, p, ht⟩
theorem tbl_22 {es : List PyData} (hp : PoolOk es) {env : DEnv} : ∃ (w : Nat) (t : Tab) (es' : List PyData), tblEl (some (.rf es) :: env) = some (tabD t, some (.rf es') :: env) ∧ PoolOk es' ∧ TabW w t := by
  obtain ⟨r, es1, e1, p1, _, _⟩ := draw_spec hp (m := 8) (by decide) (by decide)
  have hd : fTst (fBin eqD (fCR 0 m__law_draw (fCons (fC (.int 8)) fNil)) (fC (.int 5))) (some (.rf es) :: env) = some (decide (r = 5), some (.rf es1) :: env) := ev_tst (ev_bin (ev_crE rfl (ev_cons rfl ev_nil) rfl e1 rfl) rfl rfl) rfl
  by_cases h5 : r = 5
  · obtain ⟨w, t, es2, e2, p2, h1⟩ := tab_22 (most := 30) (by decide) (by decide) p1
    rw [decide_eq_true h5] at hd
    exact ⟨w, t, es2, ev_crE rfl (ev_cons (ev_iff hd rfl) (ev_cons rfl ev_nil)) rfl e2 rfl, p2, h1⟩
  · obtain ⟨w, t, es2, e2, p2, h1⟩ := tab_22 (most := 9) (by decide) (by decide) p1
    rw [decide_eq_false h5] at hd
    exact ⟨w, t, es2, ev_crE rfl (ev_cons (ev_iff hd rfl) (ev_cons rfl ev_nil)) rfl e2 rfl, p2, h1⟩
theorem bnt_dk {k w n : Nat} {d : PyData} (h : Bnt k w n d) (hn : n ≤ 100000) : Dk (k + 1) (w + 3) d := by
  rcases h with ⟨ds, rfl, h⟩ | ⟨_, h⟩
  · exact h.tup hn
  · exact h.mono (by omega) (by omega)
/-! ### the law's rounds -/
abbrev rtB := (sSeq (sSet 7 (fCR 0 m__law_bent (fCons (rdF 2) fNil))) (sSeq (sSet 8 (fIf (fTst (fIsi "tuple" (rdF 7))) (fCR 0 m__law_bent (fCons (rdF 7) fNil)) (rdF 7))) (sSeq (sIf (fOr (fNot (fTst (fCB m__law_told_right (fCons (rdF 1) (fCons (rdF 7) fNil))))) (fNot (fTst (fCB m__law_told_right (fCons (rdF 1) (fCons (rdF 8) fNil)))))) (sRet (fC (.bool false))) sNil) (sIf (fNot (fTst (fCB m__law_told_right (fCons (fIxN 5 (fCR 0 m__law_draw (fCons (fLenN 5) fNil))) (fCons (rdF 8) fNil))))) (sRet (fC (.bool false))) sNil))))
abbrev rtE (es : List PyData) (T D c : PyData) (odd tabs : List PyData) (x6 x7 x8 : Option DV) : DEnv := [some (.rf es), some (.fr T), some (.fr D), some (.fr c), some (.ow odd), some (.ow tabs), x6, x7, x8, none]
theorem say {R P : PyData} (hP : gdD P = true) {f g : DEnv → Option (PyData × DEnv)} {env e1 e2 : DEnv} (h1 : f env = some (R, e1)) (h2 : g e1 = some (P, e2)) : fNot (fTst (fCB m__law_told_right (fCons f (fCons g fNil)))) env = some (false, e2) :=
  ev_not (k := true) (ev_tst (ev_cb (ev_cons h1 (ev_cons h2 ev_nil)) (told_any hP)) rfl)
theorem rt_turn {k w n : Nat} (hk : 6 ≤ k) (hn : n ≤ 16) {ds : List PyData} (hd : Tk k w n ds) {T c : PyData} {odd tabs : List PyData} (h0 : 0 < tabs.length) (h1 : tabs.length ≤ 1000) {es : List PyData} (hp : PoolOk es) {x6 x7 x8 : Option DV} : ∃ es' x7' x8', rtB (rtE es T (.tuple ds) c odd tabs x6 x7 x8) = some (.nx (rtE es' T (.tuple ds) c odd tabs x6 x7' x8')) ∧ PoolOk es' := by
  obtain ⟨d, es1, e1, p1, b1⟩ := bent_spec hk (by omega) hd hp
  have g1 := (bnt_dk b1 (by omega)).g
  -- the second one
  obtain ⟨d2, es2, e2, p2, g2⟩ : ∃ d2 es2, sSet 8 (fIf (fTst (fIsi "tuple" (rdF 7))) (fCR 0 m__law_bent (fCons (rdF 7) fNil)) (rdF 7)) (rtE es1 T (.tuple ds) c odd tabs x6 (some (.fr d)) x8) = some (.nx (rtE es2 T (.tuple ds) c odd tabs x6 (some (.fr d)) (some (.fr d2)))) ∧ PoolOk es2 ∧ gdD d2 = true := by
    rcases b1 with ⟨ds1, rfl, b1⟩ | ⟨hi, _⟩
    · obtain ⟨d2, es2, e2, p2, b2⟩ := bent_spec (by omega) (by omega) b1 p1
      exact ⟨d2, es2, ev_setE (ev_iff (k := true) (ev_isiD rfl rfl) (ev_crE rfl (ev_cons rfl ev_nil) rfl e2 rfl)) rfl, p2, (bnt_dk b2 (by omega)).g⟩
    · exact ⟨d, es1, ev_setE (ev_iff (k := false) (ev_isiD rfl (ins_no hi)) rfl) rfl, p1, g1⟩
  obtain ⟨r, es3, e3, p3, r0, r1⟩ := draw_spec p2 (m := (tabs.length : Nat)) (by omega) (by omega)
  refine ⟨es3, some (.fr d), some (.fr d2), ?_, p3⟩
  refine ev_seq (e1 := rtE es1 T (.tuple ds) c odd tabs x6 (some (.fr d)) x8) (ev_setE (ev_crE rfl (ev_cons rfl ev_nil) rfl e1 rfl) rfl) ?_
  refine ev_seq e2 ?_
  let E := rtE es2 T (.tuple ds) c odd tabs x6 (some (.fr d)) (some (.fr d2))
  let E3 := rtE es3 T (.tuple ds) c odd tabs x6 (some (.fr d)) (some (.fr d2))
  refine ev_seq (e1 := E) (ev_ifF (ev_or0 (say g1 (env := E) (e1 := E) rfl rfl) (say g2 (env := E) (e1 := E) rfl rfl)) rfl) ?_
  have hn : r.toNat < tabs.length := by omega
  have q : fIxN 5 (fCR 0 m__law_draw (fCons (fLenN 5) fNil)) E = some (tabs[r.toNat], E3) := by
    refine ev_ixN (i := .int r) (d0 := .list tabs) (d := .list tabs) rfl (ev_crE rfl (ev_cons (ev_lenN (d := .list tabs) rfl rfl) ev_nil) rfl e3 rfl) rfl ?_
    show atI tabs r = _
    have z := at_nat hn
    rwa [show ((r.toNat : Nat) : Int) = r by omega] at z
  exact ev_ifF (say g2 q rfl) rfl
theorem rt_loop {k w n : Nat} (hk : 6 ≤ k) (hn : n ≤ 16) {ds : List PyData} (hd : Tk k w n ds) {T c : PyData} {odd tabs : List PyData} (h0 : 0 < tabs.length) (h1 : tabs.length ≤ 1000) : ∀ (xs es : List PyData) (x6 x7 x8 : Option DV), PoolOk es → ∃ es' y6 y7 y8, forD (gSet 6) rtB xs (rtE es T (.tuple ds) c odd tabs x6 x7 x8) = some (.nx (rtE es' T (.tuple ds) c odd tabs y6 y7 y8))
  | [], es, x6, x7, x8, _ => ⟨es, x6, x7, x8, rfl⟩
  | a :: xs, es, x6, x7, x8, hp => by
    obtain ⟨es1, y7, y8, e1, p1⟩ := rt_turn hk hn hd h0 h1 hp (T := T) (c := c) (odd := odd) (x6 := some (.fr a)) (x7 := x7) (x8 := x8)
    obtain ⟨es2, z6, z7, z8, e2⟩ := rt_loop hk hn hd (T := T) (c := c) (odd := odd) h0 h1 xs es1 (some (.fr a)) y7 y8 p1
    exact ⟨es2, z6, z7, z8, ev_forN rfl e1 e2⟩
def oddT (w : Nat) (r : List PyData) : List PyData := [.none, .int 5, .tuple [], .list [], .list [.int 3], .tuple [.int 3, .str "a"], .tuple (List.replicate w (.bool true)), .tuple (r ++ [.int 1]), .tuple (cutD r (some 1) none), .dict [], .tuple [.list []]]
def moreT (rs : List PyData) : List PyData := [.tuple [], .none, .list rs, .dict [], .str "ab", .int 7, .tuple (List.replicate 30 rs).flatten, .tuple [.tuple [.int 1, .int 2, .int 3, .int 4, .int 5, .int 6]], .list [.list [.int 1]], .tuple rs]
theorem flat_rep (w : Nat) (b : PyData) : (List.replicate w [b]).flatten = List.replicate w b := by
  induction w with
  | zero => rfl
  | succ w ih => rw [List.replicate_succ, List.flatten_cons, ih]; rfl
theorem s4_spec {w : Nat} {r rs : List PyData} (hw : 1 ≤ w ∧ w ≤ 5) (hr : r.length = w) {es : List PyData} {D c : PyData} (h0 : ixD (.tuple rs) (.int 0) = some (.tuple r)) : ((sSetN 4 (fLst (fCons (fC .none) (fCons (fC (.int 5)) (fCons (fTup fNil) (fCons (fFrz (fLst fNil)) (fCons (fFrz (fLst (fCons (fC (.int 3)) fNil))) (fCons (fTup (fCons (fC (.int 3)) (fCons (fC (.str "a")) fNil))) (fCons (fBin rep3D (fTup (fCons (fC (.bool true)) fNil)) (fCB lenD (fCons (fIxN 1 (fC (.int 0))) fNil))) (fCons (fBin addD (fIxN 1 (fC (.int 0))) (fTup (fCons (fC (.int 1)) fNil))) (fCons (fSl (fIxN 1 (fC (.int 0))) (oSome (fC (.int 1))) oNone) (fCons (fC (.dict [])) (fCons (fTup (fCons (fFrz (fLst fNil)) fNil)) fNil)))))))))))))) [some (.rf es), some (.fr (.tuple rs)), some (.fr D), some (.fr c), none, none, none, none, none, none] = some (.nx [some (.rf es), some (.fr (.tuple rs)), some (.fr D), some (.fr c), some (.ow (oddT w r)), none, none, none, none, none]) := by
  let E : DEnv := [some (.rf es), some (.fr (.tuple rs)), some (.fr D), some (.fr c), none, none, none, none, none, none]
  have q0 : fIxN 1 (fC (.int 0)) E = some (.tuple r, E) := ev_ixN (i := .int 0) (d0 := .tuple rs) (d := .tuple rs) rfl rfl rfl h0
  have ql : fCB lenD (fCons (fIxN 1 (fC (.int 0))) fNil) E = some (.int (w : Nat), E) := ev_cb (ev_cons q0 ev_nil) (by rw [← hr]; rfl)
  have a1 : rep3D (.tuple [.bool true]) (.int (w : Nat)) = some (.tuple (List.replicate w (.bool true))) := by
    show (if (1 ≤ ((w : Nat) : Int) ∨ ((w : Nat) : Int) = 0 ∧ _) ∧ ((w : Nat) : Int) ≤ 1000 ∧ _ then some (PyData.tuple (List.replicate ((w : Nat) : Int).toNat [.bool true]).flatten) else none) = _
    rw [if_pos ⟨.inl (by omega), by omega, by decide⟩, show ((w : Nat) : Int).toNat = w by omega, flat_rep]
  have a2 : addD (.tuple r) (.tuple [.int 1]) = some (.tuple (r ++ [.int 1])) := add_tup (by rw [hr]; show w + 1 ≤ 100000; omega)
  refine ev_setN (e1 := E) (ev_lst (ds := oddT w r) ?_ (by show 11 ≤ 100000; decide)) rfl
  exact ev_cons rfl (ev_cons rfl (ev_cons rfl (ev_cons rfl (ev_cons rfl (ev_cons rfl (ev_cons (ev_bin rfl ql a1) (ev_cons (ev_bin q0 rfl a2) (ev_cons (ev_sl q0 rfl rfl rfl) (ev_cons rfl (ev_cons rfl ev_nil))))))))))
theorem right_spec {es : List PyData} (hp : PoolOk es) : ∃ es', m__law_right es [] = some (.bool true, es') := by
  obtain ⟨w, t, es1, e1, p1, ht⟩ := tbl_22 hp (env := [none, none, none, none, none, none, none, none, none])
  have hw1 := ht.w1
  have hw5 := ht.w5
  have hl1 := ht.l1
  have hl2 := ht.l2
  have hrow : ixD (tabD t) (.int 0) = some (rowD (t.getD 0 [])) := at_row ht (i := 0) (by omega)
  have hrl : ((t.getD 0 []).map PyData.int).length = w := by
    rw [List.length_map, ht.row (t.getD 0 []) (by rw [List.getD_eq_getElem?_getD, List.getElem?_eq_getElem (by omega)]; exact List.getElem_mem _)]
  obtain ⟨cs, es2, e2, p2, hcs, lcs, scs, _⟩ := prog_spec p1 (W := 4) (size := 29) (tm := TMx) (by decide) (by decide) (by decide)
  obtain ⟨c, es3, e3, p3, c0, c1⟩ := draw_spec p2 (m := (t.length : Nat) + 1) (by omega) (by omega)
  have tk := (tk_cp (Int.le_refl TMx) (n := 2) (fun c hc => (hcs c hc).ok) (by omega)).mono (Nat.le_refl _) (w' := 2784) (n' := 24) (by omega) (by omega)
  have tk8 : Tk 6 2784 8 (cs.map (cmE 2)) := ⟨tk.g, Nat.le_trans tk.dp (by decide), tk.sz, by rw [List.length_map]; exact lcs⟩
  have gD : gdD (cpE cs) = true := (tk8.tup (by decide)).g
  have hrs : (t.map rowD).length = t.length := List.length_map ..
  have addT : ∀ x : PyData, addD (.tuple (cutD (t.map rowD) none (some c))) (.tuple [x]) = some (.tuple (cutD (t.map rowD) none (some c) ++ [x])) := fun x => add_tup (by rw [cut_loF c0, List.length_take, List.length_singleton]; show _ ≤ 100000; omega)
  have addU : ∀ x : PyData, addD (.tuple (cutD (t.map rowD) none (some c) ++ [x])) (.tuple (cutD (t.map rowD) (some c) none)) = some (.tuple (cutD (t.map rowD) none (some c) ++ [x] ++ cutD (t.map rowD) (some c) none)) := fun x => add_tup (by rw [cut_loF c0, cut_hiF c0, List.length_append, List.length_take, List.length_drop, List.length_singleton]; show _ ≤ 100000; omega)
  have htd : tabD t = .tuple (t.map rowD) := rfl
  rw [htd] at e1 hrow
  have hrd : rowD (t.getD 0 []) = .tuple ((t.getD 0 []).map PyData.int) := rfl
  rw [hrd] at hrow
  have hlenT : lenD [.tuple (t.map rowD)] = some (.int (t.length : Nat)) := by show some (PyData.int ((t.map rowD).length : Nat)) = _; rw [hrs]
  have hmul : repTD (.tuple (t.map rowD)) (.int 30) = some (.tuple (List.replicate 30 (t.map rowD)).flatten) := by
    show (if t.map rowD ≠ [] ∧ (2 : Int) ≤ 30 ∧ (30 : Int) ≤ 1000 ∧ (t.map rowD).length ≤ 1000 then _ else none) = _
    rw [if_pos ⟨fun z => by rw [z] at hrs; rw [List.length_nil] at hrs; omega, by decide, by decide, by omega⟩]
    rfl
  generalize t.map rowD = rs at *
  generalize (t.getD 0 []).map PyData.int = r at *
  have ecp : cpE cs = .tuple (cs.map (cmE 2)) := rfl
  rw [ecp] at gD e2
  generalize cs.map (cmE 2) = ds at *
  let odd := oddT w r
  let tb1 : List PyData := odd.map fun x => .tuple (cutD rs none (some c) ++ [x] ++ cutD rs (some c) none)
  let tabs := tb1 ++ moreT rs
  have htl : tabs.length = 21 := rfl
  obtain ⟨es4, y6, y7, y8, e4⟩ := rt_loop (by decide) (by decide) tk8 (T := .tuple rs) (c := .int c) (odd := odd) (tabs := tabs) (by omega) (by omega) (rangeD 0 8) es3 none none none p3
  let E (es : List PyData) (x2 x3 x4 x5 : Option DV) : DEnv := [some (.rf es), some (.fr (.tuple rs)), x2, x3, x4, x5, none, none, none, none]
  refine ⟨es4, ev_runR (env := [some (.fr (.tuple rs)), some (.fr (.tuple ds)), some (.fr (.int c)), some (.ow odd), some (.ow tabs), y6, y7, y8, none]) rfl ?_⟩
  refine ev_seq (e1 := E es1 none none none none) (ev_setE e1 rfl) ?_
  refine ev_seq (e1 := E es3 (some (.fr (.tuple ds))) (some (.fr (.int c))) none none) (ev_asg2 (ev_tup (ev_cons (ev_crE rfl (ev_cons rfl (ev_cons rfl (ev_cons (by rw [pwF]; rfl) ev_nil))) rfl e2 rfl) (ev_cons (ev_crE rfl (ev_cons (ev_bin (ev_lenN (d := .tuple rs) rfl hlenT) rfl rfl) ev_nil) rfl e3 rfl) ev_nil)) (by show 2 ≤ 100000; decide)) rfl) ?_
  refine ev_seq (e1 := E es3 (some (.fr (.tuple ds))) (some (.fr (.int c))) none none) (ev_ifF (say gD rfl rfl) rfl) ?_
  refine ev_seq (s4_spec ⟨hw1, hw5⟩ hrl hrow) ?_
  refine ev_seq (e1 := E es3 (some (.fr (.tuple ds))) (some (.fr (.int c))) (some (.ow odd)) (some (.ow tb1))) ?_ ?_
  · refine ev_setN (ds := tb1) (e1 := E es3 (some (.fr (.tuple ds))) (some (.fr (.int c))) (some (.ow odd)) none) (ev_lcH (ds := odd) (e2 := E es3 (some (.fr (.tuple ds))) (some (.fr (.int c))) none none) (e3 := E es3 (some (.fr (.tuple ds))) (some (.fr (.int c))) none none) rfl (by show 11 ≤ 100000; decide) rfl ?_ rfl) rfl
    exact lc_map (i := 9) (p := fun x => .tuple (cutD rs none (some c) ++ [x] ++ cutD rs (some c) none)) rfl odd fun x _ => ev_bin (ev_bin (ev_sl rfl rfl (ev_oS rfl) rfl) rfl (addT x)) (ev_sl rfl (ev_oS rfl) rfl rfl) (addU x)
  refine ev_seq (e1 := rtE es3 (.tuple rs) (.tuple ds) (.int c) odd tabs none none none) ?_ ?_
  · refine ev_setN (e1 := rtE es3 (.tuple rs) (.tuple ds) (.int c) odd tb1 none none none |>.set 5 (some (.fr (.list tb1)))) (ds := tabs) (ev_nAdd (a := tb1) (b := moreT rs) (e1 := rtE es3 (.tuple rs) (.tuple ds) (.int c) odd tb1 none none none |>.set 5 (some (.fr (.list tb1)))) rfl (ev_frz (ev_lst ?_ (by show 10 ≤ 100000; decide))) (by show 21 ≤ 100000; decide)) rfl
    exact ev_cons rfl (ev_cons rfl (ev_cons rfl (ev_cons rfl (ev_cons rfl (ev_cons rfl (ev_cons (ev_bin rfl rfl hmul) (ev_cons rfl (ev_cons rfl (ev_cons rfl ev_nil)))))))))
  refine ev_seq (ev_for (ds := rangeD 0 8) rfl e4) ?_
  refine ev_ret (ev_cb (ev_cons (ev_frz (ev_lcH (ds := tabs) (e2 := (rtE es4 (.tuple rs) (.tuple ds) (.int c) odd tabs y6 y7 y8).set 5 none) rfl (by show 21 ≤ 100000; decide) rfl (lc_map (i := 9) (p := fun _ => .bool true) rfl tabs fun x _ => ev_cb (ev_cons rfl (ev_cons rfl ev_nil)) (told_any gD)) rfl)) ev_nil) ?_)
  have := all_map (fun _ : PyData => true) tabs
  rw [this]
  rfl
end DL
end L2


set_option Elab.async false
set_option maxRecDepth 100000
set_option maxHeartbeats 4000000
set_option autoImplicit false
namespace L2
namespace DL
open PySem PySem.Spec PyProof.Rows
local instance labNone_K18X : Lab := { w := none, T := [], gd := True }
/-! ### the law's own loops -/
abbrev L0 : DEnv := [none, none, none, none, none, none, none, none]
def recs18 : PyData := .tuple [.tuple [.int 3, .int 1], .tuple [.int 1, .int 2]]
def tw18 : List PyData := match ((sSetN 2 (fLst (fCons (fTup (fCons (fTup (fCons (fC (.str "up")) (fCons (fC (.int 1)) fNil))) fNil)) (fCons (fTup (fCons (fTup (fCons (fC (.str "up")) (fCons (fC (.bool true)) fNil))) fNil)) (fCons (fTup (fCons (fTup (fCons (fC (.str "repeat")) (fCons (fC (.int 1)) (fCons (fTup (fCons (fTup (fCons (fC (.str "down")) (fCons (fC (.int 0)) fNil))) fNil)) fNil)))) fNil)) (fCons (fTup (fCons (fTup (fCons (fC (.str "repeat")) (fCons (fC (.bool true)) (fCons (fTup (fCons (fTup (fCons (fC (.str "down")) (fCons (fC (.int 0)) fNil))) fNil)) fNil)))) fNil)) fNil))))))) L0 with
  | some (.nx [_, _, some (.ow l), _, _, _, _, _]) => l
  | _ => []
def some18 : List PyData := match ((sSetN 3 (fLst (fCons (fTup (fCons (fTup (fCons (fC (.str "up")) (fCons (fC (.int 3)) fNil))) (fCons (fTup (fCons (fC (.str "up")) (fCons (fC (.int 2)) fNil))) fNil))) (fCons (fTup (fCons (fTup (fCons (fC (.str "up")) (fCons (fC (.int 2)) fNil))) (fCons (fTup (fCons (fC (.str "up")) (fCons (fC (.int 4)) fNil))) fNil))) fNil))))) L0 with
  | some (.nx e) => (match ((sApp 3 (fTup (fCons (fTup (fCons (fC (.str "repeat")) (fCons (fC (.int 5)) (fCons (fTup (fCons (fTup (fCons (fC (.str "down")) (fCons (fC (.int 3)) fNil))) (fCons (fTup (fCons (fC (.str "repeat")) (fCons (fC (.int 2)) (fCons (fTup (fCons (fTup (fCons (fC (.str "up")) (fCons (fC (.int 2)) fNil))) fNil)) fNil)))) fNil))) fNil)))) fNil)))) e with
    | some (.nx e) => (match ((sApp 3 (fTup (fCons (fTup (fCons (fC (.str "repeat")) (fCons (fC (.int 5)) (fCons (fTup (fCons (fTup (fCons (fC (.str "down")) (fCons (fC (.int 3)) fNil))) (fCons (fTup (fCons (fC (.str "up")) (fCons (fC (.int 1)) fNil))) fNil))) fNil)))) (fCons (fTup (fCons (fC (.str "first")) (fCons (fC (.int 2)) fNil))) fNil))))) e with
      | some (.nx [_, _, _, some (.ow l), _, _, _, _]) => l
      | _ => [])
    | _ => [])
  | _ => []
def steps18 : List PyData := match ((iSeq (fFrz (nAdd (fFrz (nAdd (fFrz (nAdd (rdF 2) (rdF 2))) (rdF 3))) (fFrz (fLst (fCons (fC .none) (fCons (fFrz (fLst (fCons (fTup (fCons (fC (.str "up")) (fCons (fC (.int 0)) fNil))) fNil))) (fCons (fTup (fCons (fTup (fCons (fC (.str "up")) (fCons (fC (.int 0)) fNil))) (fCons (fTup (fCons (fC (.str "first")) (fCons (fC (.int 1)) fNil))) (fCons (fC (.int 5)) fNil)))) (fCons (fTup (fCons (fTup (fCons (fC (.str "repeat")) (fCons (fC (.int 0)) (fCons (fTup fNil) fNil)))) fNil)) fNil)))))))))) [none, none, some (.ow tw18), some (.ow some18), none, none, none, none] with
  | some (ds, _) => ds
  | none => []
def rows18 : List PyData := match ((iSeq (fFrz (fLst (fCons (rdF 1) (fCons (fTup (fCons (fTup (fCons (fC (.int 3)) (fCons (fC (.int 1)) fNil))) (fCons (fTup (fCons (fC (.bool true)) (fCons (fC (.int 2)) fNil))) fNil))) (fCons (fTup (fCons (fTup (fCons (fC (.int 3)) (fCons (fC (.int 1)) fNil))) (fCons (fTup (fCons (fC (.int 1)) fNil)) fNil))) (fCons (fTup (fCons (fTup (fCons (fC (.int 3)) fNil)) (fCons (fTup (fCons (fC (.int 1)) fNil)) fNil))) (fCons (fBin repTD (fTup (fCons (fTup (fCons (fC (.int 1)) (fCons (fC (.int 2)) (fCons (fC (.int 3)) fNil)))) fNil)) (fC (.int 2))) (fCons (fSl (rdF 1) oNone (oSome (fC (.int 0)))) fNil)))))))))) [none, some (.fr recs18), none, none, none, none, none, none] with
  | some (ds, _) => ds
  | none => []
theorem steps_ok : steps18.all gdD = true := by decide +kernel
abbrev lwB0 := (sFor (iSeq (fFrz (fLst (fCons (rdF 1) (fCons (fTup (fCons (fTup (fCons (fC (.int 3)) (fCons (fC (.int 1)) fNil))) (fCons (fTup (fCons (fC (.bool true)) (fCons (fC (.int 2)) fNil))) fNil))) (fCons (fTup (fCons (fTup (fCons (fC (.int 3)) (fCons (fC (.int 1)) fNil))) (fCons (fTup (fCons (fC (.int 1)) fNil)) fNil))) (fCons (fTup (fCons (fTup (fCons (fC (.int 3)) fNil)) (fCons (fTup (fCons (fC (.int 1)) fNil)) fNil))) (fCons (fBin repTD (fTup (fCons (fTup (fCons (fC (.int 1)) (fCons (fC (.int 2)) (fCons (fC (.int 3)) fNil)))) fNil)) (fC (.int 2))) (fCons (fSl (rdF 1) oNone (oSome (fC (.int 0)))) fNil))))))))) (gSet 6) (sIf (fNot (fTst (fCB m__law_told_right (fCons (rdF 6) (fCons (rdF 4) fNil))))) (sRet (fC (.bool false))) sNil))
abbrev lwB1 := (sIf (fNot (fTst (fCB m__law_told_right (fCons (rdF 6) (fCons (rdF 4) fNil))))) (sRet (fC (.bool false))) sNil)
theorem in_loop {F v1 v2 v3 v5 v7 : Option DV} {P : PyData} (hP : gdD P = true) : ∀ (xs : List PyData) (z6 : Option DV), ∃ y6, forD (gSet 6) lwB1 xs [F, v1, v2, v3, some (.fr P), v5, z6, v7] = some (.nx [F, v1, v2, v3, some (.fr P), v5, y6, v7])
  | [], z6 => ⟨z6, rfl⟩
  | R :: xs, z6 => by
    obtain ⟨y6, e⟩ := in_loop (F := F) (v1 := v1) (v2 := v2) (v3 := v3) (v5 := v5) (v7 := v7) hP xs (some (.fr R))
    exact ⟨y6, ev_forN (e1 := [F, v1, v2, v3, some (.fr P), v5, some (.fr R), v7]) rfl (ev_ifF (say hP rfl rfl) rfl) e⟩
theorem out_loop {F v2 v3 v5 v7 : Option DV} : ∀ (xs : List PyData), xs.all gdD = true → ∀ (z4 z6 : Option DV), ∃ y4 y6, forD (gSet 4) lwB0 xs [F, some (.fr recs18), v2, v3, z4, v5, z6, v7] = some (.nx [F, some (.fr recs18), v2, v3, y4, v5, y6, v7])
  | [], _, z4, z6 => ⟨z4, z6, rfl⟩
  | P :: xs, h, z4, z6 => by
    rw [List.all_cons, Bool.and_eq_true] at h
    obtain ⟨y6, e1⟩ := in_loop (F := F) (v1 := some (.fr recs18)) (v2 := v2) (v3 := v3) (v5 := v5) (v7 := v7) h.1 rows18 z6
    obtain ⟨w4, w6, e2⟩ := out_loop (F := F) (v2 := v2) (v3 := v3) (v5 := v5) (v7 := v7) xs h.2 (some (.fr P)) y6
    exact ⟨w4, w6, ev_forN (e1 := [F, some (.fr recs18), v2, v3, some (.fr P), v5, z6, v7]) rfl (ev_for (ds := rows18) (by kernel_rfl) e1) e2⟩
def inn (x : PyData) : List PyData := [.tuple [x, .tuple [.str "up", .int 0]], .tuple [.tuple [.str "up", .int 0], x], .tuple [.tuple [.str "repeat", .int 2, .tuple [.tuple [.str "up", .int 0], x]]]]
def odds4 : List PyData := match ((iSeq (fFrz (fLst (fCons (fTup fNil) (fCons (fTup (fCons (fFrz (fLst fNil)) (fCons (fC (.int 2)) (fCons (fTup fNil) fNil)))) (fCons (fTup (fCons (fC (.dict [])) (fCons (fC (.int 2)) (fCons (fTup (fCons (fTup (fCons (fC (.str "up")) (fCons (fC (.int 0)) fNil))) fNil)) fNil)))) (fCons (fTup (fCons (fC (.dict [])) (fCons (fC (.int 0)) fNil))) fNil)))))))) L0 with
  | some (ds, _) => ds
  | none => []
theorem odds_ok : odds4.all (fun x => (inn x).all gdD) = true := by decide +kernel
abbrev lwB3 := (sIf (fOr (fNot (fTst (fCB m__law_told_right (fCons (rdF 1) (fCons (rdF 4) fNil))))) (fNot (fTst (fCB m__law_told_right (fCons (fSl (rdF 1) oNone (oSome (fC (.int 0)))) (fCons (rdF 4) fNil)))))) (sRet (fC (.bool false))) sNil)
abbrev lwB2 := (sFor (iSeq (fFrz (fLst (fCons (fTup (fCons (rdF 5) (fCons (fTup (fCons (fC (.str "up")) (fCons (fC (.int 0)) fNil))) fNil))) (fCons (fTup (fCons (fTup (fCons (fC (.str "up")) (fCons (fC (.int 0)) fNil))) (fCons (rdF 5) fNil))) (fCons (fTup (fCons (fTup (fCons (fC (.str "repeat")) (fCons (fC (.int 2)) (fCons (fTup (fCons (fTup (fCons (fC (.str "up")) (fCons (fC (.int 0)) fNil))) (fCons (rdF 5) fNil))) fNil)))) fNil)) fNil)))))) (gSet 4) (sIf (fOr (fNot (fTst (fCB m__law_told_right (fCons (rdF 1) (fCons (rdF 4) fNil))))) (fNot (fTst (fCB m__law_told_right (fCons (fSl (rdF 1) oNone (oSome (fC (.int 0)))) (fCons (rdF 4) fNil)))))) (sRet (fC (.bool false))) sNil))
theorem inn_loop {F v2 v3 v5 v6 v7 : Option DV} : ∀ (xs : List PyData), xs.all gdD = true → ∀ z4, ∃ y4, forD (gSet 4) lwB3 xs [F, some (.fr recs18), v2, v3, z4, v5, v6, v7] = some (.nx [F, some (.fr recs18), v2, v3, y4, v5, v6, v7])
  | [], _, z4 => ⟨z4, rfl⟩
  | P :: xs, h, z4 => by
    rw [List.all_cons, Bool.and_eq_true] at h
    obtain ⟨y4, e⟩ := inn_loop (F := F) (v2 := v2) (v3 := v3) (v5 := v5) (v6 := v6) (v7 := v7) xs h.2 (some (.fr P))
    let E : DEnv := [F, some (.fr recs18), v2, v3, some (.fr P), v5, v6, v7]
    exact ⟨y4, ev_forN (e1 := E) rfl (ev_ifF (ev_or0 (say h.1 (env := E) (e1 := E) rfl rfl) (say h.1 (env := E) (e1 := E) (ev_sl (a := recs18) rfl rfl (ev_oS rfl) rfl) rfl)) rfl) e⟩
theorem odd_loop {F v2 v3 v6 v7 : Option DV} : ∀ (xs : List PyData), xs.all (fun x => (inn x).all gdD) = true → ∀ z4 z5, ∃ y4 y5, forD (gSet 5) lwB2 xs [F, some (.fr recs18), v2, v3, z4, z5, v6, v7] = some (.nx [F, some (.fr recs18), v2, v3, y4, y5, v6, v7])
  | [], _, z4, z5 => ⟨z4, z5, rfl⟩
  | x :: xs, h, z4, z5 => by
    rw [List.all_cons, Bool.and_eq_true] at h
    obtain ⟨y4, e1⟩ := inn_loop (F := F) (v2 := v2) (v3 := v3) (v5 := some (.fr x)) (v6 := v6) (v7 := v7) (inn x) h.1 z4
    obtain ⟨w4, y5, e2⟩ := odd_loop (F := F) (v2 := v2) (v3 := v3) (v6 := v6) (v7 := v7) xs h.2 y4 (some (.fr x))
    exact ⟨w4, y5, ev_forN (e1 := [F, some (.fr recs18), v2, v3, z4, some (.fr x), v6, v7]) rfl (ev_for (ds := inn x) rfl e1) e2⟩
theorem law_spec (ns : List Int) : m_law [.list (ns.map .int)] = some (.bool true) := by
  have lenF : lenD [.list (ns.map .int)] = some (.int ((ns.map PyData.int).length : Nat)) := rfl
  have hc : ∀ k : Int, 0 ≤ k → k ≤ 1000 → ∃ c : Int, m__law_cell [.list (ns.map .int), .int k] = some (.int c) := fun k h0 h1 => cell_spec ns h0 h1
  generalize hF : PyData.list (ns.map .int) = F at lenF hc
  obtain ⟨y4, y6, e1⟩ := out_loop (F := some (.fr F)) (v2 := some (.fr (.list tw18))) (v3 := some (.fr (.list some18))) (v5 := none) (v7 := none) steps18 steps_ok none none
  obtain ⟨w4, y5, e2⟩ := odd_loop (F := some (.fr F)) (v2 := some (.fr (.list tw18))) (v3 := some (.fr (.list some18))) (v6 := y6) (v7 := none) odds4 odds_ok y4 none
  let E : DEnv := [some (.fr F), some (.fr recs18), some (.fr (.list tw18)), some (.fr (.list some18)), w4, y5, y6, none]
  obtain ⟨m, em, m1, m2⟩ := mm_b (a := 6) (by decide) (env := E) (n := (ns.map PyData.int).length) (ev_lenN rfl lenF)
  refine ev_runF rfl (env := E) ?_
  refine ev_seq (e1 := [some (.fr F), some (.fr recs18), none, none, none, none, none, none]) (by kernel_rfl) ?_
  refine ev_seq (e1 := [some (.fr F), some (.fr recs18), some (.ow tw18), none, none, none, none, none]) (by kernel_rfl) ?_
  refine ev_seq (e1 := [some (.fr F), some (.fr recs18), some (.ow tw18), some (.ow (some18.take 2)), none, none, none, none]) (by kernel_rfl) ?_
  refine ev_seq (e1 := [some (.fr F), some (.fr recs18), some (.ow tw18), some (.ow (some18.take 3)), none, none, none, none]) (by kernel_rfl) ?_
  refine ev_seq (e1 := [some (.fr F), some (.fr recs18), some (.ow tw18), some (.ow some18), none, none, none, none]) (by kernel_rfl) ?_
  refine ev_seq (ev_for (ds := steps18) (e1 := [some (.fr F), some (.fr recs18), some (.fr (.list tw18)), some (.fr (.list some18)), none, none, none, none]) (by kernel_rfl) e1) ?_
  refine ev_seq (ev_for (ds := odds4) (e1 := [some (.fr F), some (.fr recs18), some (.fr (.list tw18)), some (.fr (.list some18)), y4, none, y6, none]) (by kernel_rfl) e2) ?_
  subst hF
  exact law_fin (mr := m__law_right) (mp := m__law_pool) (mc := m__law_cell) (PO := PoolOk) (ns := ns) hc pool_spec (fun es hp => right_spec hp) (v := 7) (env := E) ⟨m, em, m1, by omega⟩ rfl (fun _ => rfl) (fun _ => rfl)
end DL
end L2


set_option Elab.async false
set_option maxRecDepth 100000
set_option maxHeartbeats 4000000
set_option autoImplicit false
namespace L2
namespace DL
open PySem PySem.Spec PyProof.Rows
def mkTx [Lab] {w : World} (hw : LabW.w = some w) {K : PySem.W.Frag} {h base : Heap} {mg : Str → Option Value} (X : K.In h) (G : h.Ns mainGlobals mg)
    {f0 : Addr} {od0 an0 : Option Addr} {sl0 : Array (Option Value)} {oc0 kV0 dc0 pm0 cd0 ct0 : Value}
    {f1 : Addr} {od1 an1 : Option Addr} {sl1 : Array (Option Value)} {oc1 kV1 dc1 pm1 cd1 ct1 : Value}
    {f2 : Addr} {od2 an2 : Option Addr} {sl2 : Array (Option Value)} {oc2 kV2 dc2 pm2 cd2 ct2 : Value}
    {f3 : Addr} {od3 an3 : Option Addr} {sl3 : Array (Option Value)} {oc3 kV3 dc3 pm3 cd3 ct3 : Value}
    {f4 : Addr} {od4 an4 : Option Addr} {sl4 : Array (Option Value)} {oc4 kV4 dc4 pm4 cd4 ct4 : Value}
    {f5 : Addr} {od5 an5 : Option Addr} {sl5 : Array (Option Value)} {oc5 kV5 dc5 pm5 cd5 ct5 : Value}
    {f6 : Addr} {od6 an6 : Option Addr} {sl6 : Array (Option Value)} {oc6 kV6 dc6 pm6 cd6 ct6 : Value}
    {f7 : Addr} {od7 an7 : Option Addr} {sl7 : Array (Option Value)} {oc7 kV7 dc7 pm7 cd7 ct7 : Value}
    {f8 : Addr} {od8 an8 : Option Addr} {sl8 : Array (Option Value)} {oc8 kV8 dc8 pm8 cd8 ct8 : Value}
    {f9 : Addr} {od9 an9 : Option Addr} {sl9 : Array (Option Value)} {oc9 kV9 dc9 pm9 cd9 ct9 : Value}
    {f10 : Addr} {od10 an10 : Option Addr} {sl10 : Array (Option Value)} {oc10 kV10 dc10 pm10 cd10 ct10 : Value}
    {f11 : Addr} {od11 an11 : Option Addr} {sl11 : Array (Option Value)} {oc11 kV11 dc11 pm11 cd11 ct11 : Value}
    {f12 : Addr} {od12 an12 : Option Addr} {sl12 : Array (Option Value)} {oc12 kV12 dc12 pm12 cd12 ct12 : Value}
    {f13 : Addr} {od13 an13 : Option Addr} {sl13 : Array (Option Value)} {oc13 kV13 dc13 pm13 cd13 ct13 : Value}
    {f14 : Addr} {od14 an14 : Option Addr} {sl14 : Array (Option Value)} {oc14 kV14 dc14 pm14 cd14 ct14 : Value}
    {f15 : Addr} {od15 an15 : Option Addr} {sl15 : Array (Option Value)} {oc15 kV15 dc15 pm15 cd15 ct15 : Value}
    {f16 : Addr} {od16 an16 : Option Addr} {sl16 : Array (Option Value)} {oc16 kV16 dc16 pm16 cd16 ct16 : Value}
    {f17 : Addr} {od17 an17 : Option Addr} {sl17 : Array (Option Value)} {oc17 kV17 dc17 pm17 cd17 ct17 : Value}
    {f18 : Addr} {od18 an18 : Option Addr} {sl18 : Array (Option Value)} {oc18 kV18 dc18 pm18 cd18 ct18 : Value}
    {f19 : Addr} {od19 an19 : Option Addr} {sl19 : Array (Option Value)} {oc19 kV19 dc19 pm19 cd19 ct19 : Value}
    {f20 : Addr} {od20 an20 : Option Addr} {sl20 : Array (Option Value)} {oc20 kV20 dc20 pm20 cd20 ct20 : Value}
    {f21 : Addr} {od21 an21 : Option Addr} {sl21 : Array (Option Value)} {oc21 kV21 dc21 pm21 cd21 ct21 : Value}
    {f22 : Addr} {od22 an22 : Option Addr} {sl22 : Array (Option Value)} {oc22 kV22 dc22 pm22 cd22 ct22 : Value}
    {f23 : Addr} {od23 an23 : Option Addr} {sl23 : Array (Option Value)} {oc23 kV23 dc23 pm23 cd23 ct23 : Value}
    {f24 : Addr} {od24 an24 : Option Addr} {sl24 : Array (Option Value)} {oc24 kV24 dc24 pm24 cd24 ct24 : Value}
    {f25 : Addr} {od25 an25 : Option Addr} {sl25 : Array (Option Value)} {oc25 kV25 dc25 pm25 cd25 ct25 : Value}
    {f26 : Addr} {od26 an26 : Option Addr} {sl26 : Array (Option Value)} {oc26 kV26 dc26 pm26 cd26 ct26 : Value}
    {f27 : Addr} {od27 an27 : Option Addr} {sl27 : Array (Option Value)} {oc27 kV27 dc27 pm27 cd27 ct27 : Value}
    {f28 : Addr} {od28 an28 : Option Addr} {sl28 : Array (Option Value)} {oc28 kV28 dc28 pm28 cd28 ct28 : Value}
    {f29 : Addr} {od29 an29 : Option Addr} {sl29 : Array (Option Value)} {oc29 kV29 dc29 pm29 cd29 ct29 : Value}
    {f30 : Addr} {od30 an30 : Option Addr} {sl30 : Array (Option Value)} {oc30 kV30 dc30 pm30 cd30 ct30 : Value}
    {f31 : Addr} {od31 an31 : Option Addr} {sl31 : Array (Option Value)} {oc31 kV31 dc31 pm31 cd31 ct31 : Value}
    {f32 : Addr} {od32 an32 : Option Addr} {sl32 : Array (Option Value)} {oc32 kV32 dc32 pm32 cd32 ct32 : Value}
    {f33 : Addr} {od33 an33 : Option Addr} {sl33 : Array (Option Value)} {oc33 kV33 dc33 pm33 cd33 ct33 : Value}
    {f34 : Addr} {od34 an34 : Option Addr} {sl34 : Array (Option Value)} {oc34 kV34 dc34 pm34 cd34 ct34 : Value}
    {f35 : Addr} {od35 an35 : Option Addr} {sl35 : Array (Option Value)} {oc35 kV35 dc35 pm35 cd35 ct35 : Value}
    {f36 : Addr} {od36 an36 : Option Addr} {sl36 : Array (Option Value)} {oc36 kV36 dc36 pm36 cd36 ct36 : Value}
    {f37 : Addr} {od37 an37 : Option Addr} {sl37 : Array (Option Value)} {oc37 kV37 dc37 pm37 cd37 ct37 : Value}
    {f38 : Addr} {od38 an38 : Option Addr} {sl38 : Array (Option Value)} {oc38 kV38 dc38 pm38 cd38 ct38 : Value}
    {f39 : Addr} {od39 an39 : Option Addr} {sl39 : Array (Option Value)} {oc39 kV39 dc39 pm39 cd39 ct39 : Value}
    {f40 : Addr} {od40 an40 : Option Addr} {sl40 : Array (Option Value)} {oc40 kV40 dc40 pm40 cd40 ct40 : Value}
    {f41 : Addr} {od41 an41 : Option Addr} {sl41 : Array (Option Value)} {oc41 kV41 dc41 pm41 cd41 ct41 : Value}
    {f42 : Addr} {od42 an42 : Option Addr} {sl42 : Array (Option Value)} {oc42 kV42 dc42 pm42 cd42 ct42 : Value}
    {f43 : Addr} {od43 an43 : Option Addr} {sl43 : Array (Option Value)} {oc43 kV43 dc43 pm43 cd43 ct43 : Value}
    {f44 : Addr} {od44 an44 : Option Addr} {sl44 : Array (Option Value)} {oc44 kV44 dc44 pm44 cd44 ct44 : Value}
    {f45 : Addr} {od45 an45 : Option Addr} {sl45 : Array (Option Value)} {oc45 kV45 dc45 pm45 cd45 ct45 : Value}
    {f46 : Addr} {od46 an46 : Option Addr} {sl46 : Array (Option Value)} {oc46 kV46 dc46 pm46 cd46 ct46 : Value}
    {f47 : Addr} {od47 an47 : Option Addr} {sl47 : Array (Option Value)} {oc47 kV47 dc47 pm47 cd47 ct47 : Value}
    {f48 : Addr} {od48 an48 : Option Addr} {sl48 : Array (Option Value)} {oc48 kV48 dc48 pm48 cd48 ct48 : Value}
    {f49 : Addr} {od49 an49 : Option Addr} {sl49 : Array (Option Value)} {oc49 kV49 dc49 pm49 cd49 ct49 : Value}
    {f50 : Addr} {od50 an50 : Option Addr} {sl50 : Array (Option Value)} {oc50 kV50 dc50 pm50 cd50 ct50 : Value}
    {f51 : Addr} {od51 an51 : Option Addr} {sl51 : Array (Option Value)} {oc51 kV51 dc51 pm51 cd51 ct51 : Value}
    {f52 : Addr} {od52 an52 : Option Addr} {sl52 : Array (Option Value)} {oc52 kV52 dc52 pm52 cd52 ct52 : Value}
    {f53 : Addr} {od53 an53 : Option Addr} {sl53 : Array (Option Value)} {oc53 kV53 dc53 pm53 cd53 ct53 : Value}
    {f54 : Addr} {od54 an54 : Option Addr} {sl54 : Array (Option Value)} {oc54 kV54 dc54 pm54 cd54 ct54 : Value}
    {f55 : Addr} {od55 an55 : Option Addr} {sl55 : Array (Option Value)} {oc55 kV55 dc55 pm55 cd55 ct55 : Value}
    {f56 : Addr} {od56 an56 : Option Addr} {sl56 : Array (Option Value)} {oc56 kV56 dc56 pm56 cd56 ct56 : Value}
    {C_InvalidTable : Addr}
    {C_MissingColumn : Addr}
    {C_InvalidProgram : Addr}
    {C_TableError : Addr}
    {C_FindError : Addr}
    {C_LimitError : Addr}
    {C_LastRecord : Addr}
    {C_TooManyEdits : Addr}
    {C_TooManyRecords : Addr}
    {C_NothingToUndo : Addr}
    {C_NoPlace : Addr}
    {C_InvalidCommand : Addr}
    {C_InvalidEdit : Addr}
    {C_InvalidValue : Addr}
    {C_InvalidRecord : Addr}
    {C_InvalidLimit : Addr}
    {C_InvalidText : Addr}
    {C_InvalidPlaces : Addr}
    {C_InvalidNumber : Addr}
    {C_InvalidOrder : Addr}
    {C_InvalidColumns : Addr}
    {FI_InvalidTable : Addr} {xod_InvalidTable xan_InvalidTable : Option Addr} {xsl_InvalidTable : Array (Option Value)} {xoc_InvalidTable xkV_InvalidTable xdc_InvalidTable xpm_InvalidTable xcd_InvalidTable xct_InvalidTable : Value}
    {FI_MissingColumn : Addr} {xod_MissingColumn xan_MissingColumn : Option Addr} {xsl_MissingColumn : Array (Option Value)} {xoc_MissingColumn xkV_MissingColumn xdc_MissingColumn xpm_MissingColumn xcd_MissingColumn xct_MissingColumn : Value}
    {FI_InvalidProgram : Addr} {xod_InvalidProgram xan_InvalidProgram : Option Addr} {xsl_InvalidProgram : Array (Option Value)} {xoc_InvalidProgram xkV_InvalidProgram xdc_InvalidProgram xpm_InvalidProgram xcd_InvalidProgram xct_InvalidProgram : Value}
    {c_sorted_places P_sorted_places : Addr}
    (a0 : PySem.W.nsIn K mainGlobals "is_integer" = some (some (.ref f0))) (l0 : K.lookup f0 = some ⟨oc0, od0, .func (PySem.W.fnOf "is_integer" "is_integer" (defArgs (topS 30)) (defBody (topS 30)) (defScope (topS 30)) .none kV0 dc0 pm0 an0 cd0 ct0), sl0⟩) (c0 : PySem.W.codeIn K cd0 "is_integer" = true) (k0 : PySem.W.keepIn K (.ref f0) = true)
    (a1 : PySem.W.nsIn K mainGlobals "is_record" = some (some (.ref f1))) (l1 : K.lookup f1 = some ⟨oc1, od1, .func (PySem.W.fnOf "is_record" "is_record" (defArgs (topS 31)) (defBody (topS 31)) (defScope (topS 31)) .none kV1 dc1 pm1 an1 cd1 ct1), sl1⟩) (c1 : PySem.W.codeIn K cd1 "is_record" = true) (k1 : PySem.W.keepIn K (.ref f1) = true)
    (a2 : PySem.W.nsIn K mainGlobals "check_table" = some (some (.ref f2))) (l2 : K.lookup f2 = some ⟨oc2, od2, .func (PySem.W.fnOf "check_table" "check_table" (defArgs (topS 32)) (defBody (topS 32)) (defScope (topS 32)) .none kV2 dc2 pm2 an2 cd2 ct2), sl2⟩) (c2 : PySem.W.codeIn K cd2 "check_table" = true) (k2 : PySem.W.keepIn K (.ref f2) = true)
    (a3 : PySem.W.nsIn K mainGlobals "count_columns" = some (some (.ref f3))) (l3 : K.lookup f3 = some ⟨oc3, od3, .func (PySem.W.fnOf "count_columns" "count_columns" (defArgs (topS 33)) (defBody (topS 33)) (defScope (topS 33)) .none kV3 dc3 pm3 an3 cd3 ct3), sl3⟩) (c3 : PySem.W.codeIn K cd3 "count_columns" = true) (k3 : PySem.W.keepIn K (.ref f3) = true)
    (a4 : PySem.W.nsIn K mainGlobals "every_place" = some (some (.ref f4))) (l4 : K.lookup f4 = some ⟨oc4, od4, .func (PySem.W.fnOf "every_place" "every_place" (defArgs (topS 34)) (defBody (topS 34)) (defScope (topS 34)) .none kV4 dc4 pm4 an4 cd4 ct4), sl4⟩) (c4 : PySem.W.codeIn K cd4 "every_place" = true) (k4 : PySem.W.keepIn K (.ref f4) = true)
    (a5 : PySem.W.nsIn K mainGlobals "records_at" = some (some (.ref f5))) (l5 : K.lookup f5 = some ⟨oc5, od5, .func (PySem.W.fnOf "records_at" "records_at" (defArgs (topS 35)) (defBody (topS 35)) (defScope (topS 35)) .none kV5 dc5 pm5 an5 cd5 ct5), sl5⟩) (c5 : PySem.W.codeIn K cd5 "records_at" = true) (k5 : PySem.W.keepIn K (.ref f5) = true)
    (a6 : PySem.W.nsIn K mainGlobals "check_columns_below" = some (some (.ref f6))) (l6 : K.lookup f6 = some ⟨oc6, od6, .func (PySem.W.fnOf "check_columns_below" "check_columns_below" (defArgs (topS 36)) (defBody (topS 36)) (defScope (topS 36)) .none kV6 dc6 pm6 an6 cd6 ct6), sl6⟩) (c6 : PySem.W.codeIn K cd6 "check_columns_below" = true) (k6 : PySem.W.keepIn K (.ref f6) = true)
    (a7 : PySem.W.nsIn K mainGlobals "is_word" = some (some (.ref f7))) (l7 : K.lookup f7 = some ⟨oc7, od7, .func (PySem.W.fnOf "is_word" "is_word" (defArgs (topS 39)) (defBody (topS 39)) (defScope (topS 39)) .none kV7 dc7 pm7 an7 cd7 ct7), sl7⟩) (c7 : PySem.W.codeIn K cd7 "is_word" = true) (k7 : PySem.W.keepIn K (.ref f7) = true)
    (a8 : PySem.W.nsIn K mainGlobals "is_pair" = some (some (.ref f8))) (l8 : K.lookup f8 = some ⟨oc8, od8, .func (PySem.W.fnOf "is_pair" "is_pair" (defArgs (topS 40)) (defBody (topS 40)) (defScope (topS 40)) .none kV8 dc8 pm8 an8 cd8 ct8), sl8⟩) (c8 : PySem.W.codeIn K cd8 "is_pair" = true) (k8 : PySem.W.keepIn K (.ref f8) = true)
    (a9 : PySem.W.nsIn K mainGlobals "is_sort_column" = some (some (.ref f9))) (l9 : K.lookup f9 = some ⟨oc9, od9, .func (PySem.W.fnOf "is_sort_column" "is_sort_column" (defArgs (topS 41)) (defBody (topS 41)) (defScope (topS 41)) .none kV9 dc9 pm9 an9 cd9 ct9), sl9⟩) (c9 : PySem.W.codeIn K cd9 "is_sort_column" = true) (k9 : PySem.W.keepIn K (.ref f9) = true)
    (a10 : PySem.W.nsIn K mainGlobals "is_key" = some (some (.ref f10))) (l10 : K.lookup f10 = some ⟨oc10, od10, .func (PySem.W.fnOf "is_key" "is_key" (defArgs (topS 42)) (defBody (topS 42)) (defScope (topS 42)) .none kV10 dc10 pm10 an10 cd10 ct10), sl10⟩) (c10 : PySem.W.codeIn K cd10 "is_key" = true) (k10 : PySem.W.keepIn K (.ref f10) = true)
    (a11 : PySem.W.nsIn K mainGlobals "is_place_part" = some (some (.ref f11))) (l11 : K.lookup f11 = some ⟨oc11, od11, .func (PySem.W.fnOf "is_place_part" "is_place_part" (defArgs (topS 43)) (defBody (topS 43)) (defScope (topS 43)) .none kV11 dc11 pm11 an11 cd11 ct11), sl11⟩) (c11 : PySem.W.codeIn K cd11 "is_place_part" = true) (k11 : PySem.W.keepIn K (.ref f11) = true)
    (a12 : PySem.W.nsIn K mainGlobals "check_order" = some (some (.ref f12))) (l12 : K.lookup f12 = some ⟨oc12, od12, .func (PySem.W.fnOf "check_order" "check_order" (defArgs (topS 44)) (defBody (topS 44)) (defScope (topS 44)) .none kV12 dc12 pm12 an12 cd12 ct12), sl12⟩) (c12 : PySem.W.codeIn K cd12 "check_order" = true) (k12 : PySem.W.keepIn K (.ref f12) = true)
    (a13 : PySem.W.nsIn K mainGlobals "opposite" = some (some (.ref f13))) (l13 : K.lookup f13 = some ⟨oc13, od13, .func (PySem.W.fnOf "opposite" "opposite" (defArgs (topS 45)) (defBody (topS 45)) (defScope (topS 45)) .none kV13 dc13 pm13 an13 cd13 ct13), sl13⟩) (c13 : PySem.W.codeIn K cd13 "opposite" = true) (k13 : PySem.W.keepIn K (.ref f13) = true)
    (a14 : PySem.W.nsIn K mainGlobals "turned" = some (some (.ref f14))) (l14 : K.lookup f14 = some ⟨oc14, od14, .func (PySem.W.fnOf "turned" "turned" (defArgs (topS 46)) (defBody (topS 46)) (defScope (topS 46)) .none kV14 dc14 pm14 an14 cd14 ct14), sl14⟩) (c14 : PySem.W.codeIn K cd14 "turned" = true) (k14 : PySem.W.keepIn K (.ref f14) = true)
    (a15 : PySem.W.nsIn K mainGlobals "sort_values" = some (some (.ref f15))) (l15 : K.lookup f15 = some ⟨oc15, od15, .func (PySem.W.fnOf "sort_values" "sort_values" (defArgs (topS 47)) (defBody (topS 47)) (defScope (topS 47)) .none kV15 dc15 pm15 an15 cd15 ct15), sl15⟩) (c15 : PySem.W.codeIn K cd15 "sort_values" = true) (k15 : PySem.W.keepIn K (.ref f15) = true)
    (a16 : PySem.W.nsIn K mainGlobals "sorted_places" = some (some (.ref f16))) (l16 : K.lookup f16 = some ⟨oc16, od16, .func (PySem.W.fnOf "sorted_places" "sorted_places" (defArgs (topS 48)) (defBody (topS 48)) (defScope (topS 48)) .none kV16 dc16 pm16 an16 cd16 ct16), sl16⟩) (c16 : PySem.W.codeIn K cd16 "sorted_places" = true) (k16 : PySem.W.keepIn K (.ref f16) = true)
    (a17 : PySem.W.nsIn K mainGlobals "is_size" = some (some (.ref f17))) (l17 : K.lookup f17 = some ⟨oc17, od17, .func (PySem.W.fnOf "is_size" "is_size" (defArgs (topS 53)) (defBody (topS 53)) (defScope (topS 53)) .none kV17 dc17 pm17 an17 cd17 ct17), sl17⟩) (c17 : PySem.W.codeIn K cd17 "is_size" = true) (k17 : PySem.W.keepIn K (.ref f17) = true)
    (a18 : PySem.W.nsIn K mainGlobals "is_times" = some (some (.ref f18))) (l18 : K.lookup f18 = some ⟨oc18, od18, .func (PySem.W.fnOf "is_times" "is_times" (defArgs (topS 54)) (defBody (topS 54)) (defScope (topS 54)) .none kV18 dc18 pm18 an18 cd18 ct18), sl18⟩) (c18 : PySem.W.codeIn K cd18 "is_times" = true) (k18 : PySem.W.keepIn K (.ref f18) = true)
    (a19 : PySem.W.nsIn K mainGlobals "is_plain_command" = some (some (.ref f19))) (l19 : K.lookup f19 = some ⟨oc19, od19, .func (PySem.W.fnOf "is_plain_command" "is_plain_command" (defArgs (topS 55)) (defBody (topS 55)) (defScope (topS 55)) .none kV19 dc19 pm19 an19 cd19 ct19), sl19⟩) (c19 : PySem.W.codeIn K cd19 "is_plain_command" = true) (k19 : PySem.W.keepIn K (.ref f19) = true)
    (a20 : PySem.W.nsIn K mainGlobals "begins_repeat" = some (some (.ref f20))) (l20 : K.lookup f20 = some ⟨oc20, od20, .func (PySem.W.fnOf "begins_repeat" "begins_repeat" (defArgs (topS 56)) (defBody (topS 56)) (defScope (topS 56)) .none kV20 dc20 pm20 an20 cd20 ct20), sl20⟩) (c20 : PySem.W.codeIn K cd20 "begins_repeat" = true) (k20 : PySem.W.keepIn K (.ref f20) = true)
    (a21 : PySem.W.nsIn K mainGlobals "room_behind" = some (some (.ref f21))) (l21 : K.lookup f21 = some ⟨oc21, od21, .func (PySem.W.fnOf "room_behind" "room_behind" (defArgs (topS 57)) (defBody (topS 57)) (defScope (topS 57)) .none kV21 dc21 pm21 an21 cd21 ct21), sl21⟩) (c21 : PySem.W.codeIn K cd21 "room_behind" = true) (k21 : PySem.W.keepIn K (.ref f21) = true)
    (a22 : PySem.W.nsIn K mainGlobals "room_behind_command" = some (some (.ref f22))) (l22 : K.lookup f22 = some ⟨oc22, od22, .func (PySem.W.fnOf "room_behind_command" "room_behind_command" (defArgs (topS 58)) (defBody (topS 58)) (defScope (topS 58)) .none kV22 dc22 pm22 an22 cd22 ct22), sl22⟩) (c22 : PySem.W.codeIn K cd22 "room_behind_command" = true) (k22 : PySem.W.keepIn K (.ref f22) = true)
    (a23 : PySem.W.nsIn K mainGlobals "check_program" = some (some (.ref f23))) (l23 : K.lookup f23 = some ⟨oc23, od23, .func (PySem.W.fnOf "check_program" "check_program" (defArgs (topS 59)) (defBody (topS 59)) (defScope (topS 59)) .none kV23 dc23 pm23 an23 cd23 ct23), sl23⟩) (c23 : PySem.W.codeIn K cd23 "check_program" = true) (k23 : PySem.W.keepIn K (.ref f23) = true)
    (a24 : PySem.W.nsIn K mainGlobals "count_performed" = some (some (.ref f24))) (l24 : K.lookup f24 = some ⟨oc24, od24, .func (PySem.W.fnOf "count_performed" "count_performed" (defArgs (topS 60)) (defBody (topS 60)) (defScope (topS 60)) .none kV24 dc24 pm24 an24 cd24 ct24), sl24⟩) (c24 : PySem.W.codeIn K cd24 "count_performed" = true) (k24 : PySem.W.keepIn K (.ref f24) = true)
    (a25 : PySem.W.nsIn K mainGlobals "count_commands" = some (some (.ref f25))) (l25 : K.lookup f25 = some ⟨oc25, od25, .func (PySem.W.fnOf "count_commands" "count_commands" (defArgs (topS 61)) (defBody (topS 61)) (defScope (topS 61)) .none kV25 dc25 pm25 an25 cd25 ct25), sl25⟩) (c25 : PySem.W.codeIn K cd25 "count_commands" = true) (k25 : PySem.W.keepIn K (.ref f25) = true)
    (a26 : PySem.W.nsIn K mainGlobals "program_columns" = some (some (.ref f26))) (l26 : K.lookup f26 = some ⟨oc26, od26, .func (PySem.W.fnOf "program_columns" "program_columns" (defArgs (topS 62)) (defBody (topS 62)) (defScope (topS 62)) .none kV26 dc26 pm26 an26 cd26 ct26), sl26⟩) (c26 : PySem.W.codeIn K cd26 "program_columns" = true) (k26 : PySem.W.keepIn K (.ref f26) = true)
    (a27 : PySem.W.nsIn K mainGlobals "sorted_first" = some (some (.ref f27))) (l27 : K.lookup f27 = some ⟨oc27, od27, .func (PySem.W.fnOf "sorted_first" "sorted_first" (defArgs (topS 65)) (defBody (topS 65)) (defScope (topS 65)) .none kV27 dc27 pm27 an27 cd27 ct27), sl27⟩) (c27 : PySem.W.codeIn K cd27 "sorted_first" = true) (k27 : PySem.W.keepIn K (.ref f27) = true)
    (a28 : PySem.W.nsIn K mainGlobals "after_plain" = some (some (.ref f28))) (l28 : K.lookup f28 = some ⟨oc28, od28, .func (PySem.W.fnOf "after_plain" "after_plain" (defArgs (topS 66)) (defBody (topS 66)) (defScope (topS 66)) .none kV28 dc28 pm28 an28 cd28 ct28), sl28⟩) (c28 : PySem.W.codeIn K cd28 "after_plain" = true) (k28 : PySem.W.keepIn K (.ref f28) = true)
    (a29 : PySem.W.nsIn K mainGlobals "picks_of_plain" = some (some (.ref f29))) (l29 : K.lookup f29 = some ⟨oc29, od29, .func (PySem.W.fnOf "picks_of_plain" "picks_of_plain" (defArgs (topS 67)) (defBody (topS 67)) (defScope (topS 67)) .none kV29 dc29 pm29 an29 cd29 ct29), sl29⟩) (c29 : PySem.W.codeIn K cd29 "picks_of_plain" = true) (k29 : PySem.W.keepIn K (.ref f29) = true)
    (a30 : PySem.W.nsIn K mainGlobals "after_repeat" = some (some (.ref f30))) (l30 : K.lookup f30 = some ⟨oc30, od30, .func (PySem.W.fnOf "after_repeat" "after_repeat" (defArgs (topS 68)) (defBody (topS 68)) (defScope (topS 68)) .none kV30 dc30 pm30 an30 cd30 ct30), sl30⟩) (c30 : PySem.W.codeIn K cd30 "after_repeat" = true) (k30 : PySem.W.keepIn K (.ref f30) = true)
    (a31 : PySem.W.nsIn K mainGlobals "after_command" = some (some (.ref f31))) (l31 : K.lookup f31 = some ⟨oc31, od31, .func (PySem.W.fnOf "after_command" "after_command" (defArgs (topS 69)) (defBody (topS 69)) (defScope (topS 69)) .none kV31 dc31 pm31 an31 cd31 ct31), sl31⟩) (c31 : PySem.W.codeIn K cd31 "after_command" = true) (k31 : PySem.W.keepIn K (.ref f31) = true)
    (a32 : PySem.W.nsIn K mainGlobals "after_program" = some (some (.ref f32))) (l32 : K.lookup f32 = some ⟨oc32, od32, .func (PySem.W.fnOf "after_program" "after_program" (defArgs (topS 70)) (defBody (topS 70)) (defScope (topS 70)) .none kV32 dc32 pm32 an32 cd32 ct32), sl32⟩) (c32 : PySem.W.codeIn K cd32 "after_program" = true) (k32 : PySem.W.keepIn K (.ref f32) = true)
    (a33 : PySem.W.nsIn K mainGlobals "check_run" = some (some (.ref f33))) (l33 : K.lookup f33 = some ⟨oc33, od33, .func (PySem.W.fnOf "check_run" "check_run" (defArgs (topS 72)) (defBody (topS 72)) (defScope (topS 72)) .none kV33 dc33 pm33 an33 cd33 ct33), sl33⟩) (c33 : PySem.W.codeIn K cd33 "check_run" = true) (k33 : PySem.W.keepIn K (.ref f33) = true)
    (a34 : PySem.W.nsIn K mainGlobals "picked" = some (some (.ref f34))) (l34 : K.lookup f34 = some ⟨oc34, od34, .func (PySem.W.fnOf "picked" "picked" (defArgs (topS 73)) (defBody (topS 73)) (defScope (topS 73)) .none kV34 dc34 pm34 an34 cd34 ct34), sl34⟩) (c34 : PySem.W.codeIn K cd34 "picked" = true) (k34 : PySem.W.keepIn K (.ref f34) = true)
    (a35 : PySem.W.nsIn K mainGlobals "run_places" = some (some (.ref f35))) (l35 : K.lookup f35 = some ⟨oc35, od35, .func (PySem.W.fnOf "run_places" "run_places" (defArgs (topS 74)) (defBody (topS 74)) (defScope (topS 74)) .none kV35 dc35 pm35 an35 cd35 ct35), sl35⟩) (c35 : PySem.W.codeIn K cd35 "run_places" = true) (k35 : PySem.W.keepIn K (.ref f35) = true)
    (a36 : PySem.W.nsIn K mainGlobals "run" = some (some (.ref f36))) (l36 : K.lookup f36 = some ⟨oc36, od36, .func (PySem.W.fnOf "run" "run" (defArgs (topS 75)) (defBody (topS 75)) (defScope (topS 75)) .none kV36 dc36 pm36 an36 cd36 ct36), sl36⟩) (c36 : PySem.W.codeIn K cd36 "run" = true) (k36 : PySem.W.keepIn K (.ref f36) = true)
    (a37 : PySem.W.nsIn K mainGlobals "each_table" = some (some (.ref f37))) (l37 : K.lookup f37 = some ⟨oc37, od37, .func (PySem.W.fnOf "each_table" "each_table" (defArgs (topS 76)) (defBody (topS 76)) (defScope (topS 76)) .none kV37 dc37 pm37 an37 cd37 ct37), sl37⟩) (c37 : PySem.W.codeIn K cd37 "each_table" = true) (k37 : PySem.W.keepIn K (.ref f37) = true)
    (a38 : PySem.W.nsIn K mainGlobals "written_command" = some (some (.ref f38))) (l38 : K.lookup f38 = some ⟨oc38, od38, .func (PySem.W.fnOf "written_command" "written_command" (defArgs (topS 78)) (defBody (topS 78)) (defScope (topS 78)) .none kV38 dc38 pm38 an38 cd38 ct38), sl38⟩) (c38 : PySem.W.codeIn K cd38 "written_command" = true) (k38 : PySem.W.keepIn K (.ref f38) = true)
    (a39 : PySem.W.nsIn K mainGlobals "format_program" = some (some (.ref f39))) (l39 : K.lookup f39 = some ⟨oc39, od39, .func (PySem.W.fnOf "format_program" "format_program" (defArgs (topS 79)) (defBody (topS 79)) (defScope (topS 79)) .none kV39 dc39 pm39 an39 cd39 ct39), sl39⟩) (c39 : PySem.W.codeIn K cd39 "format_program" = true) (k39 : PySem.W.keepIn K (.ref f39) = true)
    (a40 : PySem.W.nsIn K mainGlobals "_law_cell" = some (some (.ref f40))) (l40 : K.lookup f40 = some ⟨oc40, od40, .func (PySem.W.fnOf "_law_cell" "_law_cell" (defArgs (topS 81)) (defBody (topS 81)) (defScope (topS 81)) .none kV40 dc40 pm40 an40 cd40 ct40), sl40⟩) (c40 : PySem.W.codeIn K cd40 "_law_cell" = true) (k40 : PySem.W.keepIn K (.ref f40) = true)
    (a41 : PySem.W.nsIn K mainGlobals "_law_pool" = some (some (.ref f41))) (l41 : K.lookup f41 = some ⟨oc41, od41, .func (PySem.W.fnOf "_law_pool" "_law_pool" (defArgs (topS 82)) (defBody (topS 82)) (defScope (topS 82)) .none kV41 dc41 pm41 an41 cd41 ct41), sl41⟩) (c41 : PySem.W.codeIn K cd41 "_law_pool" = true) (k41 : PySem.W.keepIn K (.ref f41) = true)
    (a42 : PySem.W.nsIn K mainGlobals "_law_draw" = some (some (.ref f42))) (l42 : K.lookup f42 = some ⟨oc42, od42, .func (PySem.W.fnOf "_law_draw" "_law_draw" (defArgs (topS 83)) (defBody (topS 83)) (defScope (topS 83)) .none kV42 dc42 pm42 an42 cd42 ct42), sl42⟩) (c42 : PySem.W.codeIn K cd42 "_law_draw" = true) (k42 : PySem.W.keepIn K (.ref f42) = true)
    (a43 : PySem.W.nsIn K mainGlobals "_law_table" = some (some (.ref f43))) (l43 : K.lookup f43 = some ⟨oc43, od43, .func (PySem.W.fnOf "_law_table" "_law_table" (defArgs (topS 84)) (defBody (topS 84)) (defScope (topS 84)) .none kV43 dc43 pm43 an43 cd43 ct43), sl43⟩) (c43 : PySem.W.codeIn K cd43 "_law_table" = true) (k43 : PySem.W.keepIn K (.ref f43) = true)
    (a44 : PySem.W.nsIn K mainGlobals "_law_steps" = some (some (.ref f44))) (l44 : K.lookup f44 = some ⟨oc44, od44, .func (PySem.W.fnOf "_law_steps" "_law_steps" (defArgs (topS 85)) (defBody (topS 85)) (defScope (topS 85)) .none kV44 dc44 pm44 an44 cd44 ct44), sl44⟩) (c44 : PySem.W.codeIn K cd44 "_law_steps" = true) (k44 : PySem.W.keepIn K (.ref f44) = true)
    (a45 : PySem.W.nsIn K mainGlobals "_law_program" = some (some (.ref f45))) (l45 : K.lookup f45 = some ⟨oc45, od45, .func (PySem.W.fnOf "_law_program" "_law_program" (defArgs (topS 86)) (defBody (topS 86)) (defScope (topS 86)) .none kV45 dc45 pm45 an45 cd45 ct45), sl45⟩) (c45 : PySem.W.codeIn K cd45 "_law_program" = true) (k45 : PySem.W.keepIn K (.ref f45) = true)
    (a46 : PySem.W.nsIn K mainGlobals "_law_kind" = some (some (.ref f46))) (l46 : K.lookup f46 = some ⟨oc46, od46, .func (PySem.W.fnOf "_law_kind" "_law_kind" (defArgs (topS 87)) (defBody (topS 87)) (defScope (topS 87)) .none kV46 dc46 pm46 an46 cd46 ct46), sl46⟩) (c46 : PySem.W.codeIn K cd46 "_law_kind" = true) (k46 : PySem.W.keepIn K (.ref f46) = true)
    (a47 : PySem.W.nsIn K mainGlobals "_law_whole" = some (some (.ref f47))) (l47 : K.lookup f47 = some ⟨oc47, od47, .func (PySem.W.fnOf "_law_whole" "_law_whole" (defArgs (topS 88)) (defBody (topS 88)) (defScope (topS 88)) .none kV47 dc47 pm47 an47 cd47 ct47), sl47⟩) (c47 : PySem.W.codeIn K cd47 "_law_whole" = true) (k47 : PySem.W.keepIn K (.ref f47) = true)
    (a48 : PySem.W.nsIn K mainGlobals "_law_counted" = some (some (.ref f48))) (l48 : K.lookup f48 = some ⟨oc48, od48, .func (PySem.W.fnOf "_law_counted" "_law_counted" (defArgs (topS 89)) (defBody (topS 89)) (defScope (topS 89)) .none kV48 dc48 pm48 an48 cd48 ct48), sl48⟩) (c48 : PySem.W.codeIn K cd48 "_law_counted" = true) (k48 : PySem.W.keepIn K (.ref f48) = true)
    (a49 : PySem.W.nsIn K mainGlobals "_law_first_bad" = some (some (.ref f49))) (l49 : K.lookup f49 = some ⟨oc49, od49, .func (PySem.W.fnOf "_law_first_bad" "_law_first_bad" (defArgs (topS 90)) (defBody (topS 90)) (defScope (topS 90)) .none kV49 dc49 pm49 an49 cd49 ct49), sl49⟩) (c49 : PySem.W.codeIn K cd49 "_law_first_bad" = true) (k49 : PySem.W.keepIn K (.ref f49) = true)
    (a50 : PySem.W.nsIn K mainGlobals "_law_bent" = some (some (.ref f50))) (l50 : K.lookup f50 = some ⟨oc50, od50, .func (PySem.W.fnOf "_law_bent" "_law_bent" (defArgs (topS 91)) (defBody (topS 91)) (defScope (topS 91)) .none kV50 dc50 pm50 an50 cd50 ct50), sl50⟩) (c50 : PySem.W.codeIn K cd50 "_law_bent" = true) (k50 : PySem.W.keepIn K (.ref f50) = true)
    (a51 : PySem.W.nsIn K mainGlobals "_law_sides" = some (some (.ref f51))) (l51 : K.lookup f51 = some ⟨oc51, od51, .func (PySem.W.fnOf "_law_sides" "_law_sides" (defArgs (topS 92)) (defBody (topS 92)) (defScope (topS 92)) .none kV51 dc51 pm51 an51 cd51 ct51), sl51⟩) (c51 : PySem.W.codeIn K cd51 "_law_sides" = true) (k51 : PySem.W.keepIn K (.ref f51) = true)
    (a52 : PySem.W.nsIn K mainGlobals "_law_asked" = some (some (.ref f52))) (l52 : K.lookup f52 = some ⟨oc52, od52, .func (PySem.W.fnOf "_law_asked" "_law_asked" (defArgs (topS 93)) (defBody (topS 93)) (defScope (topS 93)) .none kV52 dc52 pm52 an52 cd52 ct52), sl52⟩) (c52 : PySem.W.codeIn K cd52 "_law_asked" = true) (k52 : PySem.W.keepIn K (.ref f52) = true)
    (a53 : PySem.W.nsIn K mainGlobals "_law_table_bad" = some (some (.ref f53))) (l53 : K.lookup f53 = some ⟨oc53, od53, .func (PySem.W.fnOf "_law_table_bad" "_law_table_bad" (defArgs (topS 94)) (defBody (topS 94)) (defScope (topS 94)) .none kV53 dc53 pm53 an53 cd53 ct53), sl53⟩) (c53 : PySem.W.codeIn K cd53 "_law_table_bad" = true) (k53 : PySem.W.keepIn K (.ref f53) = true)
    (a54 : PySem.W.nsIn K mainGlobals "_law_told_right" = some (some (.ref f54))) (l54 : K.lookup f54 = some ⟨oc54, od54, .func (PySem.W.fnOf "_law_told_right" "_law_told_right" (defArgs (topS 95)) (defBody (topS 95)) (defScope (topS 95)) .none kV54 dc54 pm54 an54 cd54 ct54), sl54⟩) (c54 : PySem.W.codeIn K cd54 "_law_told_right" = true) (k54 : PySem.W.keepIn K (.ref f54) = true)
    (a55 : PySem.W.nsIn K mainGlobals "_law_right" = some (some (.ref f55))) (l55 : K.lookup f55 = some ⟨oc55, od55, .func (PySem.W.fnOf "_law_right" "_law_right" (defArgs (topS 96)) (defBody (topS 96)) (defScope (topS 96)) .none kV55 dc55 pm55 an55 cd55 ct55), sl55⟩) (c55 : PySem.W.codeIn K cd55 "_law_right" = true) (k55 : PySem.W.keepIn K (.ref f55) = true)
    (a56 : PySem.W.nsIn K mainGlobals "law" = some (some (.ref f56))) (l56 : K.lookup f56 = some ⟨oc56, od56, .func (PySem.W.fnOf "law" "law" (defArgs (topS 97)) (defBody (topS 97)) (defScope (topS 97)) .none kV56 dc56 pm56 an56 cd56 ct56), sl56⟩) (c56 : PySem.W.codeIn K cd56 "law" = true) (k56 : PySem.W.keepIn K (.ref f56) = true)
    (n_ArithmeticError : PySem.W.nsIn K mainGlobals "ArithmeticError" = some none)
    (n_LookupError : PySem.W.nsIn K mainGlobals "LookupError" = some none)
    (n_ValueError : PySem.W.nsIn K mainGlobals "ValueError" = some none)
    (n_abs : PySem.W.nsIn K mainGlobals "abs" = some none)
    (n_all : PySem.W.nsIn K mainGlobals "all" = some none)
    (n_bool : PySem.W.nsIn K mainGlobals "bool" = some none)
    (n_divmod : PySem.W.nsIn K mainGlobals "divmod" = some none)
    (n_enumerate : PySem.W.nsIn K mainGlobals "enumerate" = some none)
    (n_int : PySem.W.nsIn K mainGlobals "int" = some none)
    (n_isinstance : PySem.W.nsIn K mainGlobals "isinstance" = some none)
    (n_len : PySem.W.nsIn K mainGlobals "len" = some none)
    (n_list : PySem.W.nsIn K mainGlobals "list" = some none)
    (n_max : PySem.W.nsIn K mainGlobals "max" = some none)
    (n_min : PySem.W.nsIn K mainGlobals "min" = some none)
    (n_range : PySem.W.nsIn K mainGlobals "range" = some none)
    (n_repr : PySem.W.nsIn K mainGlobals "repr" = some none)
    (n_set : PySem.W.nsIn K mainGlobals "set" = some none)
    (n_sorted : PySem.W.nsIn K mainGlobals "sorted" = some none)
    (n_str : PySem.W.nsIn K mainGlobals "str" = some none)
    (n_sum : PySem.W.nsIn K mainGlobals "sum" = some none)
    (n_tuple : PySem.W.nsIn K mainGlobals "tuple" = some none)
    (c_MOST_COLUMNS : ∀ [LabW], ∃ uv : Value × V, mg "MOST_COLUMNS" = some uv.1 ∧ RelV uv.2 uv.1 ∧ ∀ Z, DD K Z uv.2 cv_MOST_COLUMNS)
    (c_MOST_RECORDS : ∀ [LabW], ∃ uv : Value × V, mg "MOST_RECORDS" = some uv.1 ∧ RelV uv.2 uv.1 ∧ ∀ Z, DD K Z uv.2 cv_MOST_RECORDS)
    (c_MOST_KEYS : ∀ [LabW], ∃ uv : Value × V, mg "MOST_KEYS" = some uv.1 ∧ RelV uv.2 uv.1 ∧ ∀ Z, DD K Z uv.2 cv_MOST_KEYS)
    (c_DIRECTIONS : ∀ [LabW], ∃ uv : Value × V, mg "DIRECTIONS" = some uv.1 ∧ RelV uv.2 uv.1 ∧ ∀ Z, DD K Z uv.2 cv_DIRECTIONS)
    (c_LEAST_SIZE : ∀ [LabW], ∃ uv : Value × V, mg "LEAST_SIZE" = some uv.1 ∧ RelV uv.2 uv.1 ∧ ∀ Z, DD K Z uv.2 cv_LEAST_SIZE)
    (c_MOST_SIZE : ∀ [LabW], ∃ uv : Value × V, mg "MOST_SIZE" = some uv.1 ∧ RelV uv.2 uv.1 ∧ ∀ Z, DD K Z uv.2 cv_MOST_SIZE)
    (c_MOST_TIMES : ∀ [LabW], ∃ uv : Value × V, mg "MOST_TIMES" = some uv.1 ∧ RelV uv.2 uv.1 ∧ ∀ Z, DD K Z uv.2 cv_MOST_TIMES)
    (c_CUTS : ∀ [LabW], ∃ uv : Value × V, mg "CUTS" = some uv.1 ∧ RelV uv.2 uv.1 ∧ ∀ Z, DD K Z uv.2 cv_CUTS)
    (c_BARE_WORDS : ∀ [LabW], ∃ uv : Value × V, mg "BARE_WORDS" = some uv.1 ∧ RelV uv.2 uv.1 ∧ ∀ Z, DD K Z uv.2 cv_BARE_WORDS)
    (c_MOST_NESTED : ∀ [LabW], ∃ uv : Value × V, mg "MOST_NESTED" = some uv.1 ∧ RelV uv.2 uv.1 ∧ ∀ Z, DD K Z uv.2 cv_MOST_NESTED)
    (c_MOST_COMMANDS : ∀ [LabW], ∃ uv : Value × V, mg "MOST_COMMANDS" = some uv.1 ∧ RelV uv.2 uv.1 ∧ ∀ Z, DD K Z uv.2 cv_MOST_COMMANDS)
    (c_START : ∀ [LabW], ∃ uv : Value × V, mg "START" = some uv.1 ∧ RelV uv.2 uv.1 ∧ ∀ Z, DD K Z uv.2 cv_START)
    (xa_InvalidTable : PySem.W.nsIn K mainGlobals "InvalidTable" = some (some (.ref C_InvalidTable)))
    (xa_MissingColumn : PySem.W.nsIn K mainGlobals "MissingColumn" = some (some (.ref C_MissingColumn)))
    (xa_InvalidProgram : PySem.W.nsIn K mainGlobals "InvalidProgram" = some (some (.ref C_InvalidProgram)))
    (xa_TableError : PySem.W.nsIn K mainGlobals "TableError" = some (some (.ref C_TableError)))
    (xa_FindError : PySem.W.nsIn K mainGlobals "FindError" = some (some (.ref C_FindError)))
    (xa_LimitError : PySem.W.nsIn K mainGlobals "LimitError" = some (some (.ref C_LimitError)))
    (xa_LastRecord : PySem.W.nsIn K mainGlobals "LastRecord" = some (some (.ref C_LastRecord)))
    (xa_TooManyEdits : PySem.W.nsIn K mainGlobals "TooManyEdits" = some (some (.ref C_TooManyEdits)))
    (xa_TooManyRecords : PySem.W.nsIn K mainGlobals "TooManyRecords" = some (some (.ref C_TooManyRecords)))
    (xa_NothingToUndo : PySem.W.nsIn K mainGlobals "NothingToUndo" = some (some (.ref C_NothingToUndo)))
    (xa_NoPlace : PySem.W.nsIn K mainGlobals "NoPlace" = some (some (.ref C_NoPlace)))
    (xa_InvalidCommand : PySem.W.nsIn K mainGlobals "InvalidCommand" = some (some (.ref C_InvalidCommand)))
    (xa_InvalidEdit : PySem.W.nsIn K mainGlobals "InvalidEdit" = some (some (.ref C_InvalidEdit)))
    (xa_InvalidValue : PySem.W.nsIn K mainGlobals "InvalidValue" = some (some (.ref C_InvalidValue)))
    (xa_InvalidRecord : PySem.W.nsIn K mainGlobals "InvalidRecord" = some (some (.ref C_InvalidRecord)))
    (xa_InvalidLimit : PySem.W.nsIn K mainGlobals "InvalidLimit" = some (some (.ref C_InvalidLimit)))
    (xa_InvalidText : PySem.W.nsIn K mainGlobals "InvalidText" = some (some (.ref C_InvalidText)))
    (xa_InvalidPlaces : PySem.W.nsIn K mainGlobals "InvalidPlaces" = some (some (.ref C_InvalidPlaces)))
    (xa_InvalidNumber : PySem.W.nsIn K mainGlobals "InvalidNumber" = some (some (.ref C_InvalidNumber)))
    (xa_InvalidOrder : PySem.W.nsIn K mainGlobals "InvalidOrder" = some (some (.ref C_InvalidOrder)))
    (xa_InvalidColumns : PySem.W.nsIn K mainGlobals "InvalidColumns" = some (some (.ref C_InvalidColumns)))
    (xi_InvalidTable : PySem.W.findIn K (.ref C_InvalidTable) "__init__" = some (some (.ref FI_InvalidTable))) (xt_InvalidTable : PySem.W.typeIn K (.ref FI_InvalidTable) = some (.type "function")) (xn_InvalidTable : PySem.W.findIn K (.ref C_InvalidTable) "index" = some none) (xl_InvalidTable : K.lookup FI_InvalidTable = some ⟨xoc_InvalidTable, xod_InvalidTable, .func (PySem.W.fnOf "__init__" "InvalidTable.__init__" (defArgs (inS 2 0)) (defBody (inS 2 0)) (defScope (inS 2 0)) .none xkV_InvalidTable xdc_InvalidTable xpm_InvalidTable xan_InvalidTable xcd_InvalidTable xct_InvalidTable), xsl_InvalidTable⟩) (xc_InvalidTable : PySem.W.codeIn K xcd_InvalidTable "InvalidTable.__init__" = true) (xk_InvalidTable : PySem.W.keepIn K (.ref FI_InvalidTable) = true) (x_InvalidTable : OexC K C_InvalidTable)
    (xi_MissingColumn : PySem.W.findIn K (.ref C_MissingColumn) "__init__" = some (some (.ref FI_MissingColumn))) (xt_MissingColumn : PySem.W.typeIn K (.ref FI_MissingColumn) = some (.type "function")) (xn_MissingColumn : PySem.W.findIn K (.ref C_MissingColumn) "column" = some none) (xl_MissingColumn : K.lookup FI_MissingColumn = some ⟨xoc_MissingColumn, xod_MissingColumn, .func (PySem.W.fnOf "__init__" "MissingColumn.__init__" (defArgs (inS 15 0)) (defBody (inS 15 0)) (defScope (inS 15 0)) .none xkV_MissingColumn xdc_MissingColumn xpm_MissingColumn xan_MissingColumn xcd_MissingColumn xct_MissingColumn), xsl_MissingColumn⟩) (xc_MissingColumn : PySem.W.codeIn K xcd_MissingColumn "MissingColumn.__init__" = true) (xk_MissingColumn : PySem.W.keepIn K (.ref FI_MissingColumn) = true) (x_MissingColumn : OexL K C_MissingColumn)
    (xi_InvalidProgram : PySem.W.findIn K (.ref C_InvalidProgram) "__init__" = some (some (.ref FI_InvalidProgram))) (xt_InvalidProgram : PySem.W.typeIn K (.ref FI_InvalidProgram) = some (.type "function")) (xn_InvalidProgram : PySem.W.findIn K (.ref C_InvalidProgram) "index" = some none) (xl_InvalidProgram : K.lookup FI_InvalidProgram = some ⟨xoc_InvalidProgram, xod_InvalidProgram, .func (PySem.W.fnOf "__init__" "InvalidProgram.__init__" (defArgs (inS 5 0)) (defBody (inS 5 0)) (defScope (inS 5 0)) .none xkV_InvalidProgram xdc_InvalidProgram xpm_InvalidProgram xan_InvalidProgram xcd_InvalidProgram xct_InvalidProgram), xsl_InvalidProgram⟩) (xc_InvalidProgram : PySem.W.codeIn K xcd_InvalidProgram "InvalidProgram.__init__" = true) (xk_InvalidProgram : PySem.W.keepIn K (.ref FI_InvalidProgram) = true) (x_InvalidProgram : OexC K C_InvalidProgram)
    (xe_InvalidTable_TableError : PySem.W.exmOne K (.ref C_InvalidTable) (.ref C_TableError) = some true)
    (xe_MissingColumn_TableError : PySem.W.exmOne K (.ref C_MissingColumn) (.ref C_TableError) = some false)
    (xe_InvalidProgram_TableError : PySem.W.exmOne K (.ref C_InvalidProgram) (.ref C_TableError) = some true)
    (xe_InvalidTable_FindError : PySem.W.exmOne K (.ref C_InvalidTable) (.ref C_FindError) = some false)
    (xe_MissingColumn_FindError : PySem.W.exmOne K (.ref C_MissingColumn) (.ref C_FindError) = some true)
    (xe_InvalidProgram_FindError : PySem.W.exmOne K (.ref C_InvalidProgram) (.ref C_FindError) = some false)
    (xe_InvalidTable_LimitError : PySem.W.exmOne K (.ref C_InvalidTable) (.ref C_LimitError) = some false)
    (xe_MissingColumn_LimitError : PySem.W.exmOne K (.ref C_MissingColumn) (.ref C_LimitError) = some false)
    (xe_InvalidProgram_LimitError : PySem.W.exmOne K (.ref C_InvalidProgram) (.ref C_LimitError) = some false)
    (st_InvalidTable : PySem.W.subIn K (.ref C_InvalidTable) (.type "StopIteration") = some false)
    (st_MissingColumn : PySem.W.subIn K (.ref C_MissingColumn) (.type "StopIteration") = some false)
    (st_InvalidProgram : PySem.W.subIn K (.ref C_InvalidProgram) (.type "StopIteration") = some false)
    (kx_InvalidTable : kexB K C_InvalidTable = true)
    (kx_MissingColumn : kexB K C_MissingColumn = true)
    (kx_InvalidProgram : kexB K C_InvalidProgram = true)
    (kt_ArithmeticError : kitTab K [(C_InvalidTable, .type "ArithmeticError", false), (C_MissingColumn, .type "ArithmeticError", false), (C_InvalidProgram, .type "ArithmeticError", false)] = true)
    (kt_LookupError : kitTab K [(C_InvalidTable, .type "LookupError", false), (C_MissingColumn, .type "LookupError", true), (C_InvalidProgram, .type "LookupError", false)] = true)
    (kt_ValueError : kitTab K [(C_InvalidTable, .type "ValueError", true), (C_MissingColumn, .type "ValueError", false), (C_InvalidProgram, .type "ValueError", true)] = true)
    (kt_LimitError : kitTab K [(C_InvalidTable, .ref C_LimitError, false), (C_MissingColumn, .ref C_LimitError, false), (C_InvalidProgram, .ref C_LimitError, false)] = true)
    (kt_FindError : kitTab K [(C_InvalidTable, .ref C_FindError, false), (C_MissingColumn, .ref C_FindError, true), (C_InvalidProgram, .ref C_FindError, false)] = true)
    (kt_TableError : kitTab K [(C_InvalidTable, .ref C_TableError, true), (C_MissingColumn, .ref C_TableError, false), (C_InvalidProgram, .ref C_TableError, true)] = true)
    (kt_LastRecord : kitTab K [(C_InvalidTable, .ref C_LastRecord, false), (C_MissingColumn, .ref C_LastRecord, false), (C_InvalidProgram, .ref C_LastRecord, false)] = true)
    (kt_TooManyEdits : kitTab K [(C_InvalidTable, .ref C_TooManyEdits, false), (C_MissingColumn, .ref C_TooManyEdits, false), (C_InvalidProgram, .ref C_TooManyEdits, false)] = true)
    (kt_TooManyRecords : kitTab K [(C_InvalidTable, .ref C_TooManyRecords, false), (C_MissingColumn, .ref C_TooManyRecords, false), (C_InvalidProgram, .ref C_TooManyRecords, false)] = true)
    (kt_NothingToUndo : kitTab K [(C_InvalidTable, .ref C_NothingToUndo, false), (C_MissingColumn, .ref C_NothingToUndo, false), (C_InvalidProgram, .ref C_NothingToUndo, false)] = true)
    (kt_NoPlace : kitTab K [(C_InvalidTable, .ref C_NoPlace, false), (C_MissingColumn, .ref C_NoPlace, false), (C_InvalidProgram, .ref C_NoPlace, false)] = true)
    (kt_MissingColumn : kitTab K [(C_InvalidTable, .ref C_MissingColumn, false), (C_MissingColumn, .ref C_MissingColumn, true), (C_InvalidProgram, .ref C_MissingColumn, false)] = true)
    (kt_InvalidCommand : kitTab K [(C_InvalidTable, .ref C_InvalidCommand, false), (C_MissingColumn, .ref C_InvalidCommand, false), (C_InvalidProgram, .ref C_InvalidCommand, false)] = true)
    (kt_InvalidEdit : kitTab K [(C_InvalidTable, .ref C_InvalidEdit, false), (C_MissingColumn, .ref C_InvalidEdit, false), (C_InvalidProgram, .ref C_InvalidEdit, false)] = true)
    (kt_InvalidValue : kitTab K [(C_InvalidTable, .ref C_InvalidValue, false), (C_MissingColumn, .ref C_InvalidValue, false), (C_InvalidProgram, .ref C_InvalidValue, false)] = true)
    (kt_InvalidRecord : kitTab K [(C_InvalidTable, .ref C_InvalidRecord, false), (C_MissingColumn, .ref C_InvalidRecord, false), (C_InvalidProgram, .ref C_InvalidRecord, false)] = true)
    (kt_InvalidLimit : kitTab K [(C_InvalidTable, .ref C_InvalidLimit, false), (C_MissingColumn, .ref C_InvalidLimit, false), (C_InvalidProgram, .ref C_InvalidLimit, false)] = true)
    (kt_InvalidText : kitTab K [(C_InvalidTable, .ref C_InvalidText, false), (C_MissingColumn, .ref C_InvalidText, false), (C_InvalidProgram, .ref C_InvalidText, false)] = true)
    (kt_InvalidPlaces : kitTab K [(C_InvalidTable, .ref C_InvalidPlaces, false), (C_MissingColumn, .ref C_InvalidPlaces, false), (C_InvalidProgram, .ref C_InvalidPlaces, false)] = true)
    (kt_InvalidNumber : kitTab K [(C_InvalidTable, .ref C_InvalidNumber, false), (C_MissingColumn, .ref C_InvalidNumber, false), (C_InvalidProgram, .ref C_InvalidNumber, false)] = true)
    (kt_InvalidProgram : kitTab K [(C_InvalidTable, .ref C_InvalidProgram, false), (C_MissingColumn, .ref C_InvalidProgram, false), (C_InvalidProgram, .ref C_InvalidProgram, true)] = true)
    (kt_InvalidOrder : kitTab K [(C_InvalidTable, .ref C_InvalidOrder, false), (C_MissingColumn, .ref C_InvalidOrder, false), (C_InvalidProgram, .ref C_InvalidOrder, false)] = true)
    (kt_InvalidColumns : kitTab K [(C_InvalidTable, .ref C_InvalidColumns, false), (C_MissingColumn, .ref C_InvalidColumns, false), (C_InvalidProgram, .ref C_InvalidColumns, false)] = true)
    (kt_InvalidTable : kitTab K [(C_InvalidTable, .ref C_InvalidTable, true), (C_MissingColumn, .ref C_InvalidTable, false), (C_InvalidProgram, .ref C_InvalidTable, false)] = true)
    (cq_sorted_places : cd16 = .ref c_sorted_places) (tbx_sorted_places : LamX.TabB base mg c_sorted_places P_sorted_places) (lbx_sorted_places : (P_sorted_places, ("sorted_places" ++ ".<locals>." : Str) ++ "<lambda>") ∈ Lab.T) (lux_sorted_places : ∀ p ∈ Lab.T, p.1 = P_sorted_places → p.2 = ("sorted_places" ++ ".<locals>." : Str) ++ "<lambda>")
    (hCC : LabW.C = clsOf [("InvalidTable", C_InvalidTable), ("MissingColumn", C_MissingColumn), ("InvalidProgram", C_InvalidProgram), ("TableError", C_TableError), ("FindError", C_FindError), ("LimitError", C_LimitError), ("LastRecord", C_LastRecord), ("TooManyEdits", C_TooManyEdits), ("TooManyRecords", C_TooManyRecords), ("NothingToUndo", C_NothingToUndo), ("NoPlace", C_NoPlace), ("InvalidCommand", C_InvalidCommand), ("InvalidEdit", C_InvalidEdit), ("InvalidValue", C_InvalidValue), ("InvalidRecord", C_InvalidRecord), ("InvalidLimit", C_InvalidLimit), ("InvalidText", C_InvalidText), ("InvalidPlaces", C_InvalidPlaces), ("InvalidNumber", C_InvalidNumber), ("InvalidOrder", C_InvalidOrder), ("InvalidColumns", C_InvalidColumns)] 0) : Tx Lab.T K mg base w where
  hw := hw
  A := fun i => match i with
    | 0 => f0
    | 1 => f1
    | 2 => f2
    | 3 => f3
    | 4 => f4
    | 5 => f5
    | 6 => f6
    | 7 => f7
    | 8 => f8
    | 9 => f9
    | 10 => f10
    | 11 => f11
    | 12 => f12
    | 13 => f13
    | 14 => f14
    | 15 => f15
    | 16 => f16
    | 17 => f17
    | 18 => f18
    | 19 => f19
    | 20 => f20
    | 21 => f21
    | 22 => f22
    | 23 => f23
    | 24 => f24
    | 25 => f25
    | 26 => f26
    | 27 => f27
    | 28 => f28
    | 29 => f29
    | 30 => f30
    | 31 => f31
    | 32 => f32
    | 33 => f33
    | 34 => f34
    | 35 => f35
    | 36 => f36
    | 37 => f37
    | 38 => f38
    | 39 => f39
    | 40 => f40
    | 41 => f41
    | 42 => f42
    | 43 => f43
    | 44 => f44
    | 45 => f45
    | 46 => f46
    | 47 => f47
    | 48 => f48
    | 49 => f49
    | 50 => f50
    | 51 => f51
    | 52 => f52
    | 53 => f53
    | 54 => f54
    | 55 => f55
    | 56 => f56
    | _ => f0
  FD := fun i => match i with
    | 0 => (PySem.W.fnOf "is_integer" "is_integer" (defArgs (topS 30)) (defBody (topS 30)) (defScope (topS 30)) .none kV0 dc0 pm0 an0 cd0 ct0)
    | 1 => (PySem.W.fnOf "is_record" "is_record" (defArgs (topS 31)) (defBody (topS 31)) (defScope (topS 31)) .none kV1 dc1 pm1 an1 cd1 ct1)
    | 2 => (PySem.W.fnOf "check_table" "check_table" (defArgs (topS 32)) (defBody (topS 32)) (defScope (topS 32)) .none kV2 dc2 pm2 an2 cd2 ct2)
    | 3 => (PySem.W.fnOf "count_columns" "count_columns" (defArgs (topS 33)) (defBody (topS 33)) (defScope (topS 33)) .none kV3 dc3 pm3 an3 cd3 ct3)
    | 4 => (PySem.W.fnOf "every_place" "every_place" (defArgs (topS 34)) (defBody (topS 34)) (defScope (topS 34)) .none kV4 dc4 pm4 an4 cd4 ct4)
    | 5 => (PySem.W.fnOf "records_at" "records_at" (defArgs (topS 35)) (defBody (topS 35)) (defScope (topS 35)) .none kV5 dc5 pm5 an5 cd5 ct5)
    | 6 => (PySem.W.fnOf "check_columns_below" "check_columns_below" (defArgs (topS 36)) (defBody (topS 36)) (defScope (topS 36)) .none kV6 dc6 pm6 an6 cd6 ct6)
    | 7 => (PySem.W.fnOf "is_word" "is_word" (defArgs (topS 39)) (defBody (topS 39)) (defScope (topS 39)) .none kV7 dc7 pm7 an7 cd7 ct7)
    | 8 => (PySem.W.fnOf "is_pair" "is_pair" (defArgs (topS 40)) (defBody (topS 40)) (defScope (topS 40)) .none kV8 dc8 pm8 an8 cd8 ct8)
    | 9 => (PySem.W.fnOf "is_sort_column" "is_sort_column" (defArgs (topS 41)) (defBody (topS 41)) (defScope (topS 41)) .none kV9 dc9 pm9 an9 cd9 ct9)
    | 10 => (PySem.W.fnOf "is_key" "is_key" (defArgs (topS 42)) (defBody (topS 42)) (defScope (topS 42)) .none kV10 dc10 pm10 an10 cd10 ct10)
    | 11 => (PySem.W.fnOf "is_place_part" "is_place_part" (defArgs (topS 43)) (defBody (topS 43)) (defScope (topS 43)) .none kV11 dc11 pm11 an11 cd11 ct11)
    | 12 => (PySem.W.fnOf "check_order" "check_order" (defArgs (topS 44)) (defBody (topS 44)) (defScope (topS 44)) .none kV12 dc12 pm12 an12 cd12 ct12)
    | 13 => (PySem.W.fnOf "opposite" "opposite" (defArgs (topS 45)) (defBody (topS 45)) (defScope (topS 45)) .none kV13 dc13 pm13 an13 cd13 ct13)
    | 14 => (PySem.W.fnOf "turned" "turned" (defArgs (topS 46)) (defBody (topS 46)) (defScope (topS 46)) .none kV14 dc14 pm14 an14 cd14 ct14)
    | 15 => (PySem.W.fnOf "sort_values" "sort_values" (defArgs (topS 47)) (defBody (topS 47)) (defScope (topS 47)) .none kV15 dc15 pm15 an15 cd15 ct15)
    | 16 => (PySem.W.fnOf "sorted_places" "sorted_places" (defArgs (topS 48)) (defBody (topS 48)) (defScope (topS 48)) .none kV16 dc16 pm16 an16 cd16 ct16)
    | 17 => (PySem.W.fnOf "is_size" "is_size" (defArgs (topS 53)) (defBody (topS 53)) (defScope (topS 53)) .none kV17 dc17 pm17 an17 cd17 ct17)
    | 18 => (PySem.W.fnOf "is_times" "is_times" (defArgs (topS 54)) (defBody (topS 54)) (defScope (topS 54)) .none kV18 dc18 pm18 an18 cd18 ct18)
    | 19 => (PySem.W.fnOf "is_plain_command" "is_plain_command" (defArgs (topS 55)) (defBody (topS 55)) (defScope (topS 55)) .none kV19 dc19 pm19 an19 cd19 ct19)
    | 20 => (PySem.W.fnOf "begins_repeat" "begins_repeat" (defArgs (topS 56)) (defBody (topS 56)) (defScope (topS 56)) .none kV20 dc20 pm20 an20 cd20 ct20)
    | 21 => (PySem.W.fnOf "room_behind" "room_behind" (defArgs (topS 57)) (defBody (topS 57)) (defScope (topS 57)) .none kV21 dc21 pm21 an21 cd21 ct21)
    | 22 => (PySem.W.fnOf "room_behind_command" "room_behind_command" (defArgs (topS 58)) (defBody (topS 58)) (defScope (topS 58)) .none kV22 dc22 pm22 an22 cd22 ct22)
    | 23 => (PySem.W.fnOf "check_program" "check_program" (defArgs (topS 59)) (defBody (topS 59)) (defScope (topS 59)) .none kV23 dc23 pm23 an23 cd23 ct23)
    | 24 => (PySem.W.fnOf "count_performed" "count_performed" (defArgs (topS 60)) (defBody (topS 60)) (defScope (topS 60)) .none kV24 dc24 pm24 an24 cd24 ct24)
    | 25 => (PySem.W.fnOf "count_commands" "count_commands" (defArgs (topS 61)) (defBody (topS 61)) (defScope (topS 61)) .none kV25 dc25 pm25 an25 cd25 ct25)
    | 26 => (PySem.W.fnOf "program_columns" "program_columns" (defArgs (topS 62)) (defBody (topS 62)) (defScope (topS 62)) .none kV26 dc26 pm26 an26 cd26 ct26)
    | 27 => (PySem.W.fnOf "sorted_first" "sorted_first" (defArgs (topS 65)) (defBody (topS 65)) (defScope (topS 65)) .none kV27 dc27 pm27 an27 cd27 ct27)
    | 28 => (PySem.W.fnOf "after_plain" "after_plain" (defArgs (topS 66)) (defBody (topS 66)) (defScope (topS 66)) .none kV28 dc28 pm28 an28 cd28 ct28)
    | 29 => (PySem.W.fnOf "picks_of_plain" "picks_of_plain" (defArgs (topS 67)) (defBody (topS 67)) (defScope (topS 67)) .none kV29 dc29 pm29 an29 cd29 ct29)
    | 30 => (PySem.W.fnOf "after_repeat" "after_repeat" (defArgs (topS 68)) (defBody (topS 68)) (defScope (topS 68)) .none kV30 dc30 pm30 an30 cd30 ct30)
    | 31 => (PySem.W.fnOf "after_command" "after_command" (defArgs (topS 69)) (defBody (topS 69)) (defScope (topS 69)) .none kV31 dc31 pm31 an31 cd31 ct31)
    | 32 => (PySem.W.fnOf "after_program" "after_program" (defArgs (topS 70)) (defBody (topS 70)) (defScope (topS 70)) .none kV32 dc32 pm32 an32 cd32 ct32)
    | 33 => (PySem.W.fnOf "check_run" "check_run" (defArgs (topS 72)) (defBody (topS 72)) (defScope (topS 72)) .none kV33 dc33 pm33 an33 cd33 ct33)
    | 34 => (PySem.W.fnOf "picked" "picked" (defArgs (topS 73)) (defBody (topS 73)) (defScope (topS 73)) .none kV34 dc34 pm34 an34 cd34 ct34)
    | 35 => (PySem.W.fnOf "run_places" "run_places" (defArgs (topS 74)) (defBody (topS 74)) (defScope (topS 74)) .none kV35 dc35 pm35 an35 cd35 ct35)
    | 36 => (PySem.W.fnOf "run" "run" (defArgs (topS 75)) (defBody (topS 75)) (defScope (topS 75)) .none kV36 dc36 pm36 an36 cd36 ct36)
    | 37 => (PySem.W.fnOf "each_table" "each_table" (defArgs (topS 76)) (defBody (topS 76)) (defScope (topS 76)) .none kV37 dc37 pm37 an37 cd37 ct37)
    | 38 => (PySem.W.fnOf "written_command" "written_command" (defArgs (topS 78)) (defBody (topS 78)) (defScope (topS 78)) .none kV38 dc38 pm38 an38 cd38 ct38)
    | 39 => (PySem.W.fnOf "format_program" "format_program" (defArgs (topS 79)) (defBody (topS 79)) (defScope (topS 79)) .none kV39 dc39 pm39 an39 cd39 ct39)
    | 40 => (PySem.W.fnOf "_law_cell" "_law_cell" (defArgs (topS 81)) (defBody (topS 81)) (defScope (topS 81)) .none kV40 dc40 pm40 an40 cd40 ct40)
    | 41 => (PySem.W.fnOf "_law_pool" "_law_pool" (defArgs (topS 82)) (defBody (topS 82)) (defScope (topS 82)) .none kV41 dc41 pm41 an41 cd41 ct41)
    | 42 => (PySem.W.fnOf "_law_draw" "_law_draw" (defArgs (topS 83)) (defBody (topS 83)) (defScope (topS 83)) .none kV42 dc42 pm42 an42 cd42 ct42)
    | 43 => (PySem.W.fnOf "_law_table" "_law_table" (defArgs (topS 84)) (defBody (topS 84)) (defScope (topS 84)) .none kV43 dc43 pm43 an43 cd43 ct43)
    | 44 => (PySem.W.fnOf "_law_steps" "_law_steps" (defArgs (topS 85)) (defBody (topS 85)) (defScope (topS 85)) .none kV44 dc44 pm44 an44 cd44 ct44)
    | 45 => (PySem.W.fnOf "_law_program" "_law_program" (defArgs (topS 86)) (defBody (topS 86)) (defScope (topS 86)) .none kV45 dc45 pm45 an45 cd45 ct45)
    | 46 => (PySem.W.fnOf "_law_kind" "_law_kind" (defArgs (topS 87)) (defBody (topS 87)) (defScope (topS 87)) .none kV46 dc46 pm46 an46 cd46 ct46)
    | 47 => (PySem.W.fnOf "_law_whole" "_law_whole" (defArgs (topS 88)) (defBody (topS 88)) (defScope (topS 88)) .none kV47 dc47 pm47 an47 cd47 ct47)
    | 48 => (PySem.W.fnOf "_law_counted" "_law_counted" (defArgs (topS 89)) (defBody (topS 89)) (defScope (topS 89)) .none kV48 dc48 pm48 an48 cd48 ct48)
    | 49 => (PySem.W.fnOf "_law_first_bad" "_law_first_bad" (defArgs (topS 90)) (defBody (topS 90)) (defScope (topS 90)) .none kV49 dc49 pm49 an49 cd49 ct49)
    | 50 => (PySem.W.fnOf "_law_bent" "_law_bent" (defArgs (topS 91)) (defBody (topS 91)) (defScope (topS 91)) .none kV50 dc50 pm50 an50 cd50 ct50)
    | 51 => (PySem.W.fnOf "_law_sides" "_law_sides" (defArgs (topS 92)) (defBody (topS 92)) (defScope (topS 92)) .none kV51 dc51 pm51 an51 cd51 ct51)
    | 52 => (PySem.W.fnOf "_law_asked" "_law_asked" (defArgs (topS 93)) (defBody (topS 93)) (defScope (topS 93)) .none kV52 dc52 pm52 an52 cd52 ct52)
    | 53 => (PySem.W.fnOf "_law_table_bad" "_law_table_bad" (defArgs (topS 94)) (defBody (topS 94)) (defScope (topS 94)) .none kV53 dc53 pm53 an53 cd53 ct53)
    | 54 => (PySem.W.fnOf "_law_told_right" "_law_told_right" (defArgs (topS 95)) (defBody (topS 95)) (defScope (topS 95)) .none kV54 dc54 pm54 an54 cd54 ct54)
    | 55 => (PySem.W.fnOf "_law_right" "_law_right" (defArgs (topS 96)) (defBody (topS 96)) (defScope (topS 96)) .none kV55 dc55 pm55 an55 cd55 ct55)
    | 56 => (PySem.W.fnOf "law" "law" (defArgs (topS 97)) (defBody (topS 97)) (defScope (topS 97)) .none kV56 dc56 pm56 an56 cd56 ct56)
    | _ => (PySem.W.fnOf "is_integer" "is_integer" (defArgs (topS 30)) (defBody (topS 30)) (defScope (topS 30)) .none kV0 dc0 pm0 an0 cd0 ct0)
  D_is_integer := fun_mk (st := (topS 30)) l0 c0 k0
  g_is_integer := PySem.W.mg_of X G a0
  D_is_record := fun_mk (st := (topS 31)) l1 c1 k1
  g_is_record := PySem.W.mg_of X G a1
  D_check_table := fun_mk (st := (topS 32)) l2 c2 k2
  g_check_table := PySem.W.mg_of X G a2
  D_count_columns := fun_mk (st := (topS 33)) l3 c3 k3
  g_count_columns := PySem.W.mg_of X G a3
  D_every_place := fun_mk (st := (topS 34)) l4 c4 k4
  g_every_place := PySem.W.mg_of X G a4
  D_records_at := fun_mk (st := (topS 35)) l5 c5 k5
  g_records_at := PySem.W.mg_of X G a5
  D_check_columns_below := fun_mk (st := (topS 36)) l6 c6 k6
  g_check_columns_below := PySem.W.mg_of X G a6
  D_is_word := fun_mk (st := (topS 39)) l7 c7 k7
  g_is_word := PySem.W.mg_of X G a7
  D_is_pair := fun_mk (st := (topS 40)) l8 c8 k8
  g_is_pair := PySem.W.mg_of X G a8
  D_is_sort_column := fun_mk (st := (topS 41)) l9 c9 k9
  g_is_sort_column := PySem.W.mg_of X G a9
  D_is_key := fun_mk (st := (topS 42)) l10 c10 k10
  g_is_key := PySem.W.mg_of X G a10
  D_is_place_part := fun_mk (st := (topS 43)) l11 c11 k11
  g_is_place_part := PySem.W.mg_of X G a11
  D_check_order := fun_mk (st := (topS 44)) l12 c12 k12
  g_check_order := PySem.W.mg_of X G a12
  D_opposite := fun_mk (st := (topS 45)) l13 c13 k13
  g_opposite := PySem.W.mg_of X G a13
  D_turned := fun_mk (st := (topS 46)) l14 c14 k14
  g_turned := PySem.W.mg_of X G a14
  D_sort_values := fun_mk (st := (topS 47)) l15 c15 k15
  g_sort_values := PySem.W.mg_of X G a15
  D_sorted_places := fun_mk (st := (topS 48)) l16 c16 k16
  g_sorted_places := PySem.W.mg_of X G a16
  D_is_size := fun_mk (st := (topS 53)) l17 c17 k17
  g_is_size := PySem.W.mg_of X G a17
  D_is_times := fun_mk (st := (topS 54)) l18 c18 k18
  g_is_times := PySem.W.mg_of X G a18
  D_is_plain_command := fun_mk (st := (topS 55)) l19 c19 k19
  g_is_plain_command := PySem.W.mg_of X G a19
  D_begins_repeat := fun_mk (st := (topS 56)) l20 c20 k20
  g_begins_repeat := PySem.W.mg_of X G a20
  D_room_behind := fun_mk (st := (topS 57)) l21 c21 k21
  g_room_behind := PySem.W.mg_of X G a21
  D_room_behind_command := fun_mk (st := (topS 58)) l22 c22 k22
  g_room_behind_command := PySem.W.mg_of X G a22
  D_check_program := fun_mk (st := (topS 59)) l23 c23 k23
  g_check_program := PySem.W.mg_of X G a23
  D_count_performed := fun_mk (st := (topS 60)) l24 c24 k24
  g_count_performed := PySem.W.mg_of X G a24
  D_count_commands := fun_mk (st := (topS 61)) l25 c25 k25
  g_count_commands := PySem.W.mg_of X G a25
  D_program_columns := fun_mk (st := (topS 62)) l26 c26 k26
  g_program_columns := PySem.W.mg_of X G a26
  D_sorted_first := fun_mk (st := (topS 65)) l27 c27 k27
  g_sorted_first := PySem.W.mg_of X G a27
  D_after_plain := fun_mk (st := (topS 66)) l28 c28 k28
  g_after_plain := PySem.W.mg_of X G a28
  D_picks_of_plain := fun_mk (st := (topS 67)) l29 c29 k29
  g_picks_of_plain := PySem.W.mg_of X G a29
  D_after_repeat := fun_mk (st := (topS 68)) l30 c30 k30
  g_after_repeat := PySem.W.mg_of X G a30
  D_after_command := fun_mk (st := (topS 69)) l31 c31 k31
  g_after_command := PySem.W.mg_of X G a31
  D_after_program := fun_mk (st := (topS 70)) l32 c32 k32
  g_after_program := PySem.W.mg_of X G a32
  D_check_run := fun_mk (st := (topS 72)) l33 c33 k33
  g_check_run := PySem.W.mg_of X G a33
  D_picked := fun_mk (st := (topS 73)) l34 c34 k34
  g_picked := PySem.W.mg_of X G a34
  D_run_places := fun_mk (st := (topS 74)) l35 c35 k35
  g_run_places := PySem.W.mg_of X G a35
  D_run := fun_mk (st := (topS 75)) l36 c36 k36
  g_run := PySem.W.mg_of X G a36
  D_each_table := fun_mk (st := (topS 76)) l37 c37 k37
  g_each_table := PySem.W.mg_of X G a37
  D_written_command := fun_mk (st := (topS 78)) l38 c38 k38
  g_written_command := PySem.W.mg_of X G a38
  D_format_program := fun_mk (st := (topS 79)) l39 c39 k39
  g_format_program := PySem.W.mg_of X G a39
  D__law_cell := fun_mk (st := (topS 81)) l40 c40 k40
  g__law_cell := PySem.W.mg_of X G a40
  D__law_pool := fun_mk (st := (topS 82)) l41 c41 k41
  g__law_pool := PySem.W.mg_of X G a41
  D__law_draw := fun_mk (st := (topS 83)) l42 c42 k42
  g__law_draw := PySem.W.mg_of X G a42
  D__law_table := fun_mk (st := (topS 84)) l43 c43 k43
  g__law_table := PySem.W.mg_of X G a43
  D__law_steps := fun_mk (st := (topS 85)) l44 c44 k44
  g__law_steps := PySem.W.mg_of X G a44
  D__law_program := fun_mk (st := (topS 86)) l45 c45 k45
  g__law_program := PySem.W.mg_of X G a45
  D__law_kind := fun_mk (st := (topS 87)) l46 c46 k46
  g__law_kind := PySem.W.mg_of X G a46
  D__law_whole := fun_mk (st := (topS 88)) l47 c47 k47
  g__law_whole := PySem.W.mg_of X G a47
  D__law_counted := fun_mk (st := (topS 89)) l48 c48 k48
  g__law_counted := PySem.W.mg_of X G a48
  D__law_first_bad := fun_mk (st := (topS 90)) l49 c49 k49
  g__law_first_bad := PySem.W.mg_of X G a49
  D__law_bent := fun_mk (st := (topS 91)) l50 c50 k50
  g__law_bent := PySem.W.mg_of X G a50
  D__law_sides := fun_mk (st := (topS 92)) l51 c51 k51
  g__law_sides := PySem.W.mg_of X G a51
  D__law_asked := fun_mk (st := (topS 93)) l52 c52 k52
  g__law_asked := PySem.W.mg_of X G a52
  D__law_table_bad := fun_mk (st := (topS 94)) l53 c53 k53
  g__law_table_bad := PySem.W.mg_of X G a53
  D__law_told_right := fun_mk (st := (topS 95)) l54 c54 k54
  g__law_told_right := PySem.W.mg_of X G a54
  D__law_right := fun_mk (st := (topS 96)) l55 c55 k55
  g__law_right := PySem.W.mg_of X G a55
  D_law := fun_mk (st := (topS 97)) l56 c56 k56
  g_law := PySem.W.mg_of X G a56
  n_ArithmeticError := PySem.W.mg_none_of X G n_ArithmeticError
  n_LookupError := PySem.W.mg_none_of X G n_LookupError
  n_ValueError := PySem.W.mg_none_of X G n_ValueError
  n_abs := PySem.W.mg_none_of X G n_abs
  n_all := PySem.W.mg_none_of X G n_all
  n_bool := PySem.W.mg_none_of X G n_bool
  n_divmod := PySem.W.mg_none_of X G n_divmod
  n_enumerate := PySem.W.mg_none_of X G n_enumerate
  n_int := PySem.W.mg_none_of X G n_int
  n_isinstance := PySem.W.mg_none_of X G n_isinstance
  n_len := PySem.W.mg_none_of X G n_len
  n_list := PySem.W.mg_none_of X G n_list
  n_max := PySem.W.mg_none_of X G n_max
  n_min := PySem.W.mg_none_of X G n_min
  n_range := PySem.W.mg_none_of X G n_range
  n_repr := PySem.W.mg_none_of X G n_repr
  n_set := PySem.W.mg_none_of X G n_set
  n_sorted := PySem.W.mg_none_of X G n_sorted
  n_str := PySem.W.mg_none_of X G n_str
  n_sum := PySem.W.mg_none_of X G n_sum
  n_tuple := PySem.W.mg_none_of X G n_tuple
  c_MOST_COLUMNS := c_MOST_COLUMNS
  c_MOST_RECORDS := c_MOST_RECORDS
  c_MOST_KEYS := c_MOST_KEYS
  c_DIRECTIONS := c_DIRECTIONS
  c_LEAST_SIZE := c_LEAST_SIZE
  c_MOST_SIZE := c_MOST_SIZE
  c_MOST_TIMES := c_MOST_TIMES
  c_CUTS := c_CUTS
  c_BARE_WORDS := c_BARE_WORDS
  c_MOST_NESTED := c_MOST_NESTED
  c_MOST_COMMANDS := c_MOST_COMMANDS
  c_START := c_START
  xm_InvalidTable := PySem.W.mg_of X G xa_InvalidTable
  xm_MissingColumn := PySem.W.mg_of X G xa_MissingColumn
  xm_InvalidProgram := PySem.W.mg_of X G xa_InvalidProgram
  xm_TableError := PySem.W.mg_of X G xa_TableError
  xm_FindError := PySem.W.mg_of X G xa_FindError
  xm_LimitError := PySem.W.mg_of X G xa_LimitError
  xm_LastRecord := PySem.W.mg_of X G xa_LastRecord
  xm_TooManyEdits := PySem.W.mg_of X G xa_TooManyEdits
  xm_TooManyRecords := PySem.W.mg_of X G xa_TooManyRecords
  xm_NothingToUndo := PySem.W.mg_of X G xa_NothingToUndo
  xm_NoPlace := PySem.W.mg_of X G xa_NoPlace
  xm_InvalidCommand := PySem.W.mg_of X G xa_InvalidCommand
  xm_InvalidEdit := PySem.W.mg_of X G xa_InvalidEdit
  xm_InvalidValue := PySem.W.mg_of X G xa_InvalidValue
  xm_InvalidRecord := PySem.W.mg_of X G xa_InvalidRecord
  xm_InvalidLimit := PySem.W.mg_of X G xa_InvalidLimit
  xm_InvalidText := PySem.W.mg_of X G xa_InvalidText
  xm_InvalidPlaces := PySem.W.mg_of X G xa_InvalidPlaces
  xm_InvalidNumber := PySem.W.mg_of X G xa_InvalidNumber
  xm_InvalidOrder := PySem.W.mg_of X G xa_InvalidOrder
  xm_InvalidColumns := PySem.W.mg_of X G xa_InvalidColumns
  xi_InvalidTable := xi_InvalidTable
  xt_InvalidTable := xt_InvalidTable
  xn_InvalidTable := xn_InvalidTable
  xD_InvalidTable := fun_mk (st := (inS 2 0)) xl_InvalidTable xc_InvalidTable xk_InvalidTable
  x_InvalidTable := x_InvalidTable
  xi_MissingColumn := xi_MissingColumn
  xt_MissingColumn := xt_MissingColumn
  xn_MissingColumn := xn_MissingColumn
  xD_MissingColumn := fun_mk (st := (inS 15 0)) xl_MissingColumn xc_MissingColumn xk_MissingColumn
  x_MissingColumn := x_MissingColumn
  xi_InvalidProgram := xi_InvalidProgram
  xt_InvalidProgram := xt_InvalidProgram
  xn_InvalidProgram := xn_InvalidProgram
  xD_InvalidProgram := fun_mk (st := (inS 5 0)) xl_InvalidProgram xc_InvalidProgram xk_InvalidProgram
  x_InvalidProgram := x_InvalidProgram
  xe_InvalidTable_TableError := xe_InvalidTable_TableError
  xe_MissingColumn_TableError := xe_MissingColumn_TableError
  xe_InvalidProgram_TableError := xe_InvalidProgram_TableError
  xe_InvalidTable_FindError := xe_InvalidTable_FindError
  xe_MissingColumn_FindError := xe_MissingColumn_FindError
  xe_InvalidProgram_FindError := xe_InvalidProgram_FindError
  xe_InvalidTable_LimitError := xe_InvalidTable_LimitError
  xe_MissingColumn_LimitError := xe_MissingColumn_LimitError
  xe_InvalidProgram_LimitError := xe_InvalidProgram_LimitError
  st_InvalidTable := st_InvalidTable
  st_MissingColumn := st_MissingColumn
  st_InvalidProgram := st_InvalidProgram
  hC := hCC.symm
  kx_InvalidTable := kx_InvalidTable
  kx_MissingColumn := kx_MissingColumn
  kx_InvalidProgram := kx_InvalidProgram
  kt_ArithmeticError := kt_ArithmeticError
  kt_LookupError := kt_LookupError
  kt_ValueError := kt_ValueError
  kt_LimitError := kt_LimitError
  kt_FindError := kt_FindError
  kt_TableError := kt_TableError
  kt_LastRecord := kt_LastRecord
  kt_TooManyEdits := kt_TooManyEdits
  kt_TooManyRecords := kt_TooManyRecords
  kt_NothingToUndo := kt_NothingToUndo
  kt_NoPlace := kt_NoPlace
  kt_MissingColumn := kt_MissingColumn
  kt_InvalidCommand := kt_InvalidCommand
  kt_InvalidEdit := kt_InvalidEdit
  kt_InvalidValue := kt_InvalidValue
  kt_InvalidRecord := kt_InvalidRecord
  kt_InvalidLimit := kt_InvalidLimit
  kt_InvalidText := kt_InvalidText
  kt_InvalidPlaces := kt_InvalidPlaces
  kt_InvalidNumber := kt_InvalidNumber
  kt_InvalidProgram := kt_InvalidProgram
  kt_InvalidOrder := kt_InvalidOrder
  kt_InvalidColumns := kt_InvalidColumns
  kt_InvalidTable := kt_InvalidTable
  C := clsOf [("InvalidTable", C_InvalidTable), ("MissingColumn", C_MissingColumn), ("InvalidProgram", C_InvalidProgram), ("TableError", C_TableError), ("FindError", C_FindError), ("LimitError", C_LimitError), ("LastRecord", C_LastRecord), ("TooManyEdits", C_TooManyEdits), ("TooManyRecords", C_TooManyRecords), ("NothingToUndo", C_NothingToUndo), ("NoPlace", C_NoPlace), ("InvalidCommand", C_InvalidCommand), ("InvalidEdit", C_InvalidEdit), ("InvalidValue", C_InvalidValue), ("InvalidRecord", C_InvalidRecord), ("InvalidLimit", C_InvalidLimit), ("InvalidText", C_InvalidText), ("InvalidPlaces", C_InvalidPlaces), ("InvalidNumber", C_InvalidNumber), ("InvalidOrder", C_InvalidOrder), ("InvalidColumns", C_InvalidColumns)] 0
  FI := clsOf [("InvalidTable", FI_InvalidTable), ("MissingColumn", FI_MissingColumn), ("InvalidProgram", FI_InvalidProgram)] 0
  FDI := clsOf [("InvalidTable", (PySem.W.fnOf "__init__" "InvalidTable.__init__" (defArgs (inS 2 0)) (defBody (inS 2 0)) (defScope (inS 2 0)) .none xkV_InvalidTable xdc_InvalidTable xpm_InvalidTable xan_InvalidTable xcd_InvalidTable xct_InvalidTable)), ("MissingColumn", (PySem.W.fnOf "__init__" "MissingColumn.__init__" (defArgs (inS 15 0)) (defBody (inS 15 0)) (defScope (inS 15 0)) .none xkV_MissingColumn xdc_MissingColumn xpm_MissingColumn xan_MissingColumn xcd_MissingColumn xct_MissingColumn)), ("InvalidProgram", (PySem.W.fnOf "__init__" "InvalidProgram.__init__" (defArgs (inS 5 0)) (defBody (inS 5 0)) (defScope (inS 5 0)) .none xkV_InvalidProgram xdc_InvalidProgram xpm_InvalidProgram xan_InvalidProgram xcd_InvalidProgram xct_InvalidProgram))] (PySem.W.fnOf "__init__" "InvalidTable.__init__" (defArgs (inS 2 0)) (defBody (inS 2 0)) (defScope (inS 2 0)) .none xkV_InvalidTable xdc_InvalidTable xpm_InvalidTable xan_InvalidTable xcd_InvalidTable xct_InvalidTable)
  cP_sorted_places := (c_sorted_places, P_sorted_places)
  tb_sorted_places := tbx_sorted_places
  cd_sorted_places := (show cd16 = .ref c_sorted_places from cq_sorted_places)
  lb_sorted_places := lbx_sorted_places
  lu_sorted_places := lux_sorted_places
theorem all_mk {l : PySem.W.OpenLaw} {w : World} {K : PySem.W.Frag} {h : Heap} {mg : Str → Option Value} {fa : Addr} (X : K.In h) (G : h.Ns mainGlobals mg) (hfa : mg "law" = some (.ref fa))
    {f0 : Addr} {od0 an0 : Option Addr} {sl0 : Array (Option Value)} {oc0 kV0 dc0 pm0 cd0 ct0 : Value}
    {f1 : Addr} {od1 an1 : Option Addr} {sl1 : Array (Option Value)} {oc1 kV1 dc1 pm1 cd1 ct1 : Value}
    {f2 : Addr} {od2 an2 : Option Addr} {sl2 : Array (Option Value)} {oc2 kV2 dc2 pm2 cd2 ct2 : Value}
    {f3 : Addr} {od3 an3 : Option Addr} {sl3 : Array (Option Value)} {oc3 kV3 dc3 pm3 cd3 ct3 : Value}
    {f4 : Addr} {od4 an4 : Option Addr} {sl4 : Array (Option Value)} {oc4 kV4 dc4 pm4 cd4 ct4 : Value}
    {f5 : Addr} {od5 an5 : Option Addr} {sl5 : Array (Option Value)} {oc5 kV5 dc5 pm5 cd5 ct5 : Value}
    {f6 : Addr} {od6 an6 : Option Addr} {sl6 : Array (Option Value)} {oc6 kV6 dc6 pm6 cd6 ct6 : Value}
    {f7 : Addr} {od7 an7 : Option Addr} {sl7 : Array (Option Value)} {oc7 kV7 dc7 pm7 cd7 ct7 : Value}
    {f8 : Addr} {od8 an8 : Option Addr} {sl8 : Array (Option Value)} {oc8 kV8 dc8 pm8 cd8 ct8 : Value}
    {f9 : Addr} {od9 an9 : Option Addr} {sl9 : Array (Option Value)} {oc9 kV9 dc9 pm9 cd9 ct9 : Value}
    {f10 : Addr} {od10 an10 : Option Addr} {sl10 : Array (Option Value)} {oc10 kV10 dc10 pm10 cd10 ct10 : Value}
    {f11 : Addr} {od11 an11 : Option Addr} {sl11 : Array (Option Value)} {oc11 kV11 dc11 pm11 cd11 ct11 : Value}
    {f12 : Addr} {od12 an12 : Option Addr} {sl12 : Array (Option Value)} {oc12 kV12 dc12 pm12 cd12 ct12 : Value}
    {f13 : Addr} {od13 an13 : Option Addr} {sl13 : Array (Option Value)} {oc13 kV13 dc13 pm13 cd13 ct13 : Value}
    {f14 : Addr} {od14 an14 : Option Addr} {sl14 : Array (Option Value)} {oc14 kV14 dc14 pm14 cd14 ct14 : Value}
    {f15 : Addr} {od15 an15 : Option Addr} {sl15 : Array (Option Value)} {oc15 kV15 dc15 pm15 cd15 ct15 : Value}
    {f16 : Addr} {od16 an16 : Option Addr} {sl16 : Array (Option Value)} {oc16 kV16 dc16 pm16 cd16 ct16 : Value}
    {f17 : Addr} {od17 an17 : Option Addr} {sl17 : Array (Option Value)} {oc17 kV17 dc17 pm17 cd17 ct17 : Value}
    {f18 : Addr} {od18 an18 : Option Addr} {sl18 : Array (Option Value)} {oc18 kV18 dc18 pm18 cd18 ct18 : Value}
    {f19 : Addr} {od19 an19 : Option Addr} {sl19 : Array (Option Value)} {oc19 kV19 dc19 pm19 cd19 ct19 : Value}
    {f20 : Addr} {od20 an20 : Option Addr} {sl20 : Array (Option Value)} {oc20 kV20 dc20 pm20 cd20 ct20 : Value}
    {f21 : Addr} {od21 an21 : Option Addr} {sl21 : Array (Option Value)} {oc21 kV21 dc21 pm21 cd21 ct21 : Value}
    {f22 : Addr} {od22 an22 : Option Addr} {sl22 : Array (Option Value)} {oc22 kV22 dc22 pm22 cd22 ct22 : Value}
    {f23 : Addr} {od23 an23 : Option Addr} {sl23 : Array (Option Value)} {oc23 kV23 dc23 pm23 cd23 ct23 : Value}
    {f24 : Addr} {od24 an24 : Option Addr} {sl24 : Array (Option Value)} {oc24 kV24 dc24 pm24 cd24 ct24 : Value}
    {f25 : Addr} {od25 an25 : Option Addr} {sl25 : Array (Option Value)} {oc25 kV25 dc25 pm25 cd25 ct25 : Value}
    {f26 : Addr} {od26 an26 : Option Addr} {sl26 : Array (Option Value)} {oc26 kV26 dc26 pm26 cd26 ct26 : Value}
    {f27 : Addr} {od27 an27 : Option Addr} {sl27 : Array (Option Value)} {oc27 kV27 dc27 pm27 cd27 ct27 : Value}
    {f28 : Addr} {od28 an28 : Option Addr} {sl28 : Array (Option Value)} {oc28 kV28 dc28 pm28 cd28 ct28 : Value}
    {f29 : Addr} {od29 an29 : Option Addr} {sl29 : Array (Option Value)} {oc29 kV29 dc29 pm29 cd29 ct29 : Value}
    {f30 : Addr} {od30 an30 : Option Addr} {sl30 : Array (Option Value)} {oc30 kV30 dc30 pm30 cd30 ct30 : Value}
    {f31 : Addr} {od31 an31 : Option Addr} {sl31 : Array (Option Value)} {oc31 kV31 dc31 pm31 cd31 ct31 : Value}
    {f32 : Addr} {od32 an32 : Option Addr} {sl32 : Array (Option Value)} {oc32 kV32 dc32 pm32 cd32 ct32 : Value}
    {f33 : Addr} {od33 an33 : Option Addr} {sl33 : Array (Option Value)} {oc33 kV33 dc33 pm33 cd33 ct33 : Value}
    {f34 : Addr} {od34 an34 : Option Addr} {sl34 : Array (Option Value)} {oc34 kV34 dc34 pm34 cd34 ct34 : Value}
    {f35 : Addr} {od35 an35 : Option Addr} {sl35 : Array (Option Value)} {oc35 kV35 dc35 pm35 cd35 ct35 : Value}
    {f36 : Addr} {od36 an36 : Option Addr} {sl36 : Array (Option Value)} {oc36 kV36 dc36 pm36 cd36 ct36 : Value}
    {f37 : Addr} {od37 an37 : Option Addr} {sl37 : Array (Option Value)} {oc37 kV37 dc37 pm37 cd37 ct37 : Value}
    {f38 : Addr} {od38 an38 : Option Addr} {sl38 : Array (Option Value)} {oc38 kV38 dc38 pm38 cd38 ct38 : Value}
    {f39 : Addr} {od39 an39 : Option Addr} {sl39 : Array (Option Value)} {oc39 kV39 dc39 pm39 cd39 ct39 : Value}
    {f40 : Addr} {od40 an40 : Option Addr} {sl40 : Array (Option Value)} {oc40 kV40 dc40 pm40 cd40 ct40 : Value}
    {f41 : Addr} {od41 an41 : Option Addr} {sl41 : Array (Option Value)} {oc41 kV41 dc41 pm41 cd41 ct41 : Value}
    {f42 : Addr} {od42 an42 : Option Addr} {sl42 : Array (Option Value)} {oc42 kV42 dc42 pm42 cd42 ct42 : Value}
    {f43 : Addr} {od43 an43 : Option Addr} {sl43 : Array (Option Value)} {oc43 kV43 dc43 pm43 cd43 ct43 : Value}
    {f44 : Addr} {od44 an44 : Option Addr} {sl44 : Array (Option Value)} {oc44 kV44 dc44 pm44 cd44 ct44 : Value}
    {f45 : Addr} {od45 an45 : Option Addr} {sl45 : Array (Option Value)} {oc45 kV45 dc45 pm45 cd45 ct45 : Value}
    {f46 : Addr} {od46 an46 : Option Addr} {sl46 : Array (Option Value)} {oc46 kV46 dc46 pm46 cd46 ct46 : Value}
    {f47 : Addr} {od47 an47 : Option Addr} {sl47 : Array (Option Value)} {oc47 kV47 dc47 pm47 cd47 ct47 : Value}
    {f48 : Addr} {od48 an48 : Option Addr} {sl48 : Array (Option Value)} {oc48 kV48 dc48 pm48 cd48 ct48 : Value}
    {f49 : Addr} {od49 an49 : Option Addr} {sl49 : Array (Option Value)} {oc49 kV49 dc49 pm49 cd49 ct49 : Value}
    {f50 : Addr} {od50 an50 : Option Addr} {sl50 : Array (Option Value)} {oc50 kV50 dc50 pm50 cd50 ct50 : Value}
    {f51 : Addr} {od51 an51 : Option Addr} {sl51 : Array (Option Value)} {oc51 kV51 dc51 pm51 cd51 ct51 : Value}
    {f52 : Addr} {od52 an52 : Option Addr} {sl52 : Array (Option Value)} {oc52 kV52 dc52 pm52 cd52 ct52 : Value}
    {f53 : Addr} {od53 an53 : Option Addr} {sl53 : Array (Option Value)} {oc53 kV53 dc53 pm53 cd53 ct53 : Value}
    {f54 : Addr} {od54 an54 : Option Addr} {sl54 : Array (Option Value)} {oc54 kV54 dc54 pm54 cd54 ct54 : Value}
    {f55 : Addr} {od55 an55 : Option Addr} {sl55 : Array (Option Value)} {oc55 kV55 dc55 pm55 cd55 ct55 : Value}
    {f56 : Addr} {od56 an56 : Option Addr} {sl56 : Array (Option Value)} {oc56 kV56 dc56 pm56 cd56 ct56 : Value}
    {C_InvalidTable : Addr}
    {C_MissingColumn : Addr}
    {C_InvalidProgram : Addr}
    {C_TableError : Addr}
    {C_FindError : Addr}
    {C_LimitError : Addr}
    {C_LastRecord : Addr}
    {C_TooManyEdits : Addr}
    {C_TooManyRecords : Addr}
    {C_NothingToUndo : Addr}
    {C_NoPlace : Addr}
    {C_InvalidCommand : Addr}
    {C_InvalidEdit : Addr}
    {C_InvalidValue : Addr}
    {C_InvalidRecord : Addr}
    {C_InvalidLimit : Addr}
    {C_InvalidText : Addr}
    {C_InvalidPlaces : Addr}
    {C_InvalidNumber : Addr}
    {C_InvalidOrder : Addr}
    {C_InvalidColumns : Addr}
    {FI_InvalidTable : Addr} {xod_InvalidTable xan_InvalidTable : Option Addr} {xsl_InvalidTable : Array (Option Value)} {xoc_InvalidTable xkV_InvalidTable xdc_InvalidTable xpm_InvalidTable xcd_InvalidTable xct_InvalidTable : Value}
    {FI_MissingColumn : Addr} {xod_MissingColumn xan_MissingColumn : Option Addr} {xsl_MissingColumn : Array (Option Value)} {xoc_MissingColumn xkV_MissingColumn xdc_MissingColumn xpm_MissingColumn xcd_MissingColumn xct_MissingColumn : Value}
    {FI_InvalidProgram : Addr} {xod_InvalidProgram xan_InvalidProgram : Option Addr} {xsl_InvalidProgram : Array (Option Value)} {xoc_InvalidProgram xkV_InvalidProgram xdc_InvalidProgram xpm_InvalidProgram xcd_InvalidProgram xct_InvalidProgram : Value}
    {c_sorted_places P_sorted_places : Addr} {moc_sorted_places : Value} {mod_sorted_places : Option Addr} {mvs_sorted_places : Array Value} {msl_sorted_places : Array (Option Value)}
    (a0 : PySem.W.nsIn K mainGlobals "is_integer" = some (some (.ref f0))) (l0 : K.lookup f0 = some ⟨oc0, od0, .func (PySem.W.fnOf "is_integer" "is_integer" (defArgs (topS 30)) (defBody (topS 30)) (defScope (topS 30)) .none kV0 dc0 pm0 an0 cd0 ct0), sl0⟩) (c0 : PySem.W.codeIn K cd0 "is_integer" = true) (k0 : PySem.W.keepIn K (.ref f0) = true)
    (a1 : PySem.W.nsIn K mainGlobals "is_record" = some (some (.ref f1))) (l1 : K.lookup f1 = some ⟨oc1, od1, .func (PySem.W.fnOf "is_record" "is_record" (defArgs (topS 31)) (defBody (topS 31)) (defScope (topS 31)) .none kV1 dc1 pm1 an1 cd1 ct1), sl1⟩) (c1 : PySem.W.codeIn K cd1 "is_record" = true) (k1 : PySem.W.keepIn K (.ref f1) = true)
    (a2 : PySem.W.nsIn K mainGlobals "check_table" = some (some (.ref f2))) (l2 : K.lookup f2 = some ⟨oc2, od2, .func (PySem.W.fnOf "check_table" "check_table" (defArgs (topS 32)) (defBody (topS 32)) (defScope (topS 32)) .none kV2 dc2 pm2 an2 cd2 ct2), sl2⟩) (c2 : PySem.W.codeIn K cd2 "check_table" = true) (k2 : PySem.W.keepIn K (.ref f2) = true)
    (a3 : PySem.W.nsIn K mainGlobals "count_columns" = some (some (.ref f3))) (l3 : K.lookup f3 = some ⟨oc3, od3, .func (PySem.W.fnOf "count_columns" "count_columns" (defArgs (topS 33)) (defBody (topS 33)) (defScope (topS 33)) .none kV3 dc3 pm3 an3 cd3 ct3), sl3⟩) (c3 : PySem.W.codeIn K cd3 "count_columns" = true) (k3 : PySem.W.keepIn K (.ref f3) = true)
    (a4 : PySem.W.nsIn K mainGlobals "every_place" = some (some (.ref f4))) (l4 : K.lookup f4 = some ⟨oc4, od4, .func (PySem.W.fnOf "every_place" "every_place" (defArgs (topS 34)) (defBody (topS 34)) (defScope (topS 34)) .none kV4 dc4 pm4 an4 cd4 ct4), sl4⟩) (c4 : PySem.W.codeIn K cd4 "every_place" = true) (k4 : PySem.W.keepIn K (.ref f4) = true)
    (a5 : PySem.W.nsIn K mainGlobals "records_at" = some (some (.ref f5))) (l5 : K.lookup f5 = some ⟨oc5, od5, .func (PySem.W.fnOf "records_at" "records_at" (defArgs (topS 35)) (defBody (topS 35)) (defScope (topS 35)) .none kV5 dc5 pm5 an5 cd5 ct5), sl5⟩) (c5 : PySem.W.codeIn K cd5 "records_at" = true) (k5 : PySem.W.keepIn K (.ref f5) = true)
    (a6 : PySem.W.nsIn K mainGlobals "check_columns_below" = some (some (.ref f6))) (l6 : K.lookup f6 = some ⟨oc6, od6, .func (PySem.W.fnOf "check_columns_below" "check_columns_below" (defArgs (topS 36)) (defBody (topS 36)) (defScope (topS 36)) .none kV6 dc6 pm6 an6 cd6 ct6), sl6⟩) (c6 : PySem.W.codeIn K cd6 "check_columns_below" = true) (k6 : PySem.W.keepIn K (.ref f6) = true)
    (a7 : PySem.W.nsIn K mainGlobals "is_word" = some (some (.ref f7))) (l7 : K.lookup f7 = some ⟨oc7, od7, .func (PySem.W.fnOf "is_word" "is_word" (defArgs (topS 39)) (defBody (topS 39)) (defScope (topS 39)) .none kV7 dc7 pm7 an7 cd7 ct7), sl7⟩) (c7 : PySem.W.codeIn K cd7 "is_word" = true) (k7 : PySem.W.keepIn K (.ref f7) = true)
    (a8 : PySem.W.nsIn K mainGlobals "is_pair" = some (some (.ref f8))) (l8 : K.lookup f8 = some ⟨oc8, od8, .func (PySem.W.fnOf "is_pair" "is_pair" (defArgs (topS 40)) (defBody (topS 40)) (defScope (topS 40)) .none kV8 dc8 pm8 an8 cd8 ct8), sl8⟩) (c8 : PySem.W.codeIn K cd8 "is_pair" = true) (k8 : PySem.W.keepIn K (.ref f8) = true)
    (a9 : PySem.W.nsIn K mainGlobals "is_sort_column" = some (some (.ref f9))) (l9 : K.lookup f9 = some ⟨oc9, od9, .func (PySem.W.fnOf "is_sort_column" "is_sort_column" (defArgs (topS 41)) (defBody (topS 41)) (defScope (topS 41)) .none kV9 dc9 pm9 an9 cd9 ct9), sl9⟩) (c9 : PySem.W.codeIn K cd9 "is_sort_column" = true) (k9 : PySem.W.keepIn K (.ref f9) = true)
    (a10 : PySem.W.nsIn K mainGlobals "is_key" = some (some (.ref f10))) (l10 : K.lookup f10 = some ⟨oc10, od10, .func (PySem.W.fnOf "is_key" "is_key" (defArgs (topS 42)) (defBody (topS 42)) (defScope (topS 42)) .none kV10 dc10 pm10 an10 cd10 ct10), sl10⟩) (c10 : PySem.W.codeIn K cd10 "is_key" = true) (k10 : PySem.W.keepIn K (.ref f10) = true)
    (a11 : PySem.W.nsIn K mainGlobals "is_place_part" = some (some (.ref f11))) (l11 : K.lookup f11 = some ⟨oc11, od11, .func (PySem.W.fnOf "is_place_part" "is_place_part" (defArgs (topS 43)) (defBody (topS 43)) (defScope (topS 43)) .none kV11 dc11 pm11 an11 cd11 ct11), sl11⟩) (c11 : PySem.W.codeIn K cd11 "is_place_part" = true) (k11 : PySem.W.keepIn K (.ref f11) = true)
    (a12 : PySem.W.nsIn K mainGlobals "check_order" = some (some (.ref f12))) (l12 : K.lookup f12 = some ⟨oc12, od12, .func (PySem.W.fnOf "check_order" "check_order" (defArgs (topS 44)) (defBody (topS 44)) (defScope (topS 44)) .none kV12 dc12 pm12 an12 cd12 ct12), sl12⟩) (c12 : PySem.W.codeIn K cd12 "check_order" = true) (k12 : PySem.W.keepIn K (.ref f12) = true)
    (a13 : PySem.W.nsIn K mainGlobals "opposite" = some (some (.ref f13))) (l13 : K.lookup f13 = some ⟨oc13, od13, .func (PySem.W.fnOf "opposite" "opposite" (defArgs (topS 45)) (defBody (topS 45)) (defScope (topS 45)) .none kV13 dc13 pm13 an13 cd13 ct13), sl13⟩) (c13 : PySem.W.codeIn K cd13 "opposite" = true) (k13 : PySem.W.keepIn K (.ref f13) = true)
    (a14 : PySem.W.nsIn K mainGlobals "turned" = some (some (.ref f14))) (l14 : K.lookup f14 = some ⟨oc14, od14, .func (PySem.W.fnOf "turned" "turned" (defArgs (topS 46)) (defBody (topS 46)) (defScope (topS 46)) .none kV14 dc14 pm14 an14 cd14 ct14), sl14⟩) (c14 : PySem.W.codeIn K cd14 "turned" = true) (k14 : PySem.W.keepIn K (.ref f14) = true)
    (a15 : PySem.W.nsIn K mainGlobals "sort_values" = some (some (.ref f15))) (l15 : K.lookup f15 = some ⟨oc15, od15, .func (PySem.W.fnOf "sort_values" "sort_values" (defArgs (topS 47)) (defBody (topS 47)) (defScope (topS 47)) .none kV15 dc15 pm15 an15 cd15 ct15), sl15⟩) (c15 : PySem.W.codeIn K cd15 "sort_values" = true) (k15 : PySem.W.keepIn K (.ref f15) = true)
    (a16 : PySem.W.nsIn K mainGlobals "sorted_places" = some (some (.ref f16))) (l16 : K.lookup f16 = some ⟨oc16, od16, .func (PySem.W.fnOf "sorted_places" "sorted_places" (defArgs (topS 48)) (defBody (topS 48)) (defScope (topS 48)) .none kV16 dc16 pm16 an16 cd16 ct16), sl16⟩) (c16 : PySem.W.codeIn K cd16 "sorted_places" = true) (k16 : PySem.W.keepIn K (.ref f16) = true)
    (a17 : PySem.W.nsIn K mainGlobals "is_size" = some (some (.ref f17))) (l17 : K.lookup f17 = some ⟨oc17, od17, .func (PySem.W.fnOf "is_size" "is_size" (defArgs (topS 53)) (defBody (topS 53)) (defScope (topS 53)) .none kV17 dc17 pm17 an17 cd17 ct17), sl17⟩) (c17 : PySem.W.codeIn K cd17 "is_size" = true) (k17 : PySem.W.keepIn K (.ref f17) = true)
    (a18 : PySem.W.nsIn K mainGlobals "is_times" = some (some (.ref f18))) (l18 : K.lookup f18 = some ⟨oc18, od18, .func (PySem.W.fnOf "is_times" "is_times" (defArgs (topS 54)) (defBody (topS 54)) (defScope (topS 54)) .none kV18 dc18 pm18 an18 cd18 ct18), sl18⟩) (c18 : PySem.W.codeIn K cd18 "is_times" = true) (k18 : PySem.W.keepIn K (.ref f18) = true)
    (a19 : PySem.W.nsIn K mainGlobals "is_plain_command" = some (some (.ref f19))) (l19 : K.lookup f19 = some ⟨oc19, od19, .func (PySem.W.fnOf "is_plain_command" "is_plain_command" (defArgs (topS 55)) (defBody (topS 55)) (defScope (topS 55)) .none kV19 dc19 pm19 an19 cd19 ct19), sl19⟩) (c19 : PySem.W.codeIn K cd19 "is_plain_command" = true) (k19 : PySem.W.keepIn K (.ref f19) = true)
    (a20 : PySem.W.nsIn K mainGlobals "begins_repeat" = some (some (.ref f20))) (l20 : K.lookup f20 = some ⟨oc20, od20, .func (PySem.W.fnOf "begins_repeat" "begins_repeat" (defArgs (topS 56)) (defBody (topS 56)) (defScope (topS 56)) .none kV20 dc20 pm20 an20 cd20 ct20), sl20⟩) (c20 : PySem.W.codeIn K cd20 "begins_repeat" = true) (k20 : PySem.W.keepIn K (.ref f20) = true)
    (a21 : PySem.W.nsIn K mainGlobals "room_behind" = some (some (.ref f21))) (l21 : K.lookup f21 = some ⟨oc21, od21, .func (PySem.W.fnOf "room_behind" "room_behind" (defArgs (topS 57)) (defBody (topS 57)) (defScope (topS 57)) .none kV21 dc21 pm21 an21 cd21 ct21), sl21⟩) (c21 : PySem.W.codeIn K cd21 "room_behind" = true) (k21 : PySem.W.keepIn K (.ref f21) = true)
    (a22 : PySem.W.nsIn K mainGlobals "room_behind_command" = some (some (.ref f22))) (l22 : K.lookup f22 = some ⟨oc22, od22, .func (PySem.W.fnOf "room_behind_command" "room_behind_command" (defArgs (topS 58)) (defBody (topS 58)) (defScope (topS 58)) .none kV22 dc22 pm22 an22 cd22 ct22), sl22⟩) (c22 : PySem.W.codeIn K cd22 "room_behind_command" = true) (k22 : PySem.W.keepIn K (.ref f22) = true)
    (a23 : PySem.W.nsIn K mainGlobals "check_program" = some (some (.ref f23))) (l23 : K.lookup f23 = some ⟨oc23, od23, .func (PySem.W.fnOf "check_program" "check_program" (defArgs (topS 59)) (defBody (topS 59)) (defScope (topS 59)) .none kV23 dc23 pm23 an23 cd23 ct23), sl23⟩) (c23 : PySem.W.codeIn K cd23 "check_program" = true) (k23 : PySem.W.keepIn K (.ref f23) = true)
    (a24 : PySem.W.nsIn K mainGlobals "count_performed" = some (some (.ref f24))) (l24 : K.lookup f24 = some ⟨oc24, od24, .func (PySem.W.fnOf "count_performed" "count_performed" (defArgs (topS 60)) (defBody (topS 60)) (defScope (topS 60)) .none kV24 dc24 pm24 an24 cd24 ct24), sl24⟩) (c24 : PySem.W.codeIn K cd24 "count_performed" = true) (k24 : PySem.W.keepIn K (.ref f24) = true)
    (a25 : PySem.W.nsIn K mainGlobals "count_commands" = some (some (.ref f25))) (l25 : K.lookup f25 = some ⟨oc25, od25, .func (PySem.W.fnOf "count_commands" "count_commands" (defArgs (topS 61)) (defBody (topS 61)) (defScope (topS 61)) .none kV25 dc25 pm25 an25 cd25 ct25), sl25⟩) (c25 : PySem.W.codeIn K cd25 "count_commands" = true) (k25 : PySem.W.keepIn K (.ref f25) = true)
    (a26 : PySem.W.nsIn K mainGlobals "program_columns" = some (some (.ref f26))) (l26 : K.lookup f26 = some ⟨oc26, od26, .func (PySem.W.fnOf "program_columns" "program_columns" (defArgs (topS 62)) (defBody (topS 62)) (defScope (topS 62)) .none kV26 dc26 pm26 an26 cd26 ct26), sl26⟩) (c26 : PySem.W.codeIn K cd26 "program_columns" = true) (k26 : PySem.W.keepIn K (.ref f26) = true)
    (a27 : PySem.W.nsIn K mainGlobals "sorted_first" = some (some (.ref f27))) (l27 : K.lookup f27 = some ⟨oc27, od27, .func (PySem.W.fnOf "sorted_first" "sorted_first" (defArgs (topS 65)) (defBody (topS 65)) (defScope (topS 65)) .none kV27 dc27 pm27 an27 cd27 ct27), sl27⟩) (c27 : PySem.W.codeIn K cd27 "sorted_first" = true) (k27 : PySem.W.keepIn K (.ref f27) = true)
    (a28 : PySem.W.nsIn K mainGlobals "after_plain" = some (some (.ref f28))) (l28 : K.lookup f28 = some ⟨oc28, od28, .func (PySem.W.fnOf "after_plain" "after_plain" (defArgs (topS 66)) (defBody (topS 66)) (defScope (topS 66)) .none kV28 dc28 pm28 an28 cd28 ct28), sl28⟩) (c28 : PySem.W.codeIn K cd28 "after_plain" = true) (k28 : PySem.W.keepIn K (.ref f28) = true)
    (a29 : PySem.W.nsIn K mainGlobals "picks_of_plain" = some (some (.ref f29))) (l29 : K.lookup f29 = some ⟨oc29, od29, .func (PySem.W.fnOf "picks_of_plain" "picks_of_plain" (defArgs (topS 67)) (defBody (topS 67)) (defScope (topS 67)) .none kV29 dc29 pm29 an29 cd29 ct29), sl29⟩) (c29 : PySem.W.codeIn K cd29 "picks_of_plain" = true) (k29 : PySem.W.keepIn K (.ref f29) = true)
    (a30 : PySem.W.nsIn K mainGlobals "after_repeat" = some (some (.ref f30))) (l30 : K.lookup f30 = some ⟨oc30, od30, .func (PySem.W.fnOf "after_repeat" "after_repeat" (defArgs (topS 68)) (defBody (topS 68)) (defScope (topS 68)) .none kV30 dc30 pm30 an30 cd30 ct30), sl30⟩) (c30 : PySem.W.codeIn K cd30 "after_repeat" = true) (k30 : PySem.W.keepIn K (.ref f30) = true)
    (a31 : PySem.W.nsIn K mainGlobals "after_command" = some (some (.ref f31))) (l31 : K.lookup f31 = some ⟨oc31, od31, .func (PySem.W.fnOf "after_command" "after_command" (defArgs (topS 69)) (defBody (topS 69)) (defScope (topS 69)) .none kV31 dc31 pm31 an31 cd31 ct31), sl31⟩) (c31 : PySem.W.codeIn K cd31 "after_command" = true) (k31 : PySem.W.keepIn K (.ref f31) = true)
    (a32 : PySem.W.nsIn K mainGlobals "after_program" = some (some (.ref f32))) (l32 : K.lookup f32 = some ⟨oc32, od32, .func (PySem.W.fnOf "after_program" "after_program" (defArgs (topS 70)) (defBody (topS 70)) (defScope (topS 70)) .none kV32 dc32 pm32 an32 cd32 ct32), sl32⟩) (c32 : PySem.W.codeIn K cd32 "after_program" = true) (k32 : PySem.W.keepIn K (.ref f32) = true)
    (a33 : PySem.W.nsIn K mainGlobals "check_run" = some (some (.ref f33))) (l33 : K.lookup f33 = some ⟨oc33, od33, .func (PySem.W.fnOf "check_run" "check_run" (defArgs (topS 72)) (defBody (topS 72)) (defScope (topS 72)) .none kV33 dc33 pm33 an33 cd33 ct33), sl33⟩) (c33 : PySem.W.codeIn K cd33 "check_run" = true) (k33 : PySem.W.keepIn K (.ref f33) = true)
    (a34 : PySem.W.nsIn K mainGlobals "picked" = some (some (.ref f34))) (l34 : K.lookup f34 = some ⟨oc34, od34, .func (PySem.W.fnOf "picked" "picked" (defArgs (topS 73)) (defBody (topS 73)) (defScope (topS 73)) .none kV34 dc34 pm34 an34 cd34 ct34), sl34⟩) (c34 : PySem.W.codeIn K cd34 "picked" = true) (k34 : PySem.W.keepIn K (.ref f34) = true)
    (a35 : PySem.W.nsIn K mainGlobals "run_places" = some (some (.ref f35))) (l35 : K.lookup f35 = some ⟨oc35, od35, .func (PySem.W.fnOf "run_places" "run_places" (defArgs (topS 74)) (defBody (topS 74)) (defScope (topS 74)) .none kV35 dc35 pm35 an35 cd35 ct35), sl35⟩) (c35 : PySem.W.codeIn K cd35 "run_places" = true) (k35 : PySem.W.keepIn K (.ref f35) = true)
    (a36 : PySem.W.nsIn K mainGlobals "run" = some (some (.ref f36))) (l36 : K.lookup f36 = some ⟨oc36, od36, .func (PySem.W.fnOf "run" "run" (defArgs (topS 75)) (defBody (topS 75)) (defScope (topS 75)) .none kV36 dc36 pm36 an36 cd36 ct36), sl36⟩) (c36 : PySem.W.codeIn K cd36 "run" = true) (k36 : PySem.W.keepIn K (.ref f36) = true)
    (a37 : PySem.W.nsIn K mainGlobals "each_table" = some (some (.ref f37))) (l37 : K.lookup f37 = some ⟨oc37, od37, .func (PySem.W.fnOf "each_table" "each_table" (defArgs (topS 76)) (defBody (topS 76)) (defScope (topS 76)) .none kV37 dc37 pm37 an37 cd37 ct37), sl37⟩) (c37 : PySem.W.codeIn K cd37 "each_table" = true) (k37 : PySem.W.keepIn K (.ref f37) = true)
    (a38 : PySem.W.nsIn K mainGlobals "written_command" = some (some (.ref f38))) (l38 : K.lookup f38 = some ⟨oc38, od38, .func (PySem.W.fnOf "written_command" "written_command" (defArgs (topS 78)) (defBody (topS 78)) (defScope (topS 78)) .none kV38 dc38 pm38 an38 cd38 ct38), sl38⟩) (c38 : PySem.W.codeIn K cd38 "written_command" = true) (k38 : PySem.W.keepIn K (.ref f38) = true)
    (a39 : PySem.W.nsIn K mainGlobals "format_program" = some (some (.ref f39))) (l39 : K.lookup f39 = some ⟨oc39, od39, .func (PySem.W.fnOf "format_program" "format_program" (defArgs (topS 79)) (defBody (topS 79)) (defScope (topS 79)) .none kV39 dc39 pm39 an39 cd39 ct39), sl39⟩) (c39 : PySem.W.codeIn K cd39 "format_program" = true) (k39 : PySem.W.keepIn K (.ref f39) = true)
    (a40 : PySem.W.nsIn K mainGlobals "_law_cell" = some (some (.ref f40))) (l40 : K.lookup f40 = some ⟨oc40, od40, .func (PySem.W.fnOf "_law_cell" "_law_cell" (defArgs (topS 81)) (defBody (topS 81)) (defScope (topS 81)) .none kV40 dc40 pm40 an40 cd40 ct40), sl40⟩) (c40 : PySem.W.codeIn K cd40 "_law_cell" = true) (k40 : PySem.W.keepIn K (.ref f40) = true)
    (a41 : PySem.W.nsIn K mainGlobals "_law_pool" = some (some (.ref f41))) (l41 : K.lookup f41 = some ⟨oc41, od41, .func (PySem.W.fnOf "_law_pool" "_law_pool" (defArgs (topS 82)) (defBody (topS 82)) (defScope (topS 82)) .none kV41 dc41 pm41 an41 cd41 ct41), sl41⟩) (c41 : PySem.W.codeIn K cd41 "_law_pool" = true) (k41 : PySem.W.keepIn K (.ref f41) = true)
    (a42 : PySem.W.nsIn K mainGlobals "_law_draw" = some (some (.ref f42))) (l42 : K.lookup f42 = some ⟨oc42, od42, .func (PySem.W.fnOf "_law_draw" "_law_draw" (defArgs (topS 83)) (defBody (topS 83)) (defScope (topS 83)) .none kV42 dc42 pm42 an42 cd42 ct42), sl42⟩) (c42 : PySem.W.codeIn K cd42 "_law_draw" = true) (k42 : PySem.W.keepIn K (.ref f42) = true)
    (a43 : PySem.W.nsIn K mainGlobals "_law_table" = some (some (.ref f43))) (l43 : K.lookup f43 = some ⟨oc43, od43, .func (PySem.W.fnOf "_law_table" "_law_table" (defArgs (topS 84)) (defBody (topS 84)) (defScope (topS 84)) .none kV43 dc43 pm43 an43 cd43 ct43), sl43⟩) (c43 : PySem.W.codeIn K cd43 "_law_table" = true) (k43 : PySem.W.keepIn K (.ref f43) = true)
    (a44 : PySem.W.nsIn K mainGlobals "_law_steps" = some (some (.ref f44))) (l44 : K.lookup f44 = some ⟨oc44, od44, .func (PySem.W.fnOf "_law_steps" "_law_steps" (defArgs (topS 85)) (defBody (topS 85)) (defScope (topS 85)) .none kV44 dc44 pm44 an44 cd44 ct44), sl44⟩) (c44 : PySem.W.codeIn K cd44 "_law_steps" = true) (k44 : PySem.W.keepIn K (.ref f44) = true)
    (a45 : PySem.W.nsIn K mainGlobals "_law_program" = some (some (.ref f45))) (l45 : K.lookup f45 = some ⟨oc45, od45, .func (PySem.W.fnOf "_law_program" "_law_program" (defArgs (topS 86)) (defBody (topS 86)) (defScope (topS 86)) .none kV45 dc45 pm45 an45 cd45 ct45), sl45⟩) (c45 : PySem.W.codeIn K cd45 "_law_program" = true) (k45 : PySem.W.keepIn K (.ref f45) = true)
    (a46 : PySem.W.nsIn K mainGlobals "_law_kind" = some (some (.ref f46))) (l46 : K.lookup f46 = some ⟨oc46, od46, .func (PySem.W.fnOf "_law_kind" "_law_kind" (defArgs (topS 87)) (defBody (topS 87)) (defScope (topS 87)) .none kV46 dc46 pm46 an46 cd46 ct46), sl46⟩) (c46 : PySem.W.codeIn K cd46 "_law_kind" = true) (k46 : PySem.W.keepIn K (.ref f46) = true)
    (a47 : PySem.W.nsIn K mainGlobals "_law_whole" = some (some (.ref f47))) (l47 : K.lookup f47 = some ⟨oc47, od47, .func (PySem.W.fnOf "_law_whole" "_law_whole" (defArgs (topS 88)) (defBody (topS 88)) (defScope (topS 88)) .none kV47 dc47 pm47 an47 cd47 ct47), sl47⟩) (c47 : PySem.W.codeIn K cd47 "_law_whole" = true) (k47 : PySem.W.keepIn K (.ref f47) = true)
    (a48 : PySem.W.nsIn K mainGlobals "_law_counted" = some (some (.ref f48))) (l48 : K.lookup f48 = some ⟨oc48, od48, .func (PySem.W.fnOf "_law_counted" "_law_counted" (defArgs (topS 89)) (defBody (topS 89)) (defScope (topS 89)) .none kV48 dc48 pm48 an48 cd48 ct48), sl48⟩) (c48 : PySem.W.codeIn K cd48 "_law_counted" = true) (k48 : PySem.W.keepIn K (.ref f48) = true)
    (a49 : PySem.W.nsIn K mainGlobals "_law_first_bad" = some (some (.ref f49))) (l49 : K.lookup f49 = some ⟨oc49, od49, .func (PySem.W.fnOf "_law_first_bad" "_law_first_bad" (defArgs (topS 90)) (defBody (topS 90)) (defScope (topS 90)) .none kV49 dc49 pm49 an49 cd49 ct49), sl49⟩) (c49 : PySem.W.codeIn K cd49 "_law_first_bad" = true) (k49 : PySem.W.keepIn K (.ref f49) = true)
    (a50 : PySem.W.nsIn K mainGlobals "_law_bent" = some (some (.ref f50))) (l50 : K.lookup f50 = some ⟨oc50, od50, .func (PySem.W.fnOf "_law_bent" "_law_bent" (defArgs (topS 91)) (defBody (topS 91)) (defScope (topS 91)) .none kV50 dc50 pm50 an50 cd50 ct50), sl50⟩) (c50 : PySem.W.codeIn K cd50 "_law_bent" = true) (k50 : PySem.W.keepIn K (.ref f50) = true)
    (a51 : PySem.W.nsIn K mainGlobals "_law_sides" = some (some (.ref f51))) (l51 : K.lookup f51 = some ⟨oc51, od51, .func (PySem.W.fnOf "_law_sides" "_law_sides" (defArgs (topS 92)) (defBody (topS 92)) (defScope (topS 92)) .none kV51 dc51 pm51 an51 cd51 ct51), sl51⟩) (c51 : PySem.W.codeIn K cd51 "_law_sides" = true) (k51 : PySem.W.keepIn K (.ref f51) = true)
    (a52 : PySem.W.nsIn K mainGlobals "_law_asked" = some (some (.ref f52))) (l52 : K.lookup f52 = some ⟨oc52, od52, .func (PySem.W.fnOf "_law_asked" "_law_asked" (defArgs (topS 93)) (defBody (topS 93)) (defScope (topS 93)) .none kV52 dc52 pm52 an52 cd52 ct52), sl52⟩) (c52 : PySem.W.codeIn K cd52 "_law_asked" = true) (k52 : PySem.W.keepIn K (.ref f52) = true)
    (a53 : PySem.W.nsIn K mainGlobals "_law_table_bad" = some (some (.ref f53))) (l53 : K.lookup f53 = some ⟨oc53, od53, .func (PySem.W.fnOf "_law_table_bad" "_law_table_bad" (defArgs (topS 94)) (defBody (topS 94)) (defScope (topS 94)) .none kV53 dc53 pm53 an53 cd53 ct53), sl53⟩) (c53 : PySem.W.codeIn K cd53 "_law_table_bad" = true) (k53 : PySem.W.keepIn K (.ref f53) = true)
    (a54 : PySem.W.nsIn K mainGlobals "_law_told_right" = some (some (.ref f54))) (l54 : K.lookup f54 = some ⟨oc54, od54, .func (PySem.W.fnOf "_law_told_right" "_law_told_right" (defArgs (topS 95)) (defBody (topS 95)) (defScope (topS 95)) .none kV54 dc54 pm54 an54 cd54 ct54), sl54⟩) (c54 : PySem.W.codeIn K cd54 "_law_told_right" = true) (k54 : PySem.W.keepIn K (.ref f54) = true)
    (a55 : PySem.W.nsIn K mainGlobals "_law_right" = some (some (.ref f55))) (l55 : K.lookup f55 = some ⟨oc55, od55, .func (PySem.W.fnOf "_law_right" "_law_right" (defArgs (topS 96)) (defBody (topS 96)) (defScope (topS 96)) .none kV55 dc55 pm55 an55 cd55 ct55), sl55⟩) (c55 : PySem.W.codeIn K cd55 "_law_right" = true) (k55 : PySem.W.keepIn K (.ref f55) = true)
    (a56 : PySem.W.nsIn K mainGlobals "law" = some (some (.ref f56))) (l56 : K.lookup f56 = some ⟨oc56, od56, .func (PySem.W.fnOf "law" "law" (defArgs (topS 97)) (defBody (topS 97)) (defScope (topS 97)) .none kV56 dc56 pm56 an56 cd56 ct56), sl56⟩) (c56 : PySem.W.codeIn K cd56 "law" = true) (k56 : PySem.W.keepIn K (.ref f56) = true)
    (n_ArithmeticError : PySem.W.nsIn K mainGlobals "ArithmeticError" = some none)
    (n_LookupError : PySem.W.nsIn K mainGlobals "LookupError" = some none)
    (n_ValueError : PySem.W.nsIn K mainGlobals "ValueError" = some none)
    (n_abs : PySem.W.nsIn K mainGlobals "abs" = some none)
    (n_all : PySem.W.nsIn K mainGlobals "all" = some none)
    (n_bool : PySem.W.nsIn K mainGlobals "bool" = some none)
    (n_divmod : PySem.W.nsIn K mainGlobals "divmod" = some none)
    (n_enumerate : PySem.W.nsIn K mainGlobals "enumerate" = some none)
    (n_int : PySem.W.nsIn K mainGlobals "int" = some none)
    (n_isinstance : PySem.W.nsIn K mainGlobals "isinstance" = some none)
    (n_len : PySem.W.nsIn K mainGlobals "len" = some none)
    (n_list : PySem.W.nsIn K mainGlobals "list" = some none)
    (n_max : PySem.W.nsIn K mainGlobals "max" = some none)
    (n_min : PySem.W.nsIn K mainGlobals "min" = some none)
    (n_range : PySem.W.nsIn K mainGlobals "range" = some none)
    (n_repr : PySem.W.nsIn K mainGlobals "repr" = some none)
    (n_set : PySem.W.nsIn K mainGlobals "set" = some none)
    (n_sorted : PySem.W.nsIn K mainGlobals "sorted" = some none)
    (n_str : PySem.W.nsIn K mainGlobals "str" = some none)
    (n_sum : PySem.W.nsIn K mainGlobals "sum" = some none)
    (n_tuple : PySem.W.nsIn K mainGlobals "tuple" = some none)
    (c_MOST_COLUMNS : ∀ [LabW], ∃ uv : Value × V, mg "MOST_COLUMNS" = some uv.1 ∧ RelV uv.2 uv.1 ∧ ∀ Z, DD K Z uv.2 cv_MOST_COLUMNS)
    (c_MOST_RECORDS : ∀ [LabW], ∃ uv : Value × V, mg "MOST_RECORDS" = some uv.1 ∧ RelV uv.2 uv.1 ∧ ∀ Z, DD K Z uv.2 cv_MOST_RECORDS)
    (c_MOST_KEYS : ∀ [LabW], ∃ uv : Value × V, mg "MOST_KEYS" = some uv.1 ∧ RelV uv.2 uv.1 ∧ ∀ Z, DD K Z uv.2 cv_MOST_KEYS)
    (c_DIRECTIONS : ∀ [LabW], ∃ uv : Value × V, mg "DIRECTIONS" = some uv.1 ∧ RelV uv.2 uv.1 ∧ ∀ Z, DD K Z uv.2 cv_DIRECTIONS)
    (c_LEAST_SIZE : ∀ [LabW], ∃ uv : Value × V, mg "LEAST_SIZE" = some uv.1 ∧ RelV uv.2 uv.1 ∧ ∀ Z, DD K Z uv.2 cv_LEAST_SIZE)
    (c_MOST_SIZE : ∀ [LabW], ∃ uv : Value × V, mg "MOST_SIZE" = some uv.1 ∧ RelV uv.2 uv.1 ∧ ∀ Z, DD K Z uv.2 cv_MOST_SIZE)
    (c_MOST_TIMES : ∀ [LabW], ∃ uv : Value × V, mg "MOST_TIMES" = some uv.1 ∧ RelV uv.2 uv.1 ∧ ∀ Z, DD K Z uv.2 cv_MOST_TIMES)
    (c_CUTS : ∀ [LabW], ∃ uv : Value × V, mg "CUTS" = some uv.1 ∧ RelV uv.2 uv.1 ∧ ∀ Z, DD K Z uv.2 cv_CUTS)
    (c_BARE_WORDS : ∀ [LabW], ∃ uv : Value × V, mg "BARE_WORDS" = some uv.1 ∧ RelV uv.2 uv.1 ∧ ∀ Z, DD K Z uv.2 cv_BARE_WORDS)
    (c_MOST_NESTED : ∀ [LabW], ∃ uv : Value × V, mg "MOST_NESTED" = some uv.1 ∧ RelV uv.2 uv.1 ∧ ∀ Z, DD K Z uv.2 cv_MOST_NESTED)
    (c_MOST_COMMANDS : ∀ [LabW], ∃ uv : Value × V, mg "MOST_COMMANDS" = some uv.1 ∧ RelV uv.2 uv.1 ∧ ∀ Z, DD K Z uv.2 cv_MOST_COMMANDS)
    (c_START : ∀ [LabW], ∃ uv : Value × V, mg "START" = some uv.1 ∧ RelV uv.2 uv.1 ∧ ∀ Z, DD K Z uv.2 cv_START)
    (xa_InvalidTable : PySem.W.nsIn K mainGlobals "InvalidTable" = some (some (.ref C_InvalidTable)))
    (xa_MissingColumn : PySem.W.nsIn K mainGlobals "MissingColumn" = some (some (.ref C_MissingColumn)))
    (xa_InvalidProgram : PySem.W.nsIn K mainGlobals "InvalidProgram" = some (some (.ref C_InvalidProgram)))
    (xa_TableError : PySem.W.nsIn K mainGlobals "TableError" = some (some (.ref C_TableError)))
    (xa_FindError : PySem.W.nsIn K mainGlobals "FindError" = some (some (.ref C_FindError)))
    (xa_LimitError : PySem.W.nsIn K mainGlobals "LimitError" = some (some (.ref C_LimitError)))
    (xa_LastRecord : PySem.W.nsIn K mainGlobals "LastRecord" = some (some (.ref C_LastRecord)))
    (xa_TooManyEdits : PySem.W.nsIn K mainGlobals "TooManyEdits" = some (some (.ref C_TooManyEdits)))
    (xa_TooManyRecords : PySem.W.nsIn K mainGlobals "TooManyRecords" = some (some (.ref C_TooManyRecords)))
    (xa_NothingToUndo : PySem.W.nsIn K mainGlobals "NothingToUndo" = some (some (.ref C_NothingToUndo)))
    (xa_NoPlace : PySem.W.nsIn K mainGlobals "NoPlace" = some (some (.ref C_NoPlace)))
    (xa_InvalidCommand : PySem.W.nsIn K mainGlobals "InvalidCommand" = some (some (.ref C_InvalidCommand)))
    (xa_InvalidEdit : PySem.W.nsIn K mainGlobals "InvalidEdit" = some (some (.ref C_InvalidEdit)))
    (xa_InvalidValue : PySem.W.nsIn K mainGlobals "InvalidValue" = some (some (.ref C_InvalidValue)))
    (xa_InvalidRecord : PySem.W.nsIn K mainGlobals "InvalidRecord" = some (some (.ref C_InvalidRecord)))
    (xa_InvalidLimit : PySem.W.nsIn K mainGlobals "InvalidLimit" = some (some (.ref C_InvalidLimit)))
    (xa_InvalidText : PySem.W.nsIn K mainGlobals "InvalidText" = some (some (.ref C_InvalidText)))
    (xa_InvalidPlaces : PySem.W.nsIn K mainGlobals "InvalidPlaces" = some (some (.ref C_InvalidPlaces)))
    (xa_InvalidNumber : PySem.W.nsIn K mainGlobals "InvalidNumber" = some (some (.ref C_InvalidNumber)))
    (xa_InvalidOrder : PySem.W.nsIn K mainGlobals "InvalidOrder" = some (some (.ref C_InvalidOrder)))
    (xa_InvalidColumns : PySem.W.nsIn K mainGlobals "InvalidColumns" = some (some (.ref C_InvalidColumns)))
    (xi_InvalidTable : PySem.W.findIn K (.ref C_InvalidTable) "__init__" = some (some (.ref FI_InvalidTable))) (xt_InvalidTable : PySem.W.typeIn K (.ref FI_InvalidTable) = some (.type "function")) (xn_InvalidTable : PySem.W.findIn K (.ref C_InvalidTable) "index" = some none) (xl_InvalidTable : K.lookup FI_InvalidTable = some ⟨xoc_InvalidTable, xod_InvalidTable, .func (PySem.W.fnOf "__init__" "InvalidTable.__init__" (defArgs (inS 2 0)) (defBody (inS 2 0)) (defScope (inS 2 0)) .none xkV_InvalidTable xdc_InvalidTable xpm_InvalidTable xan_InvalidTable xcd_InvalidTable xct_InvalidTable), xsl_InvalidTable⟩) (xc_InvalidTable : PySem.W.codeIn K xcd_InvalidTable "InvalidTable.__init__" = true) (xk_InvalidTable : PySem.W.keepIn K (.ref FI_InvalidTable) = true) (x_InvalidTable : OexC K C_InvalidTable)
    (xi_MissingColumn : PySem.W.findIn K (.ref C_MissingColumn) "__init__" = some (some (.ref FI_MissingColumn))) (xt_MissingColumn : PySem.W.typeIn K (.ref FI_MissingColumn) = some (.type "function")) (xn_MissingColumn : PySem.W.findIn K (.ref C_MissingColumn) "column" = some none) (xl_MissingColumn : K.lookup FI_MissingColumn = some ⟨xoc_MissingColumn, xod_MissingColumn, .func (PySem.W.fnOf "__init__" "MissingColumn.__init__" (defArgs (inS 15 0)) (defBody (inS 15 0)) (defScope (inS 15 0)) .none xkV_MissingColumn xdc_MissingColumn xpm_MissingColumn xan_MissingColumn xcd_MissingColumn xct_MissingColumn), xsl_MissingColumn⟩) (xc_MissingColumn : PySem.W.codeIn K xcd_MissingColumn "MissingColumn.__init__" = true) (xk_MissingColumn : PySem.W.keepIn K (.ref FI_MissingColumn) = true) (x_MissingColumn : OexL K C_MissingColumn)
    (xi_InvalidProgram : PySem.W.findIn K (.ref C_InvalidProgram) "__init__" = some (some (.ref FI_InvalidProgram))) (xt_InvalidProgram : PySem.W.typeIn K (.ref FI_InvalidProgram) = some (.type "function")) (xn_InvalidProgram : PySem.W.findIn K (.ref C_InvalidProgram) "index" = some none) (xl_InvalidProgram : K.lookup FI_InvalidProgram = some ⟨xoc_InvalidProgram, xod_InvalidProgram, .func (PySem.W.fnOf "__init__" "InvalidProgram.__init__" (defArgs (inS 5 0)) (defBody (inS 5 0)) (defScope (inS 5 0)) .none xkV_InvalidProgram xdc_InvalidProgram xpm_InvalidProgram xan_InvalidProgram xcd_InvalidProgram xct_InvalidProgram), xsl_InvalidProgram⟩) (xc_InvalidProgram : PySem.W.codeIn K xcd_InvalidProgram "InvalidProgram.__init__" = true) (xk_InvalidProgram : PySem.W.keepIn K (.ref FI_InvalidProgram) = true) (x_InvalidProgram : OexC K C_InvalidProgram)
    (xe_InvalidTable_TableError : PySem.W.exmOne K (.ref C_InvalidTable) (.ref C_TableError) = some true)
    (xe_MissingColumn_TableError : PySem.W.exmOne K (.ref C_MissingColumn) (.ref C_TableError) = some false)
    (xe_InvalidProgram_TableError : PySem.W.exmOne K (.ref C_InvalidProgram) (.ref C_TableError) = some true)
    (xe_InvalidTable_FindError : PySem.W.exmOne K (.ref C_InvalidTable) (.ref C_FindError) = some false)
    (xe_MissingColumn_FindError : PySem.W.exmOne K (.ref C_MissingColumn) (.ref C_FindError) = some true)
    (xe_InvalidProgram_FindError : PySem.W.exmOne K (.ref C_InvalidProgram) (.ref C_FindError) = some false)
    (xe_InvalidTable_LimitError : PySem.W.exmOne K (.ref C_InvalidTable) (.ref C_LimitError) = some false)
    (xe_MissingColumn_LimitError : PySem.W.exmOne K (.ref C_MissingColumn) (.ref C_LimitError) = some false)
    (xe_InvalidProgram_LimitError : PySem.W.exmOne K (.ref C_InvalidProgram) (.ref C_LimitError) = some false)
    (st_InvalidTable : PySem.W.subIn K (.ref C_InvalidTable) (.type "StopIteration") = some false)
    (st_MissingColumn : PySem.W.subIn K (.ref C_MissingColumn) (.type "StopIteration") = some false)
    (st_InvalidProgram : PySem.W.subIn K (.ref C_InvalidProgram) (.type "StopIteration") = some false)
    (kx_InvalidTable : kexB K C_InvalidTable = true)
    (kx_MissingColumn : kexB K C_MissingColumn = true)
    (kx_InvalidProgram : kexB K C_InvalidProgram = true)
    (kt_ArithmeticError : kitTab K [(C_InvalidTable, .type "ArithmeticError", false), (C_MissingColumn, .type "ArithmeticError", false), (C_InvalidProgram, .type "ArithmeticError", false)] = true)
    (kt_LookupError : kitTab K [(C_InvalidTable, .type "LookupError", false), (C_MissingColumn, .type "LookupError", true), (C_InvalidProgram, .type "LookupError", false)] = true)
    (kt_ValueError : kitTab K [(C_InvalidTable, .type "ValueError", true), (C_MissingColumn, .type "ValueError", false), (C_InvalidProgram, .type "ValueError", true)] = true)
    (kt_LimitError : kitTab K [(C_InvalidTable, .ref C_LimitError, false), (C_MissingColumn, .ref C_LimitError, false), (C_InvalidProgram, .ref C_LimitError, false)] = true)
    (kt_FindError : kitTab K [(C_InvalidTable, .ref C_FindError, false), (C_MissingColumn, .ref C_FindError, true), (C_InvalidProgram, .ref C_FindError, false)] = true)
    (kt_TableError : kitTab K [(C_InvalidTable, .ref C_TableError, true), (C_MissingColumn, .ref C_TableError, false), (C_InvalidProgram, .ref C_TableError, true)] = true)
    (kt_LastRecord : kitTab K [(C_InvalidTable, .ref C_LastRecord, false), (C_MissingColumn, .ref C_LastRecord, false), (C_InvalidProgram, .ref C_LastRecord, false)] = true)
    (kt_TooManyEdits : kitTab K [(C_InvalidTable, .ref C_TooManyEdits, false), (C_MissingColumn, .ref C_TooManyEdits, false), (C_InvalidProgram, .ref C_TooManyEdits, false)] = true)
    (kt_TooManyRecords : kitTab K [(C_InvalidTable, .ref C_TooManyRecords, false), (C_MissingColumn, .ref C_TooManyRecords, false), (C_InvalidProgram, .ref C_TooManyRecords, false)] = true)
    (kt_NothingToUndo : kitTab K [(C_InvalidTable, .ref C_NothingToUndo, false), (C_MissingColumn, .ref C_NothingToUndo, false), (C_InvalidProgram, .ref C_NothingToUndo, false)] = true)
    (kt_NoPlace : kitTab K [(C_InvalidTable, .ref C_NoPlace, false), (C_MissingColumn, .ref C_NoPlace, false), (C_InvalidProgram, .ref C_NoPlace, false)] = true)
    (kt_MissingColumn : kitTab K [(C_InvalidTable, .ref C_MissingColumn, false), (C_MissingColumn, .ref C_MissingColumn, true), (C_InvalidProgram, .ref C_MissingColumn, false)] = true)
    (kt_InvalidCommand : kitTab K [(C_InvalidTable, .ref C_InvalidCommand, false), (C_MissingColumn, .ref C_InvalidCommand, false), (C_InvalidProgram, .ref C_InvalidCommand, false)] = true)
    (kt_InvalidEdit : kitTab K [(C_InvalidTable, .ref C_InvalidEdit, false), (C_MissingColumn, .ref C_InvalidEdit, false), (C_InvalidProgram, .ref C_InvalidEdit, false)] = true)
    (kt_InvalidValue : kitTab K [(C_InvalidTable, .ref C_InvalidValue, false), (C_MissingColumn, .ref C_InvalidValue, false), (C_InvalidProgram, .ref C_InvalidValue, false)] = true)
    (kt_InvalidRecord : kitTab K [(C_InvalidTable, .ref C_InvalidRecord, false), (C_MissingColumn, .ref C_InvalidRecord, false), (C_InvalidProgram, .ref C_InvalidRecord, false)] = true)
    (kt_InvalidLimit : kitTab K [(C_InvalidTable, .ref C_InvalidLimit, false), (C_MissingColumn, .ref C_InvalidLimit, false), (C_InvalidProgram, .ref C_InvalidLimit, false)] = true)
    (kt_InvalidText : kitTab K [(C_InvalidTable, .ref C_InvalidText, false), (C_MissingColumn, .ref C_InvalidText, false), (C_InvalidProgram, .ref C_InvalidText, false)] = true)
    (kt_InvalidPlaces : kitTab K [(C_InvalidTable, .ref C_InvalidPlaces, false), (C_MissingColumn, .ref C_InvalidPlaces, false), (C_InvalidProgram, .ref C_InvalidPlaces, false)] = true)
    (kt_InvalidNumber : kitTab K [(C_InvalidTable, .ref C_InvalidNumber, false), (C_MissingColumn, .ref C_InvalidNumber, false), (C_InvalidProgram, .ref C_InvalidNumber, false)] = true)
    (kt_InvalidProgram : kitTab K [(C_InvalidTable, .ref C_InvalidProgram, false), (C_MissingColumn, .ref C_InvalidProgram, false), (C_InvalidProgram, .ref C_InvalidProgram, true)] = true)
    (kt_InvalidOrder : kitTab K [(C_InvalidTable, .ref C_InvalidOrder, false), (C_MissingColumn, .ref C_InvalidOrder, false), (C_InvalidProgram, .ref C_InvalidOrder, false)] = true)
    (kt_InvalidColumns : kitTab K [(C_InvalidTable, .ref C_InvalidColumns, false), (C_MissingColumn, .ref C_InvalidColumns, false), (C_InvalidProgram, .ref C_InvalidColumns, false)] = true)
    (kt_InvalidTable : kitTab K [(C_InvalidTable, .ref C_InvalidTable, true), (C_MissingColumn, .ref C_InvalidTable, false), (C_InvalidProgram, .ref C_InvalidTable, false)] = true)
    (cq_sorted_places : cd16 = .ref c_sorted_places) (lk_sorted_places : K.lookup c_sorted_places = some ⟨moc_sorted_places, mod_sorted_places, .fields mvs_sorted_places, msl_sorted_places⟩) (pv_sorted_places : mvs_sorted_places[11]? = some (.ref P_sorted_places)) (hd_sorted_places : PySem.W.codeHdIn K c_sorted_places P_sorted_places = true) (kn_sorted_places : K.lookup P_sorted_places = none) (gt_sorted_places : h.get? P_sorted_places = some { cls := .none, data := .fields #[] }) :
    LawG l w K 27 "_law_script" m_law mg fa h := by
  have e := hfa.symm.trans (PySem.W.mg_of X G a56)
  cases e
  refine ⟨(PySem.W.fnOf "law" "law" (defArgs (topS 97)) (defBody (topS 97)) (defScope (topS 97)) .none kV56 dc56 pm56 an56 cd56 ct56), [(c_sorted_places, P_sorted_places)], { w := some w, T := [(P_sorted_places, ("sorted_places" ++ ".<locals>." : Str) ++ "<lambda>")], gd := True, C := clsOf [("InvalidTable", C_InvalidTable), ("MissingColumn", C_MissingColumn), ("InvalidProgram", C_InvalidProgram), ("TableError", C_TableError), ("FindError", C_FindError), ("LimitError", C_LimitError), ("LastRecord", C_LastRecord), ("TooManyEdits", C_TooManyEdits), ("TooManyRecords", C_TooManyRecords), ("NothingToUndo", C_NothingToUndo), ("NoPlace", C_NoPlace), ("InvalidCommand", C_InvalidCommand), ("InvalidEdit", C_InvalidEdit), ("InvalidValue", C_InvalidValue), ("InvalidRecord", C_InvalidRecord), ("InvalidLimit", C_InvalidLimit), ("InvalidText", C_InvalidText), ("InvalidPlaces", C_InvalidPlaces), ("InvalidNumber", C_InvalidNumber), ("InvalidOrder", C_InvalidOrder), ("InvalidColumns", C_InvalidColumns)] 0 }, fun c q hc => ?_, fun q hq => ?_, fun s v => .of_eq rfl, fun base hK hG hT => ?_⟩
  · simp only [List.mem_cons, List.not_mem_nil, or_false, Prod.mk.injEq] at hc
    obtain ⟨rfl, rfl⟩ := hc
    exact ⟨gt_sorted_places, kn_sorted_places, PySem.W.codeHd_of_K X hd_sorted_places⟩
  · simp only [List.mem_cons, List.not_mem_nil, or_false] at hq
    subst hq
    exact ⟨c_sorted_places, by simp⟩
  · letI : Lab := { w := some w, T := [(P_sorted_places, ("sorted_places" ++ ".<locals>." : Str) ++ "<lambda>")], gd := True, C := clsOf [("InvalidTable", C_InvalidTable), ("MissingColumn", C_MissingColumn), ("InvalidProgram", C_InvalidProgram), ("TableError", C_TableError), ("FindError", C_FindError), ("LimitError", C_LimitError), ("LastRecord", C_LastRecord), ("TooManyEdits", C_TooManyEdits), ("TooManyRecords", C_TooManyRecords), ("NothingToUndo", C_NothingToUndo), ("NoPlace", C_NoPlace), ("InvalidCommand", C_InvalidCommand), ("InvalidEdit", C_InvalidEdit), ("InvalidValue", C_InvalidValue), ("InvalidRecord", C_InvalidRecord), ("InvalidLimit", C_InvalidLimit), ("InvalidText", C_InvalidText), ("InvalidPlaces", C_InvalidPlaces), ("InvalidNumber", C_InvalidNumber), ("InvalidOrder", C_InvalidOrder), ("InvalidColumns", C_InvalidColumns)] 0 }
    haveI : LabR := ⟨trivial⟩
    exact ok_law (mkTx rfl X G a0 l0 c0 k0 a1 l1 c1 k1 a2 l2 c2 k2 a3 l3 c3 k3 a4 l4 c4 k4 a5 l5 c5 k5 a6 l6 c6 k6 a7 l7 c7 k7 a8 l8 c8 k8 a9 l9 c9 k9 a10 l10 c10 k10 a11 l11 c11 k11 a12 l12 c12 k12 a13 l13 c13 k13 a14 l14 c14 k14 a15 l15 c15 k15 a16 l16 c16 k16 a17 l17 c17 k17 a18 l18 c18 k18 a19 l19 c19 k19 a20 l20 c20 k20 a21 l21 c21 k21 a22 l22 c22 k22 a23 l23 c23 k23 a24 l24 c24 k24 a25 l25 c25 k25 a26 l26 c26 k26 a27 l27 c27 k27 a28 l28 c28 k28 a29 l29 c29 k29 a30 l30 c30 k30 a31 l31 c31 k31 a32 l32 c32 k32 a33 l33 c33 k33 a34 l34 c34 k34 a35 l35 c35 k35 a36 l36 c36 k36 a37 l37 c37 k37 a38 l38 c38 k38 a39 l39 c39 k39 a40 l40 c40 k40 a41 l41 c41 k41 a42 l42 c42 k42 a43 l43 c43 k43 a44 l44 c44 k44 a45 l45 c45 k45 a46 l46 c46 k46 a47 l47 c47 k47 a48 l48 c48 k48 a49 l49 c49 k49 a50 l50 c50 k50 a51 l51 c51 k51 a52 l52 c52 k52 a53 l53 c53 k53 a54 l54 c54 k54 a55 l55 c55 k55 a56 l56 c56 k56 n_ArithmeticError n_LookupError n_ValueError n_abs n_all n_bool n_divmod n_enumerate n_int n_isinstance n_len n_list n_max n_min n_range n_repr n_set n_sorted n_str n_sum n_tuple c_MOST_COLUMNS c_MOST_RECORDS c_MOST_KEYS c_DIRECTIONS c_LEAST_SIZE c_MOST_SIZE c_MOST_TIMES c_CUTS c_BARE_WORDS c_MOST_NESTED c_MOST_COMMANDS c_START xa_InvalidTable xa_MissingColumn xa_InvalidProgram xa_TableError xa_FindError xa_LimitError xa_LastRecord xa_TooManyEdits xa_TooManyRecords xa_NothingToUndo xa_NoPlace xa_InvalidCommand xa_InvalidEdit xa_InvalidValue xa_InvalidRecord xa_InvalidLimit xa_InvalidText xa_InvalidPlaces xa_InvalidNumber xa_InvalidOrder xa_InvalidColumns xi_InvalidTable xt_InvalidTable xn_InvalidTable xl_InvalidTable xc_InvalidTable xk_InvalidTable x_InvalidTable xi_MissingColumn xt_MissingColumn xn_MissingColumn xl_MissingColumn xc_MissingColumn xk_MissingColumn x_MissingColumn xi_InvalidProgram xt_InvalidProgram xn_InvalidProgram xl_InvalidProgram xc_InvalidProgram xk_InvalidProgram x_InvalidProgram xe_InvalidTable_TableError xe_MissingColumn_TableError xe_InvalidProgram_TableError xe_InvalidTable_FindError xe_MissingColumn_FindError xe_InvalidProgram_FindError xe_InvalidTable_LimitError xe_MissingColumn_LimitError xe_InvalidProgram_LimitError st_InvalidTable st_MissingColumn st_InvalidProgram kx_InvalidTable kx_MissingColumn kx_InvalidProgram kt_ArithmeticError kt_LookupError kt_ValueError kt_LimitError kt_FindError kt_TableError kt_LastRecord kt_TooManyEdits kt_TooManyRecords kt_NothingToUndo kt_NoPlace kt_MissingColumn kt_InvalidCommand kt_InvalidEdit kt_InvalidValue kt_InvalidRecord kt_InvalidLimit kt_InvalidText kt_InvalidPlaces kt_InvalidNumber kt_InvalidProgram kt_InvalidOrder kt_InvalidColumns kt_InvalidTable cq_sorted_places (hT c_sorted_places P_sorted_places (by simp)) (show (P_sorted_places, ("sorted_places" ++ ".<locals>." : Str) ++ "<lambda>") ∈ ([(P_sorted_places, ("sorted_places" ++ ".<locals>." : Str) ++ "<lambda>")] : List (Addr × Str)) by simp) (fun p hp e => by
      change p ∈ ([(P_sorted_places, ("sorted_places" ++ ".<locals>." : Str) ++ "<lambda>")] : List (Addr × Str)) at hp
      simp only [List.mem_cons, List.not_mem_nil, or_false] at hp
      rw [hp]) rfl)
end DL
end L2
open PySem PySem.W PyProof.Rows
set_option maxHeartbeats 0 in
theorem PySem.Challenge.cw_sortcuts_k18_programs_and_tables_refused_holds : PySem.Challenge.rw_sortcuts_k18_programs_and_tables_refused.Holds := by
  w_on; o_law; k_head; (case hw => w_witness2)
  k_fill
  refine L2.DL.walk_g (l := PySem.Challenge.rw_sortcuts_k18_programs_and_tables_refused) (n := 63) (k := 27) (x := "_law_script") (m := L2.DL.m_law) rfl (by decide) rfl ⟨rfl, by decide, by decide⟩ (fun w h Y => PySem.W.km_in_of Y) ?F (fun ns _ => L2.DL.law_spec ns)
  case F =>
    intro w mg fa h Y KX G hmg
    refine' L2.DL.all_mk KX G hmg ?a0 ?l0 ?c0 ?k0 ?a1 ?l1 ?c1 ?k1 ?a2 ?l2 ?c2 ?k2 ?a3 ?l3 ?c3 ?k3 ?a4 ?l4 ?c4 ?k4 ?a5 ?l5 ?c5 ?k5 ?a6 ?l6 ?c6 ?k6 ?a7 ?l7 ?c7 ?k7 ?a8 ?l8 ?c8 ?k8 ?a9 ?l9 ?c9 ?k9 ?a10 ?l10 ?c10 ?k10 ?a11 ?l11 ?c11 ?k11 ?a12 ?l12 ?c12 ?k12 ?a13 ?l13 ?c13 ?k13 ?a14 ?l14 ?c14 ?k14 ?a15 ?l15 ?c15 ?k15 ?a16 ?l16 ?c16 ?k16 ?a17 ?l17 ?c17 ?k17 ?a18 ?l18 ?c18 ?k18 ?a19 ?l19 ?c19 ?k19 ?a20 ?l20 ?c20 ?k20 ?a21 ?l21 ?c21 ?k21 ?a22 ?l22 ?c22 ?k22 ?a23 ?l23 ?c23 ?k23 ?a24 ?l24 ?c24 ?k24 ?a25 ?l25 ?c25 ?k25 ?a26 ?l26 ?c26 ?k26 ?a27 ?l27 ?c27 ?k27 ?a28 ?l28 ?c28 ?k28 ?a29 ?l29 ?c29 ?k29 ?a30 ?l30 ?c30 ?k30 ?a31 ?l31 ?c31 ?k31 ?a32 ?l32 ?c32 ?k32 ?a33 ?l33 ?c33 ?k33 ?a34 ?l34 ?c34 ?k34 ?a35 ?l35 ?c35 ?k35 ?a36 ?l36 ?c36 ?k36 ?a37 ?l37 ?c37 ?k37 ?a38 ?l38 ?c38 ?k38 ?a39 ?l39 ?c39 ?k39 ?a40 ?l40 ?c40 ?k40 ?a41 ?l41 ?c41 ?k41 ?a42 ?l42 ?c42 ?k42 ?a43 ?l43 ?c43 ?k43 ?a44 ?l44 ?c44 ?k44 ?a45 ?l45 ?c45 ?k45 ?a46 ?l46 ?c46 ?k46 ?a47 ?l47 ?c47 ?k47 ?a48 ?l48 ?c48 ?k48 ?a49 ?l49 ?c49 ?k49 ?a50 ?l50 ?c50 ?k50 ?a51 ?l51 ?c51 ?k51 ?a52 ?l52 ?c52 ?k52 ?a53 ?l53 ?c53 ?k53 ?a54 ?l54 ?c54 ?k54 ?a55 ?l55 ?c55 ?k55 ?a56 ?l56 ?c56 ?k56 ?n_ArithmeticError ?n_LookupError ?n_ValueError ?n_abs ?n_all ?n_bool ?n_divmod ?n_enumerate ?n_int ?n_isinstance ?n_len ?n_list ?n_max ?n_min ?n_range ?n_repr ?n_set ?n_sorted ?n_str ?n_sum ?n_tuple ?c_MOST_COLUMNS ?c_MOST_RECORDS ?c_MOST_KEYS ?c_DIRECTIONS ?c_LEAST_SIZE ?c_MOST_SIZE ?c_MOST_TIMES ?c_CUTS ?c_BARE_WORDS ?c_MOST_NESTED ?c_MOST_COMMANDS ?c_START ?xa_InvalidTable ?xa_MissingColumn ?xa_InvalidProgram ?xa_TableError ?xa_FindError ?xa_LimitError ?xa_LastRecord ?xa_TooManyEdits ?xa_TooManyRecords ?xa_NothingToUndo ?xa_NoPlace ?xa_InvalidCommand ?xa_InvalidEdit ?xa_InvalidValue ?xa_InvalidRecord ?xa_InvalidLimit ?xa_InvalidText ?xa_InvalidPlaces ?xa_InvalidNumber ?xa_InvalidOrder ?xa_InvalidColumns ?xi_InvalidTable ?xt_InvalidTable ?xn_InvalidTable ?xl_InvalidTable ?xc_InvalidTable ?xk_InvalidTable ?x_InvalidTable ?xi_MissingColumn ?xt_MissingColumn ?xn_MissingColumn ?xl_MissingColumn ?xc_MissingColumn ?xk_MissingColumn ?x_MissingColumn ?xi_InvalidProgram ?xt_InvalidProgram ?xn_InvalidProgram ?xl_InvalidProgram ?xc_InvalidProgram ?xk_InvalidProgram ?x_InvalidProgram ?xe_InvalidTable_TableError ?xe_MissingColumn_TableError ?xe_InvalidProgram_TableError ?xe_InvalidTable_FindError ?xe_MissingColumn_FindError ?xe_InvalidProgram_FindError ?xe_InvalidTable_LimitError ?xe_MissingColumn_LimitError ?xe_InvalidProgram_LimitError ?st_InvalidTable ?st_MissingColumn ?st_InvalidProgram ?kx_InvalidTable ?kx_MissingColumn ?kx_InvalidProgram ?kt_ArithmeticError ?kt_LookupError ?kt_ValueError ?kt_LimitError ?kt_FindError ?kt_TableError ?kt_LastRecord ?kt_TooManyEdits ?kt_TooManyRecords ?kt_NothingToUndo ?kt_NoPlace ?kt_MissingColumn ?kt_InvalidCommand ?kt_InvalidEdit ?kt_InvalidValue ?kt_InvalidRecord ?kt_InvalidLimit ?kt_InvalidText ?kt_InvalidPlaces ?kt_InvalidNumber ?kt_InvalidProgram ?kt_InvalidOrder ?kt_InvalidColumns ?kt_InvalidTable ?cq_sorted_places ?lk_sorted_places ?pv_sorted_places ?hd_sorted_places ?kn_sorted_places ?gt_sorted_places
    (case a0 => k_is)
    (case l0 => k_is)
    (case c0 => k_is)
    (case k0 => k_is)
    (case a1 => k_is)
    (case l1 => k_is)
    (case c1 => k_is)
    (case k1 => k_is)
    (case a2 => k_is)
    (case l2 => k_is)
    (case c2 => k_is)
    (case k2 => k_is)
    (case a3 => k_is)
    (case l3 => k_is)
    (case c3 => k_is)
    (case k3 => k_is)
    (case a4 => k_is)
    (case l4 => k_is)
    (case c4 => k_is)
    (case k4 => k_is)
    (case a5 => k_is)
    (case l5 => k_is)
    (case c5 => k_is)
    (case k5 => k_is)
    (case a6 => k_is)
    (case l6 => k_is)
    (case c6 => k_is)
    (case k6 => k_is)
    (case a7 => k_is)
    (case l7 => k_is)
    (case c7 => k_is)
    (case k7 => k_is)
    (case a8 => k_is)
    (case l8 => k_is)
    (case c8 => k_is)
    (case k8 => k_is)
    (case a9 => k_is)
    (case l9 => k_is)
    (case c9 => k_is)
    (case k9 => k_is)
    (case a10 => k_is)
    (case l10 => k_is)
    (case c10 => k_is)
    (case k10 => k_is)
    (case a11 => k_is)
    (case l11 => k_is)
    (case c11 => k_is)
    (case k11 => k_is)
    (case a12 => k_is)
    (case l12 => k_is)
    (case c12 => k_is)
    (case k12 => k_is)
    (case a13 => k_is)
    (case l13 => k_is)
    (case c13 => k_is)
    (case k13 => k_is)
    (case a14 => k_is)
    (case l14 => k_is)
    (case c14 => k_is)
    (case k14 => k_is)
    (case a15 => k_is)
    (case l15 => k_is)
    (case c15 => k_is)
    (case k15 => k_is)
    (case a16 => k_is)
    (case l16 => k_is)
    (case c16 => k_is)
    (case k16 => k_is)
    (case a17 => k_is)
    (case l17 => k_is)
    (case c17 => k_is)
    (case k17 => k_is)
    (case a18 => k_is)
    (case l18 => k_is)
    (case c18 => k_is)
    (case k18 => k_is)
    (case a19 => k_is)
    (case l19 => k_is)
    (case c19 => k_is)
    (case k19 => k_is)
    (case a20 => k_is)
    (case l20 => k_is)
    (case c20 => k_is)
    (case k20 => k_is)
    (case a21 => k_is)
    (case l21 => k_is)
    (case c21 => k_is)
    (case k21 => k_is)
    (case a22 => k_is)
    (case l22 => k_is)
    (case c22 => k_is)
    (case k22 => k_is)
    (case a23 => k_is)
    (case l23 => k_is)
    (case c23 => k_is)
    (case k23 => k_is)
    (case a24 => k_is)
    (case l24 => k_is)
    (case c24 => k_is)
    (case k24 => k_is)
    (case a25 => k_is)
    (case l25 => k_is)
    (case c25 => k_is)
    (case k25 => k_is)
    (case a26 => k_is)
    (case l26 => k_is)
    (case c26 => k_is)
    (case k26 => k_is)
    (case a27 => k_is)
    (case l27 => k_is)
    (case c27 => k_is)
    (case k27 => k_is)
    (case a28 => k_is)
    (case l28 => k_is)
    (case c28 => k_is)
    (case k28 => k_is)
    (case a29 => k_is)
    (case l29 => k_is)
    (case c29 => k_is)
    (case k29 => k_is)
    (case a30 => k_is)
    (case l30 => k_is)
    (case c30 => k_is)
    (case k30 => k_is)
    (case a31 => k_is)
    (case l31 => k_is)
    (case c31 => k_is)
    (case k31 => k_is)
    (case a32 => k_is)
    (case l32 => k_is)
    (case c32 => k_is)
    (case k32 => k_is)
    (case a33 => k_is)
    (case l33 => k_is)
    (case c33 => k_is)
    (case k33 => k_is)
    (case a34 => k_is)
    (case l34 => k_is)
    (case c34 => k_is)
    (case k34 => k_is)
    (case a35 => k_is)
    (case l35 => k_is)
    (case c35 => k_is)
    (case k35 => k_is)
    (case a36 => k_is)
    (case l36 => k_is)
    (case c36 => k_is)
    (case k36 => k_is)
    (case a37 => k_is)
    (case l37 => k_is)
    (case c37 => k_is)
    (case k37 => k_is)
    (case a38 => k_is)
    (case l38 => k_is)
    (case c38 => k_is)
    (case k38 => k_is)
    (case a39 => k_is)
    (case l39 => k_is)
    (case c39 => k_is)
    (case k39 => k_is)
    (case a40 => k_is)
    (case l40 => k_is)
    (case c40 => k_is)
    (case k40 => k_is)
    (case a41 => k_is)
    (case l41 => k_is)
    (case c41 => k_is)
    (case k41 => k_is)
    (case a42 => k_is)
    (case l42 => k_is)
    (case c42 => k_is)
    (case k42 => k_is)
    (case a43 => k_is)
    (case l43 => k_is)
    (case c43 => k_is)
    (case k43 => k_is)
    (case a44 => k_is)
    (case l44 => k_is)
    (case c44 => k_is)
    (case k44 => k_is)
    (case a45 => k_is)
    (case l45 => k_is)
    (case c45 => k_is)
    (case k45 => k_is)
    (case a46 => k_is)
    (case l46 => k_is)
    (case c46 => k_is)
    (case k46 => k_is)
    (case a47 => k_is)
    (case l47 => k_is)
    (case c47 => k_is)
    (case k47 => k_is)
    (case a48 => k_is)
    (case l48 => k_is)
    (case c48 => k_is)
    (case k48 => k_is)
    (case a49 => k_is)
    (case l49 => k_is)
    (case c49 => k_is)
    (case k49 => k_is)
    (case a50 => k_is)
    (case l50 => k_is)
    (case c50 => k_is)
    (case k50 => k_is)
    (case a51 => k_is)
    (case l51 => k_is)
    (case c51 => k_is)
    (case k51 => k_is)
    (case a52 => k_is)
    (case l52 => k_is)
    (case c52 => k_is)
    (case k52 => k_is)
    (case a53 => k_is)
    (case l53 => k_is)
    (case c53 => k_is)
    (case k53 => k_is)
    (case a54 => k_is)
    (case l54 => k_is)
    (case c54 => k_is)
    (case k54 => k_is)
    (case a55 => k_is)
    (case l55 => k_is)
    (case c55 => k_is)
    (case k55 => k_is)
    (case a56 => k_is)
    (case l56 => k_is)
    (case c56 => k_is)
    (case k56 => k_is)
    (case n_ArithmeticError => k_is)
    (case n_LookupError => k_is)
    (case n_ValueError => k_is)
    (case n_abs => k_is)
    (case n_all => k_is)
    (case n_bool => k_is)
    (case n_divmod => k_is)
    (case n_enumerate => k_is)
    (case n_int => k_is)
    (case n_isinstance => k_is)
    (case n_len => k_is)
    (case n_list => k_is)
    (case n_max => k_is)
    (case n_min => k_is)
    (case n_range => k_is)
    (case n_repr => k_is)
    (case n_set => k_is)
    (case n_sorted => k_is)
    (case n_str => k_is)
    (case n_sum => k_is)
    (case n_tuple => k_is)
    (case xa_InvalidTable => k_is)
    (case xa_MissingColumn => k_is)
    (case xa_InvalidProgram => k_is)
    (case xa_TableError => k_is)
    (case xa_FindError => k_is)
    (case xa_LimitError => k_is)
    (case xa_LastRecord => k_is)
    (case xa_TooManyEdits => k_is)
    (case xa_TooManyRecords => k_is)
    (case xa_NothingToUndo => k_is)
    (case xa_NoPlace => k_is)
    (case xa_InvalidCommand => k_is)
    (case xa_InvalidEdit => k_is)
    (case xa_InvalidValue => k_is)
    (case xa_InvalidRecord => k_is)
    (case xa_InvalidLimit => k_is)
    (case xa_InvalidText => k_is)
    (case xa_InvalidPlaces => k_is)
    (case xa_InvalidNumber => k_is)
    (case xa_InvalidOrder => k_is)
    (case xa_InvalidColumns => k_is)
    (case xi_InvalidTable => k_is)
    (case xt_InvalidTable => k_is)
    (case xn_InvalidTable => k_is)
    (case xl_InvalidTable => k_is)
    (case xc_InvalidTable => k_is)
    (case xk_InvalidTable => k_is)
    (case xi_MissingColumn => k_is)
    (case xt_MissingColumn => k_is)
    (case xn_MissingColumn => k_is)
    (case xl_MissingColumn => k_is)
    (case xc_MissingColumn => k_is)
    (case xk_MissingColumn => k_is)
    (case xi_InvalidProgram => k_is)
    (case xt_InvalidProgram => k_is)
    (case xn_InvalidProgram => k_is)
    (case xl_InvalidProgram => k_is)
    (case xc_InvalidProgram => k_is)
    (case xk_InvalidProgram => k_is)
    (case st_InvalidTable => k_is)
    (case st_MissingColumn => k_is)
    (case st_InvalidProgram => k_is)
    (case c_MOST_COLUMNS => (intro _; refine' L2.DL.cInt KX G ?q1; (case q1 => k_is)))
    (case c_MOST_RECORDS => (intro _; refine' L2.DL.cInt KX G ?q1; (case q1 => k_is)))
    (case c_MOST_KEYS => (intro _; refine' L2.DL.cInt KX G ?q1; (case q1 => k_is)))
    (case c_DIRECTIONS => (intro _; refine' L2.DL.cStrs (ss := ["down", "up"]) KX G ?s1 ?s2 ?s3 ?s4 ?s5; (case s1 => k_is); (case s2 => k_is); (case s3 => rfl); (case s4 => decide); (case s5 => exact .cons ⟨_, rfl⟩ (.cons ⟨_, rfl⟩ .nil))))
    (case c_LEAST_SIZE => (intro _; refine' L2.DL.cInt KX G ?q1; (case q1 => k_is)))
    (case c_MOST_SIZE => (intro _; refine' L2.DL.cInt KX G ?q1; (case q1 => k_is)))
    (case c_MOST_TIMES => (intro _; refine' L2.DL.cInt KX G ?q1; (case q1 => k_is)))
    (case c_CUTS => (intro _; refine' L2.DL.cStrs (ss := ["first", "last"]) KX G ?s1 ?s2 ?s3 ?s4 ?s5; (case s1 => k_is); (case s2 => k_is); (case s3 => rfl); (case s4 => decide); (case s5 => exact .cons ⟨_, rfl⟩ (.cons ⟨_, rfl⟩ .nil))))
    (case c_BARE_WORDS => (intro _; refine' L2.DL.cStrs (ss := ["reverse", "restore"]) KX G ?s1 ?s2 ?s3 ?s4 ?s5; (case s1 => k_is); (case s2 => k_is); (case s3 => rfl); (case s4 => decide); (case s5 => exact .cons ⟨_, rfl⟩ (.cons ⟨_, rfl⟩ .nil))))
    (case c_MOST_NESTED => (intro _; refine' L2.DL.cInt KX G ?q1; (case q1 => k_is)))
    (case c_MOST_COMMANDS => (intro _; refine' L2.DL.cInt KX G ?q1; (case q1 => k_is)))
    (case c_START => (intro _; refine' L2.DL.cTup1 (ss := ["place", "up"]) KX G ?s1 ?s2 ?s3 ?s4 ?s5 ?s6 ?s7 ?s8 ?s9; (case s1 => k_is); (case s2 => k_is); (case s3 => rfl); (case s4 => decide); (case s5 => rfl); (case s6 => k_is); (case s7 => rfl); (case s8 => decide); (case s9 => exact .cons ⟨_, rfl⟩ (.cons ⟨_, rfl⟩ .nil))))
    (case kx_InvalidTable => kernel_rfl)
    (case kx_MissingColumn => kernel_rfl)
    (case kx_InvalidProgram => kernel_rfl)
    (case kt_ArithmeticError => kernel_rfl)
    (case kt_LookupError => kernel_rfl)
    (case kt_ValueError => kernel_rfl)
    (case kt_LimitError => kernel_rfl)
    (case kt_FindError => kernel_rfl)
    (case kt_TableError => kernel_rfl)
    (case kt_LastRecord => kernel_rfl)
    (case kt_TooManyEdits => kernel_rfl)
    (case kt_TooManyRecords => kernel_rfl)
    (case kt_NothingToUndo => kernel_rfl)
    (case kt_NoPlace => kernel_rfl)
    (case kt_MissingColumn => kernel_rfl)
    (case kt_InvalidCommand => kernel_rfl)
    (case kt_InvalidEdit => kernel_rfl)
    (case kt_InvalidValue => kernel_rfl)
    (case kt_InvalidRecord => kernel_rfl)
    (case kt_InvalidLimit => kernel_rfl)
    (case kt_InvalidText => kernel_rfl)
    (case kt_InvalidPlaces => kernel_rfl)
    (case kt_InvalidNumber => kernel_rfl)
    (case kt_InvalidProgram => kernel_rfl)
    (case kt_InvalidOrder => kernel_rfl)
    (case kt_InvalidColumns => kernel_rfl)
    (case kt_InvalidTable => kernel_rfl)
    (case x_InvalidTable => (refine' L2.DL.oex_mk ?l1 ?r1 ?s1 ?e1 ?t1 ?k1; (case l1 => k_is); (case r1 => rfl); (case s1 => k_is); (case e1 => k_is); (case t1 => k_is); (case k1 => k_is)))
    (case x_MissingColumn => (refine' L2.DL.oel_mk ?l1 ?r1 ?s1 ?e1 ?t1 ?k1; (case l1 => k_is); (case r1 => rfl); (case s1 => k_is); (case e1 => k_is); (case t1 => k_is); (case k1 => k_is)))
    (case x_InvalidProgram => (refine' L2.DL.oex_mk ?l1 ?r1 ?s1 ?e1 ?t1 ?k1; (case l1 => k_is); (case r1 => rfl); (case s1 => k_is); (case e1 => k_is); (case t1 => k_is); (case k1 => k_is)))
    (case xe_InvalidTable_TableError => kts_exm)
    (case xe_MissingColumn_TableError => kts_exm)
    (case xe_InvalidProgram_TableError => kts_exm)
    (case xe_InvalidTable_FindError => kts_exm)
    (case xe_MissingColumn_FindError => kts_exm)
    (case xe_InvalidProgram_FindError => kts_exm)
    (case xe_InvalidTable_LimitError => kts_exm)
    (case xe_MissingColumn_LimitError => kts_exm)
    (case xe_InvalidProgram_LimitError => kts_exm)
    (case cq_sorted_places => exact rfl)
    (case lk_sorted_places => k_is)
    (case pv_sorted_places => exact rfl)
    (case hd_sorted_places => kernel_rfl)
    (case kn_sorted_places => kernel_rfl)
    (case gt_sorted_places => exact PySem.W.km_tabs_of Y _ (by first | k_mem | decide))

set_option Elab.async false
set_option maxRecDepth 100000
set_option maxHeartbeats 4000000
set_option autoImplicit false
namespace L2
namespace DL
open PySem PySem.Spec PyProof.Rows
def mkTx [Lab] {w : World} (hw : LabW.w = some w) {K : PySem.W.Frag} {h base : Heap} {mg : Str → Option Value} (X : K.In h) (G : h.Ns mainGlobals mg)
    {f0 : Addr} {od0 an0 : Option Addr} {sl0 : Array (Option Value)} {oc0 kV0 dc0 pm0 cd0 ct0 : Value}
    {f1 : Addr} {od1 an1 : Option Addr} {sl1 : Array (Option Value)} {oc1 kV1 dc1 pm1 cd1 ct1 : Value}
    {f2 : Addr} {od2 an2 : Option Addr} {sl2 : Array (Option Value)} {oc2 kV2 dc2 pm2 cd2 ct2 : Value}
    {f3 : Addr} {od3 an3 : Option Addr} {sl3 : Array (Option Value)} {oc3 kV3 dc3 pm3 cd3 ct3 : Value}
    {f4 : Addr} {od4 an4 : Option Addr} {sl4 : Array (Option Value)} {oc4 kV4 dc4 pm4 cd4 ct4 : Value}
    {f5 : Addr} {od5 an5 : Option Addr} {sl5 : Array (Option Value)} {oc5 kV5 dc5 pm5 cd5 ct5 : Value}
    {f6 : Addr} {od6 an6 : Option Addr} {sl6 : Array (Option Value)} {oc6 kV6 dc6 pm6 cd6 ct6 : Value}
    {f7 : Addr} {od7 an7 : Option Addr} {sl7 : Array (Option Value)} {oc7 kV7 dc7 pm7 cd7 ct7 : Value}
    {f8 : Addr} {od8 an8 : Option Addr} {sl8 : Array (Option Value)} {oc8 kV8 dc8 pm8 cd8 ct8 : Value}
    {f9 : Addr} {od9 an9 : Option Addr} {sl9 : Array (Option Value)} {oc9 kV9 dc9 pm9 cd9 ct9 : Value}
    {f10 : Addr} {od10 an10 : Option Addr} {sl10 : Array (Option Value)} {oc10 kV10 dc10 pm10 cd10 ct10 : Value}
    {f11 : Addr} {od11 an11 : Option Addr} {sl11 : Array (Option Value)} {oc11 kV11 dc11 pm11 cd11 ct11 : Value}
    {f12 : Addr} {od12 an12 : Option Addr} {sl12 : Array (Option Value)} {oc12 kV12 dc12 pm12 cd12 ct12 : Value}
    {f13 : Addr} {od13 an13 : Option Addr} {sl13 : Array (Option Value)} {oc13 kV13 dc13 pm13 cd13 ct13 : Value}
    {f14 : Addr} {od14 an14 : Option Addr} {sl14 : Array (Option Value)} {oc14 kV14 dc14 pm14 cd14 ct14 : Value}
    {f15 : Addr} {od15 an15 : Option Addr} {sl15 : Array (Option Value)} {oc15 kV15 dc15 pm15 cd15 ct15 : Value}
    {f16 : Addr} {od16 an16 : Option Addr} {sl16 : Array (Option Value)} {oc16 kV16 dc16 pm16 cd16 ct16 : Value}
    {f17 : Addr} {od17 an17 : Option Addr} {sl17 : Array (Option Value)} {oc17 kV17 dc17 pm17 cd17 ct17 : Value}
    {f18 : Addr} {od18 an18 : Option Addr} {sl18 : Array (Option Value)} {oc18 kV18 dc18 pm18 cd18 ct18 : Value}
    {f19 : Addr} {od19 an19 : Option Addr} {sl19 : Array (Option Value)} {oc19 kV19 dc19 pm19 cd19 ct19 : Value}
    {f20 : Addr} {od20 an20 : Option Addr} {sl20 : Array (Option Value)} {oc20 kV20 dc20 pm20 cd20 ct20 : Value}
    {f21 : Addr} {od21 an21 : Option Addr} {sl21 : Array (Option Value)} {oc21 kV21 dc21 pm21 cd21 ct21 : Value}
    {f22 : Addr} {od22 an22 : Option Addr} {sl22 : Array (Option Value)} {oc22 kV22 dc22 pm22 cd22 ct22 : Value}
    {f23 : Addr} {od23 an23 : Option Addr} {sl23 : Array (Option Value)} {oc23 kV23 dc23 pm23 cd23 ct23 : Value}
    {f24 : Addr} {od24 an24 : Option Addr} {sl24 : Array (Option Value)} {oc24 kV24 dc24 pm24 cd24 ct24 : Value}
    {f25 : Addr} {od25 an25 : Option Addr} {sl25 : Array (Option Value)} {oc25 kV25 dc25 pm25 cd25 ct25 : Value}
    {f26 : Addr} {od26 an26 : Option Addr} {sl26 : Array (Option Value)} {oc26 kV26 dc26 pm26 cd26 ct26 : Value}
    {f27 : Addr} {od27 an27 : Option Addr} {sl27 : Array (Option Value)} {oc27 kV27 dc27 pm27 cd27 ct27 : Value}
    {f28 : Addr} {od28 an28 : Option Addr} {sl28 : Array (Option Value)} {oc28 kV28 dc28 pm28 cd28 ct28 : Value}
    {f29 : Addr} {od29 an29 : Option Addr} {sl29 : Array (Option Value)} {oc29 kV29 dc29 pm29 cd29 ct29 : Value}
    {f30 : Addr} {od30 an30 : Option Addr} {sl30 : Array (Option Value)} {oc30 kV30 dc30 pm30 cd30 ct30 : Value}
    {f31 : Addr} {od31 an31 : Option Addr} {sl31 : Array (Option Value)} {oc31 kV31 dc31 pm31 cd31 ct31 : Value}
    {f32 : Addr} {od32 an32 : Option Addr} {sl32 : Array (Option Value)} {oc32 kV32 dc32 pm32 cd32 ct32 : Value}
    {f33 : Addr} {od33 an33 : Option Addr} {sl33 : Array (Option Value)} {oc33 kV33 dc33 pm33 cd33 ct33 : Value}
    {f34 : Addr} {od34 an34 : Option Addr} {sl34 : Array (Option Value)} {oc34 kV34 dc34 pm34 cd34 ct34 : Value}
    {f35 : Addr} {od35 an35 : Option Addr} {sl35 : Array (Option Value)} {oc35 kV35 dc35 pm35 cd35 ct35 : Value}
    {f36 : Addr} {od36 an36 : Option Addr} {sl36 : Array (Option Value)} {oc36 kV36 dc36 pm36 cd36 ct36 : Value}
    {f37 : Addr} {od37 an37 : Option Addr} {sl37 : Array (Option Value)} {oc37 kV37 dc37 pm37 cd37 ct37 : Value}
    {f38 : Addr} {od38 an38 : Option Addr} {sl38 : Array (Option Value)} {oc38 kV38 dc38 pm38 cd38 ct38 : Value}
    {f39 : Addr} {od39 an39 : Option Addr} {sl39 : Array (Option Value)} {oc39 kV39 dc39 pm39 cd39 ct39 : Value}
    {f40 : Addr} {od40 an40 : Option Addr} {sl40 : Array (Option Value)} {oc40 kV40 dc40 pm40 cd40 ct40 : Value}
    {f41 : Addr} {od41 an41 : Option Addr} {sl41 : Array (Option Value)} {oc41 kV41 dc41 pm41 cd41 ct41 : Value}
    {f42 : Addr} {od42 an42 : Option Addr} {sl42 : Array (Option Value)} {oc42 kV42 dc42 pm42 cd42 ct42 : Value}
    {f43 : Addr} {od43 an43 : Option Addr} {sl43 : Array (Option Value)} {oc43 kV43 dc43 pm43 cd43 ct43 : Value}
    {f44 : Addr} {od44 an44 : Option Addr} {sl44 : Array (Option Value)} {oc44 kV44 dc44 pm44 cd44 ct44 : Value}
    {f45 : Addr} {od45 an45 : Option Addr} {sl45 : Array (Option Value)} {oc45 kV45 dc45 pm45 cd45 ct45 : Value}
    {f46 : Addr} {od46 an46 : Option Addr} {sl46 : Array (Option Value)} {oc46 kV46 dc46 pm46 cd46 ct46 : Value}
    {f47 : Addr} {od47 an47 : Option Addr} {sl47 : Array (Option Value)} {oc47 kV47 dc47 pm47 cd47 ct47 : Value}
    {f48 : Addr} {od48 an48 : Option Addr} {sl48 : Array (Option Value)} {oc48 kV48 dc48 pm48 cd48 ct48 : Value}
    {f49 : Addr} {od49 an49 : Option Addr} {sl49 : Array (Option Value)} {oc49 kV49 dc49 pm49 cd49 ct49 : Value}
    {f50 : Addr} {od50 an50 : Option Addr} {sl50 : Array (Option Value)} {oc50 kV50 dc50 pm50 cd50 ct50 : Value}
    {f51 : Addr} {od51 an51 : Option Addr} {sl51 : Array (Option Value)} {oc51 kV51 dc51 pm51 cd51 ct51 : Value}
    {f52 : Addr} {od52 an52 : Option Addr} {sl52 : Array (Option Value)} {oc52 kV52 dc52 pm52 cd52 ct52 : Value}
    {f53 : Addr} {od53 an53 : Option Addr} {sl53 : Array (Option Value)} {oc53 kV53 dc53 pm53 cd53 ct53 : Value}
    {f54 : Addr} {od54 an54 : Option Addr} {sl54 : Array (Option Value)} {oc54 kV54 dc54 pm54 cd54 ct54 : Value}
    {f55 : Addr} {od55 an55 : Option Addr} {sl55 : Array (Option Value)} {oc55 kV55 dc55 pm55 cd55 ct55 : Value}
    {f56 : Addr} {od56 an56 : Option Addr} {sl56 : Array (Option Value)} {oc56 kV56 dc56 pm56 cd56 ct56 : Value}
    {C_InvalidTable : Addr}
    {C_MissingColumn : Addr}
    {C_InvalidProgram : Addr}
    {C_TableError : Addr}
    {C_FindError : Addr}
    {C_LimitError : Addr}
    {C_LastRecord : Addr}
    {C_TooManyEdits : Addr}
    {C_TooManyRecords : Addr}
    {C_NothingToUndo : Addr}
    {C_NoPlace : Addr}
    {C_InvalidCommand : Addr}
    {C_InvalidEdit : Addr}
    {C_InvalidValue : Addr}
    {C_InvalidRecord : Addr}
    {C_InvalidLimit : Addr}
    {C_InvalidText : Addr}
    {C_InvalidPlaces : Addr}
    {C_InvalidNumber : Addr}
    {C_InvalidOrder : Addr}
    {C_InvalidColumns : Addr}
    {FI_InvalidTable : Addr} {xod_InvalidTable xan_InvalidTable : Option Addr} {xsl_InvalidTable : Array (Option Value)} {xoc_InvalidTable xkV_InvalidTable xdc_InvalidTable xpm_InvalidTable xcd_InvalidTable xct_InvalidTable : Value}
    {FI_MissingColumn : Addr} {xod_MissingColumn xan_MissingColumn : Option Addr} {xsl_MissingColumn : Array (Option Value)} {xoc_MissingColumn xkV_MissingColumn xdc_MissingColumn xpm_MissingColumn xcd_MissingColumn xct_MissingColumn : Value}
    {FI_InvalidProgram : Addr} {xod_InvalidProgram xan_InvalidProgram : Option Addr} {xsl_InvalidProgram : Array (Option Value)} {xoc_InvalidProgram xkV_InvalidProgram xdc_InvalidProgram xpm_InvalidProgram xcd_InvalidProgram xct_InvalidProgram : Value}
    {c_sorted_places P_sorted_places : Addr}
    (a0 : PySem.W.nsIn K mainGlobals "is_integer" = some (some (.ref f0))) (l0 : K.lookup f0 = some ⟨oc0, od0, .func (PySem.W.fnOf "is_integer" "is_integer" (defArgs (topS 30)) (defBody (topS 30)) (defScope (topS 30)) .none kV0 dc0 pm0 an0 cd0 ct0), sl0⟩) (c0 : PySem.W.codeIn K cd0 "is_integer" = true) (k0 : PySem.W.keepIn K (.ref f0) = true)
    (a1 : PySem.W.nsIn K mainGlobals "is_record" = some (some (.ref f1))) (l1 : K.lookup f1 = some ⟨oc1, od1, .func (PySem.W.fnOf "is_record" "is_record" (defArgs (topS 31)) (defBody (topS 31)) (defScope (topS 31)) .none kV1 dc1 pm1 an1 cd1 ct1), sl1⟩) (c1 : PySem.W.codeIn K cd1 "is_record" = true) (k1 : PySem.W.keepIn K (.ref f1) = true)
    (a2 : PySem.W.nsIn K mainGlobals "check_table" = some (some (.ref f2))) (l2 : K.lookup f2 = some ⟨oc2, od2, .func (PySem.W.fnOf "check_table" "check_table" (defArgs (topS 32)) (defBody (topS 32)) (defScope (topS 32)) .none kV2 dc2 pm2 an2 cd2 ct2), sl2⟩) (c2 : PySem.W.codeIn K cd2 "check_table" = true) (k2 : PySem.W.keepIn K (.ref f2) = true)
    (a3 : PySem.W.nsIn K mainGlobals "count_columns" = some (some (.ref f3))) (l3 : K.lookup f3 = some ⟨oc3, od3, .func (PySem.W.fnOf "count_columns" "count_columns" (defArgs (topS 33)) (defBody (topS 33)) (defScope (topS 33)) .none kV3 dc3 pm3 an3 cd3 ct3), sl3⟩) (c3 : PySem.W.codeIn K cd3 "count_columns" = true) (k3 : PySem.W.keepIn K (.ref f3) = true)
    (a4 : PySem.W.nsIn K mainGlobals "every_place" = some (some (.ref f4))) (l4 : K.lookup f4 = some ⟨oc4, od4, .func (PySem.W.fnOf "every_place" "every_place" (defArgs (topS 34)) (defBody (topS 34)) (defScope (topS 34)) .none kV4 dc4 pm4 an4 cd4 ct4), sl4⟩) (c4 : PySem.W.codeIn K cd4 "every_place" = true) (k4 : PySem.W.keepIn K (.ref f4) = true)
    (a5 : PySem.W.nsIn K mainGlobals "records_at" = some (some (.ref f5))) (l5 : K.lookup f5 = some ⟨oc5, od5, .func (PySem.W.fnOf "records_at" "records_at" (defArgs (topS 35)) (defBody (topS 35)) (defScope (topS 35)) .none kV5 dc5 pm5 an5 cd5 ct5), sl5⟩) (c5 : PySem.W.codeIn K cd5 "records_at" = true) (k5 : PySem.W.keepIn K (.ref f5) = true)
    (a6 : PySem.W.nsIn K mainGlobals "check_columns_below" = some (some (.ref f6))) (l6 : K.lookup f6 = some ⟨oc6, od6, .func (PySem.W.fnOf "check_columns_below" "check_columns_below" (defArgs (topS 36)) (defBody (topS 36)) (defScope (topS 36)) .none kV6 dc6 pm6 an6 cd6 ct6), sl6⟩) (c6 : PySem.W.codeIn K cd6 "check_columns_below" = true) (k6 : PySem.W.keepIn K (.ref f6) = true)
    (a7 : PySem.W.nsIn K mainGlobals "is_word" = some (some (.ref f7))) (l7 : K.lookup f7 = some ⟨oc7, od7, .func (PySem.W.fnOf "is_word" "is_word" (defArgs (topS 39)) (defBody (topS 39)) (defScope (topS 39)) .none kV7 dc7 pm7 an7 cd7 ct7), sl7⟩) (c7 : PySem.W.codeIn K cd7 "is_word" = true) (k7 : PySem.W.keepIn K (.ref f7) = true)
    (a8 : PySem.W.nsIn K mainGlobals "is_pair" = some (some (.ref f8))) (l8 : K.lookup f8 = some ⟨oc8, od8, .func (PySem.W.fnOf "is_pair" "is_pair" (defArgs (topS 40)) (defBody (topS 40)) (defScope (topS 40)) .none kV8 dc8 pm8 an8 cd8 ct8), sl8⟩) (c8 : PySem.W.codeIn K cd8 "is_pair" = true) (k8 : PySem.W.keepIn K (.ref f8) = true)
    (a9 : PySem.W.nsIn K mainGlobals "is_sort_column" = some (some (.ref f9))) (l9 : K.lookup f9 = some ⟨oc9, od9, .func (PySem.W.fnOf "is_sort_column" "is_sort_column" (defArgs (topS 41)) (defBody (topS 41)) (defScope (topS 41)) .none kV9 dc9 pm9 an9 cd9 ct9), sl9⟩) (c9 : PySem.W.codeIn K cd9 "is_sort_column" = true) (k9 : PySem.W.keepIn K (.ref f9) = true)
    (a10 : PySem.W.nsIn K mainGlobals "is_key" = some (some (.ref f10))) (l10 : K.lookup f10 = some ⟨oc10, od10, .func (PySem.W.fnOf "is_key" "is_key" (defArgs (topS 42)) (defBody (topS 42)) (defScope (topS 42)) .none kV10 dc10 pm10 an10 cd10 ct10), sl10⟩) (c10 : PySem.W.codeIn K cd10 "is_key" = true) (k10 : PySem.W.keepIn K (.ref f10) = true)
    (a11 : PySem.W.nsIn K mainGlobals "is_place_part" = some (some (.ref f11))) (l11 : K.lookup f11 = some ⟨oc11, od11, .func (PySem.W.fnOf "is_place_part" "is_place_part" (defArgs (topS 43)) (defBody (topS 43)) (defScope (topS 43)) .none kV11 dc11 pm11 an11 cd11 ct11), sl11⟩) (c11 : PySem.W.codeIn K cd11 "is_place_part" = true) (k11 : PySem.W.keepIn K (.ref f11) = true)
    (a12 : PySem.W.nsIn K mainGlobals "check_order" = some (some (.ref f12))) (l12 : K.lookup f12 = some ⟨oc12, od12, .func (PySem.W.fnOf "check_order" "check_order" (defArgs (topS 44)) (defBody (topS 44)) (defScope (topS 44)) .none kV12 dc12 pm12 an12 cd12 ct12), sl12⟩) (c12 : PySem.W.codeIn K cd12 "check_order" = true) (k12 : PySem.W.keepIn K (.ref f12) = true)
    (a13 : PySem.W.nsIn K mainGlobals "opposite" = some (some (.ref f13))) (l13 : K.lookup f13 = some ⟨oc13, od13, .func (PySem.W.fnOf "opposite" "opposite" (defArgs (topS 45)) (defBody (topS 45)) (defScope (topS 45)) .none kV13 dc13 pm13 an13 cd13 ct13), sl13⟩) (c13 : PySem.W.codeIn K cd13 "opposite" = true) (k13 : PySem.W.keepIn K (.ref f13) = true)
    (a14 : PySem.W.nsIn K mainGlobals "turned" = some (some (.ref f14))) (l14 : K.lookup f14 = some ⟨oc14, od14, .func (PySem.W.fnOf "turned" "turned" (defArgs (topS 46)) (defBody (topS 46)) (defScope (topS 46)) .none kV14 dc14 pm14 an14 cd14 ct14), sl14⟩) (c14 : PySem.W.codeIn K cd14 "turned" = true) (k14 : PySem.W.keepIn K (.ref f14) = true)
    (a15 : PySem.W.nsIn K mainGlobals "sort_values" = some (some (.ref f15))) (l15 : K.lookup f15 = some ⟨oc15, od15, .func (PySem.W.fnOf "sort_values" "sort_values" (defArgs (topS 47)) (defBody (topS 47)) (defScope (topS 47)) .none kV15 dc15 pm15 an15 cd15 ct15), sl15⟩) (c15 : PySem.W.codeIn K cd15 "sort_values" = true) (k15 : PySem.W.keepIn K (.ref f15) = true)
    (a16 : PySem.W.nsIn K mainGlobals "sorted_places" = some (some (.ref f16))) (l16 : K.lookup f16 = some ⟨oc16, od16, .func (PySem.W.fnOf "sorted_places" "sorted_places" (defArgs (topS 48)) (defBody (topS 48)) (defScope (topS 48)) .none kV16 dc16 pm16 an16 cd16 ct16), sl16⟩) (c16 : PySem.W.codeIn K cd16 "sorted_places" = true) (k16 : PySem.W.keepIn K (.ref f16) = true)
    (a17 : PySem.W.nsIn K mainGlobals "is_size" = some (some (.ref f17))) (l17 : K.lookup f17 = some ⟨oc17, od17, .func (PySem.W.fnOf "is_size" "is_size" (defArgs (topS 53)) (defBody (topS 53)) (defScope (topS 53)) .none kV17 dc17 pm17 an17 cd17 ct17), sl17⟩) (c17 : PySem.W.codeIn K cd17 "is_size" = true) (k17 : PySem.W.keepIn K (.ref f17) = true)
    (a18 : PySem.W.nsIn K mainGlobals "is_times" = some (some (.ref f18))) (l18 : K.lookup f18 = some ⟨oc18, od18, .func (PySem.W.fnOf "is_times" "is_times" (defArgs (topS 54)) (defBody (topS 54)) (defScope (topS 54)) .none kV18 dc18 pm18 an18 cd18 ct18), sl18⟩) (c18 : PySem.W.codeIn K cd18 "is_times" = true) (k18 : PySem.W.keepIn K (.ref f18) = true)
    (a19 : PySem.W.nsIn K mainGlobals "is_plain_command" = some (some (.ref f19))) (l19 : K.lookup f19 = some ⟨oc19, od19, .func (PySem.W.fnOf "is_plain_command" "is_plain_command" (defArgs (topS 55)) (defBody (topS 55)) (defScope (topS 55)) .none kV19 dc19 pm19 an19 cd19 ct19), sl19⟩) (c19 : PySem.W.codeIn K cd19 "is_plain_command" = true) (k19 : PySem.W.keepIn K (.ref f19) = true)
    (a20 : PySem.W.nsIn K mainGlobals "begins_repeat" = some (some (.ref f20))) (l20 : K.lookup f20 = some ⟨oc20, od20, .func (PySem.W.fnOf "begins_repeat" "begins_repeat" (defArgs (topS 56)) (defBody (topS 56)) (defScope (topS 56)) .none kV20 dc20 pm20 an20 cd20 ct20), sl20⟩) (c20 : PySem.W.codeIn K cd20 "begins_repeat" = true) (k20 : PySem.W.keepIn K (.ref f20) = true)
    (a21 : PySem.W.nsIn K mainGlobals "room_behind" = some (some (.ref f21))) (l21 : K.lookup f21 = some ⟨oc21, od21, .func (PySem.W.fnOf "room_behind" "room_behind" (defArgs (topS 57)) (defBody (topS 57)) (defScope (topS 57)) .none kV21 dc21 pm21 an21 cd21 ct21), sl21⟩) (c21 : PySem.W.codeIn K cd21 "room_behind" = true) (k21 : PySem.W.keepIn K (.ref f21) = true)
    (a22 : PySem.W.nsIn K mainGlobals "room_behind_command" = some (some (.ref f22))) (l22 : K.lookup f22 = some ⟨oc22, od22, .func (PySem.W.fnOf "room_behind_command" "room_behind_command" (defArgs (topS 58)) (defBody (topS 58)) (defScope (topS 58)) .none kV22 dc22 pm22 an22 cd22 ct22), sl22⟩) (c22 : PySem.W.codeIn K cd22 "room_behind_command" = true) (k22 : PySem.W.keepIn K (.ref f22) = true)
    (a23 : PySem.W.nsIn K mainGlobals "check_program" = some (some (.ref f23))) (l23 : K.lookup f23 = some ⟨oc23, od23, .func (PySem.W.fnOf "check_program" "check_program" (defArgs (topS 59)) (defBody (topS 59)) (defScope (topS 59)) .none kV23 dc23 pm23 an23 cd23 ct23), sl23⟩) (c23 : PySem.W.codeIn K cd23 "check_program" = true) (k23 : PySem.W.keepIn K (.ref f23) = true)
    (a24 : PySem.W.nsIn K mainGlobals "count_performed" = some (some (.ref f24))) (l24 : K.lookup f24 = some ⟨oc24, od24, .func (PySem.W.fnOf "count_performed" "count_performed" (defArgs (topS 60)) (defBody (topS 60)) (defScope (topS 60)) .none kV24 dc24 pm24 an24 cd24 ct24), sl24⟩) (c24 : PySem.W.codeIn K cd24 "count_performed" = true) (k24 : PySem.W.keepIn K (.ref f24) = true)
    (a25 : PySem.W.nsIn K mainGlobals "count_commands" = some (some (.ref f25))) (l25 : K.lookup f25 = some ⟨oc25, od25, .func (PySem.W.fnOf "count_commands" "count_commands" (defArgs (topS 61)) (defBody (topS 61)) (defScope (topS 61)) .none kV25 dc25 pm25 an25 cd25 ct25), sl25⟩) (c25 : PySem.W.codeIn K cd25 "count_commands" = true) (k25 : PySem.W.keepIn K (.ref f25) = true)
    (a26 : PySem.W.nsIn K mainGlobals "program_columns" = some (some (.ref f26))) (l26 : K.lookup f26 = some ⟨oc26, od26, .func (PySem.W.fnOf "program_columns" "program_columns" (defArgs (topS 62)) (defBody (topS 62)) (defScope (topS 62)) .none kV26 dc26 pm26 an26 cd26 ct26), sl26⟩) (c26 : PySem.W.codeIn K cd26 "program_columns" = true) (k26 : PySem.W.keepIn K (.ref f26) = true)
    (a27 : PySem.W.nsIn K mainGlobals "sorted_first" = some (some (.ref f27))) (l27 : K.lookup f27 = some ⟨oc27, od27, .func (PySem.W.fnOf "sorted_first" "sorted_first" (defArgs (topS 65)) (defBody (topS 65)) (defScope (topS 65)) .none kV27 dc27 pm27 an27 cd27 ct27), sl27⟩) (c27 : PySem.W.codeIn K cd27 "sorted_first" = true) (k27 : PySem.W.keepIn K (.ref f27) = true)
    (a28 : PySem.W.nsIn K mainGlobals "after_plain" = some (some (.ref f28))) (l28 : K.lookup f28 = some ⟨oc28, od28, .func (PySem.W.fnOf "after_plain" "after_plain" (defArgs (topS 66)) (defBody (topS 66)) (defScope (topS 66)) .none kV28 dc28 pm28 an28 cd28 ct28), sl28⟩) (c28 : PySem.W.codeIn K cd28 "after_plain" = true) (k28 : PySem.W.keepIn K (.ref f28) = true)
    (a29 : PySem.W.nsIn K mainGlobals "picks_of_plain" = some (some (.ref f29))) (l29 : K.lookup f29 = some ⟨oc29, od29, .func (PySem.W.fnOf "picks_of_plain" "picks_of_plain" (defArgs (topS 67)) (defBody (topS 67)) (defScope (topS 67)) .none kV29 dc29 pm29 an29 cd29 ct29), sl29⟩) (c29 : PySem.W.codeIn K cd29 "picks_of_plain" = true) (k29 : PySem.W.keepIn K (.ref f29) = true)
    (a30 : PySem.W.nsIn K mainGlobals "after_repeat" = some (some (.ref f30))) (l30 : K.lookup f30 = some ⟨oc30, od30, .func (PySem.W.fnOf "after_repeat" "after_repeat" (defArgs (topS 68)) (defBody (topS 68)) (defScope (topS 68)) .none kV30 dc30 pm30 an30 cd30 ct30), sl30⟩) (c30 : PySem.W.codeIn K cd30 "after_repeat" = true) (k30 : PySem.W.keepIn K (.ref f30) = true)
    (a31 : PySem.W.nsIn K mainGlobals "after_command" = some (some (.ref f31))) (l31 : K.lookup f31 = some ⟨oc31, od31, .func (PySem.W.fnOf "after_command" "after_command" (defArgs (topS 69)) (defBody (topS 69)) (defScope (topS 69)) .none kV31 dc31 pm31 an31 cd31 ct31), sl31⟩) (c31 : PySem.W.codeIn K cd31 "after_command" = true) (k31 : PySem.W.keepIn K (.ref f31) = true)
    (a32 : PySem.W.nsIn K mainGlobals "after_program" = some (some (.ref f32))) (l32 : K.lookup f32 = some ⟨oc32, od32, .func (PySem.W.fnOf "after_program" "after_program" (defArgs (topS 70)) (defBody (topS 70)) (defScope (topS 70)) .none kV32 dc32 pm32 an32 cd32 ct32), sl32⟩) (c32 : PySem.W.codeIn K cd32 "after_program" = true) (k32 : PySem.W.keepIn K (.ref f32) = true)
    (a33 : PySem.W.nsIn K mainGlobals "check_run" = some (some (.ref f33))) (l33 : K.lookup f33 = some ⟨oc33, od33, .func (PySem.W.fnOf "check_run" "check_run" (defArgs (topS 72)) (defBody (topS 72)) (defScope (topS 72)) .none kV33 dc33 pm33 an33 cd33 ct33), sl33⟩) (c33 : PySem.W.codeIn K cd33 "check_run" = true) (k33 : PySem.W.keepIn K (.ref f33) = true)
    (a34 : PySem.W.nsIn K mainGlobals "picked" = some (some (.ref f34))) (l34 : K.lookup f34 = some ⟨oc34, od34, .func (PySem.W.fnOf "picked" "picked" (defArgs (topS 73)) (defBody (topS 73)) (defScope (topS 73)) .none kV34 dc34 pm34 an34 cd34 ct34), sl34⟩) (c34 : PySem.W.codeIn K cd34 "picked" = true) (k34 : PySem.W.keepIn K (.ref f34) = true)
    (a35 : PySem.W.nsIn K mainGlobals "run_places" = some (some (.ref f35))) (l35 : K.lookup f35 = some ⟨oc35, od35, .func (PySem.W.fnOf "run_places" "run_places" (defArgs (topS 74)) (defBody (topS 74)) (defScope (topS 74)) .none kV35 dc35 pm35 an35 cd35 ct35), sl35⟩) (c35 : PySem.W.codeIn K cd35 "run_places" = true) (k35 : PySem.W.keepIn K (.ref f35) = true)
    (a36 : PySem.W.nsIn K mainGlobals "run" = some (some (.ref f36))) (l36 : K.lookup f36 = some ⟨oc36, od36, .func (PySem.W.fnOf "run" "run" (defArgs (topS 75)) (defBody (topS 75)) (defScope (topS 75)) .none kV36 dc36 pm36 an36 cd36 ct36), sl36⟩) (c36 : PySem.W.codeIn K cd36 "run" = true) (k36 : PySem.W.keepIn K (.ref f36) = true)
    (a37 : PySem.W.nsIn K mainGlobals "each_table" = some (some (.ref f37))) (l37 : K.lookup f37 = some ⟨oc37, od37, .func (PySem.W.fnOf "each_table" "each_table" (defArgs (topS 76)) (defBody (topS 76)) (defScope (topS 76)) .none kV37 dc37 pm37 an37 cd37 ct37), sl37⟩) (c37 : PySem.W.codeIn K cd37 "each_table" = true) (k37 : PySem.W.keepIn K (.ref f37) = true)
    (a38 : PySem.W.nsIn K mainGlobals "written_command" = some (some (.ref f38))) (l38 : K.lookup f38 = some ⟨oc38, od38, .func (PySem.W.fnOf "written_command" "written_command" (defArgs (topS 78)) (defBody (topS 78)) (defScope (topS 78)) .none kV38 dc38 pm38 an38 cd38 ct38), sl38⟩) (c38 : PySem.W.codeIn K cd38 "written_command" = true) (k38 : PySem.W.keepIn K (.ref f38) = true)
    (a39 : PySem.W.nsIn K mainGlobals "format_program" = some (some (.ref f39))) (l39 : K.lookup f39 = some ⟨oc39, od39, .func (PySem.W.fnOf "format_program" "format_program" (defArgs (topS 79)) (defBody (topS 79)) (defScope (topS 79)) .none kV39 dc39 pm39 an39 cd39 ct39), sl39⟩) (c39 : PySem.W.codeIn K cd39 "format_program" = true) (k39 : PySem.W.keepIn K (.ref f39) = true)
    (a40 : PySem.W.nsIn K mainGlobals "_law_cell" = some (some (.ref f40))) (l40 : K.lookup f40 = some ⟨oc40, od40, .func (PySem.W.fnOf "_law_cell" "_law_cell" (defArgs (topS 81)) (defBody (topS 81)) (defScope (topS 81)) .none kV40 dc40 pm40 an40 cd40 ct40), sl40⟩) (c40 : PySem.W.codeIn K cd40 "_law_cell" = true) (k40 : PySem.W.keepIn K (.ref f40) = true)
    (a41 : PySem.W.nsIn K mainGlobals "_law_pool" = some (some (.ref f41))) (l41 : K.lookup f41 = some ⟨oc41, od41, .func (PySem.W.fnOf "_law_pool" "_law_pool" (defArgs (topS 82)) (defBody (topS 82)) (defScope (topS 82)) .none kV41 dc41 pm41 an41 cd41 ct41), sl41⟩) (c41 : PySem.W.codeIn K cd41 "_law_pool" = true) (k41 : PySem.W.keepIn K (.ref f41) = true)
    (a42 : PySem.W.nsIn K mainGlobals "_law_draw" = some (some (.ref f42))) (l42 : K.lookup f42 = some ⟨oc42, od42, .func (PySem.W.fnOf "_law_draw" "_law_draw" (defArgs (topS 83)) (defBody (topS 83)) (defScope (topS 83)) .none kV42 dc42 pm42 an42 cd42 ct42), sl42⟩) (c42 : PySem.W.codeIn K cd42 "_law_draw" = true) (k42 : PySem.W.keepIn K (.ref f42) = true)
    (a43 : PySem.W.nsIn K mainGlobals "_law_table" = some (some (.ref f43))) (l43 : K.lookup f43 = some ⟨oc43, od43, .func (PySem.W.fnOf "_law_table" "_law_table" (defArgs (topS 84)) (defBody (topS 84)) (defScope (topS 84)) .none kV43 dc43 pm43 an43 cd43 ct43), sl43⟩) (c43 : PySem.W.codeIn K cd43 "_law_table" = true) (k43 : PySem.W.keepIn K (.ref f43) = true)
    (a44 : PySem.W.nsIn K mainGlobals "_law_steps" = some (some (.ref f44))) (l44 : K.lookup f44 = some ⟨oc44, od44, .func (PySem.W.fnOf "_law_steps" "_law_steps" (defArgs (topS 85)) (defBody (topS 85)) (defScope (topS 85)) .none kV44 dc44 pm44 an44 cd44 ct44), sl44⟩) (c44 : PySem.W.codeIn K cd44 "_law_steps" = true) (k44 : PySem.W.keepIn K (.ref f44) = true)
    (a45 : PySem.W.nsIn K mainGlobals "_law_program" = some (some (.ref f45))) (l45 : K.lookup f45 = some ⟨oc45, od45, .func (PySem.W.fnOf "_law_program" "_law_program" (defArgs (topS 86)) (defBody (topS 86)) (defScope (topS 86)) .none kV45 dc45 pm45 an45 cd45 ct45), sl45⟩) (c45 : PySem.W.codeIn K cd45 "_law_program" = true) (k45 : PySem.W.keepIn K (.ref f45) = true)
    (a46 : PySem.W.nsIn K mainGlobals "_law_kind" = some (some (.ref f46))) (l46 : K.lookup f46 = some ⟨oc46, od46, .func (PySem.W.fnOf "_law_kind" "_law_kind" (defArgs (topS 87)) (defBody (topS 87)) (defScope (topS 87)) .none kV46 dc46 pm46 an46 cd46 ct46), sl46⟩) (c46 : PySem.W.codeIn K cd46 "_law_kind" = true) (k46 : PySem.W.keepIn K (.ref f46) = true)
    (a47 : PySem.W.nsIn K mainGlobals "_law_whole" = some (some (.ref f47))) (l47 : K.lookup f47 = some ⟨oc47, od47, .func (PySem.W.fnOf "_law_whole" "_law_whole" (defArgs (topS 88)) (defBody (topS 88)) (defScope (topS 88)) .none kV47 dc47 pm47 an47 cd47 ct47), sl47⟩) (c47 : PySem.W.codeIn K cd47 "_law_whole" = true) (k47 : PySem.W.keepIn K (.ref f47) = true)
    (a48 : PySem.W.nsIn K mainGlobals "_law_counted" = some (some (.ref f48))) (l48 : K.lookup f48 = some ⟨oc48, od48, .func (PySem.W.fnOf "_law_counted" "_law_counted" (defArgs (topS 89)) (defBody (topS 89)) (defScope (topS 89)) .none kV48 dc48 pm48 an48 cd48 ct48), sl48⟩) (c48 : PySem.W.codeIn K cd48 "_law_counted" = true) (k48 : PySem.W.keepIn K (.ref f48) = true)
    (a49 : PySem.W.nsIn K mainGlobals "_law_first_bad" = some (some (.ref f49))) (l49 : K.lookup f49 = some ⟨oc49, od49, .func (PySem.W.fnOf "_law_first_bad" "_law_first_bad" (defArgs (topS 90)) (defBody (topS 90)) (defScope (topS 90)) .none kV49 dc49 pm49 an49 cd49 ct49), sl49⟩) (c49 : PySem.W.codeIn K cd49 "_law_first_bad" = true) (k49 : PySem.W.keepIn K (.ref f49) = true)
    (a50 : PySem.W.nsIn K mainGlobals "_law_bent" = some (some (.ref f50))) (l50 : K.lookup f50 = some ⟨oc50, od50, .func (PySem.W.fnOf "_law_bent" "_law_bent" (defArgs (topS 91)) (defBody (topS 91)) (defScope (topS 91)) .none kV50 dc50 pm50 an50 cd50 ct50), sl50⟩) (c50 : PySem.W.codeIn K cd50 "_law_bent" = true) (k50 : PySem.W.keepIn K (.ref f50) = true)
    (a51 : PySem.W.nsIn K mainGlobals "_law_sides" = some (some (.ref f51))) (l51 : K.lookup f51 = some ⟨oc51, od51, .func (PySem.W.fnOf "_law_sides" "_law_sides" (defArgs (topS 92)) (defBody (topS 92)) (defScope (topS 92)) .none kV51 dc51 pm51 an51 cd51 ct51), sl51⟩) (c51 : PySem.W.codeIn K cd51 "_law_sides" = true) (k51 : PySem.W.keepIn K (.ref f51) = true)
    (a52 : PySem.W.nsIn K mainGlobals "_law_asked" = some (some (.ref f52))) (l52 : K.lookup f52 = some ⟨oc52, od52, .func (PySem.W.fnOf "_law_asked" "_law_asked" (defArgs (topS 93)) (defBody (topS 93)) (defScope (topS 93)) .none kV52 dc52 pm52 an52 cd52 ct52), sl52⟩) (c52 : PySem.W.codeIn K cd52 "_law_asked" = true) (k52 : PySem.W.keepIn K (.ref f52) = true)
    (a53 : PySem.W.nsIn K mainGlobals "_law_table_bad" = some (some (.ref f53))) (l53 : K.lookup f53 = some ⟨oc53, od53, .func (PySem.W.fnOf "_law_table_bad" "_law_table_bad" (defArgs (topS 94)) (defBody (topS 94)) (defScope (topS 94)) .none kV53 dc53 pm53 an53 cd53 ct53), sl53⟩) (c53 : PySem.W.codeIn K cd53 "_law_table_bad" = true) (k53 : PySem.W.keepIn K (.ref f53) = true)
    (a54 : PySem.W.nsIn K mainGlobals "_law_told_right" = some (some (.ref f54))) (l54 : K.lookup f54 = some ⟨oc54, od54, .func (PySem.W.fnOf "_law_told_right" "_law_told_right" (defArgs (topS 95)) (defBody (topS 95)) (defScope (topS 95)) .none kV54 dc54 pm54 an54 cd54 ct54), sl54⟩) (c54 : PySem.W.codeIn K cd54 "_law_told_right" = true) (k54 : PySem.W.keepIn K (.ref f54) = true)
    (a55 : PySem.W.nsIn K mainGlobals "_law_right" = some (some (.ref f55))) (l55 : K.lookup f55 = some ⟨oc55, od55, .func (PySem.W.fnOf "_law_right" "_law_right" (defArgs (topS 96)) (defBody (topS 96)) (defScope (topS 96)) .none kV55 dc55 pm55 an55 cd55 ct55), sl55⟩) (c55 : PySem.W.codeIn K cd55 "_law_right" = true) (k55 : PySem.W.keepIn K (.ref f55) = true)
    (a56 : PySem.W.nsIn K mainGlobals "law" = some (some (.ref f56))) (l56 : K.lookup f56 = some ⟨oc56, od56, .func (PySem.W.fnOf "law" "law" (defArgs (topS 97)) (defBody (topS 97)) (defScope (topS 97)) .none kV56 dc56 pm56 an56 cd56 ct56), sl56⟩) (c56 : PySem.W.codeIn K cd56 "law" = true) (k56 : PySem.W.keepIn K (.ref f56) = true)
    (n_ArithmeticError : PySem.W.nsIn K mainGlobals "ArithmeticError" = some none)
    (n_LookupError : PySem.W.nsIn K mainGlobals "LookupError" = some none)
    (n_ValueError : PySem.W.nsIn K mainGlobals "ValueError" = some none)
    (n_abs : PySem.W.nsIn K mainGlobals "abs" = some none)
    (n_all : PySem.W.nsIn K mainGlobals "all" = some none)
    (n_bool : PySem.W.nsIn K mainGlobals "bool" = some none)
    (n_divmod : PySem.W.nsIn K mainGlobals "divmod" = some none)
    (n_enumerate : PySem.W.nsIn K mainGlobals "enumerate" = some none)
    (n_int : PySem.W.nsIn K mainGlobals "int" = some none)
    (n_isinstance : PySem.W.nsIn K mainGlobals "isinstance" = some none)
    (n_len : PySem.W.nsIn K mainGlobals "len" = some none)
    (n_list : PySem.W.nsIn K mainGlobals "list" = some none)
    (n_max : PySem.W.nsIn K mainGlobals "max" = some none)
    (n_min : PySem.W.nsIn K mainGlobals "min" = some none)
    (n_range : PySem.W.nsIn K mainGlobals "range" = some none)
    (n_repr : PySem.W.nsIn K mainGlobals "repr" = some none)
    (n_set : PySem.W.nsIn K mainGlobals "set" = some none)
    (n_sorted : PySem.W.nsIn K mainGlobals "sorted" = some none)
    (n_str : PySem.W.nsIn K mainGlobals "str" = some none)
    (n_sum : PySem.W.nsIn K mainGlobals "sum" = some none)
    (n_tuple : PySem.W.nsIn K mainGlobals "tuple" = some none)
    (c_MOST_COLUMNS : ∀ [LabW], ∃ uv : Value × V, mg "MOST_COLUMNS" = some uv.1 ∧ RelV uv.2 uv.1 ∧ ∀ Z, DD K Z uv.2 cv_MOST_COLUMNS)
    (c_MOST_RECORDS : ∀ [LabW], ∃ uv : Value × V, mg "MOST_RECORDS" = some uv.1 ∧ RelV uv.2 uv.1 ∧ ∀ Z, DD K Z uv.2 cv_MOST_RECORDS)
    (c_MOST_KEYS : ∀ [LabW], ∃ uv : Value × V, mg "MOST_KEYS" = some uv.1 ∧ RelV uv.2 uv.1 ∧ ∀ Z, DD K Z uv.2 cv_MOST_KEYS)
    (c_DIRECTIONS : ∀ [LabW], ∃ uv : Value × V, mg "DIRECTIONS" = some uv.1 ∧ RelV uv.2 uv.1 ∧ ∀ Z, DD K Z uv.2 cv_DIRECTIONS)
    (c_LEAST_SIZE : ∀ [LabW], ∃ uv : Value × V, mg "LEAST_SIZE" = some uv.1 ∧ RelV uv.2 uv.1 ∧ ∀ Z, DD K Z uv.2 cv_LEAST_SIZE)
    (c_MOST_SIZE : ∀ [LabW], ∃ uv : Value × V, mg "MOST_SIZE" = some uv.1 ∧ RelV uv.2 uv.1 ∧ ∀ Z, DD K Z uv.2 cv_MOST_SIZE)
    (c_MOST_TIMES : ∀ [LabW], ∃ uv : Value × V, mg "MOST_TIMES" = some uv.1 ∧ RelV uv.2 uv.1 ∧ ∀ Z, DD K Z uv.2 cv_MOST_TIMES)
    (c_CUTS : ∀ [LabW], ∃ uv : Value × V, mg "CUTS" = some uv.1 ∧ RelV uv.2 uv.1 ∧ ∀ Z, DD K Z uv.2 cv_CUTS)
    (c_BARE_WORDS : ∀ [LabW], ∃ uv : Value × V, mg "BARE_WORDS" = some uv.1 ∧ RelV uv.2 uv.1 ∧ ∀ Z, DD K Z uv.2 cv_BARE_WORDS)
    (c_MOST_NESTED : ∀ [LabW], ∃ uv : Value × V, mg "MOST_NESTED" = some uv.1 ∧ RelV uv.2 uv.1 ∧ ∀ Z, DD K Z uv.2 cv_MOST_NESTED)
    (c_MOST_COMMANDS : ∀ [LabW], ∃ uv : Value × V, mg "MOST_COMMANDS" = some uv.1 ∧ RelV uv.2 uv.1 ∧ ∀ Z, DD K Z uv.2 cv_MOST_COMMANDS)
    (c_START : ∀ [LabW], ∃ uv : Value × V, mg "START" = some uv.1 ∧ RelV uv.2 uv.1 ∧ ∀ Z, DD K Z uv.2 cv_START)
    (xa_InvalidTable : PySem.W.nsIn K mainGlobals "InvalidTable" = some (some (.ref C_InvalidTable)))
    (xa_MissingColumn : PySem.W.nsIn K mainGlobals "MissingColumn" = some (some (.ref C_MissingColumn)))
    (xa_InvalidProgram : PySem.W.nsIn K mainGlobals "InvalidProgram" = some (some (.ref C_InvalidProgram)))
    (xa_TableError : PySem.W.nsIn K mainGlobals "TableError" = some (some (.ref C_TableError)))
    (xa_FindError : PySem.W.nsIn K mainGlobals "FindError" = some (some (.ref C_FindError)))
    (xa_LimitError : PySem.W.nsIn K mainGlobals "LimitError" = some (some (.ref C_LimitError)))
    (xa_LastRecord : PySem.W.nsIn K mainGlobals "LastRecord" = some (some (.ref C_LastRecord)))
    (xa_TooManyEdits : PySem.W.nsIn K mainGlobals "TooManyEdits" = some (some (.ref C_TooManyEdits)))
    (xa_TooManyRecords : PySem.W.nsIn K mainGlobals "TooManyRecords" = some (some (.ref C_TooManyRecords)))
    (xa_NothingToUndo : PySem.W.nsIn K mainGlobals "NothingToUndo" = some (some (.ref C_NothingToUndo)))
    (xa_NoPlace : PySem.W.nsIn K mainGlobals "NoPlace" = some (some (.ref C_NoPlace)))
    (xa_InvalidCommand : PySem.W.nsIn K mainGlobals "InvalidCommand" = some (some (.ref C_InvalidCommand)))
    (xa_InvalidEdit : PySem.W.nsIn K mainGlobals "InvalidEdit" = some (some (.ref C_InvalidEdit)))
    (xa_InvalidValue : PySem.W.nsIn K mainGlobals "InvalidValue" = some (some (.ref C_InvalidValue)))
    (xa_InvalidRecord : PySem.W.nsIn K mainGlobals "InvalidRecord" = some (some (.ref C_InvalidRecord)))
    (xa_InvalidLimit : PySem.W.nsIn K mainGlobals "InvalidLimit" = some (some (.ref C_InvalidLimit)))
    (xa_InvalidText : PySem.W.nsIn K mainGlobals "InvalidText" = some (some (.ref C_InvalidText)))
    (xa_InvalidPlaces : PySem.W.nsIn K mainGlobals "InvalidPlaces" = some (some (.ref C_InvalidPlaces)))
    (xa_InvalidNumber : PySem.W.nsIn K mainGlobals "InvalidNumber" = some (some (.ref C_InvalidNumber)))
    (xa_InvalidOrder : PySem.W.nsIn K mainGlobals "InvalidOrder" = some (some (.ref C_InvalidOrder)))
    (xa_InvalidColumns : PySem.W.nsIn K mainGlobals "InvalidColumns" = some (some (.ref C_InvalidColumns)))
    (xi_InvalidTable : PySem.W.findIn K (.ref C_InvalidTable) "__init__" = some (some (.ref FI_InvalidTable))) (xt_InvalidTable : PySem.W.typeIn K (.ref FI_InvalidTable) = some (.type "function")) (xn_InvalidTable : PySem.W.findIn K (.ref C_InvalidTable) "index" = some none) (xl_InvalidTable : K.lookup FI_InvalidTable = some ⟨xoc_InvalidTable, xod_InvalidTable, .func (PySem.W.fnOf "__init__" "InvalidTable.__init__" (defArgs (inS 2 0)) (defBody (inS 2 0)) (defScope (inS 2 0)) .none xkV_InvalidTable xdc_InvalidTable xpm_InvalidTable xan_InvalidTable xcd_InvalidTable xct_InvalidTable), xsl_InvalidTable⟩) (xc_InvalidTable : PySem.W.codeIn K xcd_InvalidTable "InvalidTable.__init__" = true) (xk_InvalidTable : PySem.W.keepIn K (.ref FI_InvalidTable) = true) (x_InvalidTable : OexC K C_InvalidTable)
    (xi_MissingColumn : PySem.W.findIn K (.ref C_MissingColumn) "__init__" = some (some (.ref FI_MissingColumn))) (xt_MissingColumn : PySem.W.typeIn K (.ref FI_MissingColumn) = some (.type "function")) (xn_MissingColumn : PySem.W.findIn K (.ref C_MissingColumn) "column" = some none) (xl_MissingColumn : K.lookup FI_MissingColumn = some ⟨xoc_MissingColumn, xod_MissingColumn, .func (PySem.W.fnOf "__init__" "MissingColumn.__init__" (defArgs (inS 15 0)) (defBody (inS 15 0)) (defScope (inS 15 0)) .none xkV_MissingColumn xdc_MissingColumn xpm_MissingColumn xan_MissingColumn xcd_MissingColumn xct_MissingColumn), xsl_MissingColumn⟩) (xc_MissingColumn : PySem.W.codeIn K xcd_MissingColumn "MissingColumn.__init__" = true) (xk_MissingColumn : PySem.W.keepIn K (.ref FI_MissingColumn) = true) (x_MissingColumn : OexL K C_MissingColumn)
    (xi_InvalidProgram : PySem.W.findIn K (.ref C_InvalidProgram) "__init__" = some (some (.ref FI_InvalidProgram))) (xt_InvalidProgram : PySem.W.typeIn K (.ref FI_InvalidProgram) = some (.type "function")) (xn_InvalidProgram : PySem.W.findIn K (.ref C_InvalidProgram) "index" = some none) (xl_InvalidProgram : K.lookup FI_InvalidProgram = some ⟨xoc_InvalidProgram, xod_InvalidProgram, .func (PySem.W.fnOf "__init__" "InvalidProgram.__init__" (defArgs (inS 5 0)) (defBody (inS 5 0)) (defScope (inS 5 0)) .none xkV_InvalidProgram xdc_InvalidProgram xpm_InvalidProgram xan_InvalidProgram xcd_InvalidProgram xct_InvalidProgram), xsl_InvalidProgram⟩) (xc_InvalidProgram : PySem.W.codeIn K xcd_InvalidProgram "InvalidProgram.__init__" = true) (xk_InvalidProgram : PySem.W.keepIn K (.ref FI_InvalidProgram) = true) (x_InvalidProgram : OexC K C_InvalidProgram)
    (xe_InvalidTable_TableError : PySem.W.exmOne K (.ref C_InvalidTable) (.ref C_TableError) = some true)
    (xe_MissingColumn_TableError : PySem.W.exmOne K (.ref C_MissingColumn) (.ref C_TableError) = some false)
    (xe_InvalidProgram_TableError : PySem.W.exmOne K (.ref C_InvalidProgram) (.ref C_TableError) = some true)
    (xe_InvalidTable_FindError : PySem.W.exmOne K (.ref C_InvalidTable) (.ref C_FindError) = some false)
    (xe_MissingColumn_FindError : PySem.W.exmOne K (.ref C_MissingColumn) (.ref C_FindError) = some true)
    (xe_InvalidProgram_FindError : PySem.W.exmOne K (.ref C_InvalidProgram) (.ref C_FindError) = some false)
    (xe_InvalidTable_LimitError : PySem.W.exmOne K (.ref C_InvalidTable) (.ref C_LimitError) = some false)
    (xe_MissingColumn_LimitError : PySem.W.exmOne K (.ref C_MissingColumn) (.ref C_LimitError) = some false)
    (xe_InvalidProgram_LimitError : PySem.W.exmOne K (.ref C_InvalidProgram) (.ref C_LimitError) = some false)
    (st_InvalidTable : PySem.W.subIn K (.ref C_InvalidTable) (.type "StopIteration") = some false)
    (st_MissingColumn : PySem.W.subIn K (.ref C_MissingColumn) (.type "StopIteration") = some false)
    (st_InvalidProgram : PySem.W.subIn K (.ref C_InvalidProgram) (.type "StopIteration") = some false)
    (kx_InvalidTable : kexB K C_InvalidTable = true)
    (kx_MissingColumn : kexB K C_MissingColumn = true)
    (kx_InvalidProgram : kexB K C_InvalidProgram = true)
    (kt_ArithmeticError : kitTab K [(C_InvalidTable, .type "ArithmeticError", false), (C_MissingColumn, .type "ArithmeticError", false), (C_InvalidProgram, .type "ArithmeticError", false)] = true)
    (kt_LookupError : kitTab K [(C_InvalidTable, .type "LookupError", false), (C_MissingColumn, .type "LookupError", true), (C_InvalidProgram, .type "LookupError", false)] = true)
    (kt_ValueError : kitTab K [(C_InvalidTable, .type "ValueError", true), (C_MissingColumn, .type "ValueError", false), (C_InvalidProgram, .type "ValueError", true)] = true)
    (kt_LimitError : kitTab K [(C_InvalidTable, .ref C_LimitError, false), (C_MissingColumn, .ref C_LimitError, false), (C_InvalidProgram, .ref C_LimitError, false)] = true)
    (kt_FindError : kitTab K [(C_InvalidTable, .ref C_FindError, false), (C_MissingColumn, .ref C_FindError, true), (C_InvalidProgram, .ref C_FindError, false)] = true)
    (kt_TableError : kitTab K [(C_InvalidTable, .ref C_TableError, true), (C_MissingColumn, .ref C_TableError, false), (C_InvalidProgram, .ref C_TableError, true)] = true)
    (kt_LastRecord : kitTab K [(C_InvalidTable, .ref C_LastRecord, false), (C_MissingColumn, .ref C_LastRecord, false), (C_InvalidProgram, .ref C_LastRecord, false)] = true)
    (kt_TooManyEdits : kitTab K [(C_InvalidTable, .ref C_TooManyEdits, false), (C_MissingColumn, .ref C_TooManyEdits, false), (C_InvalidProgram, .ref C_TooManyEdits, false)] = true)
    (kt_TooManyRecords : kitTab K [(C_InvalidTable, .ref C_TooManyRecords, false), (C_MissingColumn, .ref C_TooManyRecords, false), (C_InvalidProgram, .ref C_TooManyRecords, false)] = true)
    (kt_NothingToUndo : kitTab K [(C_InvalidTable, .ref C_NothingToUndo, false), (C_MissingColumn, .ref C_NothingToUndo, false), (C_InvalidProgram, .ref C_NothingToUndo, false)] = true)
    (kt_NoPlace : kitTab K [(C_InvalidTable, .ref C_NoPlace, false), (C_MissingColumn, .ref C_NoPlace, false), (C_InvalidProgram, .ref C_NoPlace, false)] = true)
    (kt_MissingColumn : kitTab K [(C_InvalidTable, .ref C_MissingColumn, false), (C_MissingColumn, .ref C_MissingColumn, true), (C_InvalidProgram, .ref C_MissingColumn, false)] = true)
    (kt_InvalidCommand : kitTab K [(C_InvalidTable, .ref C_InvalidCommand, false), (C_MissingColumn, .ref C_InvalidCommand, false), (C_InvalidProgram, .ref C_InvalidCommand, false)] = true)
    (kt_InvalidEdit : kitTab K [(C_InvalidTable, .ref C_InvalidEdit, false), (C_MissingColumn, .ref C_InvalidEdit, false), (C_InvalidProgram, .ref C_InvalidEdit, false)] = true)
    (kt_InvalidValue : kitTab K [(C_InvalidTable, .ref C_InvalidValue, false), (C_MissingColumn, .ref C_InvalidValue, false), (C_InvalidProgram, .ref C_InvalidValue, false)] = true)
    (kt_InvalidRecord : kitTab K [(C_InvalidTable, .ref C_InvalidRecord, false), (C_MissingColumn, .ref C_InvalidRecord, false), (C_InvalidProgram, .ref C_InvalidRecord, false)] = true)
    (kt_InvalidLimit : kitTab K [(C_InvalidTable, .ref C_InvalidLimit, false), (C_MissingColumn, .ref C_InvalidLimit, false), (C_InvalidProgram, .ref C_InvalidLimit, false)] = true)
    (kt_InvalidText : kitTab K [(C_InvalidTable, .ref C_InvalidText, false), (C_MissingColumn, .ref C_InvalidText, false), (C_InvalidProgram, .ref C_InvalidText, false)] = true)
    (kt_InvalidPlaces : kitTab K [(C_InvalidTable, .ref C_InvalidPlaces, false), (C_MissingColumn, .ref C_InvalidPlaces, false), (C_InvalidProgram, .ref C_InvalidPlaces, false)] = true)
    (kt_InvalidNumber : kitTab K [(C_InvalidTable, .ref C_InvalidNumber, false), (C_MissingColumn, .ref C_InvalidNumber, false), (C_InvalidProgram, .ref C_InvalidNumber, false)] = true)
    (kt_InvalidProgram : kitTab K [(C_InvalidTable, .ref C_InvalidProgram, false), (C_MissingColumn, .ref C_InvalidProgram, false), (C_InvalidProgram, .ref C_InvalidProgram, true)] = true)
    (kt_InvalidOrder : kitTab K [(C_InvalidTable, .ref C_InvalidOrder, false), (C_MissingColumn, .ref C_InvalidOrder, false), (C_InvalidProgram, .ref C_InvalidOrder, false)] = true)
    (kt_InvalidColumns : kitTab K [(C_InvalidTable, .ref C_InvalidColumns, false), (C_MissingColumn, .ref C_InvalidColumns, false), (C_InvalidProgram, .ref C_InvalidColumns, false)] = true)
    (kt_InvalidTable : kitTab K [(C_InvalidTable, .ref C_InvalidTable, true), (C_MissingColumn, .ref C_InvalidTable, false), (C_InvalidProgram, .ref C_InvalidTable, false)] = true)
    (cq_sorted_places : cd16 = .ref c_sorted_places) (tbx_sorted_places : LamX.TabB base mg c_sorted_places P_sorted_places) (lbx_sorted_places : (P_sorted_places, ("sorted_places" ++ ".<locals>." : Str) ++ "<lambda>") ∈ Lab.T) (lux_sorted_places : ∀ p ∈ Lab.T, p.1 = P_sorted_places → p.2 = ("sorted_places" ++ ".<locals>." : Str) ++ "<lambda>")
    (hCC : LabW.C = clsOf [("InvalidTable", C_InvalidTable), ("MissingColumn", C_MissingColumn), ("InvalidProgram", C_InvalidProgram), ("TableError", C_TableError), ("FindError", C_FindError), ("LimitError", C_LimitError), ("LastRecord", C_LastRecord), ("TooManyEdits", C_TooManyEdits), ("TooManyRecords", C_TooManyRecords), ("NothingToUndo", C_NothingToUndo), ("NoPlace", C_NoPlace), ("InvalidCommand", C_InvalidCommand), ("InvalidEdit", C_InvalidEdit), ("InvalidValue", C_InvalidValue), ("InvalidRecord", C_InvalidRecord), ("InvalidLimit", C_InvalidLimit), ("InvalidText", C_InvalidText), ("InvalidPlaces", C_InvalidPlaces), ("InvalidNumber", C_InvalidNumber), ("InvalidOrder", C_InvalidOrder), ("InvalidColumns", C_InvalidColumns)] 0) : Tx Lab.T K mg base w where
  hw := hw
  A := fun i => match i with
    | 0 => f0
    | 1 => f1
    | 2 => f2
    | 3 => f3
    | 4 => f4
    | 5 => f5
    | 6 => f6
    | 7 => f7
    | 8 => f8
    | 9 => f9
    | 10 => f10
    | 11 => f11
    | 12 => f12
    | 13 => f13
    | 14 => f14
    | 15 => f15
    | 16 => f16
    | 17 => f17
    | 18 => f18
    | 19 => f19
    | 20 => f20
    | 21 => f21
    | 22 => f22
    | 23 => f23
    | 24 => f24
    | 25 => f25
    | 26 => f26
    | 27 => f27
    | 28 => f28
    | 29 => f29
    | 30 => f30
    | 31 => f31
    | 32 => f32
    | 33 => f33
    | 34 => f34
    | 35 => f35
    | 36 => f36
    | 37 => f37
    | 38 => f38
    | 39 => f39
    | 40 => f40
    | 41 => f41
    | 42 => f42
    | 43 => f43
    | 44 => f44
    | 45 => f45
    | 46 => f46
    | 47 => f47
    | 48 => f48
    | 49 => f49
    | 50 => f50
    | 51 => f51
    | 52 => f52
    | 53 => f53
    | 54 => f54
    | 55 => f55
    | 56 => f56
    | _ => f0
  FD := fun i => match i with
    | 0 => (PySem.W.fnOf "is_integer" "is_integer" (defArgs (topS 30)) (defBody (topS 30)) (defScope (topS 30)) .none kV0 dc0 pm0 an0 cd0 ct0)
    | 1 => (PySem.W.fnOf "is_record" "is_record" (defArgs (topS 31)) (defBody (topS 31)) (defScope (topS 31)) .none kV1 dc1 pm1 an1 cd1 ct1)
    | 2 => (PySem.W.fnOf "check_table" "check_table" (defArgs (topS 32)) (defBody (topS 32)) (defScope (topS 32)) .none kV2 dc2 pm2 an2 cd2 ct2)
    | 3 => (PySem.W.fnOf "count_columns" "count_columns" (defArgs (topS 33)) (defBody (topS 33)) (defScope (topS 33)) .none kV3 dc3 pm3 an3 cd3 ct3)
    | 4 => (PySem.W.fnOf "every_place" "every_place" (defArgs (topS 34)) (defBody (topS 34)) (defScope (topS 34)) .none kV4 dc4 pm4 an4 cd4 ct4)
    | 5 => (PySem.W.fnOf "records_at" "records_at" (defArgs (topS 35)) (defBody (topS 35)) (defScope (topS 35)) .none kV5 dc5 pm5 an5 cd5 ct5)
    | 6 => (PySem.W.fnOf "check_columns_below" "check_columns_below" (defArgs (topS 36)) (defBody (topS 36)) (defScope (topS 36)) .none kV6 dc6 pm6 an6 cd6 ct6)
    | 7 => (PySem.W.fnOf "is_word" "is_word" (defArgs (topS 39)) (defBody (topS 39)) (defScope (topS 39)) .none kV7 dc7 pm7 an7 cd7 ct7)
    | 8 => (PySem.W.fnOf "is_pair" "is_pair" (defArgs (topS 40)) (defBody (topS 40)) (defScope (topS 40)) .none kV8 dc8 pm8 an8 cd8 ct8)
    | 9 => (PySem.W.fnOf "is_sort_column" "is_sort_column" (defArgs (topS 41)) (defBody (topS 41)) (defScope (topS 41)) .none kV9 dc9 pm9 an9 cd9 ct9)
    | 10 => (PySem.W.fnOf "is_key" "is_key" (defArgs (topS 42)) (defBody (topS 42)) (defScope (topS 42)) .none kV10 dc10 pm10 an10 cd10 ct10)
    | 11 => (PySem.W.fnOf "is_place_part" "is_place_part" (defArgs (topS 43)) (defBody (topS 43)) (defScope (topS 43)) .none kV11 dc11 pm11 an11 cd11 ct11)
    | 12 => (PySem.W.fnOf "check_order" "check_order" (defArgs (topS 44)) (defBody (topS 44)) (defScope (topS 44)) .none kV12 dc12 pm12 an12 cd12 ct12)
    | 13 => (PySem.W.fnOf "opposite" "opposite" (defArgs (topS 45)) (defBody (topS 45)) (defScope (topS 45)) .none kV13 dc13 pm13 an13 cd13 ct13)
    | 14 => (PySem.W.fnOf "turned" "turned" (defArgs (topS 46)) (defBody (topS 46)) (defScope (topS 46)) .none kV14 dc14 pm14 an14 cd14 ct14)
    | 15 => (PySem.W.fnOf "sort_values" "sort_values" (defArgs (topS 47)) (defBody (topS 47)) (defScope (topS 47)) .none kV15 dc15 pm15 an15 cd15 ct15)
    | 16 => (PySem.W.fnOf "sorted_places" "sorted_places" (defArgs (topS 48)) (defBody (topS 48)) (defScope (topS 48)) .none kV16 dc16 pm16 an16 cd16 ct16)
    | 17 => (PySem.W.fnOf "is_size" "is_size" (defArgs (topS 53)) (defBody (topS 53)) (defScope (topS 53)) .none kV17 dc17 pm17 an17 cd17 ct17)
    | 18 => (PySem.W.fnOf "is_times" "is_times" (defArgs (topS 54)) (defBody (topS 54)) (defScope (topS 54)) .none kV18 dc18 pm18 an18 cd18 ct18)
    | 19 => (PySem.W.fnOf "is_plain_command" "is_plain_command" (defArgs (topS 55)) (defBody (topS 55)) (defScope (topS 55)) .none kV19 dc19 pm19 an19 cd19 ct19)
    | 20 => (PySem.W.fnOf "begins_repeat" "begins_repeat" (defArgs (topS 56)) (defBody (topS 56)) (defScope (topS 56)) .none kV20 dc20 pm20 an20 cd20 ct20)
    | 21 => (PySem.W.fnOf "room_behind" "room_behind" (defArgs (topS 57)) (defBody (topS 57)) (defScope (topS 57)) .none kV21 dc21 pm21 an21 cd21 ct21)
    | 22 => (PySem.W.fnOf "room_behind_command" "room_behind_command" (defArgs (topS 58)) (defBody (topS 58)) (defScope (topS 58)) .none kV22 dc22 pm22 an22 cd22 ct22)
    | 23 => (PySem.W.fnOf "check_program" "check_program" (defArgs (topS 59)) (defBody (topS 59)) (defScope (topS 59)) .none kV23 dc23 pm23 an23 cd23 ct23)
    | 24 => (PySem.W.fnOf "count_performed" "count_performed" (defArgs (topS 60)) (defBody (topS 60)) (defScope (topS 60)) .none kV24 dc24 pm24 an24 cd24 ct24)
    | 25 => (PySem.W.fnOf "count_commands" "count_commands" (defArgs (topS 61)) (defBody (topS 61)) (defScope (topS 61)) .none kV25 dc25 pm25 an25 cd25 ct25)
    | 26 => (PySem.W.fnOf "program_columns" "program_columns" (defArgs (topS 62)) (defBody (topS 62)) (defScope (topS 62)) .none kV26 dc26 pm26 an26 cd26 ct26)
    | 27 => (PySem.W.fnOf "sorted_first" "sorted_first" (defArgs (topS 65)) (defBody (topS 65)) (defScope (topS 65)) .none kV27 dc27 pm27 an27 cd27 ct27)
    | 28 => (PySem.W.fnOf "after_plain" "after_plain" (defArgs (topS 66)) (defBody (topS 66)) (defScope (topS 66)) .none kV28 dc28 pm28 an28 cd28 ct28)
    | 29 => (PySem.W.fnOf "picks_of_plain" "picks_of_plain" (defArgs (topS 67)) (defBody (topS 67)) (defScope (topS 67)) .none kV29 dc29 pm29 an29 cd29 ct29)
    | 30 => (PySem.W.fnOf "after_repeat" "after_repeat" (defArgs (topS 68)) (defBody (topS 68)) (defScope (topS 68)) .none kV30 dc30 pm30 an30 cd30 ct30)
    | 31 => (PySem.W.fnOf "after_command" "after_command" (defArgs (topS 69)) (defBody (topS 69)) (defScope (topS 69)) .none kV31 dc31 pm31 an31 cd31 ct31)
    | 32 => (PySem.W.fnOf "after_program" "after_program" (defArgs (topS 70)) (defBody (topS 70)) (defScope (topS 70)) .none kV32 dc32 pm32 an32 cd32 ct32)
    | 33 => (PySem.W.fnOf "check_run" "check_run" (defArgs (topS 72)) (defBody (topS 72)) (defScope (topS 72)) .none kV33 dc33 pm33 an33 cd33 ct33)
    | 34 => (PySem.W.fnOf "picked" "picked" (defArgs (topS 73)) (defBody (topS 73)) (defScope (topS 73)) .none kV34 dc34 pm34 an34 cd34 ct34)
    | 35 => (PySem.W.fnOf "run_places" "run_places" (defArgs (topS 74)) (defBody (topS 74)) (defScope (topS 74)) .none kV35 dc35 pm35 an35 cd35 ct35)
    | 36 => (PySem.W.fnOf "run" "run" (defArgs (topS 75)) (defBody (topS 75)) (defScope (topS 75)) .none kV36 dc36 pm36 an36 cd36 ct36)
    | 37 => (PySem.W.fnOf "each_table" "each_table" (defArgs (topS 76)) (defBody (topS 76)) (defScope (topS 76)) .none kV37 dc37 pm37 an37 cd37 ct37)
    | 38 => (PySem.W.fnOf "written_command" "written_command" (defArgs (topS 78)) (defBody (topS 78)) (defScope (topS 78)) .none kV38 dc38 pm38 an38 cd38 ct38)
    | 39 => (PySem.W.fnOf "format_program" "format_program" (defArgs (topS 79)) (defBody (topS 79)) (defScope (topS 79)) .none kV39 dc39 pm39 an39 cd39 ct39)
    | 40 => (PySem.W.fnOf "_law_cell" "_law_cell" (defArgs (topS 81)) (defBody (topS 81)) (defScope (topS 81)) .none kV40 dc40 pm40 an40 cd40 ct40)
    | 41 => (PySem.W.fnOf "_law_pool" "_law_pool" (defArgs (topS 82)) (defBody (topS 82)) (defScope (topS 82)) .none kV41 dc41 pm41 an41 cd41 ct41)
    | 42 => (PySem.W.fnOf "_law_draw" "_law_draw" (defArgs (topS 83)) (defBody (topS 83)) (defScope (topS 83)) .none kV42 dc42 pm42 an42 cd42 ct42)
    | 43 => (PySem.W.fnOf "_law_table" "_law_table" (defArgs (topS 84)) (defBody (topS 84)) (defScope (topS 84)) .none kV43 dc43 pm43 an43 cd43 ct43)
    | 44 => (PySem.W.fnOf "_law_steps" "_law_steps" (defArgs (topS 85)) (defBody (topS 85)) (defScope (topS 85)) .none kV44 dc44 pm44 an44 cd44 ct44)
    | 45 => (PySem.W.fnOf "_law_program" "_law_program" (defArgs (topS 86)) (defBody (topS 86)) (defScope (topS 86)) .none kV45 dc45 pm45 an45 cd45 ct45)
    | 46 => (PySem.W.fnOf "_law_kind" "_law_kind" (defArgs (topS 87)) (defBody (topS 87)) (defScope (topS 87)) .none kV46 dc46 pm46 an46 cd46 ct46)
    | 47 => (PySem.W.fnOf "_law_whole" "_law_whole" (defArgs (topS 88)) (defBody (topS 88)) (defScope (topS 88)) .none kV47 dc47 pm47 an47 cd47 ct47)
    | 48 => (PySem.W.fnOf "_law_counted" "_law_counted" (defArgs (topS 89)) (defBody (topS 89)) (defScope (topS 89)) .none kV48 dc48 pm48 an48 cd48 ct48)
    | 49 => (PySem.W.fnOf "_law_first_bad" "_law_first_bad" (defArgs (topS 90)) (defBody (topS 90)) (defScope (topS 90)) .none kV49 dc49 pm49 an49 cd49 ct49)
    | 50 => (PySem.W.fnOf "_law_bent" "_law_bent" (defArgs (topS 91)) (defBody (topS 91)) (defScope (topS 91)) .none kV50 dc50 pm50 an50 cd50 ct50)
    | 51 => (PySem.W.fnOf "_law_sides" "_law_sides" (defArgs (topS 92)) (defBody (topS 92)) (defScope (topS 92)) .none kV51 dc51 pm51 an51 cd51 ct51)
    | 52 => (PySem.W.fnOf "_law_asked" "_law_asked" (defArgs (topS 93)) (defBody (topS 93)) (defScope (topS 93)) .none kV52 dc52 pm52 an52 cd52 ct52)
    | 53 => (PySem.W.fnOf "_law_table_bad" "_law_table_bad" (defArgs (topS 94)) (defBody (topS 94)) (defScope (topS 94)) .none kV53 dc53 pm53 an53 cd53 ct53)
    | 54 => (PySem.W.fnOf "_law_told_right" "_law_told_right" (defArgs (topS 95)) (defBody (topS 95)) (defScope (topS 95)) .none kV54 dc54 pm54 an54 cd54 ct54)
    | 55 => (PySem.W.fnOf "_law_right" "_law_right" (defArgs (topS 96)) (defBody (topS 96)) (defScope (topS 96)) .none kV55 dc55 pm55 an55 cd55 ct55)
    | 56 => (PySem.W.fnOf "law" "law" (defArgs (topS 97)) (defBody (topS 97)) (defScope (topS 97)) .none kV56 dc56 pm56 an56 cd56 ct56)
    | _ => (PySem.W.fnOf "is_integer" "is_integer" (defArgs (topS 30)) (defBody (topS 30)) (defScope (topS 30)) .none kV0 dc0 pm0 an0 cd0 ct0)
  D_is_integer := fun_mk (st := (topS 30)) l0 c0 k0
  g_is_integer := PySem.W.mg_of X G a0
  D_is_record := fun_mk (st := (topS 31)) l1 c1 k1
  g_is_record := PySem.W.mg_of X G a1
  D_check_table := fun_mk (st := (topS 32)) l2 c2 k2
  g_check_table := PySem.W.mg_of X G a2
  D_count_columns := fun_mk (st := (topS 33)) l3 c3 k3
  g_count_columns := PySem.W.mg_of X G a3
  D_every_place := fun_mk (st := (topS 34)) l4 c4 k4
  g_every_place := PySem.W.mg_of X G a4
  D_records_at := fun_mk (st := (topS 35)) l5 c5 k5
  g_records_at := PySem.W.mg_of X G a5
  D_check_columns_below := fun_mk (st := (topS 36)) l6 c6 k6
  g_check_columns_below := PySem.W.mg_of X G a6
  D_is_word := fun_mk (st := (topS 39)) l7 c7 k7
  g_is_word := PySem.W.mg_of X G a7
  D_is_pair := fun_mk (st := (topS 40)) l8 c8 k8
  g_is_pair := PySem.W.mg_of X G a8
  D_is_sort_column := fun_mk (st := (topS 41)) l9 c9 k9
  g_is_sort_column := PySem.W.mg_of X G a9
  D_is_key := fun_mk (st := (topS 42)) l10 c10 k10
  g_is_key := PySem.W.mg_of X G a10
  D_is_place_part := fun_mk (st := (topS 43)) l11 c11 k11
  g_is_place_part := PySem.W.mg_of X G a11
  D_check_order := fun_mk (st := (topS 44)) l12 c12 k12
  g_check_order := PySem.W.mg_of X G a12
  D_opposite := fun_mk (st := (topS 45)) l13 c13 k13
  g_opposite := PySem.W.mg_of X G a13
  D_turned := fun_mk (st := (topS 46)) l14 c14 k14
  g_turned := PySem.W.mg_of X G a14
  D_sort_values := fun_mk (st := (topS 47)) l15 c15 k15
  g_sort_values := PySem.W.mg_of X G a15
  D_sorted_places := fun_mk (st := (topS 48)) l16 c16 k16
  g_sorted_places := PySem.W.mg_of X G a16
  D_is_size := fun_mk (st := (topS 53)) l17 c17 k17
  g_is_size := PySem.W.mg_of X G a17
  D_is_times := fun_mk (st := (topS 54)) l18 c18 k18
  g_is_times := PySem.W.mg_of X G a18
  D_is_plain_command := fun_mk (st := (topS 55)) l19 c19 k19
  g_is_plain_command := PySem.W.mg_of X G a19
  D_begins_repeat := fun_mk (st := (topS 56)) l20 c20 k20
  g_begins_repeat := PySem.W.mg_of X G a20
  D_room_behind := fun_mk (st := (topS 57)) l21 c21 k21
  g_room_behind := PySem.W.mg_of X G a21
  D_room_behind_command := fun_mk (st := (topS 58)) l22 c22 k22
  g_room_behind_command := PySem.W.mg_of X G a22
  D_check_program := fun_mk (st := (topS 59)) l23 c23 k23
  g_check_program := PySem.W.mg_of X G a23
  D_count_performed := fun_mk (st := (topS 60)) l24 c24 k24
  g_count_performed := PySem.W.mg_of X G a24
  D_count_commands := fun_mk (st := (topS 61)) l25 c25 k25
  g_count_commands := PySem.W.mg_of X G a25
  D_program_columns := fun_mk (st := (topS 62)) l26 c26 k26
  g_program_columns := PySem.W.mg_of X G a26
  D_sorted_first := fun_mk (st := (topS 65)) l27 c27 k27
  g_sorted_first := PySem.W.mg_of X G a27
  D_after_plain := fun_mk (st := (topS 66)) l28 c28 k28
  g_after_plain := PySem.W.mg_of X G a28
  D_picks_of_plain := fun_mk (st := (topS 67)) l29 c29 k29
  g_picks_of_plain := PySem.W.mg_of X G a29
  D_after_repeat := fun_mk (st := (topS 68)) l30 c30 k30
  g_after_repeat := PySem.W.mg_of X G a30
  D_after_command := fun_mk (st := (topS 69)) l31 c31 k31
  g_after_command := PySem.W.mg_of X G a31
  D_after_program := fun_mk (st := (topS 70)) l32 c32 k32
  g_after_program := PySem.W.mg_of X G a32
  D_check_run := fun_mk (st := (topS 72)) l33 c33 k33
  g_check_run := PySem.W.mg_of X G a33
  D_picked := fun_mk (st := (topS 73)) l34 c34 k34
  g_picked := PySem.W.mg_of X G a34
  D_run_places := fun_mk (st := (topS 74)) l35 c35 k35
  g_run_places := PySem.W.mg_of X G a35
  D_run := fun_mk (st := (topS 75)) l36 c36 k36
  g_run := PySem.W.mg_of X G a36
  D_each_table := fun_mk (st := (topS 76)) l37 c37 k37
  g_each_table := PySem.W.mg_of X G a37
  D_written_command := fun_mk (st := (topS 78)) l38 c38 k38
  g_written_command := PySem.W.mg_of X G a38
  D_format_program := fun_mk (st := (topS 79)) l39 c39 k39
  g_format_program := PySem.W.mg_of X G a39
  D__law_cell := fun_mk (st := (topS 81)) l40 c40 k40
  g__law_cell := PySem.W.mg_of X G a40
  D__law_pool := fun_mk (st := (topS 82)) l41 c41 k41
  g__law_pool := PySem.W.mg_of X G a41
  D__law_draw := fun_mk (st := (topS 83)) l42 c42 k42
  g__law_draw := PySem.W.mg_of X G a42
  D__law_table := fun_mk (st := (topS 84)) l43 c43 k43
  g__law_table := PySem.W.mg_of X G a43
  D__law_steps := fun_mk (st := (topS 85)) l44 c44 k44
  g__law_steps := PySem.W.mg_of X G a44
  D__law_program := fun_mk (st := (topS 86)) l45 c45 k45
  g__law_program := PySem.W.mg_of X G a45
  D__law_kind := fun_mk (st := (topS 87)) l46 c46 k46
  g__law_kind := PySem.W.mg_of X G a46
  D__law_whole := fun_mk (st := (topS 88)) l47 c47 k47
  g__law_whole := PySem.W.mg_of X G a47
  D__law_counted := fun_mk (st := (topS 89)) l48 c48 k48
  g__law_counted := PySem.W.mg_of X G a48
  D__law_first_bad := fun_mk (st := (topS 90)) l49 c49 k49
  g__law_first_bad := PySem.W.mg_of X G a49
  D__law_bent := fun_mk (st := (topS 91)) l50 c50 k50
  g__law_bent := PySem.W.mg_of X G a50
  D__law_sides := fun_mk (st := (topS 92)) l51 c51 k51
  g__law_sides := PySem.W.mg_of X G a51
  D__law_asked := fun_mk (st := (topS 93)) l52 c52 k52
  g__law_asked := PySem.W.mg_of X G a52
  D__law_table_bad := fun_mk (st := (topS 94)) l53 c53 k53
  g__law_table_bad := PySem.W.mg_of X G a53
  D__law_told_right := fun_mk (st := (topS 95)) l54 c54 k54
  g__law_told_right := PySem.W.mg_of X G a54
  D__law_right := fun_mk (st := (topS 96)) l55 c55 k55
  g__law_right := PySem.W.mg_of X G a55
  D_law := fun_mk (st := (topS 97)) l56 c56 k56
  g_law := PySem.W.mg_of X G a56
  n_ArithmeticError := PySem.W.mg_none_of X G n_ArithmeticError
  n_LookupError := PySem.W.mg_none_of X G n_LookupError
  n_ValueError := PySem.W.mg_none_of X G n_ValueError
  n_abs := PySem.W.mg_none_of X G n_abs
  n_all := PySem.W.mg_none_of X G n_all
  n_bool := PySem.W.mg_none_of X G n_bool
  n_divmod := PySem.W.mg_none_of X G n_divmod
  n_enumerate := PySem.W.mg_none_of X G n_enumerate
  n_int := PySem.W.mg_none_of X G n_int
  n_isinstance := PySem.W.mg_none_of X G n_isinstance
  n_len := PySem.W.mg_none_of X G n_len
  n_list := PySem.W.mg_none_of X G n_list
  n_max := PySem.W.mg_none_of X G n_max
  n_min := PySem.W.mg_none_of X G n_min
  n_range := PySem.W.mg_none_of X G n_range
  n_repr := PySem.W.mg_none_of X G n_repr
  n_set := PySem.W.mg_none_of X G n_set
  n_sorted := PySem.W.mg_none_of X G n_sorted
  n_str := PySem.W.mg_none_of X G n_str
  n_sum := PySem.W.mg_none_of X G n_sum
  n_tuple := PySem.W.mg_none_of X G n_tuple
  c_MOST_COLUMNS := c_MOST_COLUMNS
  c_MOST_RECORDS := c_MOST_RECORDS
  c_MOST_KEYS := c_MOST_KEYS
  c_DIRECTIONS := c_DIRECTIONS
  c_LEAST_SIZE := c_LEAST_SIZE
  c_MOST_SIZE := c_MOST_SIZE
  c_MOST_TIMES := c_MOST_TIMES
  c_CUTS := c_CUTS
  c_BARE_WORDS := c_BARE_WORDS
  c_MOST_NESTED := c_MOST_NESTED
  c_MOST_COMMANDS := c_MOST_COMMANDS
  c_START := c_START
  xm_InvalidTable := PySem.W.mg_of X G xa_InvalidTable
  xm_MissingColumn := PySem.W.mg_of X G xa_MissingColumn
  xm_InvalidProgram := PySem.W.mg_of X G xa_InvalidProgram
  xm_TableError := PySem.W.mg_of X G xa_TableError
  xm_FindError := PySem.W.mg_of X G xa_FindError
  xm_LimitError := PySem.W.mg_of X G xa_LimitError
  xm_LastRecord := PySem.W.mg_of X G xa_LastRecord
  xm_TooManyEdits := PySem.W.mg_of X G xa_TooManyEdits
  xm_TooManyRecords := PySem.W.mg_of X G xa_TooManyRecords
  xm_NothingToUndo := PySem.W.mg_of X G xa_NothingToUndo
  xm_NoPlace := PySem.W.mg_of X G xa_NoPlace
  xm_InvalidCommand := PySem.W.mg_of X G xa_InvalidCommand
  xm_InvalidEdit := PySem.W.mg_of X G xa_InvalidEdit
  xm_InvalidValue := PySem.W.mg_of X G xa_InvalidValue
  xm_InvalidRecord := PySem.W.mg_of X G xa_InvalidRecord
  xm_InvalidLimit := PySem.W.mg_of X G xa_InvalidLimit
  xm_InvalidText := PySem.W.mg_of X G xa_InvalidText
  xm_InvalidPlaces := PySem.W.mg_of X G xa_InvalidPlaces
  xm_InvalidNumber := PySem.W.mg_of X G xa_InvalidNumber
  xm_InvalidOrder := PySem.W.mg_of X G xa_InvalidOrder
  xm_InvalidColumns := PySem.W.mg_of X G xa_InvalidColumns
  xi_InvalidTable := xi_InvalidTable
  xt_InvalidTable := xt_InvalidTable
  xn_InvalidTable := xn_InvalidTable
  xD_InvalidTable := fun_mk (st := (inS 2 0)) xl_InvalidTable xc_InvalidTable xk_InvalidTable
  x_InvalidTable := x_InvalidTable
  xi_MissingColumn := xi_MissingColumn
  xt_MissingColumn := xt_MissingColumn
  xn_MissingColumn := xn_MissingColumn
  xD_MissingColumn := fun_mk (st := (inS 15 0)) xl_MissingColumn xc_MissingColumn xk_MissingColumn
  x_MissingColumn := x_MissingColumn
  xi_InvalidProgram := xi_InvalidProgram
  xt_InvalidProgram := xt_InvalidProgram
  xn_InvalidProgram := xn_InvalidProgram
  xD_InvalidProgram := fun_mk (st := (inS 5 0)) xl_InvalidProgram xc_InvalidProgram xk_InvalidProgram
  x_InvalidProgram := x_InvalidProgram
  xe_InvalidTable_TableError := xe_InvalidTable_TableError
  xe_MissingColumn_TableError := xe_MissingColumn_TableError
  xe_InvalidProgram_TableError := xe_InvalidProgram_TableError
  xe_InvalidTable_FindError := xe_InvalidTable_FindError
  xe_MissingColumn_FindError := xe_MissingColumn_FindError
  xe_InvalidProgram_FindError := xe_InvalidProgram_FindError
  xe_InvalidTable_LimitError := xe_InvalidTable_LimitError
  xe_MissingColumn_LimitError := xe_MissingColumn_LimitError
  xe_InvalidProgram_LimitError := xe_InvalidProgram_LimitError
  st_InvalidTable := st_InvalidTable
  st_MissingColumn := st_MissingColumn
  st_InvalidProgram := st_InvalidProgram
  hC := hCC.symm
  kx_InvalidTable := kx_InvalidTable
  kx_MissingColumn := kx_MissingColumn
  kx_InvalidProgram := kx_InvalidProgram
  kt_ArithmeticError := kt_ArithmeticError
  kt_LookupError := kt_LookupError
  kt_ValueError := kt_ValueError
  kt_LimitError := kt_LimitError
  kt_FindError := kt_FindError
  kt_TableError := kt_TableError
  kt_LastRecord := kt_LastRecord
  kt_TooManyEdits := kt_TooManyEdits
  kt_TooManyRecords := kt_TooManyRecords
  kt_NothingToUndo := kt_NothingToUndo
  kt_NoPlace := kt_NoPlace
  kt_MissingColumn := kt_MissingColumn
  kt_InvalidCommand := kt_InvalidCommand
  kt_InvalidEdit := kt_InvalidEdit
  kt_InvalidValue := kt_InvalidValue
  kt_InvalidRecord := kt_InvalidRecord
  kt_InvalidLimit := kt_InvalidLimit
  kt_InvalidText := kt_InvalidText
  kt_InvalidPlaces := kt_InvalidPlaces
  kt_InvalidNumber := kt_InvalidNumber
  kt_InvalidProgram := kt_InvalidProgram
  kt_InvalidOrder := kt_InvalidOrder
  kt_InvalidColumns := kt_InvalidColumns
  kt_InvalidTable := kt_InvalidTable
  C := clsOf [("InvalidTable", C_InvalidTable), ("MissingColumn", C_MissingColumn), ("InvalidProgram", C_InvalidProgram), ("TableError", C_TableError), ("FindError", C_FindError), ("LimitError", C_LimitError), ("LastRecord", C_LastRecord), ("TooManyEdits", C_TooManyEdits), ("TooManyRecords", C_TooManyRecords), ("NothingToUndo", C_NothingToUndo), ("NoPlace", C_NoPlace), ("InvalidCommand", C_InvalidCommand), ("InvalidEdit", C_InvalidEdit), ("InvalidValue", C_InvalidValue), ("InvalidRecord", C_InvalidRecord), ("InvalidLimit", C_InvalidLimit), ("InvalidText", C_InvalidText), ("InvalidPlaces", C_InvalidPlaces), ("InvalidNumber", C_InvalidNumber), ("InvalidOrder", C_InvalidOrder), ("InvalidColumns", C_InvalidColumns)] 0
  FI := clsOf [("InvalidTable", FI_InvalidTable), ("MissingColumn", FI_MissingColumn), ("InvalidProgram", FI_InvalidProgram)] 0
  FDI := clsOf [("InvalidTable", (PySem.W.fnOf "__init__" "InvalidTable.__init__" (defArgs (inS 2 0)) (defBody (inS 2 0)) (defScope (inS 2 0)) .none xkV_InvalidTable xdc_InvalidTable xpm_InvalidTable xan_InvalidTable xcd_InvalidTable xct_InvalidTable)), ("MissingColumn", (PySem.W.fnOf "__init__" "MissingColumn.__init__" (defArgs (inS 15 0)) (defBody (inS 15 0)) (defScope (inS 15 0)) .none xkV_MissingColumn xdc_MissingColumn xpm_MissingColumn xan_MissingColumn xcd_MissingColumn xct_MissingColumn)), ("InvalidProgram", (PySem.W.fnOf "__init__" "InvalidProgram.__init__" (defArgs (inS 5 0)) (defBody (inS 5 0)) (defScope (inS 5 0)) .none xkV_InvalidProgram xdc_InvalidProgram xpm_InvalidProgram xan_InvalidProgram xcd_InvalidProgram xct_InvalidProgram))] (PySem.W.fnOf "__init__" "InvalidTable.__init__" (defArgs (inS 2 0)) (defBody (inS 2 0)) (defScope (inS 2 0)) .none xkV_InvalidTable xdc_InvalidTable xpm_InvalidTable xan_InvalidTable xcd_InvalidTable xct_InvalidTable)
  cP_sorted_places := (c_sorted_places, P_sorted_places)
  tb_sorted_places := tbx_sorted_places
  cd_sorted_places := (show cd16 = .ref c_sorted_places from cq_sorted_places)
  lb_sorted_places := lbx_sorted_places
  lu_sorted_places := lux_sorted_places
theorem all_mk {l : PySem.W.OpenLaw} {w : World} {K : PySem.W.Frag} {h : Heap} {mg : Str → Option Value} {fa : Addr} (X : K.In h) (G : h.Ns mainGlobals mg) (hfa : mg "law" = some (.ref fa))
    {f0 : Addr} {od0 an0 : Option Addr} {sl0 : Array (Option Value)} {oc0 kV0 dc0 pm0 cd0 ct0 : Value}
    {f1 : Addr} {od1 an1 : Option Addr} {sl1 : Array (Option Value)} {oc1 kV1 dc1 pm1 cd1 ct1 : Value}
    {f2 : Addr} {od2 an2 : Option Addr} {sl2 : Array (Option Value)} {oc2 kV2 dc2 pm2 cd2 ct2 : Value}
    {f3 : Addr} {od3 an3 : Option Addr} {sl3 : Array (Option Value)} {oc3 kV3 dc3 pm3 cd3 ct3 : Value}
    {f4 : Addr} {od4 an4 : Option Addr} {sl4 : Array (Option Value)} {oc4 kV4 dc4 pm4 cd4 ct4 : Value}
    {f5 : Addr} {od5 an5 : Option Addr} {sl5 : Array (Option Value)} {oc5 kV5 dc5 pm5 cd5 ct5 : Value}
    {f6 : Addr} {od6 an6 : Option Addr} {sl6 : Array (Option Value)} {oc6 kV6 dc6 pm6 cd6 ct6 : Value}
    {f7 : Addr} {od7 an7 : Option Addr} {sl7 : Array (Option Value)} {oc7 kV7 dc7 pm7 cd7 ct7 : Value}
    {f8 : Addr} {od8 an8 : Option Addr} {sl8 : Array (Option Value)} {oc8 kV8 dc8 pm8 cd8 ct8 : Value}
    {f9 : Addr} {od9 an9 : Option Addr} {sl9 : Array (Option Value)} {oc9 kV9 dc9 pm9 cd9 ct9 : Value}
    {f10 : Addr} {od10 an10 : Option Addr} {sl10 : Array (Option Value)} {oc10 kV10 dc10 pm10 cd10 ct10 : Value}
    {f11 : Addr} {od11 an11 : Option Addr} {sl11 : Array (Option Value)} {oc11 kV11 dc11 pm11 cd11 ct11 : Value}
    {f12 : Addr} {od12 an12 : Option Addr} {sl12 : Array (Option Value)} {oc12 kV12 dc12 pm12 cd12 ct12 : Value}
    {f13 : Addr} {od13 an13 : Option Addr} {sl13 : Array (Option Value)} {oc13 kV13 dc13 pm13 cd13 ct13 : Value}
    {f14 : Addr} {od14 an14 : Option Addr} {sl14 : Array (Option Value)} {oc14 kV14 dc14 pm14 cd14 ct14 : Value}
    {f15 : Addr} {od15 an15 : Option Addr} {sl15 : Array (Option Value)} {oc15 kV15 dc15 pm15 cd15 ct15 : Value}
    {f16 : Addr} {od16 an16 : Option Addr} {sl16 : Array (Option Value)} {oc16 kV16 dc16 pm16 cd16 ct16 : Value}
    {f17 : Addr} {od17 an17 : Option Addr} {sl17 : Array (Option Value)} {oc17 kV17 dc17 pm17 cd17 ct17 : Value}
    {f18 : Addr} {od18 an18 : Option Addr} {sl18 : Array (Option Value)} {oc18 kV18 dc18 pm18 cd18 ct18 : Value}
    {f19 : Addr} {od19 an19 : Option Addr} {sl19 : Array (Option Value)} {oc19 kV19 dc19 pm19 cd19 ct19 : Value}
    {f20 : Addr} {od20 an20 : Option Addr} {sl20 : Array (Option Value)} {oc20 kV20 dc20 pm20 cd20 ct20 : Value}
    {f21 : Addr} {od21 an21 : Option Addr} {sl21 : Array (Option Value)} {oc21 kV21 dc21 pm21 cd21 ct21 : Value}
    {f22 : Addr} {od22 an22 : Option Addr} {sl22 : Array (Option Value)} {oc22 kV22 dc22 pm22 cd22 ct22 : Value}
    {f23 : Addr} {od23 an23 : Option Addr} {sl23 : Array (Option Value)} {oc23 kV23 dc23 pm23 cd23 ct23 : Value}
    {f24 : Addr} {od24 an24 : Option Addr} {sl24 : Array (Option Value)} {oc24 kV24 dc24 pm24 cd24 ct24 : Value}
    {f25 : Addr} {od25 an25 : Option Addr} {sl25 : Array (Option Value)} {oc25 kV25 dc25 pm25 cd25 ct25 : Value}
    {f26 : Addr} {od26 an26 : Option Addr} {sl26 : Array (Option Value)} {oc26 kV26 dc26 pm26 cd26 ct26 : Value}
    {f27 : Addr} {od27 an27 : Option Addr} {sl27 : Array (Option Value)} {oc27 kV27 dc27 pm27 cd27 ct27 : Value}
    {f28 : Addr} {od28 an28 : Option Addr} {sl28 : Array (Option Value)} {oc28 kV28 dc28 pm28 cd28 ct28 : Value}
    {f29 : Addr} {od29 an29 : Option Addr} {sl29 : Array (Option Value)} {oc29 kV29 dc29 pm29 cd29 ct29 : Value}
    {f30 : Addr} {od30 an30 : Option Addr} {sl30 : Array (Option Value)} {oc30 kV30 dc30 pm30 cd30 ct30 : Value}
    {f31 : Addr} {od31 an31 : Option Addr} {sl31 : Array (Option Value)} {oc31 kV31 dc31 pm31 cd31 ct31 : Value}
    {f32 : Addr} {od32 an32 : Option Addr} {sl32 : Array (Option Value)} {oc32 kV32 dc32 pm32 cd32 ct32 : Value}
    {f33 : Addr} {od33 an33 : Option Addr} {sl33 : Array (Option Value)} {oc33 kV33 dc33 pm33 cd33 ct33 : Value}
    {f34 : Addr} {od34 an34 : Option Addr} {sl34 : Array (Option Value)} {oc34 kV34 dc34 pm34 cd34 ct34 : Value}
    {f35 : Addr} {od35 an35 : Option Addr} {sl35 : Array (Option Value)} {oc35 kV35 dc35 pm35 cd35 ct35 : Value}
    {f36 : Addr} {od36 an36 : Option Addr} {sl36 : Array (Option Value)} {oc36 kV36 dc36 pm36 cd36 ct36 : Value}
    {f37 : Addr} {od37 an37 : Option Addr} {sl37 : Array (Option Value)} {oc37 kV37 dc37 pm37 cd37 ct37 : Value}
    {f38 : Addr} {od38 an38 : Option Addr} {sl38 : Array (Option Value)} {oc38 kV38 dc38 pm38 cd38 ct38 : Value}
    {f39 : Addr} {od39 an39 : Option Addr} {sl39 : Array (Option Value)} {oc39 kV39 dc39 pm39 cd39 ct39 : Value}
    {f40 : Addr} {od40 an40 : Option Addr} {sl40 : Array (Option Value)} {oc40 kV40 dc40 pm40 cd40 ct40 : Value}
    {f41 : Addr} {od41 an41 : Option Addr} {sl41 : Array (Option Value)} {oc41 kV41 dc41 pm41 cd41 ct41 : Value}
    {f42 : Addr} {od42 an42 : Option Addr} {sl42 : Array (Option Value)} {oc42 kV42 dc42 pm42 cd42 ct42 : Value}
    {f43 : Addr} {od43 an43 : Option Addr} {sl43 : Array (Option Value)} {oc43 kV43 dc43 pm43 cd43 ct43 : Value}
    {f44 : Addr} {od44 an44 : Option Addr} {sl44 : Array (Option Value)} {oc44 kV44 dc44 pm44 cd44 ct44 : Value}
    {f45 : Addr} {od45 an45 : Option Addr} {sl45 : Array (Option Value)} {oc45 kV45 dc45 pm45 cd45 ct45 : Value}
    {f46 : Addr} {od46 an46 : Option Addr} {sl46 : Array (Option Value)} {oc46 kV46 dc46 pm46 cd46 ct46 : Value}
    {f47 : Addr} {od47 an47 : Option Addr} {sl47 : Array (Option Value)} {oc47 kV47 dc47 pm47 cd47 ct47 : Value}
    {f48 : Addr} {od48 an48 : Option Addr} {sl48 : Array (Option Value)} {oc48 kV48 dc48 pm48 cd48 ct48 : Value}
    {f49 : Addr} {od49 an49 : Option Addr} {sl49 : Array (Option Value)} {oc49 kV49 dc49 pm49 cd49 ct49 : Value}
    {f50 : Addr} {od50 an50 : Option Addr} {sl50 : Array (Option Value)} {oc50 kV50 dc50 pm50 cd50 ct50 : Value}
    {f51 : Addr} {od51 an51 : Option Addr} {sl51 : Array (Option Value)} {oc51 kV51 dc51 pm51 cd51 ct51 : Value}
    {f52 : Addr} {od52 an52 : Option Addr} {sl52 : Array (Option Value)} {oc52 kV52 dc52 pm52 cd52 ct52 : Value}
    {f53 : Addr} {od53 an53 : Option Addr} {sl53 : Array (Option Value)} {oc53 kV53 dc53 pm53 cd53 ct53 : Value}
    {f54 : Addr} {od54 an54 : Option Addr} {sl54 : Array (Option Value)} {oc54 kV54 dc54 pm54 cd54 ct54 : Value}
    {f55 : Addr} {od55 an55 : Option Addr} {sl55 : Array (Option Value)} {oc55 kV55 dc55 pm55 cd55 ct55 : Value}
    {f56 : Addr} {od56 an56 : Option Addr} {sl56 : Array (Option Value)} {oc56 kV56 dc56 pm56 cd56 ct56 : Value}
    {C_InvalidTable : Addr}
    {C_MissingColumn : Addr}
    {C_InvalidProgram : Addr}
    {C_TableError : Addr}
    {C_FindError : Addr}
    {C_LimitError : Addr}
    {C_LastRecord : Addr}
    {C_TooManyEdits : Addr}
    {C_TooManyRecords : Addr}
    {C_NothingToUndo : Addr}
    {C_NoPlace : Addr}
    {C_InvalidCommand : Addr}
    {C_InvalidEdit : Addr}
    {C_InvalidValue : Addr}
    {C_InvalidRecord : Addr}
    {C_InvalidLimit : Addr}
    {C_InvalidText : Addr}
    {C_InvalidPlaces : Addr}
    {C_InvalidNumber : Addr}
    {C_InvalidOrder : Addr}
    {C_InvalidColumns : Addr}
    {FI_InvalidTable : Addr} {xod_InvalidTable xan_InvalidTable : Option Addr} {xsl_InvalidTable : Array (Option Value)} {xoc_InvalidTable xkV_InvalidTable xdc_InvalidTable xpm_InvalidTable xcd_InvalidTable xct_InvalidTable : Value}
    {FI_MissingColumn : Addr} {xod_MissingColumn xan_MissingColumn : Option Addr} {xsl_MissingColumn : Array (Option Value)} {xoc_MissingColumn xkV_MissingColumn xdc_MissingColumn xpm_MissingColumn xcd_MissingColumn xct_MissingColumn : Value}
    {FI_InvalidProgram : Addr} {xod_InvalidProgram xan_InvalidProgram : Option Addr} {xsl_InvalidProgram : Array (Option Value)} {xoc_InvalidProgram xkV_InvalidProgram xdc_InvalidProgram xpm_InvalidProgram xcd_InvalidProgram xct_InvalidProgram : Value}
    {c_sorted_places P_sorted_places : Addr} {moc_sorted_places : Value} {mod_sorted_places : Option Addr} {mvs_sorted_places : Array Value} {msl_sorted_places : Array (Option Value)}
    (a0 : PySem.W.nsIn K mainGlobals "is_integer" = some (some (.ref f0))) (l0 : K.lookup f0 = some ⟨oc0, od0, .func (PySem.W.fnOf "is_integer" "is_integer" (defArgs (topS 30)) (defBody (topS 30)) (defScope (topS 30)) .none kV0 dc0 pm0 an0 cd0 ct0), sl0⟩) (c0 : PySem.W.codeIn K cd0 "is_integer" = true) (k0 : PySem.W.keepIn K (.ref f0) = true)
    (a1 : PySem.W.nsIn K mainGlobals "is_record" = some (some (.ref f1))) (l1 : K.lookup f1 = some ⟨oc1, od1, .func (PySem.W.fnOf "is_record" "is_record" (defArgs (topS 31)) (defBody (topS 31)) (defScope (topS 31)) .none kV1 dc1 pm1 an1 cd1 ct1), sl1⟩) (c1 : PySem.W.codeIn K cd1 "is_record" = true) (k1 : PySem.W.keepIn K (.ref f1) = true)
    (a2 : PySem.W.nsIn K mainGlobals "check_table" = some (some (.ref f2))) (l2 : K.lookup f2 = some ⟨oc2, od2, .func (PySem.W.fnOf "check_table" "check_table" (defArgs (topS 32)) (defBody (topS 32)) (defScope (topS 32)) .none kV2 dc2 pm2 an2 cd2 ct2), sl2⟩) (c2 : PySem.W.codeIn K cd2 "check_table" = true) (k2 : PySem.W.keepIn K (.ref f2) = true)
    (a3 : PySem.W.nsIn K mainGlobals "count_columns" = some (some (.ref f3))) (l3 : K.lookup f3 = some ⟨oc3, od3, .func (PySem.W.fnOf "count_columns" "count_columns" (defArgs (topS 33)) (defBody (topS 33)) (defScope (topS 33)) .none kV3 dc3 pm3 an3 cd3 ct3), sl3⟩) (c3 : PySem.W.codeIn K cd3 "count_columns" = true) (k3 : PySem.W.keepIn K (.ref f3) = true)
    (a4 : PySem.W.nsIn K mainGlobals "every_place" = some (some (.ref f4))) (l4 : K.lookup f4 = some ⟨oc4, od4, .func (PySem.W.fnOf "every_place" "every_place" (defArgs (topS 34)) (defBody (topS 34)) (defScope (topS 34)) .none kV4 dc4 pm4 an4 cd4 ct4), sl4⟩) (c4 : PySem.W.codeIn K cd4 "every_place" = true) (k4 : PySem.W.keepIn K (.ref f4) = true)
    (a5 : PySem.W.nsIn K mainGlobals "records_at" = some (some (.ref f5))) (l5 : K.lookup f5 = some ⟨oc5, od5, .func (PySem.W.fnOf "records_at" "records_at" (defArgs (topS 35)) (defBody (topS 35)) (defScope (topS 35)) .none kV5 dc5 pm5 an5 cd5 ct5), sl5⟩) (c5 : PySem.W.codeIn K cd5 "records_at" = true) (k5 : PySem.W.keepIn K (.ref f5) = true)
    (a6 : PySem.W.nsIn K mainGlobals "check_columns_below" = some (some (.ref f6))) (l6 : K.lookup f6 = some ⟨oc6, od6, .func (PySem.W.fnOf "check_columns_below" "check_columns_below" (defArgs (topS 36)) (defBody (topS 36)) (defScope (topS 36)) .none kV6 dc6 pm6 an6 cd6 ct6), sl6⟩) (c6 : PySem.W.codeIn K cd6 "check_columns_below" = true) (k6 : PySem.W.keepIn K (.ref f6) = true)
    (a7 : PySem.W.nsIn K mainGlobals "is_word" = some (some (.ref f7))) (l7 : K.lookup f7 = some ⟨oc7, od7, .func (PySem.W.fnOf "is_word" "is_word" (defArgs (topS 39)) (defBody (topS 39)) (defScope (topS 39)) .none kV7 dc7 pm7 an7 cd7 ct7), sl7⟩) (c7 : PySem.W.codeIn K cd7 "is_word" = true) (k7 : PySem.W.keepIn K (.ref f7) = true)
    (a8 : PySem.W.nsIn K mainGlobals "is_pair" = some (some (.ref f8))) (l8 : K.lookup f8 = some ⟨oc8, od8, .func (PySem.W.fnOf "is_pair" "is_pair" (defArgs (topS 40)) (defBody (topS 40)) (defScope (topS 40)) .none kV8 dc8 pm8 an8 cd8 ct8), sl8⟩) (c8 : PySem.W.codeIn K cd8 "is_pair" = true) (k8 : PySem.W.keepIn K (.ref f8) = true)
    (a9 : PySem.W.nsIn K mainGlobals "is_sort_column" = some (some (.ref f9))) (l9 : K.lookup f9 = some ⟨oc9, od9, .func (PySem.W.fnOf "is_sort_column" "is_sort_column" (defArgs (topS 41)) (defBody (topS 41)) (defScope (topS 41)) .none kV9 dc9 pm9 an9 cd9 ct9), sl9⟩) (c9 : PySem.W.codeIn K cd9 "is_sort_column" = true) (k9 : PySem.W.keepIn K (.ref f9) = true)
    (a10 : PySem.W.nsIn K mainGlobals "is_key" = some (some (.ref f10))) (l10 : K.lookup f10 = some ⟨oc10, od10, .func (PySem.W.fnOf "is_key" "is_key" (defArgs (topS 42)) (defBody (topS 42)) (defScope (topS 42)) .none kV10 dc10 pm10 an10 cd10 ct10), sl10⟩) (c10 : PySem.W.codeIn K cd10 "is_key" = true) (k10 : PySem.W.keepIn K (.ref f10) = true)
    (a11 : PySem.W.nsIn K mainGlobals "is_place_part" = some (some (.ref f11))) (l11 : K.lookup f11 = some ⟨oc11, od11, .func (PySem.W.fnOf "is_place_part" "is_place_part" (defArgs (topS 43)) (defBody (topS 43)) (defScope (topS 43)) .none kV11 dc11 pm11 an11 cd11 ct11), sl11⟩) (c11 : PySem.W.codeIn K cd11 "is_place_part" = true) (k11 : PySem.W.keepIn K (.ref f11) = true)
    (a12 : PySem.W.nsIn K mainGlobals "check_order" = some (some (.ref f12))) (l12 : K.lookup f12 = some ⟨oc12, od12, .func (PySem.W.fnOf "check_order" "check_order" (defArgs (topS 44)) (defBody (topS 44)) (defScope (topS 44)) .none kV12 dc12 pm12 an12 cd12 ct12), sl12⟩) (c12 : PySem.W.codeIn K cd12 "check_order" = true) (k12 : PySem.W.keepIn K (.ref f12) = true)
    (a13 : PySem.W.nsIn K mainGlobals "opposite" = some (some (.ref f13))) (l13 : K.lookup f13 = some ⟨oc13, od13, .func (PySem.W.fnOf "opposite" "opposite" (defArgs (topS 45)) (defBody (topS 45)) (defScope (topS 45)) .none kV13 dc13 pm13 an13 cd13 ct13), sl13⟩) (c13 : PySem.W.codeIn K cd13 "opposite" = true) (k13 : PySem.W.keepIn K (.ref f13) = true)
    (a14 : PySem.W.nsIn K mainGlobals "turned" = some (some (.ref f14))) (l14 : K.lookup f14 = some ⟨oc14, od14, .func (PySem.W.fnOf "turned" "turned" (defArgs (topS 46)) (defBody (topS 46)) (defScope (topS 46)) .none kV14 dc14 pm14 an14 cd14 ct14), sl14⟩) (c14 : PySem.W.codeIn K cd14 "turned" = true) (k14 : PySem.W.keepIn K (.ref f14) = true)
    (a15 : PySem.W.nsIn K mainGlobals "sort_values" = some (some (.ref f15))) (l15 : K.lookup f15 = some ⟨oc15, od15, .func (PySem.W.fnOf "sort_values" "sort_values" (defArgs (topS 47)) (defBody (topS 47)) (defScope (topS 47)) .none kV15 dc15 pm15 an15 cd15 ct15), sl15⟩) (c15 : PySem.W.codeIn K cd15 "sort_values" = true) (k15 : PySem.W.keepIn K (.ref f15) = true)
    (a16 : PySem.W.nsIn K mainGlobals "sorted_places" = some (some (.ref f16))) (l16 : K.lookup f16 = some ⟨oc16, od16, .func (PySem.W.fnOf "sorted_places" "sorted_places" (defArgs (topS 48)) (defBody (topS 48)) (defScope (topS 48)) .none kV16 dc16 pm16 an16 cd16 ct16), sl16⟩) (c16 : PySem.W.codeIn K cd16 "sorted_places" = true) (k16 : PySem.W.keepIn K (.ref f16) = true)
    (a17 : PySem.W.nsIn K mainGlobals "is_size" = some (some (.ref f17))) (l17 : K.lookup f17 = some ⟨oc17, od17, .func (PySem.W.fnOf "is_size" "is_size" (defArgs (topS 53)) (defBody (topS 53)) (defScope (topS 53)) .none kV17 dc17 pm17 an17 cd17 ct17), sl17⟩) (c17 : PySem.W.codeIn K cd17 "is_size" = true) (k17 : PySem.W.keepIn K (.ref f17) = true)
    (a18 : PySem.W.nsIn K mainGlobals "is_times" = some (some (.ref f18))) (l18 : K.lookup f18 = some ⟨oc18, od18, .func (PySem.W.fnOf "is_times" "is_times" (defArgs (topS 54)) (defBody (topS 54)) (defScope (topS 54)) .none kV18 dc18 pm18 an18 cd18 ct18), sl18⟩) (c18 : PySem.W.codeIn K cd18 "is_times" = true) (k18 : PySem.W.keepIn K (.ref f18) = true)
    (a19 : PySem.W.nsIn K mainGlobals "is_plain_command" = some (some (.ref f19))) (l19 : K.lookup f19 = some ⟨oc19, od19, .func (PySem.W.fnOf "is_plain_command" "is_plain_command" (defArgs (topS 55)) (defBody (topS 55)) (defScope (topS 55)) .none kV19 dc19 pm19 an19 cd19 ct19), sl19⟩) (c19 : PySem.W.codeIn K cd19 "is_plain_command" = true) (k19 : PySem.W.keepIn K (.ref f19) = true)
    (a20 : PySem.W.nsIn K mainGlobals "begins_repeat" = some (some (.ref f20))) (l20 : K.lookup f20 = some ⟨oc20, od20, .func (PySem.W.fnOf "begins_repeat" "begins_repeat" (defArgs (topS 56)) (defBody (topS 56)) (defScope (topS 56)) .none kV20 dc20 pm20 an20 cd20 ct20), sl20⟩) (c20 : PySem.W.codeIn K cd20 "begins_repeat" = true) (k20 : PySem.W.keepIn K (.ref f20) = true)
    (a21 : PySem.W.nsIn K mainGlobals "room_behind" = some (some (.ref f21))) (l21 : K.lookup f21 = some ⟨oc21, od21, .func (PySem.W.fnOf "room_behind" "room_behind" (defArgs (topS 57)) (defBody (topS 57)) (defScope (topS 57)) .none kV21 dc21 pm21 an21 cd21 ct21), sl21⟩) (c21 : PySem.W.codeIn K cd21 "room_behind" = true) (k21 : PySem.W.keepIn K (.ref f21) = true)
    (a22 : PySem.W.nsIn K mainGlobals "room_behind_command" = some (some (.ref f22))) (l22 : K.lookup f22 = some ⟨oc22, od22, .func (PySem.W.fnOf "room_behind_command" "room_behind_command" (defArgs (topS 58)) (defBody (topS 58)) (defScope (topS 58)) .none kV22 dc22 pm22 an22 cd22 ct22), sl22⟩) (c22 : PySem.W.codeIn K cd22 "room_behind_command" = true) (k22 : PySem.W.keepIn K (.ref f22) = true)
    (a23 : PySem.W.nsIn K mainGlobals "check_program" = some (some (.ref f23))) (l23 : K.lookup f23 = some ⟨oc23, od23, .func (PySem.W.fnOf "check_program" "check_program" (defArgs (topS 59)) (defBody (topS 59)) (defScope (topS 59)) .none kV23 dc23 pm23 an23 cd23 ct23), sl23⟩) (c23 : PySem.W.codeIn K cd23 "check_program" = true) (k23 : PySem.W.keepIn K (.ref f23) = true)
    (a24 : PySem.W.nsIn K mainGlobals "count_performed" = some (some (.ref f24))) (l24 : K.lookup f24 = some ⟨oc24, od24, .func (PySem.W.fnOf "count_performed" "count_performed" (defArgs (topS 60)) (defBody (topS 60)) (defScope (topS 60)) .none kV24 dc24 pm24 an24 cd24 ct24), sl24⟩) (c24 : PySem.W.codeIn K cd24 "count_performed" = true) (k24 : PySem.W.keepIn K (.ref f24) = true)
    (a25 : PySem.W.nsIn K mainGlobals "count_commands" = some (some (.ref f25))) (l25 : K.lookup f25 = some ⟨oc25, od25, .func (PySem.W.fnOf "count_commands" "count_commands" (defArgs (topS 61)) (defBody (topS 61)) (defScope (topS 61)) .none kV25 dc25 pm25 an25 cd25 ct25), sl25⟩) (c25 : PySem.W.codeIn K cd25 "count_commands" = true) (k25 : PySem.W.keepIn K (.ref f25) = true)
    (a26 : PySem.W.nsIn K mainGlobals "program_columns" = some (some (.ref f26))) (l26 : K.lookup f26 = some ⟨oc26, od26, .func (PySem.W.fnOf "program_columns" "program_columns" (defArgs (topS 62)) (defBody (topS 62)) (defScope (topS 62)) .none kV26 dc26 pm26 an26 cd26 ct26), sl26⟩) (c26 : PySem.W.codeIn K cd26 "program_columns" = true) (k26 : PySem.W.keepIn K (.ref f26) = true)
    (a27 : PySem.W.nsIn K mainGlobals "sorted_first" = some (some (.ref f27))) (l27 : K.lookup f27 = some ⟨oc27, od27, .func (PySem.W.fnOf "sorted_first" "sorted_first" (defArgs (topS 65)) (defBody (topS 65)) (defScope (topS 65)) .none kV27 dc27 pm27 an27 cd27 ct27), sl27⟩) (c27 : PySem.W.codeIn K cd27 "sorted_first" = true) (k27 : PySem.W.keepIn K (.ref f27) = true)
    (a28 : PySem.W.nsIn K mainGlobals "after_plain" = some (some (.ref f28))) (l28 : K.lookup f28 = some ⟨oc28, od28, .func (PySem.W.fnOf "after_plain" "after_plain" (defArgs (topS 66)) (defBody (topS 66)) (defScope (topS 66)) .none kV28 dc28 pm28 an28 cd28 ct28), sl28⟩) (c28 : PySem.W.codeIn K cd28 "after_plain" = true) (k28 : PySem.W.keepIn K (.ref f28) = true)
    (a29 : PySem.W.nsIn K mainGlobals "picks_of_plain" = some (some (.ref f29))) (l29 : K.lookup f29 = some ⟨oc29, od29, .func (PySem.W.fnOf "picks_of_plain" "picks_of_plain" (defArgs (topS 67)) (defBody (topS 67)) (defScope (topS 67)) .none kV29 dc29 pm29 an29 cd29 ct29), sl29⟩) (c29 : PySem.W.codeIn K cd29 "picks_of_plain" = true) (k29 : PySem.W.keepIn K (.ref f29) = true)
    (a30 : PySem.W.nsIn K mainGlobals "after_repeat" = some (some (.ref f30))) (l30 : K.lookup f30 = some ⟨oc30, od30, .func (PySem.W.fnOf "after_repeat" "after_repeat" (defArgs (topS 68)) (defBody (topS 68)) (defScope (topS 68)) .none kV30 dc30 pm30 an30 cd30 ct30), sl30⟩) (c30 : PySem.W.codeIn K cd30 "after_repeat" = true) (k30 : PySem.W.keepIn K (.ref f30) = true)
    (a31 : PySem.W.nsIn K mainGlobals "after_command" = some (some (.ref f31))) (l31 : K.lookup f31 = some ⟨oc31, od31, .func (PySem.W.fnOf "after_command" "after_command" (defArgs (topS 69)) (defBody (topS 69)) (defScope (topS 69)) .none kV31 dc31 pm31 an31 cd31 ct31), sl31⟩) (c31 : PySem.W.codeIn K cd31 "after_command" = true) (k31 : PySem.W.keepIn K (.ref f31) = true)
    (a32 : PySem.W.nsIn K mainGlobals "after_program" = some (some (.ref f32))) (l32 : K.lookup f32 = some ⟨oc32, od32, .func (PySem.W.fnOf "after_program" "after_program" (defArgs (topS 70)) (defBody (topS 70)) (defScope (topS 70)) .none kV32 dc32 pm32 an32 cd32 ct32), sl32⟩) (c32 : PySem.W.codeIn K cd32 "after_program" = true) (k32 : PySem.W.keepIn K (.ref f32) = true)
    (a33 : PySem.W.nsIn K mainGlobals "check_run" = some (some (.ref f33))) (l33 : K.lookup f33 = some ⟨oc33, od33, .func (PySem.W.fnOf "check_run" "check_run" (defArgs (topS 72)) (defBody (topS 72)) (defScope (topS 72)) .none kV33 dc33 pm33 an33 cd33 ct33), sl33⟩) (c33 : PySem.W.codeIn K cd33 "check_run" = true) (k33 : PySem.W.keepIn K (.ref f33) = true)
    (a34 : PySem.W.nsIn K mainGlobals "picked" = some (some (.ref f34))) (l34 : K.lookup f34 = some ⟨oc34, od34, .func (PySem.W.fnOf "picked" "picked" (defArgs (topS 73)) (defBody (topS 73)) (defScope (topS 73)) .none kV34 dc34 pm34 an34 cd34 ct34), sl34⟩) (c34 : PySem.W.codeIn K cd34 "picked" = true) (k34 : PySem.W.keepIn K (.ref f34) = true)
    (a35 : PySem.W.nsIn K mainGlobals "run_places" = some (some (.ref f35))) (l35 : K.lookup f35 = some ⟨oc35, od35, .func (PySem.W.fnOf "run_places" "run_places" (defArgs (topS 74)) (defBody (topS 74)) (defScope (topS 74)) .none kV35 dc35 pm35 an35 cd35 ct35), sl35⟩) (c35 : PySem.W.codeIn K cd35 "run_places" = true) (k35 : PySem.W.keepIn K (.ref f35) = true)
    (a36 : PySem.W.nsIn K mainGlobals "run" = some (some (.ref f36))) (l36 : K.lookup f36 = some ⟨oc36, od36, .func (PySem.W.fnOf "run" "run" (defArgs (topS 75)) (defBody (topS 75)) (defScope (topS 75)) .none kV36 dc36 pm36 an36 cd36 ct36), sl36⟩) (c36 : PySem.W.codeIn K cd36 "run" = true) (k36 : PySem.W.keepIn K (.ref f36) = true)
    (a37 : PySem.W.nsIn K mainGlobals "each_table" = some (some (.ref f37))) (l37 : K.lookup f37 = some ⟨oc37, od37, .func (PySem.W.fnOf "each_table" "each_table" (defArgs (topS 76)) (defBody (topS 76)) (defScope (topS 76)) .none kV37 dc37 pm37 an37 cd37 ct37), sl37⟩) (c37 : PySem.W.codeIn K cd37 "each_table" = true) (k37 : PySem.W.keepIn K (.ref f37) = true)
    (a38 : PySem.W.nsIn K mainGlobals "written_command" = some (some (.ref f38))) (l38 : K.lookup f38 = some ⟨oc38, od38, .func (PySem.W.fnOf "written_command" "written_command" (defArgs (topS 78)) (defBody (topS 78)) (defScope (topS 78)) .none kV38 dc38 pm38 an38 cd38 ct38), sl38⟩) (c38 : PySem.W.codeIn K cd38 "written_command" = true) (k38 : PySem.W.keepIn K (.ref f38) = true)
    (a39 : PySem.W.nsIn K mainGlobals "format_program" = some (some (.ref f39))) (l39 : K.lookup f39 = some ⟨oc39, od39, .func (PySem.W.fnOf "format_program" "format_program" (defArgs (topS 79)) (defBody (topS 79)) (defScope (topS 79)) .none kV39 dc39 pm39 an39 cd39 ct39), sl39⟩) (c39 : PySem.W.codeIn K cd39 "format_program" = true) (k39 : PySem.W.keepIn K (.ref f39) = true)
    (a40 : PySem.W.nsIn K mainGlobals "_law_cell" = some (some (.ref f40))) (l40 : K.lookup f40 = some ⟨oc40, od40, .func (PySem.W.fnOf "_law_cell" "_law_cell" (defArgs (topS 81)) (defBody (topS 81)) (defScope (topS 81)) .none kV40 dc40 pm40 an40 cd40 ct40), sl40⟩) (c40 : PySem.W.codeIn K cd40 "_law_cell" = true) (k40 : PySem.W.keepIn K (.ref f40) = true)
    (a41 : PySem.W.nsIn K mainGlobals "_law_pool" = some (some (.ref f41))) (l41 : K.lookup f41 = some ⟨oc41, od41, .func (PySem.W.fnOf "_law_pool" "_law_pool" (defArgs (topS 82)) (defBody (topS 82)) (defScope (topS 82)) .none kV41 dc41 pm41 an41 cd41 ct41), sl41⟩) (c41 : PySem.W.codeIn K cd41 "_law_pool" = true) (k41 : PySem.W.keepIn K (.ref f41) = true)
    (a42 : PySem.W.nsIn K mainGlobals "_law_draw" = some (some (.ref f42))) (l42 : K.lookup f42 = some ⟨oc42, od42, .func (PySem.W.fnOf "_law_draw" "_law_draw" (defArgs (topS 83)) (defBody (topS 83)) (defScope (topS 83)) .none kV42 dc42 pm42 an42 cd42 ct42), sl42⟩) (c42 : PySem.W.codeIn K cd42 "_law_draw" = true) (k42 : PySem.W.keepIn K (.ref f42) = true)
    (a43 : PySem.W.nsIn K mainGlobals "_law_table" = some (some (.ref f43))) (l43 : K.lookup f43 = some ⟨oc43, od43, .func (PySem.W.fnOf "_law_table" "_law_table" (defArgs (topS 84)) (defBody (topS 84)) (defScope (topS 84)) .none kV43 dc43 pm43 an43 cd43 ct43), sl43⟩) (c43 : PySem.W.codeIn K cd43 "_law_table" = true) (k43 : PySem.W.keepIn K (.ref f43) = true)
    (a44 : PySem.W.nsIn K mainGlobals "_law_steps" = some (some (.ref f44))) (l44 : K.lookup f44 = some ⟨oc44, od44, .func (PySem.W.fnOf "_law_steps" "_law_steps" (defArgs (topS 85)) (defBody (topS 85)) (defScope (topS 85)) .none kV44 dc44 pm44 an44 cd44 ct44), sl44⟩) (c44 : PySem.W.codeIn K cd44 "_law_steps" = true) (k44 : PySem.W.keepIn K (.ref f44) = true)
    (a45 : PySem.W.nsIn K mainGlobals "_law_program" = some (some (.ref f45))) (l45 : K.lookup f45 = some ⟨oc45, od45, .func (PySem.W.fnOf "_law_program" "_law_program" (defArgs (topS 86)) (defBody (topS 86)) (defScope (topS 86)) .none kV45 dc45 pm45 an45 cd45 ct45), sl45⟩) (c45 : PySem.W.codeIn K cd45 "_law_program" = true) (k45 : PySem.W.keepIn K (.ref f45) = true)
    (a46 : PySem.W.nsIn K mainGlobals "_law_kind" = some (some (.ref f46))) (l46 : K.lookup f46 = some ⟨oc46, od46, .func (PySem.W.fnOf "_law_kind" "_law_kind" (defArgs (topS 87)) (defBody (topS 87)) (defScope (topS 87)) .none kV46 dc46 pm46 an46 cd46 ct46), sl46⟩) (c46 : PySem.W.codeIn K cd46 "_law_kind" = true) (k46 : PySem.W.keepIn K (.ref f46) = true)
    (a47 : PySem.W.nsIn K mainGlobals "_law_whole" = some (some (.ref f47))) (l47 : K.lookup f47 = some ⟨oc47, od47, .func (PySem.W.fnOf "_law_whole" "_law_whole" (defArgs (topS 88)) (defBody (topS 88)) (defScope (topS 88)) .none kV47 dc47 pm47 an47 cd47 ct47), sl47⟩) (c47 : PySem.W.codeIn K cd47 "_law_whole" = true) (k47 : PySem.W.keepIn K (.ref f47) = true)
    (a48 : PySem.W.nsIn K mainGlobals "_law_counted" = some (some (.ref f48))) (l48 : K.lookup f48 = some ⟨oc48, od48, .func (PySem.W.fnOf "_law_counted" "_law_counted" (defArgs (topS 89)) (defBody (topS 89)) (defScope (topS 89)) .none kV48 dc48 pm48 an48 cd48 ct48), sl48⟩) (c48 : PySem.W.codeIn K cd48 "_law_counted" = true) (k48 : PySem.W.keepIn K (.ref f48) = true)
    (a49 : PySem.W.nsIn K mainGlobals "_law_first_bad" = some (some (.ref f49))) (l49 : K.lookup f49 = some ⟨oc49, od49, .func (PySem.W.fnOf "_law_first_bad" "_law_first_bad" (defArgs (topS 90)) (defBody (topS 90)) (defScope (topS 90)) .none kV49 dc49 pm49 an49 cd49 ct49), sl49⟩) (c49 : PySem.W.codeIn K cd49 "_law_first_bad" = true) (k49 : PySem.W.keepIn K (.ref f49) = true)
    (a50 : PySem.W.nsIn K mainGlobals "_law_bent" = some (some (.ref f50))) (l50 : K.lookup f50 = some ⟨oc50, od50, .func (PySem.W.fnOf "_law_bent" "_law_bent" (defArgs (topS 91)) (defBody (topS 91)) (defScope (topS 91)) .none kV50 dc50 pm50 an50 cd50 ct50), sl50⟩) (c50 : PySem.W.codeIn K cd50 "_law_bent" = true) (k50 : PySem.W.keepIn K (.ref f50) = true)
    (a51 : PySem.W.nsIn K mainGlobals "_law_sides" = some (some (.ref f51))) (l51 : K.lookup f51 = some ⟨oc51, od51, .func (PySem.W.fnOf "_law_sides" "_law_sides" (defArgs (topS 92)) (defBody (topS 92)) (defScope (topS 92)) .none kV51 dc51 pm51 an51 cd51 ct51), sl51⟩) (c51 : PySem.W.codeIn K cd51 "_law_sides" = true) (k51 : PySem.W.keepIn K (.ref f51) = true)
    (a52 : PySem.W.nsIn K mainGlobals "_law_asked" = some (some (.ref f52))) (l52 : K.lookup f52 = some ⟨oc52, od52, .func (PySem.W.fnOf "_law_asked" "_law_asked" (defArgs (topS 93)) (defBody (topS 93)) (defScope (topS 93)) .none kV52 dc52 pm52 an52 cd52 ct52), sl52⟩) (c52 : PySem.W.codeIn K cd52 "_law_asked" = true) (k52 : PySem.W.keepIn K (.ref f52) = true)
    (a53 : PySem.W.nsIn K mainGlobals "_law_table_bad" = some (some (.ref f53))) (l53 : K.lookup f53 = some ⟨oc53, od53, .func (PySem.W.fnOf "_law_table_bad" "_law_table_bad" (defArgs (topS 94)) (defBody (topS 94)) (defScope (topS 94)) .none kV53 dc53 pm53 an53 cd53 ct53), sl53⟩) (c53 : PySem.W.codeIn K cd53 "_law_table_bad" = true) (k53 : PySem.W.keepIn K (.ref f53) = true)
    (a54 : PySem.W.nsIn K mainGlobals "_law_told_right" = some (some (.ref f54))) (l54 : K.lookup f54 = some ⟨oc54, od54, .func (PySem.W.fnOf "_law_told_right" "_law_told_right" (defArgs (topS 95)) (defBody (topS 95)) (defScope (topS 95)) .none kV54 dc54 pm54 an54 cd54 ct54), sl54⟩) (c54 : PySem.W.codeIn K cd54 "_law_told_right" = true) (k54 : PySem.W.keepIn K (.ref f54) = true)
    (a55 : PySem.W.nsIn K mainGlobals "_law_right" = some (some (.ref f55))) (l55 : K.lookup f55 = some ⟨oc55, od55, .func (PySem.W.fnOf "_law_right" "_law_right" (defArgs (topS 96)) (defBody (topS 96)) (defScope (topS 96)) .none kV55 dc55 pm55 an55 cd55 ct55), sl55⟩) (c55 : PySem.W.codeIn K cd55 "_law_right" = true) (k55 : PySem.W.keepIn K (.ref f55) = true)
    (a56 : PySem.W.nsIn K mainGlobals "law" = some (some (.ref f56))) (l56 : K.lookup f56 = some ⟨oc56, od56, .func (PySem.W.fnOf "law" "law" (defArgs (topS 97)) (defBody (topS 97)) (defScope (topS 97)) .none kV56 dc56 pm56 an56 cd56 ct56), sl56⟩) (c56 : PySem.W.codeIn K cd56 "law" = true) (k56 : PySem.W.keepIn K (.ref f56) = true)
    (n_ArithmeticError : PySem.W.nsIn K mainGlobals "ArithmeticError" = some none)
    (n_LookupError : PySem.W.nsIn K mainGlobals "LookupError" = some none)
    (n_ValueError : PySem.W.nsIn K mainGlobals "ValueError" = some none)
    (n_abs : PySem.W.nsIn K mainGlobals "abs" = some none)
    (n_all : PySem.W.nsIn K mainGlobals "all" = some none)
    (n_bool : PySem.W.nsIn K mainGlobals "bool" = some none)
    (n_divmod : PySem.W.nsIn K mainGlobals "divmod" = some none)
    (n_enumerate : PySem.W.nsIn K mainGlobals "enumerate" = some none)
    (n_int : PySem.W.nsIn K mainGlobals "int" = some none)
    (n_isinstance : PySem.W.nsIn K mainGlobals "isinstance" = some none)
    (n_len : PySem.W.nsIn K mainGlobals "len" = some none)
    (n_list : PySem.W.nsIn K mainGlobals "list" = some none)
    (n_max : PySem.W.nsIn K mainGlobals "max" = some none)
    (n_min : PySem.W.nsIn K mainGlobals "min" = some none)
    (n_range : PySem.W.nsIn K mainGlobals "range" = some none)
    (n_repr : PySem.W.nsIn K mainGlobals "repr" = some none)
    (n_set : PySem.W.nsIn K mainGlobals "set" = some none)
    (n_sorted : PySem.W.nsIn K mainGlobals "sorted" = some none)
    (n_str : PySem.W.nsIn K mainGlobals "str" = some none)
    (n_sum : PySem.W.nsIn K mainGlobals "sum" = some none)
    (n_tuple : PySem.W.nsIn K mainGlobals "tuple" = some none)
    (c_MOST_COLUMNS : ∀ [LabW], ∃ uv : Value × V, mg "MOST_COLUMNS" = some uv.1 ∧ RelV uv.2 uv.1 ∧ ∀ Z, DD K Z uv.2 cv_MOST_COLUMNS)
    (c_MOST_RECORDS : ∀ [LabW], ∃ uv : Value × V, mg "MOST_RECORDS" = some uv.1 ∧ RelV uv.2 uv.1 ∧ ∀ Z, DD K Z uv.2 cv_MOST_RECORDS)
    (c_MOST_KEYS : ∀ [LabW], ∃ uv : Value × V, mg "MOST_KEYS" = some uv.1 ∧ RelV uv.2 uv.1 ∧ ∀ Z, DD K Z uv.2 cv_MOST_KEYS)
    (c_DIRECTIONS : ∀ [LabW], ∃ uv : Value × V, mg "DIRECTIONS" = some uv.1 ∧ RelV uv.2 uv.1 ∧ ∀ Z, DD K Z uv.2 cv_DIRECTIONS)
    (c_LEAST_SIZE : ∀ [LabW], ∃ uv : Value × V, mg "LEAST_SIZE" = some uv.1 ∧ RelV uv.2 uv.1 ∧ ∀ Z, DD K Z uv.2 cv_LEAST_SIZE)
    (c_MOST_SIZE : ∀ [LabW], ∃ uv : Value × V, mg "MOST_SIZE" = some uv.1 ∧ RelV uv.2 uv.1 ∧ ∀ Z, DD K Z uv.2 cv_MOST_SIZE)
    (c_MOST_TIMES : ∀ [LabW], ∃ uv : Value × V, mg "MOST_TIMES" = some uv.1 ∧ RelV uv.2 uv.1 ∧ ∀ Z, DD K Z uv.2 cv_MOST_TIMES)
    (c_CUTS : ∀ [LabW], ∃ uv : Value × V, mg "CUTS" = some uv.1 ∧ RelV uv.2 uv.1 ∧ ∀ Z, DD K Z uv.2 cv_CUTS)
    (c_BARE_WORDS : ∀ [LabW], ∃ uv : Value × V, mg "BARE_WORDS" = some uv.1 ∧ RelV uv.2 uv.1 ∧ ∀ Z, DD K Z uv.2 cv_BARE_WORDS)
    (c_MOST_NESTED : ∀ [LabW], ∃ uv : Value × V, mg "MOST_NESTED" = some uv.1 ∧ RelV uv.2 uv.1 ∧ ∀ Z, DD K Z uv.2 cv_MOST_NESTED)
    (c_MOST_COMMANDS : ∀ [LabW], ∃ uv : Value × V, mg "MOST_COMMANDS" = some uv.1 ∧ RelV uv.2 uv.1 ∧ ∀ Z, DD K Z uv.2 cv_MOST_COMMANDS)
    (c_START : ∀ [LabW], ∃ uv : Value × V, mg "START" = some uv.1 ∧ RelV uv.2 uv.1 ∧ ∀ Z, DD K Z uv.2 cv_START)
    (xa_InvalidTable : PySem.W.nsIn K mainGlobals "InvalidTable" = some (some (.ref C_InvalidTable)))
    (xa_MissingColumn : PySem.W.nsIn K mainGlobals "MissingColumn" = some (some (.ref C_MissingColumn)))
    (xa_InvalidProgram : PySem.W.nsIn K mainGlobals "InvalidProgram" = some (some (.ref C_InvalidProgram)))
    (xa_TableError : PySem.W.nsIn K mainGlobals "TableError" = some (some (.ref C_TableError)))
    (xa_FindError : PySem.W.nsIn K mainGlobals "FindError" = some (some (.ref C_FindError)))
    (xa_LimitError : PySem.W.nsIn K mainGlobals "LimitError" = some (some (.ref C_LimitError)))
    (xa_LastRecord : PySem.W.nsIn K mainGlobals "LastRecord" = some (some (.ref C_LastRecord)))
    (xa_TooManyEdits : PySem.W.nsIn K mainGlobals "TooManyEdits" = some (some (.ref C_TooManyEdits)))
    (xa_TooManyRecords : PySem.W.nsIn K mainGlobals "TooManyRecords" = some (some (.ref C_TooManyRecords)))
    (xa_NothingToUndo : PySem.W.nsIn K mainGlobals "NothingToUndo" = some (some (.ref C_NothingToUndo)))
    (xa_NoPlace : PySem.W.nsIn K mainGlobals "NoPlace" = some (some (.ref C_NoPlace)))
    (xa_InvalidCommand : PySem.W.nsIn K mainGlobals "InvalidCommand" = some (some (.ref C_InvalidCommand)))
    (xa_InvalidEdit : PySem.W.nsIn K mainGlobals "InvalidEdit" = some (some (.ref C_InvalidEdit)))
    (xa_InvalidValue : PySem.W.nsIn K mainGlobals "InvalidValue" = some (some (.ref C_InvalidValue)))
    (xa_InvalidRecord : PySem.W.nsIn K mainGlobals "InvalidRecord" = some (some (.ref C_InvalidRecord)))
    (xa_InvalidLimit : PySem.W.nsIn K mainGlobals "InvalidLimit" = some (some (.ref C_InvalidLimit)))
    (xa_InvalidText : PySem.W.nsIn K mainGlobals "InvalidText" = some (some (.ref C_InvalidText)))
    (xa_InvalidPlaces : PySem.W.nsIn K mainGlobals "InvalidPlaces" = some (some (.ref C_InvalidPlaces)))
    (xa_InvalidNumber : PySem.W.nsIn K mainGlobals "InvalidNumber" = some (some (.ref C_InvalidNumber)))
    (xa_InvalidOrder : PySem.W.nsIn K mainGlobals "InvalidOrder" = some (some (.ref C_InvalidOrder)))
    (xa_InvalidColumns : PySem.W.nsIn K mainGlobals "InvalidColumns" = some (some (.ref C_InvalidColumns)))
    (xi_InvalidTable : PySem.W.findIn K (.ref C_InvalidTable) "__init__" = some (some (.ref FI_InvalidTable))) (xt_InvalidTable : PySem.W.typeIn K (.ref FI_InvalidTable) = some (.type "function")) (xn_InvalidTable : PySem.W.findIn K (.ref C_InvalidTable) "index" = some none) (xl_InvalidTable : K.lookup FI_InvalidTable = some ⟨xoc_InvalidTable, xod_InvalidTable, .func (PySem.W.fnOf "__init__" "InvalidTable.__init__" (defArgs (inS 2 0)) (defBody (inS 2 0)) (defScope (inS 2 0)) .none xkV_InvalidTable xdc_InvalidTable xpm_InvalidTable xan_InvalidTable xcd_InvalidTable xct_InvalidTable), xsl_InvalidTable⟩) (xc_InvalidTable : PySem.W.codeIn K xcd_InvalidTable "InvalidTable.__init__" = true) (xk_InvalidTable : PySem.W.keepIn K (.ref FI_InvalidTable) = true) (x_InvalidTable : OexC K C_InvalidTable)
    (xi_MissingColumn : PySem.W.findIn K (.ref C_MissingColumn) "__init__" = some (some (.ref FI_MissingColumn))) (xt_MissingColumn : PySem.W.typeIn K (.ref FI_MissingColumn) = some (.type "function")) (xn_MissingColumn : PySem.W.findIn K (.ref C_MissingColumn) "column" = some none) (xl_MissingColumn : K.lookup FI_MissingColumn = some ⟨xoc_MissingColumn, xod_MissingColumn, .func (PySem.W.fnOf "__init__" "MissingColumn.__init__" (defArgs (inS 15 0)) (defBody (inS 15 0)) (defScope (inS 15 0)) .none xkV_MissingColumn xdc_MissingColumn xpm_MissingColumn xan_MissingColumn xcd_MissingColumn xct_MissingColumn), xsl_MissingColumn⟩) (xc_MissingColumn : PySem.W.codeIn K xcd_MissingColumn "MissingColumn.__init__" = true) (xk_MissingColumn : PySem.W.keepIn K (.ref FI_MissingColumn) = true) (x_MissingColumn : OexL K C_MissingColumn)
    (xi_InvalidProgram : PySem.W.findIn K (.ref C_InvalidProgram) "__init__" = some (some (.ref FI_InvalidProgram))) (xt_InvalidProgram : PySem.W.typeIn K (.ref FI_InvalidProgram) = some (.type "function")) (xn_InvalidProgram : PySem.W.findIn K (.ref C_InvalidProgram) "index" = some none) (xl_InvalidProgram : K.lookup FI_InvalidProgram = some ⟨xoc_InvalidProgram, xod_InvalidProgram, .func (PySem.W.fnOf "__init__" "InvalidProgram.__init__" (defArgs (inS 5 0)) (defBody (inS 5 0)) (defScope (inS 5 0)) .none xkV_InvalidProgram xdc_InvalidProgram xpm_InvalidProgram xan_InvalidProgram xcd_InvalidProgram xct_InvalidProgram), xsl_InvalidProgram⟩) (xc_InvalidProgram : PySem.W.codeIn K xcd_InvalidProgram "InvalidProgram.__init__" = true) (xk_InvalidProgram : PySem.W.keepIn K (.ref FI_InvalidProgram) = true) (x_InvalidProgram : OexC K C_InvalidProgram)
    (xe_InvalidTable_TableError : PySem.W.exmOne K (.ref C_InvalidTable) (.ref C_TableError) = some true)
    (xe_MissingColumn_TableError : PySem.W.exmOne K (.ref C_MissingColumn) (.ref C_TableError) = some false)
    (xe_InvalidProgram_TableError : PySem.W.exmOne K (.ref C_InvalidProgram) (.ref C_TableError) = some true)
    (xe_InvalidTable_FindError : PySem.W.exmOne K (.ref C_InvalidTable) (.ref C_FindError) = some false)
    (xe_MissingColumn_FindError : PySem.W.exmOne K (.ref C_MissingColumn) (.ref C_FindError) = some true)
    (xe_InvalidProgram_FindError : PySem.W.exmOne K (.ref C_InvalidProgram) (.ref C_FindError) = some false)
    (xe_InvalidTable_LimitError : PySem.W.exmOne K (.ref C_InvalidTable) (.ref C_LimitError) = some false)
    (xe_MissingColumn_LimitError : PySem.W.exmOne K (.ref C_MissingColumn) (.ref C_LimitError) = some false)
    (xe_InvalidProgram_LimitError : PySem.W.exmOne K (.ref C_InvalidProgram) (.ref C_LimitError) = some false)
    (st_InvalidTable : PySem.W.subIn K (.ref C_InvalidTable) (.type "StopIteration") = some false)
    (st_MissingColumn : PySem.W.subIn K (.ref C_MissingColumn) (.type "StopIteration") = some false)
    (st_InvalidProgram : PySem.W.subIn K (.ref C_InvalidProgram) (.type "StopIteration") = some false)
    (kx_InvalidTable : kexB K C_InvalidTable = true)
    (kx_MissingColumn : kexB K C_MissingColumn = true)
    (kx_InvalidProgram : kexB K C_InvalidProgram = true)
    (kt_ArithmeticError : kitTab K [(C_InvalidTable, .type "ArithmeticError", false), (C_MissingColumn, .type "ArithmeticError", false), (C_InvalidProgram, .type "ArithmeticError", false)] = true)
    (kt_LookupError : kitTab K [(C_InvalidTable, .type "LookupError", false), (C_MissingColumn, .type "LookupError", true), (C_InvalidProgram, .type "LookupError", false)] = true)
    (kt_ValueError : kitTab K [(C_InvalidTable, .type "ValueError", true), (C_MissingColumn, .type "ValueError", false), (C_InvalidProgram, .type "ValueError", true)] = true)
    (kt_LimitError : kitTab K [(C_InvalidTable, .ref C_LimitError, false), (C_MissingColumn, .ref C_LimitError, false), (C_InvalidProgram, .ref C_LimitError, false)] = true)
    (kt_FindError : kitTab K [(C_InvalidTable, .ref C_FindError, false), (C_MissingColumn, .ref C_FindError, true), (C_InvalidProgram, .ref C_FindError, false)] = true)
    (kt_TableError : kitTab K [(C_InvalidTable, .ref C_TableError, true), (C_MissingColumn, .ref C_TableError, false), (C_InvalidProgram, .ref C_TableError, true)] = true)
    (kt_LastRecord : kitTab K [(C_InvalidTable, .ref C_LastRecord, false), (C_MissingColumn, .ref C_LastRecord, false), (C_InvalidProgram, .ref C_LastRecord, false)] = true)
    (kt_TooManyEdits : kitTab K [(C_InvalidTable, .ref C_TooManyEdits, false), (C_MissingColumn, .ref C_TooManyEdits, false), (C_InvalidProgram, .ref C_TooManyEdits, false)] = true)
    (kt_TooManyRecords : kitTab K [(C_InvalidTable, .ref C_TooManyRecords, false), (C_MissingColumn, .ref C_TooManyRecords, false), (C_InvalidProgram, .ref C_TooManyRecords, false)] = true)
    (kt_NothingToUndo : kitTab K [(C_InvalidTable, .ref C_NothingToUndo, false), (C_MissingColumn, .ref C_NothingToUndo, false), (C_InvalidProgram, .ref C_NothingToUndo, false)] = true)
    (kt_NoPlace : kitTab K [(C_InvalidTable, .ref C_NoPlace, false), (C_MissingColumn, .ref C_NoPlace, false), (C_InvalidProgram, .ref C_NoPlace, false)] = true)
    (kt_MissingColumn : kitTab K [(C_InvalidTable, .ref C_MissingColumn, false), (C_MissingColumn, .ref C_MissingColumn, true), (C_InvalidProgram, .ref C_MissingColumn, false)] = true)
    (kt_InvalidCommand : kitTab K [(C_InvalidTable, .ref C_InvalidCommand, false), (C_MissingColumn, .ref C_InvalidCommand, false), (C_InvalidProgram, .ref C_InvalidCommand, false)] = true)
    (kt_InvalidEdit : kitTab K [(C_InvalidTable, .ref C_InvalidEdit, false), (C_MissingColumn, .ref C_InvalidEdit, false), (C_InvalidProgram, .ref C_InvalidEdit, false)] = true)
    (kt_InvalidValue : kitTab K [(C_InvalidTable, .ref C_InvalidValue, false), (C_MissingColumn, .ref C_InvalidValue, false), (C_InvalidProgram, .ref C_InvalidValue, false)] = true)
    (kt_InvalidRecord : kitTab K [(C_InvalidTable, .ref C_InvalidRecord, false), (C_MissingColumn, .ref C_InvalidRecord, false), (C_InvalidProgram, .ref C_InvalidRecord, false)] = true)
    (kt_InvalidLimit : kitTab K [(C_InvalidTable, .ref C_InvalidLimit, false), (C_MissingColumn, .ref C_InvalidLimit, false), (C_InvalidProgram, .ref C_InvalidLimit, false)] = true)
    (kt_InvalidText : kitTab K [(C_InvalidTable, .ref C_InvalidText, false), (C_MissingColumn, .ref C_InvalidText, false), (C_InvalidProgram, .ref C_InvalidText, false)] = true)
    (kt_InvalidPlaces : kitTab K [(C_InvalidTable, .ref C_InvalidPlaces, false), (C_MissingColumn, .ref C_InvalidPlaces, false), (C_InvalidProgram, .ref C_InvalidPlaces, false)] = true)
    (kt_InvalidNumber : kitTab K [(C_InvalidTable, .ref C_InvalidNumber, false), (C_MissingColumn, .ref C_InvalidNumber, false), (C_InvalidProgram, .ref C_InvalidNumber, false)] = true)
    (kt_InvalidProgram : kitTab K [(C_InvalidTable, .ref C_InvalidProgram, false), (C_MissingColumn, .ref C_InvalidProgram, false), (C_InvalidProgram, .ref C_InvalidProgram, true)] = true)
    (kt_InvalidOrder : kitTab K [(C_InvalidTable, .ref C_InvalidOrder, false), (C_MissingColumn, .ref C_InvalidOrder, false), (C_InvalidProgram, .ref C_InvalidOrder, false)] = true)
    (kt_InvalidColumns : kitTab K [(C_InvalidTable, .ref C_InvalidColumns, false), (C_MissingColumn, .ref C_InvalidColumns, false), (C_InvalidProgram, .ref C_InvalidColumns, false)] = true)
    (kt_InvalidTable : kitTab K [(C_InvalidTable, .ref C_InvalidTable, true), (C_MissingColumn, .ref C_InvalidTable, false), (C_InvalidProgram, .ref C_InvalidTable, false)] = true)
    (cq_sorted_places : cd16 = .ref c_sorted_places) (lk_sorted_places : K.lookup c_sorted_places = some ⟨moc_sorted_places, mod_sorted_places, .fields mvs_sorted_places, msl_sorted_places⟩) (pv_sorted_places : mvs_sorted_places[11]? = some (.ref P_sorted_places)) (hd_sorted_places : PySem.W.codeHdIn K c_sorted_places P_sorted_places = true) (kn_sorted_places : K.lookup P_sorted_places = none) (gt_sorted_places : h.get? P_sorted_places = some { cls := .none, data := .fields #[] }) :
    LawG l w K 27 "_law_script" m_law mg fa h := by
  have e := hfa.symm.trans (PySem.W.mg_of X G a56)
  cases e
  refine ⟨(PySem.W.fnOf "law" "law" (defArgs (topS 97)) (defBody (topS 97)) (defScope (topS 97)) .none kV56 dc56 pm56 an56 cd56 ct56), [(c_sorted_places, P_sorted_places)], { w := some w, T := [(P_sorted_places, ("sorted_places" ++ ".<locals>." : Str) ++ "<lambda>")], gd := True, C := clsOf [("InvalidTable", C_InvalidTable), ("MissingColumn", C_MissingColumn), ("InvalidProgram", C_InvalidProgram), ("TableError", C_TableError), ("FindError", C_FindError), ("LimitError", C_LimitError), ("LastRecord", C_LastRecord), ("TooManyEdits", C_TooManyEdits), ("TooManyRecords", C_TooManyRecords), ("NothingToUndo", C_NothingToUndo), ("NoPlace", C_NoPlace), ("InvalidCommand", C_InvalidCommand), ("InvalidEdit", C_InvalidEdit), ("InvalidValue", C_InvalidValue), ("InvalidRecord", C_InvalidRecord), ("InvalidLimit", C_InvalidLimit), ("InvalidText", C_InvalidText), ("InvalidPlaces", C_InvalidPlaces), ("InvalidNumber", C_InvalidNumber), ("InvalidOrder", C_InvalidOrder), ("InvalidColumns", C_InvalidColumns)] 0 }, fun c q hc => ?_, fun q hq => ?_, fun s v => .of_eq rfl, fun base hK hG hT => ?_⟩
  · simp only [List.mem_cons, List.not_mem_nil, or_false, Prod.mk.injEq] at hc
    obtain ⟨rfl, rfl⟩ := hc
    exact ⟨gt_sorted_places, kn_sorted_places, PySem.W.codeHd_of_K X hd_sorted_places⟩
  · simp only [List.mem_cons, List.not_mem_nil, or_false] at hq
    subst hq
    exact ⟨c_sorted_places, by simp⟩
  · letI : Lab := { w := some w, T := [(P_sorted_places, ("sorted_places" ++ ".<locals>." : Str) ++ "<lambda>")], gd := True, C := clsOf [("InvalidTable", C_InvalidTable), ("MissingColumn", C_MissingColumn), ("InvalidProgram", C_InvalidProgram), ("TableError", C_TableError), ("FindError", C_FindError), ("LimitError", C_LimitError), ("LastRecord", C_LastRecord), ("TooManyEdits", C_TooManyEdits), ("TooManyRecords", C_TooManyRecords), ("NothingToUndo", C_NothingToUndo), ("NoPlace", C_NoPlace), ("InvalidCommand", C_InvalidCommand), ("InvalidEdit", C_InvalidEdit), ("InvalidValue", C_InvalidValue), ("InvalidRecord", C_InvalidRecord), ("InvalidLimit", C_InvalidLimit), ("InvalidText", C_InvalidText), ("InvalidPlaces", C_InvalidPlaces), ("InvalidNumber", C_InvalidNumber), ("InvalidOrder", C_InvalidOrder), ("InvalidColumns", C_InvalidColumns)] 0 }
    haveI : LabR := ⟨trivial⟩
    exact ok_law (mkTx rfl X G a0 l0 c0 k0 a1 l1 c1 k1 a2 l2 c2 k2 a3 l3 c3 k3 a4 l4 c4 k4 a5 l5 c5 k5 a6 l6 c6 k6 a7 l7 c7 k7 a8 l8 c8 k8 a9 l9 c9 k9 a10 l10 c10 k10 a11 l11 c11 k11 a12 l12 c12 k12 a13 l13 c13 k13 a14 l14 c14 k14 a15 l15 c15 k15 a16 l16 c16 k16 a17 l17 c17 k17 a18 l18 c18 k18 a19 l19 c19 k19 a20 l20 c20 k20 a21 l21 c21 k21 a22 l22 c22 k22 a23 l23 c23 k23 a24 l24 c24 k24 a25 l25 c25 k25 a26 l26 c26 k26 a27 l27 c27 k27 a28 l28 c28 k28 a29 l29 c29 k29 a30 l30 c30 k30 a31 l31 c31 k31 a32 l32 c32 k32 a33 l33 c33 k33 a34 l34 c34 k34 a35 l35 c35 k35 a36 l36 c36 k36 a37 l37 c37 k37 a38 l38 c38 k38 a39 l39 c39 k39 a40 l40 c40 k40 a41 l41 c41 k41 a42 l42 c42 k42 a43 l43 c43 k43 a44 l44 c44 k44 a45 l45 c45 k45 a46 l46 c46 k46 a47 l47 c47 k47 a48 l48 c48 k48 a49 l49 c49 k49 a50 l50 c50 k50 a51 l51 c51 k51 a52 l52 c52 k52 a53 l53 c53 k53 a54 l54 c54 k54 a55 l55 c55 k55 a56 l56 c56 k56 n_ArithmeticError n_LookupError n_ValueError n_abs n_all n_bool n_divmod n_enumerate n_int n_isinstance n_len n_list n_max n_min n_range n_repr n_set n_sorted n_str n_sum n_tuple c_MOST_COLUMNS c_MOST_RECORDS c_MOST_KEYS c_DIRECTIONS c_LEAST_SIZE c_MOST_SIZE c_MOST_TIMES c_CUTS c_BARE_WORDS c_MOST_NESTED c_MOST_COMMANDS c_START xa_InvalidTable xa_MissingColumn xa_InvalidProgram xa_TableError xa_FindError xa_LimitError xa_LastRecord xa_TooManyEdits xa_TooManyRecords xa_NothingToUndo xa_NoPlace xa_InvalidCommand xa_InvalidEdit xa_InvalidValue xa_InvalidRecord xa_InvalidLimit xa_InvalidText xa_InvalidPlaces xa_InvalidNumber xa_InvalidOrder xa_InvalidColumns xi_InvalidTable xt_InvalidTable xn_InvalidTable xl_InvalidTable xc_InvalidTable xk_InvalidTable x_InvalidTable xi_MissingColumn xt_MissingColumn xn_MissingColumn xl_MissingColumn xc_MissingColumn xk_MissingColumn x_MissingColumn xi_InvalidProgram xt_InvalidProgram xn_InvalidProgram xl_InvalidProgram xc_InvalidProgram xk_InvalidProgram x_InvalidProgram xe_InvalidTable_TableError xe_MissingColumn_TableError xe_InvalidProgram_TableError xe_InvalidTable_FindError xe_MissingColumn_FindError xe_InvalidProgram_FindError xe_InvalidTable_LimitError xe_MissingColumn_LimitError xe_InvalidProgram_LimitError st_InvalidTable st_MissingColumn st_InvalidProgram kx_InvalidTable kx_MissingColumn kx_InvalidProgram kt_ArithmeticError kt_LookupError kt_ValueError kt_LimitError kt_FindError kt_TableError kt_LastRecord kt_TooManyEdits kt_TooManyRecords kt_NothingToUndo kt_NoPlace kt_MissingColumn kt_InvalidCommand kt_InvalidEdit kt_InvalidValue kt_InvalidRecord kt_InvalidLimit kt_InvalidText kt_InvalidPlaces kt_InvalidNumber kt_InvalidProgram kt_InvalidOrder kt_InvalidColumns kt_InvalidTable cq_sorted_places (hT c_sorted_places P_sorted_places (by simp)) (show (P_sorted_places, ("sorted_places" ++ ".<locals>." : Str) ++ "<lambda>") ∈ ([(P_sorted_places, ("sorted_places" ++ ".<locals>." : Str) ++ "<lambda>")] : List (Addr × Str)) by simp) (fun p hp e => by
      change p ∈ ([(P_sorted_places, ("sorted_places" ++ ".<locals>." : Str) ++ "<lambda>")] : List (Addr × Str)) at hp
      simp only [List.mem_cons, List.not_mem_nil, or_false] at hp
      rw [hp]) rfl)
end DL
end L2
open PySem PySem.W PyProof.Rows
set_option maxHeartbeats 0 in
theorem PySem.Challenge.cw_sortcuts_k18_programs_and_tables_refused_holds : PySem.Challenge.rw_sortcuts_k18_programs_and_tables_refused.Holds := by
  w_on; o_law; k_head; (case hw => w_witness2)
  k_fill
  refine L2.DL.walk_g (l := PySem.Challenge.rw_sortcuts_k18_programs_and_tables_refused) (n := 63) (k := 27) (x := "_law_script") (m := L2.DL.m_law) rfl (by decide) rfl ⟨rfl, by decide, by decide⟩ (fun w h Y => PySem.W.km_in_of Y) ?F (fun ns _ => L2.DL.law_spec ns)
  case F =>
    intro w mg fa h Y KX G hmg
    refine' L2.DL.all_mk KX G hmg ?a0 ?l0 ?c0 ?k0 ?a1 ?l1 ?c1 ?k1 ?a2 ?l2 ?c2 ?k2 ?a3 ?l3 ?c3 ?k3 ?a4 ?l4 ?c4 ?k4 ?a5 ?l5 ?c5 ?k5 ?a6 ?l6 ?c6 ?k6 ?a7 ?l7 ?c7 ?k7 ?a8 ?l8 ?c8 ?k8 ?a9 ?l9 ?c9 ?k9 ?a10 ?l10 ?c10 ?k10 ?a11 ?l11 ?c11 ?k11 ?a12 ?l12 ?c12 ?k12 ?a13 ?l13 ?c13 ?k13 ?a14 ?l14 ?c14 ?k14 ?a15 ?l15 ?c15 ?k15 ?a16 ?l16 ?c16 ?k16 ?a17 ?l17 ?c17 ?k17 ?a18 ?l18 ?c18 ?k18 ?a19 ?l19 ?c19 ?k19 ?a20 ?l20 ?c20 ?k20 ?a21 ?l21 ?c21 ?k21 ?a22 ?l22 ?c22 ?k22 ?a23 ?l23 ?c23 ?k23 ?a24 ?l24 ?c24 ?k24 ?a25 ?l25 ?c25 ?k25 ?a26 ?l26 ?c26 ?k26 ?a27 ?l27 ?c27 ?k27 ?a28 ?l28 ?c28 ?k28 ?a29 ?l29 ?c29 ?k29 ?a30 ?l30 ?c30 ?k30 ?a31 ?l31 ?c31 ?k31 ?a32 ?l32 ?c32 ?k32 ?a33 ?l33 ?c33 ?k33 ?a34 ?l34 ?c34 ?k34 ?a35 ?l35 ?c35 ?k35 ?a36 ?l36 ?c36 ?k36 ?a37 ?l37 ?c37 ?k37 ?a38 ?l38 ?c38 ?k38 ?a39 ?l39 ?c39 ?k39 ?a40 ?l40 ?c40 ?k40 ?a41 ?l41 ?c41 ?k41 ?a42 ?l42 ?c42 ?k42 ?a43 ?l43 ?c43 ?k43 ?a44 ?l44 ?c44 ?k44 ?a45 ?l45 ?c45 ?k45 ?a46 ?l46 ?c46 ?k46 ?a47 ?l47 ?c47 ?k47 ?a48 ?l48 ?c48 ?k48 ?a49 ?l49 ?c49 ?k49 ?a50 ?l50 ?c50 ?k50 ?a51 ?l51 ?c51 ?k51 ?a52 ?l52 ?c52 ?k52 ?a53 ?l53 ?c53 ?k53 ?a54 ?l54 ?c54 ?k54 ?a55 ?l55 ?c55 ?k55 ?a56 ?l56 ?c56 ?k56 ?n_ArithmeticError ?n_LookupError ?n_ValueError ?n_abs ?n_all ?n_bool ?n_divmod ?n_enumerate ?n_int ?n_isinstance ?n_len ?n_list ?n_max ?n_min ?n_range ?n_repr ?n_set ?n_sorted ?n_str ?n_sum ?n_tuple ?c_MOST_COLUMNS ?c_MOST_RECORDS ?c_MOST_KEYS ?c_DIRECTIONS ?c_LEAST_SIZE ?c_MOST_SIZE ?c_MOST_TIMES ?c_CUTS ?c_BARE_WORDS ?c_MOST_NESTED ?c_MOST_COMMANDS ?c_START ?xa_InvalidTable ?xa_MissingColumn ?xa_InvalidProgram ?xa_TableError ?xa_FindError ?xa_LimitError ?xa_LastRecord ?xa_TooManyEdits ?xa_TooManyRecords ?xa_NothingToUndo ?xa_NoPlace ?xa_InvalidCommand ?xa_InvalidEdit ?xa_InvalidValue ?xa_InvalidRecord ?xa_InvalidLimit ?xa_InvalidText ?xa_InvalidPlaces ?xa_InvalidNumber ?xa_InvalidOrder ?xa_InvalidColumns ?xi_InvalidTable ?xt_InvalidTable ?xn_InvalidTable ?xl_InvalidTable ?xc_InvalidTable ?xk_InvalidTable ?x_InvalidTable ?xi_MissingColumn ?xt_MissingColumn ?xn_MissingColumn ?xl_MissingColumn ?xc_MissingColumn ?xk_MissingColumn ?x_MissingColumn ?xi_InvalidProgram ?xt_InvalidProgram ?xn_InvalidProgram ?xl_InvalidProgram ?xc_InvalidProgram ?xk_InvalidProgram ?x_InvalidProgram ?xe_InvalidTable_TableError ?xe_MissingColumn_TableError ?xe_InvalidProgram_TableError ?xe_InvalidTable_FindError ?xe_MissingColumn_FindError ?xe_InvalidProgram_FindError ?xe_InvalidTable_LimitError ?xe_MissingColumn_LimitError ?xe_InvalidProgram_LimitError ?st_InvalidTable ?st_MissingColumn ?st_InvalidProgram ?kx_InvalidTable ?kx_MissingColumn ?kx_InvalidProgram ?kt_ArithmeticError ?kt_LookupError ?kt_ValueError ?kt_LimitError ?kt_FindError ?kt_TableError ?kt_LastRecord ?kt_TooManyEdits ?kt_TooManyRecords ?kt_NothingToUndo ?kt_NoPlace ?kt_MissingColumn ?kt_InvalidCommand ?kt_InvalidEdit ?kt_InvalidValue ?kt_InvalidRecord ?kt_InvalidLimit ?kt_InvalidText ?kt_InvalidPlaces ?kt_InvalidNumber ?kt_InvalidProgram ?kt_InvalidOrder ?kt_InvalidColumns ?kt_InvalidTable ?cq_sorted_places ?lk_sorted_places ?pv_sorted_places ?hd_sorted_places ?kn_sorted_places ?gt_sorted_places
    (case a0 => k_is)
    (case l0 => k_is)
    (case c0 => k_is)
    (case k0 => k_is)
    (case a1 => k_is)
    (case l1 => k_is)
    (case c1 => k_is)
    (case k1 => k_is)
    (case a2 => k_is)
    (case l2 => k_is)
    (case c2 => k_is)
    (case k2 => k_is)
    (case a3 => k_is)
    (case l3 => k_is)
    (case c3 => k_is)
    (case k3 => k_is)
    (case a4 => k_is)
    (case l4 => k_is)
    (case c4 => k_is)
    (case k4 => k_is)
    (case a5 => k_is)
    (case l5 => k_is)
    (case c5 => k_is)
    (case k5 => k_is)
    (case a6 => k_is)
    (case l6 => k_is)
    (case c6 => k_is)
    (case k6 => k_is)
    (case a7 => k_is)
    (case l7 => k_is)
    (case c7 => k_is)
    (case k7 => k_is)
    (case a8 => k_is)
    (case l8 => k_is)
    (case c8 => k_is)
    (case k8 => k_is)
    (case a9 => k_is)
    (case l9 => k_is)
    (case c9 => k_is)
    (case k9 => k_is)
    (case a10 => k_is)
    (case l10 => k_is)
    (case c10 => k_is)
    (case k10 => k_is)
    (case a11 => k_is)
    (case l11 => k_is)
    (case c11 => k_is)
    (case k11 => k_is)
    (case a12 => k_is)
    (case l12 => k_is)
    (case c12 => k_is)
    (case k12 => k_is)
    (case a13 => k_is)
    (case l13 => k_is)
    (case c13 => k_is)
    (case k13 => k_is)
    (case a14 => k_is)
    (case l14 => k_is)
    (case c14 => k_is)
    (case k14 => k_is)
    (case a15 => k_is)
    (case l15 => k_is)
    (case c15 => k_is)
    (case k15 => k_is)
    (case a16 => k_is)
    (case l16 => k_is)
    (case c16 => k_is)
    (case k16 => k_is)
    (case a17 => k_is)
    (case l17 => k_is)
    (case c17 => k_is)
    (case k17 => k_is)
    (case a18 => k_is)
    (case l18 => k_is)
    (case c18 => k_is)
    (case k18 => k_is)
    (case a19 => k_is)
    (case l19 => k_is)
    (case c19 => k_is)
    (case k19 => k_is)
    (case a20 => k_is)
    (case l20 => k_is)
    (case c20 => k_is)
    (case k20 => k_is)
    (case a21 => k_is)
    (case l21 => k_is)
    (case c21 => k_is)
    (case k21 => k_is)
    (case a22 => k_is)
    (case l22 => k_is)
    (case c22 => k_is)
    (case k22 => k_is)
    (case a23 => k_is)
    (case l23 => k_is)
    (case c23 => k_is)
    (case k23 => k_is)
    (case a24 => k_is)
    (case l24 => k_is)
    (case c24 => k_is)
    (case k24 => k_is)
    (case a25 => k_is)
    (case l25 => k_is)
    (case c25 => k_is)
    (case k25 => k_is)
    (case a26 => k_is)
    (case l26 => k_is)
    (case c26 => k_is)
    (case k26 => k_is)
    (case a27 => k_is)
    (case l27 => k_is)
    (case c27 => k_is)
    (case k27 => k_is)
    (case a28 => k_is)
    (case l28 => k_is)
    (case c28 => k_is)
    (case k28 => k_is)
    (case a29 => k_is)
    (case l29 => k_is)
    (case c29 => k_is)
    (case k29 => k_is)
    (case a30 => k_is)
    (case l30 => k_is)
    (case c30 => k_is)
    (case k30 => k_is)
    (case a31 => k_is)
    (case l31 => k_is)
    (case c31 => k_is)
    (case k31 => k_is)
    (case a32 => k_is)
    (case l32 => k_is)
    (case c32 => k_is)
    (case k32 => k_is)
    (case a33 => k_is)
    (case l33 => k_is)
    (case c33 => k_is)
    (case k33 => k_is)
    (case a34 => k_is)
    (case l34 => k_is)
    (case c34 => k_is)
    (case k34 => k_is)
    (case a35 => k_is)
    (case l35 => k_is)
    (case c35 => k_is)
    (case k35 => k_is)
    (case a36 => k_is)
    (case l36 => k_is)
    (case c36 => k_is)
    (case k36 => k_is)
    (case a37 => k_is)
    (case l37 => k_is)
    (case c37 => k_is)
    (case k37 => k_is)
    (case a38 => k_is)
    (case l38 => k_is)
    (case c38 => k_is)
    (case k38 => k_is)
    (case a39 => k_is)
    (case l39 => k_is)
    (case c39 => k_is)
    (case k39 => k_is)
    (case a40 => k_is)
    (case l40 => k_is)
    (case c40 => k_is)
    (case k40 => k_is)
    (case a41 => k_is)
    (case l41 => k_is)
    (case c41 => k_is)
    (case k41 => k_is)
    (case a42 => k_is)
    (case l42 => k_is)
    (case c42 => k_is)
    (case k42 => k_is)
    (case a43 => k_is)
    (case l43 => k_is)
    (case c43 => k_is)
    (case k43 => k_is)
    (case a44 => k_is)
    (case l44 => k_is)
    (case c44 => k_is)
    (case k44 => k_is)
    (case a45 => k_is)
    (case l45 => k_is)
    (case c45 => k_is)
    (case k45 => k_is)
    (case a46 => k_is)
    (case l46 => k_is)
    (case c46 => k_is)
    (case k46 => k_is)
    (case a47 => k_is)
    (case l47 => k_is)
    (case c47 => k_is)
    (case k47 => k_is)
    (case a48 => k_is)
    (case l48 => k_is)
    (case c48 => k_is)
    (case k48 => k_is)
    (case a49 => k_is)
    (case l49 => k_is)
    (case c49 => k_is)
    (case k49 => k_is)
    (case a50 => k_is)
    (case l50 => k_is)
    (case c50 => k_is)
    (case k50 => k_is)
    (case a51 => k_is)
    (case l51 => k_is)
    (case c51 => k_is)
    (case k51 => k_is)
    (case a52 => k_is)
    (case l52 => k_is)
    (case c52 => k_is)
    (case k52 => k_is)
    (case a53 => k_is)
    (case l53 => k_is)
    (case c53 => k_is)
    (case k53 => k_is)
    (case a54 => k_is)
    (case l54 => k_is)
    (case c54 => k_is)
    (case k54 => k_is)
    (case a55 => k_is)
    (case l55 => k_is)
    (case c55 => k_is)
    (case k55 => k_is)
    (case a56 => k_is)
    (case l56 => k_is)
    (case c56 => k_is)
    (case k56 => k_is)
    (case n_ArithmeticError => k_is)
    (case n_LookupError => k_is)
    (case n_ValueError => k_is)
    (case n_abs => k_is)
    (case n_all => k_is)
    (case n_bool => k_is)
    (case n_divmod => k_is)
    (case n_enumerate => k_is)
    (case n_int => k_is)
    (case n_isinstance => k_is)
    (case n_len => k_is)
    (case n_list => k_is)
    (case n_max => k_is)
    (case n_min => k_is)
    (case n_range => k_is)
    (case n_repr => k_is)
    (case n_set => k_is)
    (case n_sorted => k_is)
    (case n_str => k_is)
    (case n_sum => k_is)
    (case n_tuple => k_is)
    (case xa_InvalidTable => k_is)
    (case xa_MissingColumn => k_is)
    (case xa_InvalidProgram => k_is)
    (case xa_TableError => k_is)
    (case xa_FindError => k_is)
    (case xa_LimitError => k_is)
    (case xa_LastRecord => k_is)
    (case xa_TooManyEdits => k_is)
    (case xa_TooManyRecords => k_is)
    (case xa_NothingToUndo => k_is)
    (case xa_NoPlace => k_is)
    (case xa_InvalidCommand => k_is)
    (case xa_InvalidEdit => k_is)
    (case xa_InvalidValue => k_is)
    (case xa_InvalidRecord => k_is)
    (case xa_InvalidLimit => k_is)
    (case xa_InvalidText => k_is)
    (case xa_InvalidPlaces => k_is)
    (case xa_InvalidNumber => k_is)
    (case xa_InvalidOrder => k_is)
    (case xa_InvalidColumns => k_is)
    (case xi_InvalidTable => k_is)
    (case xt_InvalidTable => k_is)
    (case xn_InvalidTable => k_is)
    (case xl_InvalidTable => k_is)
    (case xc_InvalidTable => k_is)
    (case xk_InvalidTable => k_is)
    (case xi_MissingColumn => k_is)
    (case xt_MissingColumn => k_is)
    (case xn_MissingColumn => k_is)
    (case xl_MissingColumn => k_is)
    (case xc_MissingColumn => k_is)
    (case xk_MissingColumn => k_is)
    (case xi_InvalidProgram => k_is)
    (case xt_InvalidProgram => k_is)
    (case xn_InvalidProgram => k_is)
    (case xl_InvalidProgram => k_is)
    (case xc_InvalidProgram => k_is)
    (case xk_InvalidProgram => k_is)
    (case st_InvalidTable => k_is)
    (case st_MissingColumn => k_is)
    (case st_InvalidProgram => k_is)
    (case c_MOST_COLUMNS => (intro _; refine' L2.DL.cInt KX G ?q1; (case q1 => k_is)))
    (case c_MOST_RECORDS => (intro _; refine' L2.DL.cInt KX G ?q1; (case q1 => k_is)))
    (case c_MOST_KEYS => (intro _; refine' L2.DL.cInt KX G ?q1; (case q1 => k_is)))
    (case c_DIRECTIONS => (intro _; refine' L2.DL.cStrs (ss := ["down", "up"]) KX G ?s1 ?s2 ?s3 ?s4 ?s5; (case s1 => k_is); (case s2 => k_is); (case s3 => rfl); (case s4 => decide); (case s5 => exact .cons ⟨_, rfl⟩ (.cons ⟨_, rfl⟩ .nil))))
    (case c_LEAST_SIZE => (intro _; refine' L2.DL.cInt KX G ?q1; (case q1 => k_is)))
    (case c_MOST_SIZE => (intro _; refine' L2.DL.cInt KX G ?q1; (case q1 => k_is)))
    (case c_MOST_TIMES => (intro _; refine' L2.DL.cInt KX G ?q1; (case q1 => k_is)))
    (case c_CUTS => (intro _; refine' L2.DL.cStrs (ss := ["first", "last"]) KX G ?s1 ?s2 ?s3 ?s4 ?s5; (case s1 => k_is); (case s2 => k_is); (case s3 => rfl); (case s4 => decide); (case s5 => exact .cons ⟨_, rfl⟩ (.cons ⟨_, rfl⟩ .nil))))
    (case c_BARE_WORDS => (intro _; refine' L2.DL.cStrs (ss := ["reverse", "restore"]) KX G ?s1 ?s2 ?s3 ?s4 ?s5; (case s1 => k_is); (case s2 => k_is); (case s3 => rfl); (case s4 => decide); (case s5 => exact .cons ⟨_, rfl⟩ (.cons ⟨_, rfl⟩ .nil))))
    (case c_MOST_NESTED => (intro _; refine' L2.DL.cInt KX G ?q1; (case q1 => k_is)))
    (case c_MOST_COMMANDS => (intro _; refine' L2.DL.cInt KX G ?q1; (case q1 => k_is)))
    (case c_START => (intro _; refine' L2.DL.cTup1 (ss := ["place", "up"]) KX G ?s1 ?s2 ?s3 ?s4 ?s5 ?s6 ?s7 ?s8 ?s9; (case s1 => k_is); (case s2 => k_is); (case s3 => rfl); (case s4 => decide); (case s5 => rfl); (case s6 => k_is); (case s7 => rfl); (case s8 => decide); (case s9 => exact .cons ⟨_, rfl⟩ (.cons ⟨_, rfl⟩ .nil))))
    (case kx_InvalidTable => kernel_rfl)
    (case kx_MissingColumn => kernel_rfl)
    (case kx_InvalidProgram => kernel_rfl)
    (case kt_ArithmeticError => kernel_rfl)
    (case kt_LookupError => kernel_rfl)
    (case kt_ValueError => kernel_rfl)
    (case kt_LimitError => kernel_rfl)
    (case kt_FindError => kernel_rfl)
    (case kt_TableError => kernel_rfl)
    (case kt_LastRecord => kernel_rfl)
    (case kt_TooManyEdits => kernel_rfl)
    (case kt_TooManyRecords => kernel_rfl)
    (case kt_NothingToUndo => kernel_rfl)
    (case kt_NoPlace => kernel_rfl)
    (case kt_MissingColumn => kernel_rfl)
    (case kt_InvalidCommand => kernel_rfl)
    (case kt_InvalidEdit => kernel_rfl)
    (case kt_InvalidValue => kernel_rfl)
    (case kt_InvalidRecord => kernel_rfl)
    (case kt_InvalidLimit => kernel_rfl)
    (case kt_InvalidText => kernel_rfl)
    (case kt_InvalidPlaces => kernel_rfl)
    (case kt_InvalidNumber => kernel_rfl)
    (case kt_InvalidProgram => kernel_rfl)
    (case kt_InvalidOrder => kernel_rfl)
    (case kt_InvalidColumns => kernel_rfl)
    (case kt_InvalidTable => kernel_rfl)
    (case x_InvalidTable => (refine' L2.DL.oex_mk ?l1 ?r1 ?s1 ?e1 ?t1 ?k1; (case l1 => k_is); (case r1 => rfl); (case s1 => k_is); (case e1 => k_is); (case t1 => k_is); (case k1 => k_is)))
    (case x_MissingColumn => (refine' L2.DL.oel_mk ?l1 ?r1 ?s1 ?e1 ?t1 ?k1; (case l1 => k_is); (case r1 => rfl); (case s1 => k_is); (case e1 => k_is); (case t1 => k_is); (case k1 => k_is)))
    (case x_InvalidProgram => (refine' L2.DL.oex_mk ?l1 ?r1 ?s1 ?e1 ?t1 ?k1; (case l1 => k_is); (case r1 => rfl); (case s1 => k_is); (case e1 => k_is); (case t1 => k_is); (case k1 => k_is)))
    (case xe_InvalidTable_TableError => kts_exm)
    (case xe_MissingColumn_TableError => kts_exm)
    (case xe_InvalidProgram_TableError => kts_exm)
    (case xe_InvalidTable_FindError => kts_exm)
    (case xe_MissingColumn_FindError => kts_exm)
    (case xe_InvalidProgram_FindError => kts_exm)
    (case xe_InvalidTable_LimitError => kts_exm)
    (case xe_MissingColumn_LimitError => kts_exm)
    (case xe_InvalidProgram_LimitError => kts_exm)
    (case cq_sorted_places => exact rfl)
    (case lk_sorted_places => k_is)
    (case pv_sorted_places => exact rfl)
    (case hd_sorted_places => kernel_rfl)
    (case kn_sorted_places => kernel_rfl)
    (case gt_sorted_places => exact PySem.W.km_tabs_of Y _ (by first | k_mem | decide))

