import PyProof.Rows.All
import Wide.All
import OpenK.AllK
import Wide.FinOn
import HandS.ForMost
import HandS.Wide
import HandS.Conv
import HandS.Flow
import KE.KDictKeyed
import KE.GoesEnum
import HandS.Rev
import HandS.Zip
import HandS.TryOnly
import HandS.IsInst
import HandS.Deep
import HandS.Style
import HandS.More
import HandS.TupAny
import HandS.EndBits
import HandS.DictComp
import KE.DataMinMax
import KE.SortData
import HandS.SortInts
import HandS.TupMul
import HandS.List
import KE.KDictZip
import HandS.Dict
import HandS.DictSub
import KE.KMathGC
import KE.KTupSum
import HandS.SetFor
import KE.BitLaws
import HandS.RevRange
import HandS.WideBits
import KE.GoesEnumKw
import HandS.ForExc
import HandS.ExcInit
import HandS.ExcField
import HandS.ExcIs
import HandS.ExcCtx
import HandS.HotCalls
import KE.KExcIs
import KE.DataMinKey
import HandS.Gcd
import HandS.Sort
import KE.DataFind
import PyProof.Rows.TupTab
import KE.KRevSl
import HandS.DictTup
import HandS.Hot
import HandS.TupSets
import KE.LtData
import KE.KDictSum
import KE.KDictCopyH
import KE.KDictDisplayH
import KE.KDictWalk
import PyProof.DictMoreH
import HandS.Strs
import HandS.WordsDict
import PySem.Challenge.RW_hookmats_k71_whole_strings_cut_one_by_on
set_option Elab.async false
set_option linter.all false
set_option maxRecDepth 100000
set_option maxHeartbeats 8000000
set_option autoImplicit false
namespace PP
open PySem PySem.Spec PyProof.Rows L2
mutual
def keyN : PyData → Option NestedKey
  | .int i => some (.num i)
  | .tuple ds => match keysN ds with
    | some ks => some (.tup ks)
    | none => none
  | _ => none
def keysN : List PyData → Option (List NestedKey)
  | [] => some []
  | d :: ds => match keyN d, keysN ds with
    | some k, some ks => some (k :: ks)
    | _, _ => none
end
mutual
def bareK : NestedKey → Bool
  | .num _ => true
  | .tup ks => bareKs ks
  | _ => false
def bareKs : List NestedKey → Bool
  | [] => true
  | k :: ks => bareK k && bareKs ks
end
mutual
theorem bareK_hash (w w' : World) : ∀ k, bareK k = true → k.hash w = k.hash w'
  | .none, h => by cases h
  | .num i, _ => rfl
  | .text x, h => by cases h
  | .tup ks, h => by
    show reduceHash _ = reduceHash _
    rw [bareKs_hash w w' ks h]
theorem bareKs_hash (w w' : World) : ∀ ks, bareKs ks = true → NestedKey.hashes w ks = NestedKey.hashes w' ks
  | [], _ => rfl
  | k :: ks, h => by
    have h := Bool.and_eq_true_iff.mp h
    show _ :: _ = _ :: _
    rw [bareK_hash w w' k h.1, bareKs_hash w w' ks h.2]
end
mutual
theorem keyN_bare : ∀ (d : PyData) (k : NestedKey), keyN d = some k → bareK k = true
  | .int i, k, h => by cases h; rfl
  | .tuple ds, k, h => by
    unfold keyN at h
    cases e : keysN ds with
    | none => rw [e] at h; cases h
    | some ks => rw [e] at h; cases h; exact keysN_bare ds ks e
  | .none, _, h => by cases h
  | .bool _, _, h => by cases h
  | .str _, _, h => by cases h
  | .list _, _, h => by cases h
  | .dict _, _, h => by cases h
theorem keysN_bare : ∀ (ds : List PyData) (ks : List NestedKey), keysN ds = some ks → bareKs ks = true
  | [], ks, h => by cases h; rfl
  | d :: ds, ks, h => by
    unfold keysN at h
    cases e : keyN d with
    | none => rw [e] at h; cases h
    | some k =>
      cases e2 : keysN ds with
      | none => rw [e, e2] at h; cases h
      | some ks2 =>
        rw [e, e2] at h; cases h
        exact Bool.and_eq_true_iff.mpr ⟨keyN_bare d k e, keysN_bare ds ks2 e2⟩
end
abbrev Ent := NestedKey × Addr × V
def dkO (a : Addr) (us : List Ent) : HO := .ext fun h => us.length ≤ sizeLine ∧ (a == sysModules) = false ∧ (∀ p ∈ us, bareK p.1 = true ∧ p.1.depth ≤ 8) ∧
  ∃ xs : List (NestedKey × Addr × Value), Paired (fun (p : Ent) (q : NestedKey × Addr × Value) => p.1 = q.1 ∧ p.2.1 = q.2.1 ∧ RelV p.2.2 q.2.2) us xs ∧
    ∃ o es ep, h.get? a = some o ∧ o.ExactDict ∧ o.data = .dict es ep ∧ (∀ (P : Program) (w : World), es.toList = xs.map (entryOfKey (nestedKind P w))) ∧ (xs.map (·.1)).Nodup
end PP
namespace PP
open PySem PySem.Spec PyProof.Rows L2
def Sub (F F' : Hp) : Prop := ∀ a o, F a = some o → F' a = some o
theorem Sub.refl (F : Hp) : Sub F F := fun _ _ h => h
theorem Sub.trans {F G H : Hp} (a : Sub F G) (b : Sub G H) : Sub F H := fun x o h => b x o (a x o h)
theorem Sub.upd {F : Hp} {p : Addr} {o : HO} (h : F p = none) : Sub F (upd F p o) := fun a u e => by
  rw [upd_ne (ne_of_none e h)]; exact e
theorem Sub.none {F F' : Hp} (e : Sub F F') {p : Addr} (h : F' p = none) : F p = none := by
  cases q : F p with
  | none => rfl
  | some o => rw [e p o q] at h; cases h
theorem Sub.rd {F F' : Hp} (e : Sub F F') {a : Addr} {u : HO} (h : Rd F a u) : Rd F' a u := by
  rcases h with h | ⟨o, h⟩
  · exact .inl (e _ _ h)
  · exact .inr ⟨o, e _ _ h⟩
theorem Sub.sql {K : PySem.W.Frag} {F F' : Hp} (e : Sub F F') {a : Addr} {xs : List V} (h : SqL K F a xs) : SqL K F' a xs := h.imp e.rd id
theorem Sub.sqt {K : PySem.W.Frag} {F F' : Hp} (e : Sub F F') {a : Addr} {xs : List V} (h : SqT K F a xs) : SqT K F' a xs := h.imp e.rd id
mutual
inductive DP (K : PySem.W.Frag) (F : Hp) : V → PyData → Prop
  | non : DP K F .non .none
  | bl (b : Bool) : DP K F (.bl b) (.bool b)
  | int (i : Int) : DP K F (.int i) (.int i)
  | str (x : Str) : DP K F (.str x) (.str x)
  | lst {a : Addr} {xs : List V} {ds : List PyData} : F a = some (.lst xs) → DPs K F xs ds → DP K F (.ref a) (.list ds)
  | tup {a : Addr} {xs : List V} {ds : List PyData} : SqT K F a xs → DPs K F xs ds → DP K F (.ref a) (.tuple ds)
inductive DPs (K : PySem.W.Frag) (F : Hp) : List V → List PyData → Prop
  | nil : DPs K F [] []
  | cons {v : V} {vs : List V} {d : PyData} {ds : List PyData} : DP K F v d → DPs K F vs ds → DPs K F (v :: vs) (d :: ds)
end
mutual
theorem DP.toDp {K : PySem.W.Frag} {F : Hp} : ∀ (d : PyData) (v : V), DP K F v d → Dp K F v d
  | .none, _, h => by cases h; exact .non
  | .bool b, _, h => by cases h; exact .bl b
  | .int i, _, h => by cases h; exact .int i
  | .str x, _, h => by cases h; exact .str x
  | .list ds, _, h => by
    cases h with
    | lst hs ha => exact .lst (.of hs) (DPs.toDp ds _ ha)
  | .tuple ds, _, h => by
    cases h with
    | tup hs ha => exact .tup hs (DPs.toDp ds _ ha)
  | .dict _, _, h => by cases h
theorem DPs.toDp {K : PySem.W.Frag} {F : Hp} : ∀ (ds : List PyData) (vs : List V), DPs K F vs ds → DpAll K F vs ds
  | [], _, h => by cases h; exact .nil
  | d :: ds, _, h => by
    cases h with
    | cons h1 h2 => exact .cons (DP.toDp d _ h1) (DPs.toDp ds _ h2)
end
mutual
theorem dp_mono {K : PySem.W.Frag} {F F' : Hp} (e : Sub F F') : ∀ (d : PyData) (v : V), DP K F v d → DP K F' v d
  | .none, _, h => by cases h; exact .non
  | .bool b, _, h => by cases h; exact .bl b
  | .int i, _, h => by cases h; exact .int i
  | .str x, _, h => by cases h; exact .str x
  | .list ds, _, h => by
    cases h with
    | lst hs ha => exact .lst (e _ _ hs) (dpa_mono e ds _ ha)
  | .tuple ds, _, h => by
    cases h with
    | tup hs ha => exact .tup (e.sqt hs) (dpa_mono e ds _ ha)
  | .dict _, _, h => by cases h
theorem dpa_mono {K : PySem.W.Frag} {F F' : Hp} (e : Sub F F') : ∀ (ds : List PyData) (vs : List V), DPs K F vs ds → DPs K F' vs ds
  | [], _, h => by cases h; exact .nil
  | d :: ds, _, h => by
    cases h with
    | cons h1 h2 => exact .cons (dp_mono e d _ h1) (dpa_mono e ds _ h2)
end
section
variable {K : PySem.W.Frag} {F : Hp}
theorem dpa_len : ∀ {vs : List V} {ds : List PyData}, DPs K F vs ds → vs.length = ds.length
  | _, _, .nil => rfl
  | _, _, .cons _ t => by rw [List.length_cons, List.length_cons, dpa_len t]
theorem dpa_get : ∀ {vs : List V} {ds : List PyData} {i : Nat} {d : PyData}, DPs K F vs ds → ds[i]? = some d → ∃ v, vs[i]? = some v ∧ DP K F v d
  | _, _, _, _, .nil, e => by simp at e
  | _, _, 0, _, .cons r _, e => by simp at e; subst e; exact ⟨_, rfl, r⟩
  | _, _, i + 1, _, .cons _ t, e => by
    obtain ⟨v, h1, h2⟩ := dpa_get (i := i) t (by simpa using e)
    exact ⟨v, by simpa using h1, h2⟩
theorem dpa_app : ∀ {vs : List V} {ds : List PyData} {ws : List V} {es : List PyData}, DPs K F vs ds → DPs K F ws es → DPs K F (vs ++ ws) (ds ++ es)
  | _, _, _, _, .nil, s => s
  | _, _, _, _, .cons r t, s => .cons r (dpa_app t s)
theorem dpa_take : ∀ {vs : List V} {ds : List PyData} (n : Nat), DPs K F vs ds → DPs K F (vs.take n) (ds.take n)
  | _, _, 0, _ => .nil
  | _, _, _ + 1, .nil => .nil
  | _, _, n + 1, .cons r t => .cons r (dpa_take n t)
theorem dpa_drop : ∀ {vs : List V} {ds : List PyData} (n : Nat), DPs K F vs ds → DPs K F (vs.drop n) (ds.drop n)
  | _, _, 0, r => r
  | _, _, _ + 1, .nil => .nil
  | _, _, n + 1, .cons _ t => dpa_drop n t
theorem dpa_set {v : V} {d : PyData} (r : DP K F v d) : ∀ {vs : List V} {ds : List PyData} (i : Nat), DPs K F vs ds → DPs K F (vs.set i v) (ds.set i d)
  | _, _, _, .nil => .nil
  | _, _, 0, .cons _ t => .cons r t
  | _, _, i + 1, .cons q t => .cons q (dpa_set r i t)
theorem dpa_dropLast {vs : List V} {ds : List PyData} (h : DPs K F vs ds) : DPs K F vs.dropLast ds.dropLast := by
  rw [List.dropLast_eq_take, List.dropLast_eq_take, dpa_len h]
  exact dpa_take _ h
theorem dpa_rep {vs : List V} {ds : List PyData} (h : DPs K F vs ds) : ∀ k : Nat, DPs K F (List.replicate k vs).flatten (List.replicate k ds).flatten
  | 0 => .nil
  | k + 1 => by
    rw [List.replicate_succ, List.replicate_succ, List.flatten_cons, List.flatten_cons]
    exact dpa_app h (dpa_rep h k)
theorem dpa_ints : ∀ (ns : List Int), DPs K F (ns.map V.int) (ns.map PyData.int)
  | [] => .nil
  | n :: ns => .cons (.int n) (dpa_ints ns)
theorem dp_int {v : V} {i : Int} (h : DP K F v (.int i)) : v = .int i := by cases h; rfl
theorem dp_bool {v : V} {i : Bool} (h : DP K F v (.bool i)) : v = .bl i := by cases h; rfl
theorem dp_str {v : V} {i : Str} (h : DP K F v (.str i)) : v = .str i := by cases h; rfl
theorem dp_none {v : V} (h : DP K F v .none) : v = .non := by cases h; rfl
theorem dp_list {v : V} {ds : List PyData} (h : DP K F v (.list ds)) : ∃ a vs, v = .ref a ∧ F a = some (.lst vs) ∧ DPs K F vs ds := by
  cases h with
  | lst hs ha => exact ⟨_, _, rfl, hs, ha⟩
theorem dp_tuple {v : V} {ds : List PyData} (h : DP K F v (.tuple ds)) : ∃ a vs, v = .ref a ∧ SqT K F a vs ∧ DPs K F vs ds := by
  cases h with
  | tup hs ha => exact ⟨_, _, rfl, hs, ha⟩
theorem dpa_ints_inv : ∀ {vs : List V} {ns : List Int}, DPs K F vs (ns.map PyData.int) → vs = ns.map V.int
  | _, [], h => by cases h; rfl
  | _, n :: ns, h => by
    cases h with
    | cons h1 h2 => rw [dp_int h1, dpa_ints_inv h2]; rfl
end
inductive PV where
  | d (x : PyData)
  | ref (k : Nat)
  | raw (xs : List PyData)
  | exc (C : Addr) (x : PyData)
  /-- .. within the suite that handles it: its address, too -/
  | excA (a C : Addr) (x : PyData)
def exH (a C d : Addr) : HO := .ext fun h => ∃ (oe : Obj) (vs : Array Value), h.get? a = some oe ∧ oe.cls = .ref C ∧ oe.dict = some d ∧ oe.data = .fields vs
def exN (a C d : Addr) : HO := .ext fun h => ∃ (oe : Obj) (vs : Array Value), h.get? a = some oe ∧ oe.cls = .ref C ∧ oe.dict = some d ∧ oe.data = .fields vs ∧ vs[2]? = some .none
inductive Cell where
  | lst (xs : List PyData)
  | dK (kvs : List (Key × PyData))
  /-- a list of the cell just ahead and three numbers -/
  | own (a b c : Int)
  /-- a dict whose keys are ints and tuples of such -/
  | dD (kvs : List (PyData × PyData))
  /-- such dicts, locked: only read from now on -/
  | lkD (ob : Obj) (us : List Ent) (kvs : List (PyData × PyData))
  | lkK (ob : Obj) (us : List (Key × V)) (kvs : List (Key × PyData))
  /-- a list whose address is told; a list of such lists -/
  | lstA (b : Addr) (xs : List PyData)
  | rws (bs : List Addr)
  /-- a dict whose keys are ints and tuples of such, its values such lists -/
  | dR (kvs : List (PyData × Addr))
abbrev Mem := List (Option Cell)
abbrev Loc := List (Option PV)
structure Wd where
  A : List Addr
  T : List (Addr × HO)
  F : Hp
structure Wd.le0 (w w' : Wd) : Prop where
  pre : ∃ more, w'.A = w.A ++ more
  sub : Sub w.F w'.F
structure Wd.le (w w' : Wd) : Prop extends toLe0 : Wd.le0 w w' where
  hid : w'.T = w.T
theorem Wd.le0.refl (w : Wd) : w.le0 w := ⟨⟨[], by simp⟩, Sub.refl _⟩
theorem Wd.le.refl (w : Wd) : w.le w := ⟨.refl w, rfl⟩
theorem Wd.le0.trans {a b c : Wd} (h : a.le0 b) (g : b.le0 c) : a.le0 c := by
  obtain ⟨m1, e1⟩ := h.pre
  obtain ⟨m2, e2⟩ := g.pre
  exact ⟨⟨m1 ++ m2, by rw [e2, e1, List.append_assoc]⟩, h.sub.trans g.sub⟩
theorem Wd.le.trans {a b c : Wd} (h : a.le b) (g : b.le c) : a.le c := ⟨h.toLe0.trans g.toLe0, g.hid.trans h.hid⟩
theorem Wd.le0.at {a b : Wd} (h : a.le0 b) {k : Nat} {x : Addr} (e : a.A[k]? = some x) : b.A[k]? = some x := by
  obtain ⟨m, em⟩ := h.pre
  rw [em, List.getElem?_append_left (List.getElem?_eq_some_iff.mp e).1]
  exact e
section
variable (K : PySem.W.Frag)
def RV (w : Wd) (v : V) : PV → Prop
  | .d x => DP K w.F v x
  | .ref k => ∃ a, w.A[k]? = some a ∧ v = .ref a
  | .raw xs => ∃ a vs, v = .ref a ∧ SqL K w.F a vs ∧ DPs K w.F vs xs
  | .exc C x => ∃ (a d : Addr) (vv : V), v = .ref a ∧ w.F a = some (exH a C d) ∧ w.F d = some (.xd [("value", vv)]) ∧ DP K w.F vv x
  | .excA a C x => ∃ (d : Addr) (vv : V), v = .ref a ∧ w.F a = some (exN a C d) ∧ w.F d = some (.xd [("value", vv)]) ∧ DP K w.F vv x
abbrev RVs (w : Wd) : List V → List PV → Prop := Paired (RV K w)
def CR (w : Wd) (k : Nat) (ad : Addr) : Cell → HO → Prop
  | .lst ds, o => ∃ vs, o = .lst vs ∧ DPs K w.F vs ds
  | .dK kvs, o => ∃ us, o = .dK us ∧ Paired (fun (p : Key × V) (q : Key × PyData) => p.1 = q.1 ∧ DP K w.F p.2 q.2) us kvs
  | .own a b c, o => ∃ j q, k = j + 1 ∧ w.A[j]? = some q ∧ o = .lst [V.ref q, V.int a, V.int b, V.int c]
  | .dD kvs, o => ∃ us : List Ent, o = dkO ad us ∧ Paired (fun (p : Ent) (q : PyData × PyData) => keyN q.1 = some p.1 ∧ DP K w.F (.ref p.2.1) q.1 ∧ DP K w.F p.2.2 q.2) us kvs
  | .lkD ob us kvs, o => o = .frz ob (dkO ad us) ∧ Paired (fun (p : Ent) (q : PyData × PyData) => keyN q.1 = some p.1 ∧ DP K w.F (.ref p.2.1) q.1 ∧ DP K w.F p.2.2 q.2) us kvs
  | .lkK ob us kvs, o => o = .frz ob (.dK us) ∧ Paired (fun (p : Key × V) (q : Key × PyData) => p.1 = q.1 ∧ DP K w.F p.2 q.2) us kvs
  | .lstA b ds, o => ad = b ∧ ∃ vs, o = .lst vs ∧ DPs K w.F vs ds
  | .rws bs, o => o = .lst (bs.map V.ref)
  | .dR kvs, o => ∃ us : List Ent, o = dkO ad us ∧ Paired (fun (p : Ent) (q : PyData × Addr) => keyN q.1 = some p.1 ∧ DP K w.F (.ref p.2.1) q.1 ∧ p.2.2 = .ref q.2) us kvs
structure HR (w : Wd) (m : Mem) (H : Hp) : Prop where
  fz : Sub w.F H
  len : w.A.length = m.length
  nd : w.A.Nodup
  sep : ∀ (k : Nat) (a : Addr) (c : Cell), w.A[k]? = some a → m[k]? = some (some c) → w.F a = none
  occ : ∀ a : Addr, a ∈ w.A → H a ≠ none
  tp : ∀ p : Addr × HO, p ∈ w.T → H p.1 = some p.2 ∧ w.F p.1 = none ∧ p.1 ∉ w.A
  tnd : (w.T.map (·.1)).Nodup
  cell : ∀ (k : Nat) (c : Cell), m[k]? = some (some c) → ∃ (a : Addr) (o : HO), w.A[k]? = some a ∧ H a = some o ∧ CR K w k a c o
structure Rep (w : Wd) (L : Loc) (m : Mem) (σ : L2.St) (H : Hp) : Prop extends toHR : HR K w m H where
  sl : σ.length = L.length
  loc : ∀ (i : Nat) (p : PV), L[i]? = some (some p) → ∃ v, σ[i]? = some (some v) ∧ RV K w v p
end
section
variable {K : PySem.W.Frag} {w w' : Wd} {L : Loc} {m m' : Mem} {σ : L2.St} {H H' : Hp} {v : V} {p : PV}
theorem RV.mono (h : RV K w v p) (l : w.le0 w') : RV K w' v p := by
  cases p with
  | d x => exact dp_mono l.sub x v h
  | ref k => obtain ⟨a, e, r⟩ := h; exact ⟨a, l.at e, r⟩
  | raw u => obtain ⟨a, vs, e, s, d⟩ := h; exact ⟨a, vs, e, l.sub.sql s, dpa_mono l.sub _ _ d⟩
  | exc C x => obtain ⟨a, d, vv, e, h1, h2, h3⟩ := h; exact ⟨a, d, vv, e, l.sub _ _ h1, l.sub _ _ h2, dp_mono l.sub _ _ h3⟩
  | excA a C x => obtain ⟨d, vv, e, h1, h2, h3⟩ := h; exact ⟨d, vv, e, l.sub _ _ h1, l.sub _ _ h2, dp_mono l.sub _ _ h3⟩
theorem RVs.mono : ∀ {vs : List V} {ps : List PV}, RVs K w vs ps → w.le0 w' → RVs K w' vs ps
  | _, _, .nil, _ => .nil
  | _, _, .cons r t, l => .cons (r.mono l) (RVs.mono t l)
theorem CR.mono {k : Nat} {ad : Addr} {c : Cell} {o : HO} (h : CR K w k ad c o) (l : Sub w.F w'.F) (la : ∀ j a, j < k → w.A[j]? = some a → w'.A[j]? = some a := by exact fun _ _ _ z => z) : CR K w' k ad c o := by
  cases c with
  | lst ds => obtain ⟨vs, e, r⟩ := h; exact ⟨vs, e, dpa_mono l _ _ r⟩
  | dK kvs => obtain ⟨us, e, r⟩ := h; exact ⟨us, e, L2.Paired.mapP r fun a b z => ⟨z.1, dp_mono l _ _ z.2⟩⟩
  | own a b c => obtain ⟨j, q, e1, e2, e3⟩ := h; exact ⟨j, q, e1, la j q (by omega) e2, e3⟩
  | dD kvs => obtain ⟨us, e, r⟩ := h; exact ⟨us, e, L2.Paired.mapP r fun a b z => ⟨z.1, dp_mono l _ _ z.2.1, dp_mono l _ _ z.2.2⟩⟩
  | lkD ob us kvs => obtain ⟨e, r⟩ := h; exact ⟨e, L2.Paired.mapP r fun a b z => ⟨z.1, dp_mono l _ _ z.2.1, dp_mono l _ _ z.2.2⟩⟩
  | lkK ob us kvs => obtain ⟨e, r⟩ := h; exact ⟨e, L2.Paired.mapP r fun a b z => ⟨z.1, dp_mono l _ _ z.2⟩⟩
  | lstA b ds => obtain ⟨e0, vs, e, r⟩ := h; exact ⟨e0, vs, e, dpa_mono l _ _ r⟩
  | rws bs => exact h
  | dR kvs => obtain ⟨us, e, r⟩ := h; exact ⟨us, e, L2.Paired.mapP r fun a b z => ⟨z.1, dp_mono l _ _ z.2.1, z.2.2⟩⟩
theorem Rep.go (h : Rep K w L m σ H) (l : w.le w') (r : HR K w' m' H') : Rep K w' L m' σ H' :=
  ⟨r, h.sl, fun i p e => let ⟨v, e1, q⟩ := h.loc i p e; ⟨v, e1, q.mono l.toLe0⟩⟩
def Wd.fz (w : Wd) (p : Addr) (o : HO) : Wd := { w with F := upd w.F p o }
theorem HR.fnone (h : HR K w m H) {p : Addr} (hp : H p = none) : w.F p = none := h.fz.none hp
theorem HR.fnew (h : HR K w m H) {p : Addr} {o : HO} (hp : H p = none) : w.le (w.fz p o) ∧ HR K (w.fz p o) m (upd H p o) := by
  have hF := h.fnone hp
  have hA : p ∉ w.A := fun z => h.occ p z hp
  have hs : Sub w.F (upd w.F p o) := Sub.upd hF
  refine ⟨⟨⟨⟨[], by simp [Wd.fz]⟩, hs⟩, rfl⟩, ?_, h.len, h.nd, fun k a c e1 e2 => ?_, fun a ha => ?_, fun q hq => ?_, h.tnd, fun k c e => ?_⟩
  · intro a u e
    by_cases ha : a = p
    · subst ha; rw [show (w.fz a o).F a = some o from upd_same] at e; rw [upd_same]; exact e
    · rw [show (w.fz p o).F a = w.F a from upd_ne ha] at e; rw [upd_ne ha]; exact h.fz a u e
  · have hne : a ≠ p := fun z => hA (z ▸ List.mem_of_getElem? e1)
    show upd w.F p o a = none
    rw [upd_ne hne]; exact h.sep k a c e1 e2
  · by_cases hne : a = p
    · subst hne; rw [upd_same]; exact fun z => by cases z
    · rw [upd_ne hne]; exact h.occ a ha
  · obtain ⟨e1, e2, e3⟩ := h.tp q hq
    have hne : q.1 ≠ p := fun z => by rw [z, hp] at e1; cases e1
    refine ⟨by rw [upd_ne hne]; exact e1, ?_, e3⟩
    show upd w.F p o q.1 = none
    rw [upd_ne hne]; exact e2
  · obtain ⟨a, u, e1, e2, r⟩ := h.cell k c e
    have hne : a ≠ p := fun z => by rw [z, hp] at e2; cases e2
    exact ⟨a, u, e1, by rw [upd_ne hne]; exact e2, r.mono hs⟩
structure Un1 (w : Wd) (p : Addr) : Prop where
  f : w.F p = none
  a : p ∉ w.A
  t : p ∉ w.T.map (·.1)
theorem HR.un (h : HR K w m H) {p : Addr} {o : HO} (hp : H p = none) : HR K w m (upd H p o) ∧ Un1 w p := by
  have hF := h.fnone hp
  have hA : p ∉ w.A := fun z => h.occ p z hp
  have hT : p ∉ w.T.map (·.1) := fun z => by
    obtain ⟨q, hq, e⟩ := List.mem_map.mp z
    have := (h.tp q hq).1
    rw [e, hp] at this; cases this
  have hq : ∀ a, H a ≠ none → upd H p o a = H a := fun a ha => upd_ne fun z => ha (z ▸ hp)
  refine ⟨⟨fun a u e => ?_, h.len, h.nd, h.sep, fun a ha => ?_, fun q hq' => ?_, h.tnd, fun k c e => ?_⟩, hF, hA, hT⟩
  · have e' := h.fz a u e
    rw [hq a (by rw [e']; exact fun z => by cases z)]; exact e'
  · rw [hq a (h.occ a ha)]; exact h.occ a ha
  · obtain ⟨e1, e2, e3⟩ := h.tp q hq'
    exact ⟨by rw [hq q.1 (by rw [e1]; exact fun z => by cases z)]; exact e1, e2, e3⟩
  · obtain ⟨a, u, e1, e2, r⟩ := h.cell k c e
    exact ⟨a, u, e1, by rw [hq a (by rw [e2]; exact fun z => by cases z)]; exact e2, r⟩
theorem HR.freeze (h : HR K w m H) {p : Addr} {o : HO} (u : Un1 w p) (e : H p = some o) : w.le (w.fz p o) ∧ HR K (w.fz p o) m H := by
  have hs : Sub w.F (upd w.F p o) := Sub.upd u.f
  refine ⟨⟨⟨⟨[], by simp [Wd.fz]⟩, hs⟩, rfl⟩, ?_, h.len, h.nd, fun k a c e1 e2 => ?_, h.occ, fun q hq => ?_, h.tnd, fun k c e => ?_⟩
  · intro a x ea
    by_cases ha : a = p
    · subst ha; rw [show (w.fz a o).F a = some o from upd_same] at ea; rw [← ea]; exact e
    · rw [show (w.fz p o).F a = w.F a from upd_ne ha] at ea; exact h.fz a x ea
  · have hne : a ≠ p := fun z => u.a (z ▸ List.mem_of_getElem? e1)
    show upd w.F p o a = none
    rw [upd_ne hne]; exact h.sep k a c e1 e2
  · obtain ⟨e1, e2, e3⟩ := h.tp q hq
    have hne : q.1 ≠ p := fun z => u.t (z ▸ List.mem_map_of_mem hq)
    refine ⟨e1, ?_, e3⟩
    show upd w.F p o q.1 = none
    rw [upd_ne hne]; exact e2
  · obtain ⟨a, x, e1, e2, r⟩ := h.cell k c e
    exact ⟨a, x, e1, e2, r.mono hs⟩
def Wd.push (w : Wd) (p : Addr) : Wd := { w with A := w.A ++ [p] }
theorem HR.adopt (h : HR K w m H) {p : Addr} {o : HO} {c : Cell} (u : Un1 w p) (e : H p = some o) (r : CR K w m.length p c o) : w.le (w.push p) ∧ HR K (w.push p) (m ++ [some c]) H := by
  refine ⟨⟨⟨⟨[p], rfl⟩, Sub.refl _⟩, rfl⟩, h.fz, ?_, ?_, fun k a c' e1 e2 => ?_, fun a ha => ?_, fun q hq => ?_, h.tnd, fun k c' e' => ?_⟩
  · show (w.A ++ [p]).length = _
    rw [List.length_append, List.length_append, h.len]; rfl
  · show (w.A ++ [p]).Nodup
    refine List.nodup_append.mpr ⟨h.nd, by simp, fun a ha b hb z => ?_⟩
    have hb' : b = p := by simpa using hb
    exact u.a (hb' ▸ z ▸ ha)
  · have e1' : (w.A ++ [p])[k]? = some a := e1
    by_cases hk : k < w.A.length
    · rw [List.getElem?_append_left hk] at e1'
      rw [List.getElem?_append_left (by rw [← h.len]; exact hk)] at e2
      exact h.sep k a c' e1' e2
    · have hk2 := (List.getElem?_eq_some_iff.mp e1').1
      rw [List.length_append] at hk2
      have hk3 : k = w.A.length := by simp at hk2; omega
      subst hk3
      rw [List.getElem?_append_right (Nat.le_refl _)] at e1'
      simp at e1'
      rw [← e1']; exact u.f
  · rcases List.mem_append.mp ha with z | z
    · exact h.occ a z
    · have : a = p := by simpa using z
      rw [this, e]; exact fun z => by cases z
  · obtain ⟨e1, e2, e3⟩ := h.tp q hq
    refine ⟨e1, e2, fun z => ?_⟩
    rcases List.mem_append.mp z with z | z
    · exact e3 z
    · have : q.1 = p := by simpa using z
      exact u.t (this ▸ List.mem_map_of_mem hq)
  · by_cases hk : k < m.length
    · rw [List.getElem?_append_left hk] at e'
      obtain ⟨a, x, e1, e2, r'⟩ := h.cell k c' e'
      refine ⟨a, x, ?_, e2, r'.mono (Sub.refl _) fun j b hj z => by
        show (w.A ++ [p])[j]? = some b
        rw [List.getElem?_append_left (List.getElem?_eq_some_iff.mp z).1]; exact z⟩
      show (w.A ++ [p])[k]? = some a
      rw [List.getElem?_append_left (by rw [h.len]; exact hk)]; exact e1
    · have hk2 := (List.getElem?_eq_some_iff.mp e').1
      rw [List.length_append] at hk2
      have hk3 : k = m.length := by simp at hk2; omega
      subst hk3
      rw [List.getElem?_append_right (Nat.le_refl _)] at e'
      simp at e'
      refine ⟨p, o, ?_, e, by rw [← e']; exact r.mono (Sub.refl _) fun j b hj z => (by
        show (w.A ++ [p])[j]? = some b
        rw [List.getElem?_append_left (List.getElem?_eq_some_iff.mp z).1]; exact z)⟩
      show (w.A ++ [p])[m.length]? = some p
      rw [← h.len, List.getElem?_append_right (Nat.le_refl _)]; simp
theorem nodup_at {A : List Addr} (nd : A.Nodup) {i j : Nat} {a : Addr} (h1 : A[i]? = some a) (h2 : A[j]? = some a) : i = j := by
  obtain ⟨l1, e1⟩ := List.getElem?_eq_some_iff.mp h1
  obtain ⟨l2, e2⟩ := List.getElem?_eq_some_iff.mp h2
  exact (List.getElem_inj nd).mp (e1.trans e2.symm)
theorem HR.write (h : HR K w m H) {k : Nat} {a : Addr} {c : Cell} {o : HO} {c' : Cell} (ea : w.A[k]? = some a) (ec : m[k]? = some (some c)) (r : CR K w k a c' o) : HR K w (m.set k (some c')) (upd H a o) := by
  have hk : k < m.length := (List.getElem?_eq_some_iff.mp ec).1
  refine ⟨fun b u e => ?_, by rw [List.length_set]; exact h.len, h.nd, fun j b c2 e1 e2 => ?_, fun b hb => ?_, fun q hq => ?_, h.tnd, fun j c2 e => ?_⟩
  · have hne : b ≠ a := fun z => by rw [z, h.sep k a c ea ec] at e; cases e
    rw [upd_ne hne]; exact h.fz b u e
  · by_cases hj : j = k
    · subst hj; rw [ea] at e1; cases e1; exact h.sep _ _ _ ea ec
    · rw [List.getElem?_set_ne (Ne.symm hj)] at e2; exact h.sep j b c2 e1 e2
  · by_cases hne : b = a
    · subst hne; rw [upd_same]; exact fun z => by cases z
    · rw [upd_ne hne]; exact h.occ b hb
  · obtain ⟨e1, e2, e3⟩ := h.tp q hq
    have hne : q.1 ≠ a := fun z => e3 (z ▸ List.mem_of_getElem? ea)
    exact ⟨by rw [upd_ne hne]; exact e1, e2, e3⟩
  · by_cases hj : j = k
    · subst hj
      rw [List.getElem?_set_self hk] at e
      cases e
      exact ⟨a, o, ea, upd_same, r⟩
    · rw [List.getElem?_set_ne (Ne.symm hj)] at e
      obtain ⟨b, x, e1, e2, r'⟩ := h.cell j c2 e
      have hne : b ≠ a := fun z => hj (nodup_at h.nd (z ▸ e1) ea)
      exact ⟨b, x, e1, by rw [upd_ne hne]; exact e2, r'⟩
theorem HR.kill (h : HR K w m H) {k : Nat} {a : Addr} {c : Cell} {o : HO} (ea : w.A[k]? = some a) (ec : m[k]? = some (some c)) (e : H a = some o) : w.le (w.fz a o) ∧ HR K (w.fz a o) (m.set k none) H := by
  have hF := h.sep k a c ea ec
  have hs : Sub w.F (upd w.F a o) := Sub.upd hF
  have hk : k < m.length := (List.getElem?_eq_some_iff.mp ec).1
  refine ⟨⟨⟨⟨[], by simp [Wd.fz]⟩, hs⟩, rfl⟩, ?_, by rw [List.length_set]; exact h.len, h.nd, fun j b c2 e1 e2 => ?_, h.occ, fun q hq => ?_, h.tnd, fun j c2 e' => ?_⟩
  · intro b x eb
    by_cases hb : b = a
    · subst hb; rw [show (w.fz b o).F b = some o from upd_same] at eb; rw [← eb]; exact e
    · rw [show (w.fz a o).F b = w.F b from upd_ne hb] at eb; exact h.fz b x eb
  · by_cases hj : j = k
    · subst hj; rw [List.getElem?_set_self hk] at e2; cases e2
    · rw [List.getElem?_set_ne (Ne.symm hj)] at e2
      have hne : b ≠ a := fun z => hj (nodup_at h.nd (z ▸ e1) ea)
      show upd w.F a o b = none
      rw [upd_ne hne]; exact h.sep j b c2 e1 e2
  · obtain ⟨e1, e2, e3⟩ := h.tp q hq
    have hne : q.1 ≠ a := fun z => e3 (z ▸ List.mem_of_getElem? ea)
    refine ⟨e1, ?_, e3⟩
    show upd w.F a o q.1 = none
    rw [upd_ne hne]; exact e2
  · by_cases hj : j = k
    · subst hj; rw [List.getElem?_set_self hk] at e'; cases e'
    · rw [List.getElem?_set_ne (Ne.symm hj)] at e'
      obtain ⟨b, x, e1, e2, r⟩ := h.cell j c2 e'
      exact ⟨b, x, e1, e2, r.mono hs⟩
def Wd.cut (w : Wd) (n : Nat) : Wd := { w with A := w.A.take n }
theorem HR.cut (h : HR K w m H) (n : Nat) : HR K (w.cut n) (m.take n) H := by
  refine ⟨h.fz, ?_, h.nd.sublist (List.take_sublist _ _), fun k a c e1 e2 => ?_, fun a ha => h.occ a (List.mem_of_mem_take ha), fun q hq => ?_, h.tnd, fun k c e => ?_⟩
  · show (w.A.take n).length = _
    rw [List.length_take, List.length_take, h.len]
  · have e1' : (w.A.take n)[k]? = some a := e1
    rw [List.getElem?_take] at e1' e2
    split at e1' <;> simp_all
    exact h.sep k a c e1' e2
  · obtain ⟨e1, e2, e3⟩ := h.tp q hq
    exact ⟨e1, e2, fun z => e3 (List.mem_of_mem_take z)⟩
  · rw [List.getElem?_take] at e
    split at e
    · rename_i hk
      obtain ⟨a, o, e1, e2, r⟩ := h.cell k c e
      refine ⟨a, o, ?_, e2, r.mono (Sub.refl _) fun j b hj z => by
        show (w.A.take n)[j]? = some b
        rw [List.getElem?_take, if_pos (by omega)]; exact z⟩
      show (w.A.take n)[k]? = some a
      rw [List.getElem?_take, if_pos hk]; exact e1
    · cases e
theorem Wd.le.cut {w w' : Wd} (h : w.le w') {n : Nat} (hn : w.A.length ≤ n) : w.le (w'.cut n) := by
  obtain ⟨mo, e⟩ := h.pre
  refine ⟨⟨⟨mo.take (n - w.A.length), ?_⟩, h.sub⟩, h.hid⟩
  show w'.A.take n = _
  rw [e, List.take_append, List.take_of_length_le hn]
end
end PP
namespace PP
open PySem PySem.Spec PyProof.Rows L2
section
variable (X : Cx)
def tU (e : Expr) : TE := fun σ H Q => ∀ (pins : List (Addr × Obj)) (s : Shared), Inv X pins σ H s → wpAny (model X.prog X.w) X.A (eval e X.env) (EP X pins σ Q) X.xe s
def tUT (e : Expr) : TT := fun σ H Q => ∀ (pins : List (Addr × Obj)) (s : Shared), Inv X pins σ H s → wpAny (model X.prog X.w) X.A (isTrue e X.env (eval e X.env)) (TP X pins σ Q) X.xe s
def tUW (e : Expr) : TT := fun σ H Q => ∀ (wh : Sem Value) (pins : List (Addr × Obj)) (s : Shared), Inv X pins σ H s → wpAny (model X.prog X.w) X.A (isTrue e X.env wh) (TP X pins σ Q) X.xe s
def tUA (es : List Expr) : TA := fun σ H Q => ∀ (pos : Pos) (pins : List (Addr × Obj)) (s : Shared), Inv X pins σ H s → wpAny (model X.prog X.w) X.A (spliced (backTo pos (starEach es X.env))) (AP X pins σ Q) X.xe s
def tUS (st : Stmt) : TS := fun D σ H => ∀ (pins : List (Addr × Obj)) (s : Shared), Inv X pins σ H s → wpAny (model X.prog X.w) X.A (exec st X.env) (SP X pins D) X.xe s
def tUSs (st : List Stmt) : TS := fun D σ H => ∀ (pins : List (Addr × Obj)) (s : Shared), Inv X pins σ H s → wpAny (model X.prog X.w) X.A (execs st X.env) (SP X pins D) X.xe s
def tUI (tg iter : Expr) : TI := fun σ H R => ∀ (pins : List (Addr × Obj)) (s : Shared), Inv X pins σ H s → wpAny (model X.prog X.w) X.A (eval iter X.env) (fun v s1 => wpAny (model X.prog X.w) X.A (pyIter v) (PIE X pins σ tg R) X.xe s1) X.xe s
def tUO (o : Option Expr) : TO := fun σ H Q => ∀ (pins : List (Addr × Obj)) (s : Shared), Inv X pins σ H s → wpAny (model X.prog X.w) X.A (evalPart o X.env) (fun u s' => ∃ i H', Inv X pins σ H' s' ∧ IsPart u i ∧ Q i H') X.xe s
def tUG (tg : Expr) : TG := fun v σ H Q => ∀ (pins : List (Addr × Obj)) (s : Shared) (u : Value), Inv X pins σ H s → RelV v u → wpAny (model X.prog X.w) X.A (assign tg X.env u) (fun _ s' => ∃ σ' H', Inv X pins σ' H' s' ∧ Q σ' H') X.xe s
variable {X}
theorem peU (e : Expr) : PE X e (tU X e) := ⟨fun pins s _ _ _ I h => h pins s I⟩
theorem ptU (e : Expr) : PT X e (tUT X e) := ⟨fun pins s _ _ _ I h => h pins s I⟩
theorem pwU (e : Expr) : PW X e (tUW X e) := ⟨fun wh pins s _ _ _ I h => h wh pins s I⟩
theorem paU (es : List Expr) : PA X es (tUA X es) := ⟨fun pos pins s _ _ _ I h => h pos pins s I⟩
theorem psU (st : Stmt) : PS X st (tUS X st) := ⟨fun pins s _ _ _ I h => h pins s I⟩
theorem pssU (st : List Stmt) : PSs X st (tUSs X st) := ⟨fun pins s _ _ _ I h => h pins s I⟩
theorem piU (tg iter : Expr) : PI X tg iter (tUI X tg iter) := ⟨fun pins s _ _ _ I h => h pins s I⟩
theorem pgU (tg : Expr) : PG X tg (tUG X tg) := ⟨fun pins s _ _ _ u _ I r h => h pins s u I r⟩
theorem poU (o : Option Expr) : L2.PO X o (tUO X o) := ⟨fun pins s _ _ _ I h => h pins s I⟩
theorem tUO_mono {e : Option Expr} {σ : L2.St} {H : Hp} {Q Q' : Option Int → Hp → Prop} (h : tUO X e σ H Q) (k : ∀ v H', Q v H' → Q' v H') : tUO X e σ H Q' := fun pins s I =>
  thn (h pins s I) fun b _ ⟨i, H', I', p, q⟩ => ⟨i, H', I', p, k i H' q⟩
theorem tU_mono {e : Expr} {σ : L2.St} {H : Hp} {Q Q' : VK} (h : tU X e σ H Q) (k : ∀ v H', Q v H' → Q' v H') : tU X e σ H Q' := fun pins s I =>
  thn (h pins s I) fun _ _ ⟨v, H', I', r, q⟩ => ⟨v, H', I', r, k v H' q⟩
theorem tUT_mono {e : Expr} {σ : L2.St} {H : Hp} {Q Q' : Bool → Hp → Prop} (h : tUT X e σ H Q) (k : ∀ v H', Q v H' → Q' v H') : tUT X e σ H Q' := fun pins s I =>
  thn (h pins s I) fun b _ ⟨H', I', q⟩ => ⟨H', I', k b H' q⟩
theorem tUW_mono {e : Expr} {σ : L2.St} {H : Hp} {Q Q' : Bool → Hp → Prop} (h : tUW X e σ H Q) (k : ∀ v H', Q v H' → Q' v H') : tUW X e σ H Q' := fun wh pins s I =>
  thn (h wh pins s I) fun b _ ⟨H', I', q⟩ => ⟨H', I', k b H' q⟩
theorem tUA_mono {es : List Expr} {σ : L2.St} {H : Hp} {Q Q' : List V → Hp → Prop} (h : tUA X es σ H Q) (k : ∀ v H', Q v H' → Q' v H') : tUA X es σ H Q' := fun pos pins s I =>
  thn (h pos pins s I) fun _ _ ⟨v, H', I', r, q⟩ => ⟨v, H', I', r, k v H' q⟩
theorem tUI_mono {tg e : Expr} {σ : L2.St} {H : Hp} {Q Q' : It → Hp → Prop} (h : tUI X tg e σ H Q) (k : ∀ v H', Q v H' → Q' v H') : tUI X tg e σ H Q' := fun pins s I =>
  thn (h pins s I) fun v s1 h1 => thn h1 fun itv s2 ⟨it, fp, tn, J, H', e, I', T, st, f, q⟩ => ⟨it, fp, tn, J, H', e, I', T, st, f, k J H' q⟩
theorem tUG_mono {tg : Expr} {v : V} {σ : L2.St} {H : Hp} {Q Q' : L2.St → Hp → Prop} (h : tUG X tg v σ H Q) (k : ∀ σ' H', Q σ' H' → Q' σ' H') : tUG X tg v σ H Q' := fun pins s u I r =>
  thn (h pins s u I r) fun _ s' ⟨σ', H', I', q⟩ => ⟨σ', H', I', k σ' H' q⟩
theorem sp_mono {pins : List (Addr × Obj)} {D D' : Ends} {f : Flow} {s : Shared} (h : SP X pins D f s) (n : ∀ σ H, D.nx σ H → D'.nx σ H) (r : ∀ v H, D.rt v H → D'.rt v H) (b : ∀ σ H, D.bk σ H → D'.bk σ H) (c : ∀ σ H, D.ct σ H → D'.ct σ H) : SP X pins D' f s := by
  cases f with
  | next => obtain ⟨σ', H', I, q⟩ := h; exact ⟨σ', H', I, n _ _ q⟩
  | brk => obtain ⟨σ', H', I, q⟩ := h; exact ⟨σ', H', I, b _ _ q⟩
  | cont => obtain ⟨σ', H', I, q⟩ := h; exact ⟨σ', H', I, c _ _ q⟩
  | ret u => obtain ⟨v, σ', H', I, rr, q⟩ := h; exact ⟨v, σ', H', I, rr, r _ _ q⟩
theorem tUS_mono {st : Stmt} {D D' : Ends} {σ : L2.St} {H : Hp} (h : tUS X st D σ H) (n : ∀ σ H, D.nx σ H → D'.nx σ H) (r : ∀ v H, D.rt v H → D'.rt v H) (b : ∀ σ H, D.bk σ H → D'.bk σ H) (c : ∀ σ H, D.ct σ H → D'.ct σ H) : tUS X st D' σ H := fun pins s I =>
  thn (h pins s I) fun _ _ q => sp_mono q n r b c
theorem tUSs_mono {st : List Stmt} {D D' : Ends} {σ : L2.St} {H : Hp} (h : tUSs X st D σ H) (n : ∀ σ H, D.nx σ H → D'.nx σ H) (r : ∀ v H, D.rt v H → D'.rt v H) (b : ∀ σ H, D.bk σ H → D'.bk σ H) (c : ∀ σ H, D.ct σ H → D'.ct σ H) : tUSs X st D' σ H := fun pins s I =>
  thn (h pins s I) fun _ _ q => sp_mono q n r b c
end
abbrev QE := PyData → Mem → Prop
section
variable (K : PySem.W.Frag) (w : Wd)
def POE (Q : QE) : VK := fun v H => ∃ w' x m, w.le w' ∧ HR K w' m H ∧ DP K w'.F v x ∧ Q x m
def PF (Q : List PyData → Mem → Prop) : VK := fun v H => ∃ w' xs m p vs, v = .ref p ∧ w.le w' ∧ HR K w' m H ∧ H p = some (.lst vs) ∧ Un1 w' p ∧ DPs K w'.F vs xs ∧ Q xs m
def POV (Q : PV → Mem → Prop) : VK := fun v H => ∃ w' x m, w.le w' ∧ HR K w' m H ∧ RV K w' v x ∧ Q x m
def POT (Q : Bool → Mem → Prop) : Bool → Hp → Prop := fun b H => ∃ w' m, w.le w' ∧ HR K w' m H ∧ Q b m
def POA (Q : List PV → Mem → Prop) : List V → Hp → Prop := fun vs H => ∃ w' ps m, w.le w' ∧ HR K w' m H ∧ RVs K w' vs ps ∧ Q ps m
structure PEnds where
  nx : Loc → Mem → Prop
  rt : PV → Mem → Prop
  bk : Loc → Mem → Prop := fun _ _ => False
  ct : Loc → Mem → Prop := fun _ _ => False
def POS (Q : Loc → Mem → Prop) : L2.St → Hp → Prop := fun σ H => ∃ w' L m, w.le w' ∧ Rep K w' L m σ H ∧ Q L m
def toE (D : PEnds) : Ends := { nx := POS K w D.nx, rt := POV K w D.rt, bk := POS K w D.bk, ct := POS K w D.ct }
end
section
variable (X : Cx)
def WE (e : Expr) (L : Loc) (m : Mem) (Q : QE) : Prop := ∀ (w : Wd) (σ : L2.St) (H : Hp), Rep X.K w L m σ H → tU X e σ H (POE X.K w Q)
def WF (e : Expr) (L : Loc) (m : Mem) (Q : List PyData → Mem → Prop) : Prop := ∀ (w : Wd) (σ : L2.St) (H : Hp), Rep X.K w L m σ H → tU X e σ H (PF X.K w Q)
def WV (e : Expr) (L : Loc) (m : Mem) (Q : PV → Mem → Prop) : Prop := ∀ (w : Wd) (σ : L2.St) (H : Hp), Rep X.K w L m σ H → tU X e σ H (POV X.K w Q)
def WT (e : Expr) (L : Loc) (m : Mem) (Q : Bool → Mem → Prop) : Prop := ∀ (w : Wd) (σ : L2.St) (H : Hp), Rep X.K w L m σ H → tUT X e σ H (POT X.K w Q)
def WW (e : Expr) (L : Loc) (m : Mem) (Q : Bool → Mem → Prop) : Prop := ∀ (w : Wd) (σ : L2.St) (H : Hp), Rep X.K w L m σ H → tUW X e σ H (POT X.K w Q)
def WO (o : Option Expr) (L : Loc) (m : Mem) (Q : Option Int → Mem → Prop) : Prop := ∀ (w : Wd) (σ : L2.St) (H : Hp), Rep X.K w L m σ H → tUO X o σ H fun i H' => ∃ w' m', w.le w' ∧ HR X.K w' m' H' ∧ Q i m'
def WA (es : List Expr) (L : Loc) (m : Mem) (Q : List PV → Mem → Prop) : Prop := ∀ (w : Wd) (σ : L2.St) (H : Hp), Rep X.K w L m σ H → tUA X es σ H (POA X.K w Q)
def WS (st : Stmt) (L : Loc) (m : Mem) (D : PEnds) : Prop := ∀ (w : Wd) (σ : L2.St) (H : Hp), Rep X.K w L m σ H → tUS X st (toE X.K w D) σ H
def WSs (st : List Stmt) (L : Loc) (m : Mem) (D : PEnds) : Prop := ∀ (w : Wd) (σ : L2.St) (H : Hp), Rep X.K w L m σ H → tUSs X st (toE X.K w D) σ H
def WG (tg : Expr) (x : PyData) (L : Loc) (m : Mem) (Q : Loc → Mem → Prop) : Prop := ∀ (w : Wd) (σ : L2.St) (H : Hp) (v : V), Rep X.K w L m σ H → DP X.K w.F v x → tUG X tg v σ H (POS X.K w Q)
end
section
variable {K : PySem.W.Frag} {w w1 : Wd}
theorem POE.back {Q : QE} {v : V} {H : Hp} (l : w.le w1) (h : POE K w1 Q v H) : POE K w Q v H := let ⟨w', x, m, l', r⟩ := h; ⟨w', x, m, l.trans l', r⟩
theorem PF.back {Q : List PyData → Mem → Prop} {v : V} {H : Hp} (l : w.le w1) (h : PF K w1 Q v H) : PF K w Q v H := let ⟨w', x, m, p, vs, e, l', r⟩ := h; ⟨w', x, m, p, vs, e, l.trans l', r⟩
theorem POV.back {Q : PV → Mem → Prop} {v : V} {H : Hp} (l : w.le w1) (h : POV K w1 Q v H) : POV K w Q v H := let ⟨w', x, m, l', r⟩ := h; ⟨w', x, m, l.trans l', r⟩
theorem POT.back {Q : Bool → Mem → Prop} {b : Bool} {H : Hp} (l : w.le w1) (h : POT K w1 Q b H) : POT K w Q b H := let ⟨w', m, l', r⟩ := h; ⟨w', m, l.trans l', r⟩
theorem POA.back {Q : List PV → Mem → Prop} {vs : List V} {H : Hp} (l : w.le w1) (h : POA K w1 Q vs H) : POA K w Q vs H := let ⟨w', x, m, l', r⟩ := h; ⟨w', x, m, l.trans l', r⟩
theorem POS.back {Q : Loc → Mem → Prop} {σ : L2.St} {H : Hp} (l : w.le w1) (h : POS K w1 Q σ H) : POS K w Q σ H := let ⟨w', x, m, l', r⟩ := h; ⟨w', x, m, l.trans l', r⟩
end
section
variable {X : Cx} {L : Loc} {m : Mem} {e a b : Expr} {pos : Pos}
theorem WE.mono {Q Q' : QE} (h : WE X e L m Q) (k : ∀ x m', Q x m' → Q' x m') : WE X e L m Q' := fun w σ H r => tU_mono (h w σ H r) fun _ _ ⟨w', x, m', l, hr, d, q⟩ => ⟨w', x, m', l, hr, d, k _ _ q⟩
theorem WF.mono {Q Q' : List PyData → Mem → Prop} (h : WF X e L m Q) (k : ∀ x m', Q x m' → Q' x m') : WF X e L m Q' := fun w σ H r => tU_mono (h w σ H r) fun _ _ ⟨w', x, m', p, vs, e1, l, hr, hp, u, d, q⟩ => ⟨w', x, m', p, vs, e1, l, hr, hp, u, d, k _ _ q⟩
theorem WT.mono {Q Q' : Bool → Mem → Prop} (h : WT X e L m Q) (k : ∀ x m', Q x m' → Q' x m') : WT X e L m Q' := fun w σ H r => tUT_mono (h w σ H r) fun _ _ ⟨w', m', l, hr, q⟩ => ⟨w', m', l, hr, k _ _ q⟩
theorem we_of {t : TE} {Q : QE} (h : PE X e t) (k : ∀ (w : Wd) (σ : L2.St) (H : Hp), Rep X.K w L m σ H → t σ H (POE X.K w Q)) : WE X e L m Q := fun w σ H r pins s I => h.run pins s σ H _ I (k w σ H r)
theorem wf_of {t : TE} {Q : List PyData → Mem → Prop} (h : PE X e t) (k : ∀ (w : Wd) (σ : L2.St) (H : Hp), Rep X.K w L m σ H → t σ H (PF X.K w Q)) : WF X e L m Q := fun w σ H r pins s I => h.run pins s σ H _ I (k w σ H r)
theorem wt_of {t : TT} {Q : Bool → Mem → Prop} (h : PT X e t) (k : ∀ (w : Wd) (σ : L2.St) (H : Hp), Rep X.K w L m σ H → t σ H (POT X.K w Q)) : WT X e L m Q := fun w σ H r pins s I => h.run pins s σ H _ I (k w σ H r)
theorem ws_of {st : Stmt} {t : TS} {D : PEnds} (h : PS X st t) (k : ∀ (w : Wd) (σ : L2.St) (H : Hp), Rep X.K w L m σ H → t (toE X.K w D) σ H) : WS X st L m D := fun w σ H r pins s I => h.run pins s σ H _ I (k w σ H r)
theorem wss_of {st : List Stmt} {t : TS} {D : PEnds} (h : PSs X st t) (k : ∀ (w : Wd) (σ : L2.St) (H : Hp), Rep X.K w L m σ H → t (toE X.K w D) σ H) : WSs X st L m D := fun w σ H r pins s I => h.run pins s σ H _ I (k w σ H r)
theorem WE.go {Q : QE} (h : WE X e L m Q) {w : Wd} {σ : L2.St} {H : Hp} (r : Rep X.K w L m σ H) {R : VK} (k : ∀ (w' : Wd) (v : V) (x : PyData) (m' : Mem) (H' : Hp), w.le w' → Rep X.K w' L m' σ H' → DP X.K w'.F v x → Q x m' → R v H') : tU X e σ H R :=
  tU_mono (h w σ H r) fun v H' ⟨w', x, m', l, hr, d, q⟩ => k w' v x m' H' l (r.go l hr) d q
theorem WF.go {Q : List PyData → Mem → Prop} (h : WF X e L m Q) {w : Wd} {σ : L2.St} {H : Hp} (r : Rep X.K w L m σ H) {R : VK} (k : ∀ (w' : Wd) (p : Addr) (vs : List V) (xs : List PyData) (m' : Mem) (H' : Hp), w.le w' → Rep X.K w' L m' σ H' → H' p = some (.lst vs) → Un1 w' p → DPs X.K w'.F vs xs → Q xs m' → R (.ref p) H') : tU X e σ H R :=
  tU_mono (h w σ H r) fun v H' ⟨w', xs, m', p, vs, e1, l, hr, hp, u, d, q⟩ => e1 ▸ k w' p vs xs m' H' l (r.go l hr) hp u d q
theorem WV.go {Q : PV → Mem → Prop} (h : WV X e L m Q) {w : Wd} {σ : L2.St} {H : Hp} (r : Rep X.K w L m σ H) {R : VK} (k : ∀ (w' : Wd) (v : V) (x : PV) (m' : Mem) (H' : Hp), w.le w' → Rep X.K w' L m' σ H' → RV X.K w' v x → Q x m' → R v H') : tU X e σ H R :=
  tU_mono (h w σ H r) fun v H' ⟨w', x, m', l, hr, d, q⟩ => k w' v x m' H' l (r.go l hr) d q
theorem WT.go {Q : Bool → Mem → Prop} (h : WT X e L m Q) {w : Wd} {σ : L2.St} {H : Hp} (r : Rep X.K w L m σ H) {R : Bool → Hp → Prop} (k : ∀ (w' : Wd) (b : Bool) (m' : Mem) (H' : Hp), w.le w' → Rep X.K w' L m' σ H' → Q b m' → R b H') : tUT X e σ H R :=
  tUT_mono (h w σ H r) fun b H' ⟨w', m', l, hr, q⟩ => k w' b m' H' l (r.go l hr) q
theorem WW.go {Q : Bool → Mem → Prop} (h : WW X e L m Q) {w : Wd} {σ : L2.St} {H : Hp} (r : Rep X.K w L m σ H) {R : Bool → Hp → Prop} (k : ∀ (w' : Wd) (b : Bool) (m' : Mem) (H' : Hp), w.le w' → Rep X.K w' L m' σ H' → Q b m' → R b H') : tUW X e σ H R :=
  tUW_mono (h w σ H r) fun b H' ⟨w', m', l, hr, q⟩ => k w' b m' H' l (r.go l hr) q
theorem WO.go {o : Option Expr} {Q : Option Int → Mem → Prop} (h : WO X o L m Q) {w : Wd} {σ : L2.St} {H : Hp} (r : Rep X.K w L m σ H) {R : Option Int → Hp → Prop} (k : ∀ (w' : Wd) (b : Option Int) (m' : Mem) (H' : Hp), w.le w' → Rep X.K w' L m' σ H' → Q b m' → R b H') : tUO X o σ H R :=
  tUO_mono (h w σ H r) fun b H' ⟨w', m', l, hr, q⟩ => k w' b m' H' l (r.go l hr) q
theorem WA.go {es : List Expr} {Q : List PV → Mem → Prop} (h : WA X es L m Q) {w : Wd} {σ : L2.St} {H : Hp} (r : Rep X.K w L m σ H) {R : List V → Hp → Prop} (k : ∀ (w' : Wd) (vs : List V) (ps : List PV) (m' : Mem) (H' : Hp), w.le w' → Rep X.K w' L m' σ H' → RVs X.K w' vs ps → Q ps m' → R vs H') : tUA X es σ H R :=
  tUA_mono (h w σ H r) fun v H' ⟨w', x, m', l, hr, d, q⟩ => k w' v x m' H' l (r.go l hr) d q
theorem we_name {Q : QE} {x : Str} {y : PyData} (i : Nat) (hN : X.N[i]? = some x) (hv : Vis X.env.scope x) (hL : L[i]? = some (some (.d y))) (q : Q y m) (hd : (x == ("__debug__" : Str)) = false := by decide) (hcd : (x == ("__classdict__" : Str)) = false := by decide) : WE X (.Name x pos) L m Q :=
  we_of (pe_var hN hv hd hcd) fun w σ H r => let ⟨v, e1, d⟩ := r.loc i _ hL; ⟨v, e1, w, y, m, .refl w, r.toHR, d, q⟩
theorem wv_name {Q : PV → Mem → Prop} {x : Str} {y : PV} (i : Nat) (hN : X.N[i]? = some x) (hv : Vis X.env.scope x) (hL : L[i]? = some (some y)) (q : Q y m) (hd : (x == ("__debug__" : Str)) = false := by decide) (hcd : (x == ("__classdict__" : Str)) = false := by decide) : WV X (.Name x pos) L m Q := fun w σ H r pins s I =>
  (pe_var hN hv hd hcd).run pins s σ H _ I (let ⟨v, e1, d⟩ := r.loc i _ hL; ⟨v, e1, w, y, m, .refl w, r.toHR, d, q⟩)
theorem wv_we {Q : PV → Mem → Prop} (h : WE X e L m fun x m' => Q (.d x) m') : WV X e L m Q := fun w σ H r => tU_mono (h w σ H r) fun _ _ ⟨w', x, m', l, hr, d, q⟩ => ⟨w', .d x, m', l, hr, d, q⟩
theorem we_kill {Q : QE} {x : Str} {k : Nat} {xs : List PyData} (i : Nat) (hN : X.N[i]? = some x) (hv : Vis X.env.scope x) (hL : L[i]? = some (some (.ref k))) (hm : m[k]? = some (some (.lst xs))) (q : Q (.list xs) (m.set k none)) (hd : (x == ("__debug__" : Str)) = false := by decide) (hcd : (x == ("__classdict__" : Str)) = false := by decide) : WE X (.Name x pos) L m Q :=
  we_of (pe_var hN hv hd hcd) fun w σ H r => by
    obtain ⟨v, e1, a, ea, rfl⟩ := r.loc i _ hL
    obtain ⟨a', o, ea', eo, vs, rfl, d⟩ := r.cell k _ hm
    rw [ea] at ea'; cases ea'
    obtain ⟨l, hr⟩ := r.toHR.kill ea hm eo
    exact ⟨_, e1, _, _, _, l, hr, .lst upd_same (dpa_mono l.sub _ _ d), q⟩
theorem we_int {Q : QE} {i : Int} {j : Nat} (q : Q (.int i) m) : WE X (.Constant (.int i) j pos) L m Q := we_of pe_int fun w _ _ r => ⟨w, _, m, .refl w, r.toHR, .int i, q⟩
theorem we_bool {Q : QE} {i : Bool} {j : Nat} (q : Q (.bool i) m) : WE X (.Constant (.bool i) j pos) L m Q := we_of pe_bl fun w _ _ r => ⟨w, _, m, .refl w, r.toHR, .bl i, q⟩
theorem we_none {Q : QE} {j : Nat} (q : Q .none m) : WE X (.Constant .none j pos) L m Q := we_of pe_non fun w _ _ r => ⟨w, _, m, .refl w, r.toHR, .non, q⟩
def OpW (X : Cx) (r : R2) (x y : PyData) (m : Mem) (Q : QE) : Prop := ∀ (w0 w : Wd) (H : Hp) (v u : V), w0.le w → HR X.K w m H → DP X.K w.F v x → DP X.K w.F u y → r v u H (POE X.K w0 Q)
theorem two {r : R2} {w : Wd} {σ : L2.St} {H : Hp} {Q : VK} {Qr : PyData → PyData → Mem → Prop} (rp : Rep X.K w L m σ H) (h : WE X a L m fun x m1 => WE X b L m1 fun y m2 => Qr x y m2)
    (k : ∀ (w' : Wd) (v u : V) (x y : PyData) (m' : Mem) (H' : Hp), w.le w' → Rep X.K w' L m' σ H' → DP X.K w'.F v x → DP X.K w'.F u y → Qr x y m' → r v u H' Q) : tOp r (tU X a) (tU X b) σ H Q :=
  h.go rp fun w1 v x m1 H1 l1 r1 d1 q1 => q1.go r1 fun w2 u y m2 H2 l2 r2 d2 q2 => k w2 v u x y m2 H2 (l1.trans l2) r2 (dp_mono l2.sub _ _ d1) d2 q2
theorem we_op {op : Operator} {r : R2} {Q : QE} (ho : OpR X (binaryOp op) r) (h : WE X a L m fun x m1 => WE X b L m1 fun y m2 => OpW X r x y m2 Q) : WE X (.BinOp a op b pos) L m Q :=
  we_of (pe_op ho (peU a) (peU b)) fun w _ _ rp => two rp h fun w' v u _ _ _ H' l rp' d1 d2 q => q w w' H' v u l rp'.toHR d1 d2
theorem we_cmp {op : CmpOp} {r : R2} {Q : QE} (ho : OpR X (compareOp op) r) (h : WE X a L m fun x m1 => WE X b L m1 fun y m2 => OpW X r x y m2 Q) (hm : behindInMarks op b = false) : WE X (.Compare a [op] [b] pos) L m Q :=
  we_of (pe_cmpR ho (peU a) (peU b) hm) fun w _ _ rp => two rp h fun w' v u _ _ _ H' l rp' d1 d2 q => q w w' H' v u l rp'.toHR d1 d2
theorem wt_cmp {op : CmpOp} {r : R2} {Q : Bool → Mem → Prop} (ho : OpR X (compareOp op) r) (h : WE X a L m fun x m1 => WE X b L m1 fun y m2 => OpW X r x y m2 fun z m3 => ∃ c, z = .bool c ∧ Q c m3) (hm : behindInMarks op b = false)
    (rm : ∀ (v u : V) (H : Hp) (Q Q' : VK), (∀ z H', Q z H' → Q' z H') → r v u H Q → r v u H Q') : WT X (.Compare a [op] [b] pos) L m Q :=
  wt_of (pt_cmpR ho (peU a) (peU b) hm) fun w _ _ rp => two rp h fun w' v u _ _ _ H' l rp' d1 d2 q => rm _ _ _ _ _ (fun z H2 ⟨w2, x, m2, l2, hr, d, c, e, q2⟩ => by
    subst e
    exact ⟨c, dp_bool d, w2, m2, l2, hr, q2⟩) (q w w' H' v u l rp'.toHR d1 d2)
section
variable {w0 w : Wd} {H : Hp} {Q : QE}
theorem po_int (l : w0.le w) (h : HR X.K w m H) {i : Int} (q : Q (.int i) m) : POE X.K w0 Q (.int i) H := ⟨w, _, m, l, h, .int i, q⟩
theorem po_bool (l : w0.le w) (h : HR X.K w m H) {i : Bool} (q : Q (.bool i) m) : POE X.K w0 Q (.bl i) H := ⟨w, _, m, l, h, .bl i, q⟩
end
variable {Q : QE} {x y : PyData}
theorem opw_I0 {g : Int → Int → Int} (h : ∃ i j, x = .int i ∧ y = .int j ∧ Q (.int (g i j)) m) : OpW X (rI0 fun i j => .int (g i j)) x y m Q := by
  obtain ⟨i, j, rfl, rfl, q⟩ := h
  exact fun w0 w H v u l hr d1 d2 => ⟨i, j, dp_int d1, dp_int d2, po_int l hr q⟩
theorem opw_I {C : Int → Int → Prop} {g : Int → Int → Int} (h : ∃ i j, x = .int i ∧ y = .int j ∧ C i j ∧ Q (.int (g i j)) m) : OpW X (rI C fun i j => .int (g i j)) x y m Q := by
  obtain ⟨i, j, rfl, rfl, c, q⟩ := h
  exact fun w0 w H v u l hr d1 d2 => ⟨i, j, dp_int d1, dp_int d2, c, po_int l hr q⟩
theorem opw_B0 {g : Int → Int → Bool} (h : ∃ i j, x = .int i ∧ y = .int j ∧ Q (.bool (g i j)) m) : OpW X (rI0 fun i j => .bl (g i j)) x y m Q := by
  obtain ⟨i, j, rfl, rfl, q⟩ := h
  exact fun w0 w H v u l hr d1 d2 => ⟨i, j, dp_int d1, dp_int d2, po_bool l hr q⟩
theorem rI0_mono {g : Int → Int → V} : ∀ (v u : V) (H : Hp) (Q Q' : VK), (∀ z H', Q z H' → Q' z H') → rI0 g v u H Q → rI0 g v u H Q' := fun _ _ _ _ _ k ⟨i, j, e1, e2, q⟩ => ⟨i, j, e1, e2, k _ _ q⟩
abbrev AskI (x y : PyData) (R : Int → Int → Prop) : Prop := ∃ i j, x = .int i ∧ y = .int j ∧ R i j
theorem we_add (h : WE X a L m fun x m1 => WE X b L m1 fun y m2 => AskI x y fun i j => Q (.int (i + j)) m2) : WE X (.BinOp a .Add b pos) L m Q := we_op op_add (h.mono fun _ _ h => h.mono fun _ _ q => opw_I0 q)
theorem we_sub (h : WE X a L m fun x m1 => WE X b L m1 fun y m2 => AskI x y fun i j => Q (.int (i - j)) m2) : WE X (.BinOp a .Sub b pos) L m Q := we_op op_sub (h.mono fun _ _ h => h.mono fun _ _ q => opw_I0 q)
theorem we_mul (h : WE X a L m fun x m1 => WE X b L m1 fun y m2 => AskI x y fun i j => CMulW i j ∧ Q (.int (i * j)) m2) : WE X (.BinOp a .Mult b pos) L m Q := we_op op_mulW (h.mono fun _ _ h => h.mono fun _ _ q => opw_I q)
theorem we_fdiv (h : WE X a L m fun x m1 => WE X b L m1 fun y m2 => AskI x y fun i j => CDivW i j ∧ Q (.int (i / j)) m2) : WE X (.BinOp a .FloorDiv b pos) L m Q := we_op op_fdivW (h.mono fun _ _ h => h.mono fun _ _ q => opw_I q)
theorem we_mod (h : WE X a L m fun x m1 => WE X b L m1 fun y m2 => AskI x y fun i j => 0 < j ∧ Q (.int (i % j)) m2) : WE X (.BinOp a .Mod b pos) L m Q := we_op op_mod (h.mono fun _ _ h => h.mono fun _ _ q => opw_I q)
section
variable {QT : Bool → Mem → Prop}
theorem wt_int {op : CmpOp} {g : Int → Int → Bool} (ho : OpR X (compareOp op) (rI0 fun i j => .bl (g i j))) (hm : behindInMarks op b = false) (h : WE X a L m fun x m1 => WE X b L m1 fun y m2 => AskI x y fun i j => QT (g i j) m2) : WT X (.Compare a [op] [b] pos) L m QT :=
  wt_cmp ho (h.mono fun _ _ h => h.mono fun _ _ ⟨i, j, e1, e2, q⟩ => opw_B0 ⟨i, j, e1, e2, _, rfl, q⟩) hm rI0_mono
theorem wt_lt (h : WE X a L m fun x m1 => WE X b L m1 fun y m2 => AskI x y fun i j => QT (decide (i < j)) m2) : WT X (.Compare a [.Lt] [b] pos) L m QT := wt_int op_lt (nomark _) h
theorem wt_gt (h : WE X a L m fun x m1 => WE X b L m1 fun y m2 => AskI x y fun i j => QT (decide (j < i)) m2) : WT X (.Compare a [.Gt] [b] pos) L m QT := wt_int op_gt (nomark _) h
theorem we_lt (h : WE X a L m fun x m1 => WE X b L m1 fun y m2 => AskI x y fun i j => Q (.bool (decide (i < j))) m2) : WE X (.Compare a [.Lt] [b] pos) L m Q := we_cmp op_lt (h.mono fun _ _ h => h.mono fun _ _ q => opw_B0 q) (nomark _)
theorem we_ge (h : WE X a L m fun x m1 => WE X b L m1 fun y m2 => AskI x y fun i j => Q (.bool (decide (j ≤ i))) m2) : WE X (.Compare a [.GtE] [b] pos) L m Q := we_cmp op_ge (h.mono fun _ _ h => h.mono fun _ _ q => opw_B0 q) (nomark _)
end
abbrev shp (d : PyData) : Prop := SeqAt.shaped d = true
theorem we_eq (hu : X.A.units + 64 < cLine) (h : WE X a L m fun x m1 => WE X b L m1 fun y m2 => shp x ∧ shp y ∧ Q (.bool (PyData.eqv x y)) m2) : WE X (.Compare a [.Eq] [b] pos) L m Q :=
  we_cmp (op_eqD hu) (h.mono fun _ _ h => h.mono fun _ _ ⟨s1, s2, q⟩ w0 w H v u l hr d1 d2 => ⟨_, _, dp_mono hr.fz _ _ d1 |>.toDp _ _, dp_mono hr.fz _ _ d2 |>.toDp _ _, s1, s2, po_bool l hr q⟩) (nomark _)
theorem rNeD_mono {K : PySem.W.Frag} : ∀ (v u : V) (H : Hp) (Q Q' : VK), (∀ z H', Q z H' → Q' z H') → rNeD K v u H Q → rNeD K v u H Q' := fun _ _ _ _ _ k ⟨d, e, a, b, c, f, q⟩ => ⟨d, e, a, b, c, f, k _ _ q⟩
section
variable {QT : Bool → Mem → Prop}
theorem wt_ne (hu : X.A.units + 64 < cLine) (h : WE X a L m fun x m1 => WE X b L m1 fun y m2 => shp x ∧ shp y ∧ QT (!PyData.eqv x y) m2) : WT X (.Compare a [.NotEq] [b] pos) L m QT :=
  wt_cmp (op_neD hu) (h.mono fun _ _ h => h.mono fun _ _ ⟨s1, s2, q⟩ w0 w H v u l hr d1 d2 => ⟨_, _, dp_mono hr.fz _ _ d1 |>.toDp _ _, dp_mono hr.fz _ _ d2 |>.toDp _ _, s1, s2, po_bool l hr ⟨_, rfl, q⟩⟩) (nomark _) rNeD_mono
theorem wt_eqI (h : WE X a L m fun x m1 => WE X b L m1 fun y m2 => AskI x y fun i j => QT (decide (i = j)) m2) : WT X (.Compare a [.Eq] [b] pos) L m QT := by
  refine wt_of (pt_cmp (pc_eqI (peU a) (peU b))) fun w σ H rp => ?_
  refine h.go rp fun w1 v x m1 H1 l1 r1 d1 q1 => q1.go r1 fun w2 u y m2 H2 l2 r2 d2 ⟨i, j, e1, e2, q⟩ => ?_
  subst e1; subst e2
  exact ⟨i, j, dp_int (dp_mono l2.sub _ _ d1), dp_int d2, _, rfl, w2, m2, l1.trans l2, r2.toHR, q⟩
theorem wt_neI (h : WE X a L m fun x m1 => WE X b L m1 fun y m2 => AskI x y fun i j => QT (!decide (i = j)) m2) : WT X (.Compare a [.NotEq] [b] pos) L m QT := by
  refine wt_of (pt_cmp (pc_neI (peU a) (peU b))) fun w σ H rp => ?_
  refine h.go rp fun w1 v x m1 H1 l1 r1 d1 q1 => q1.go r1 fun w2 u y m2 H2 l2 r2 d2 ⟨i, j, e1, e2, q⟩ => ?_
  subst e1; subst e2
  exact ⟨i, j, dp_int (dp_mono l2.sub _ _ d1), dp_int d2, _, rfl, w2, m2, l1.trans l2, r2.toHR, q⟩
theorem wt_chain {op op' : CmpOp} {c : Expr} {g g' : Int → Int → Bool} (ho : OpR X (compareOp op) (rI0 fun i j => .bl (g i j))) (ho' : OpR X (compareOp op') (rI0 fun i j => .bl (g' i j))) (hm : lastMarks [op, op'] [b, c] = false)
    (h : WE X a L m fun x m1 => WE X b L m1 fun y m2 => AskI x y fun i j => if g i j = true then WE X c L m2 fun z m3 => ∃ k, z = .int k ∧ QT (g' j k) m3 else QT false m2) : WT X (.Compare a [op, op'] [b, c] pos) L m QT := by
  refine wt_of (pt_chain ho ho' (peU a) (peU b) (peU c) hm) fun w σ H rp => ?_
  refine h.go rp fun w1 v x m1 H1 l1 r1 d1 q1 => q1.go r1 fun w2 u y m2 H2 l2 r2 d2 ⟨i, j, e1, e2, q⟩ => ?_
  subst e1; subst e2
  have d1' := dp_int (dp_mono l2.sub _ _ d1)
  have d2' := dp_int d2
  refine ⟨i, j, d1', d2', _, rfl, ?_⟩
  have q : if g i j = true then WE X c L m2 fun z m3 => ∃ k, z = PyData.int k ∧ QT (g' j k) m3 else QT false m2 := q
  by_cases hg : g i j = true
  · rw [if_pos hg] at q
    rw [if_pos hg]
    refine q.go r2 fun w3 v3 z m3 H3 l3 r3 d3 ⟨k, e3, q3⟩ => ?_
    subst e3
    exact ⟨j, k, d2', dp_int d3, _, rfl, w3, m3, (l1.trans l2).trans l3, r3.toHR, q3⟩
  · rw [if_neg hg] at q
    rw [if_neg hg]
    exact ⟨_, rfl, w2, m2, l1.trans l2, r2.toHR, q⟩
end
end
end PP
namespace PP
open PySem PySem.Spec PyProof.Rows L2
section
variable {X : Cx} {L : Loc} {m : Mem} {e a b c : Expr} {rest es : List Expr} {pos : Pos} {Q : QE} {QT : Bool → Mem → Prop}
theorem wt_ww (h : WW X e L m QT) : WT X e L m QT := fun w σ H r pins s I => h w σ H r _ pins s I
theorem wt_val (h : WE X e L m fun x m' => ∃ c, x = .bool c ∧ QT c m') (he : ∀ whole, isTrue e X.env whole = (do let v ← whole; standAt e.pos; holding [v] (truthy v)) := by intro _; rfl) : WT X e L m QT :=
  wt_of (pt_val (peU e) he) fun w σ H rp => h.go rp fun w1 v x m1 H1 l1 r1 d1 ⟨c, e1, q⟩ => by
    subst e1
    exact ⟨c, dp_bool d1, w1, m1, l1, r1.toHR, q⟩
theorem ww_and1 (h : WT X a L m QT) : WW X (.BoolOp .And [a] pos) L m QT := fun w σ H r wh pins s I => (pw_and1 (ptU a)).run wh pins s σ H _ I (h w σ H r)
theorem ww_or1 (h : WT X a L m QT) : WW X (.BoolOp .Or [a] pos) L m QT := fun w σ H r wh pins s I => (pw_or1 (ptU a)).run wh pins s σ H _ I (h w σ H r)
theorem ww_and (h : WT X a L m fun c m1 => (c = true → WW X (.BoolOp .And (b :: rest) pos) L m1 QT) ∧ (c = false → QT false m1)) : WW X (.BoolOp .And (a :: b :: rest) pos) L m QT := fun w σ H r wh pins s I =>
  (pw_and (ptU a) (pwU _)).run wh pins s σ H _ I (h.go r fun w1 c m1 H1 l1 r1 ⟨q1, q2⟩ => by
    cases c with
    | true =>
      rw [if_pos rfl]
      exact (q1 rfl).go r1 fun w2 d m2 H2 l2 r2 q => ⟨w2, m2, l1.trans l2, r2.toHR, q⟩
    | false =>
      rw [if_neg Bool.false_ne_true]
      exact ⟨w1, m1, l1, r1.toHR, q2 rfl⟩)
theorem ww_or (h : WT X a L m fun c m1 => (c = true → QT true m1) ∧ (c = false → WW X (.BoolOp .Or (b :: rest) pos) L m1 QT)) : WW X (.BoolOp .Or (a :: b :: rest) pos) L m QT := fun w σ H r wh pins s I =>
  (pw_or (ptU a) (pwU _)).run wh pins s σ H _ I (h.go r fun w1 c m1 H1 l1 r1 ⟨q1, q2⟩ => by
    cases c with
    | true =>
      rw [if_pos rfl]
      exact ⟨w1, m1, l1, r1.toHR, q1 rfl⟩
    | false =>
      rw [if_neg Bool.false_ne_true]
      exact (q2 rfl).go r1 fun w2 d m2 H2 l2 r2 q => ⟨w2, m2, l1.trans l2, r2.toHR, q⟩)
theorem wt_not (h : WT X a L m fun c m1 => QT (!c) m1) : WT X (.UnaryOp .Not a pos) L m QT :=
  wt_of (pt_not (ptU a)) fun w σ H r => h.go r fun w1 c m1 H1 l1 r1 q => ⟨w1, m1, l1, r1.toHR, q⟩
theorem we_one {op : BoolOp} (h : WE X a L m Q) : WE X (.BoolOp op [a] pos) L m Q := we_of (pe_one (peU a)) fun w σ H r => h w σ H r
theorem we_andV (h : WE X a L m fun x m1 => ∃ c, x = .bool c ∧ (c = true → WE X (.BoolOp .And (b :: rest) pos) L m1 Q) ∧ (c = false → Q (.bool false) m1)) : WE X (.BoolOp .And (a :: b :: rest) pos) L m Q :=
  we_of (pe_and (peU a) (peU _)) fun w σ H r => h.go r fun w1 v x m1 H1 l1 r1 d1 ⟨c, e1, q1, q2⟩ => by
    subst e1
    refine ⟨c, dp_bool d1, ?_⟩
    cases c with
    | true =>
      rw [if_pos rfl]
      exact (q1 rfl).go r1 fun w2 u y m2 H2 l2 r2 d2 q => ⟨w2, y, m2, l1.trans l2, r2.toHR, d2, q⟩
    | false =>
      rw [if_neg Bool.false_ne_true]
      exact ⟨w1, _, m1, l1, r1.toHR, .bl false, q2 rfl⟩
theorem we_neg (h : WE X a L m fun x m1 => ∃ i, x = .int i ∧ Q (.int (-i)) m1) : WE X (.UnaryOp .USub a pos) L m Q :=
  we_of (pe_un un_neg (peU a)) fun w σ H r => h.go r fun w1 v x m1 H1 l1 r1 d1 ⟨i, e1, q⟩ => by
    subst e1
    exact ⟨i, dp_int d1, w1, _, m1, l1, r1.toHR, .int _, q⟩
theorem we_if (h : WT X c L m fun t m1 => (t = true → WE X a L m1 Q) ∧ (t = false → WE X b L m1 Q)) : WE X (.IfExp c a b pos) L m Q :=
  we_of (pe_ifExp (ptU c) (peU a) (peU b)) fun w σ H r => h.go r fun w1 t m1 H1 l1 r1 ⟨q1, q2⟩ => by
    cases t with
    | true =>
      rw [if_pos rfl]
      exact (q1 rfl).go r1 fun w2 u y m2 H2 l2 r2 d2 q => ⟨w2, y, m2, l1.trans l2, r2.toHR, d2, q⟩
    | false =>
      rw [if_neg Bool.false_ne_true]
      exact (q2 rfl).go r1 fun w2 u y m2 H2 l2 r2 d2 q => ⟨w2, y, m2, l1.trans l2, r2.toHR, d2, q⟩
theorem we_wf (h : WF X e L m fun xs m1 => Q (.list xs) m1) : WE X e L m Q := fun w σ H r => tU_mono (h w σ H r) fun v H' ⟨w', xs, m', p, vs, e1, l, hr, hp, u, d, q⟩ => by
  obtain ⟨l2, hr2⟩ := hr.freeze u hp
  exact ⟨_, _, m', l.trans l2, hr2, e1 ▸ .lst upd_same (dpa_mono l2.sub _ _ d), q⟩
theorem wa_nil {Q : List PV → Mem → Prop} (q : Q [] m) : WA X [] L m Q := fun w σ H r pos pins s I => pa_nil.run pos pins s σ H _ I ⟨w, [], m, .refl w, r.toHR, .nil, q⟩
theorem wa_cons {Q : List PV → Mem → Prop} (h : WV X e L m fun x m1 => WA X es L m1 fun xs m2 => Q (x :: xs) m2) (hs : starEach (e :: es) X.env = (false, eval e X.env) :: starEach es X.env := by rfl) : WA X (e :: es) L m Q := fun w σ H r pos pins s I =>
  (pa_cons (peU e) (paU es) hs).run pos pins s σ H _ I (h.go r fun w1 v x m1 H1 l1 r1 d1 q1 => q1.go r1 fun w2 vs xs m2 H2 l2 r2 d2 q2 => ⟨w2, x :: xs, m2, l1.trans l2, r2.toHR, .cons (d1.mono l2.toLe0) d2, q2⟩)
theorem wa_d {Q : List PV → Mem → Prop} (h : WE X e L m fun x m1 => WA X es L m1 fun xs m2 => Q (.d x :: xs) m2) (hs : starEach (e :: es) X.env = (false, eval e X.env) :: starEach es X.env := by rfl) : WA X (e :: es) L m Q := wa_cons (wv_we h) hs
def WD (X : Cx) (es : List Expr) (L : Loc) (m : Mem) (Q : List PyData → Mem → Prop) : Prop := WA X es L m fun ps m' => ∃ xs, ps = xs.map .d ∧ Q xs m'
theorem wd_nil {Q : List PyData → Mem → Prop} (q : Q [] m) : WD X [] L m Q := wa_nil ⟨[], rfl, q⟩
theorem wd_cons {Q : List PyData → Mem → Prop} (h : WE X e L m fun x m1 => WD X es L m1 fun xs m2 => Q (x :: xs) m2) (hs : starEach (e :: es) X.env = (false, eval e X.env) :: starEach es X.env := by rfl) : WD X (e :: es) L m Q :=
  wa_d (h.mono fun x m1 q w σ H r => tUA_mono (q w σ H r) fun vs H' ⟨w', ps, m', l, hr, d, xs, e1, q⟩ => ⟨w', ps, m', l, hr, d, x :: xs, by rw [e1]; rfl, q⟩) hs
theorem rvs_d {K : PySem.W.Frag} {w : Wd} : ∀ {vs : List V} {xs : List PyData}, RVs K w vs (xs.map .d) → DPs K w.F vs xs
  | _, [], h => by cases h; exact .nil
  | _, x :: xs, h => by
    cases h with
    | cons h1 h2 => exact .cons h1 (rvs_d h2)
theorem WD.go {Q : List PyData → Mem → Prop} (h : WD X es L m Q) {w : Wd} {σ : L2.St} {H : Hp} (r : Rep X.K w L m σ H) {R : List V → Hp → Prop} (k : ∀ (w' : Wd) (vs : List V) (xs : List PyData) (m' : Mem) (H' : Hp), w.le w' → Rep X.K w' L m' σ H' → DPs X.K w'.F vs xs → Q xs m' → R vs H') : tUA X es σ H R :=
  WA.go h r fun w' vs ps m' H' l r' d ⟨xs, e1, q⟩ => k w' vs xs m' H' l r' (rvs_d (e1 ▸ d)) q
theorem we_tup {x1 : Nat} (h : WD X es L m fun xs m1 => xs.length ≤ sizeLine ∧ Q (.tuple xs) m1) : WE X (.Tuple es x1 pos) L m Q :=
  we_of (pe_tup (paU es)) fun w σ H r => h.go r fun w1 vs xs m1 H1 l1 r1 d1 ⟨hz, q⟩ => ⟨by rw [dpa_len d1]; exact hz, fun p hp => by
    obtain ⟨l2, hr2⟩ := r1.toHR.fnew (o := .tup vs) hp
    exact ⟨_, _, m1, l1.trans l2, hr2, .tup (.of upd_same) (dpa_mono l2.sub _ _ d1), q⟩⟩
theorem wf_lst {Q : List PyData → Mem → Prop} (h : WD X es L m fun xs m1 => xs.length ≤ sizeLine ∧ Q xs m1) : WF X (.List es pos) L m Q :=
  wf_of (pe_lst (paU es)) fun w σ H r => h.go r fun w1 vs xs m1 H1 l1 r1 d1 ⟨hz, q⟩ => ⟨by rw [dpa_len d1]; exact hz, fun p hp => by
    obtain ⟨hr2, u⟩ := r1.toHR.un (o := .lst vs) hp
    exact ⟨w1, xs, m1, p, vs, rfl, l1, hr2, upd_same, u, d1, q⟩⟩
def seqP (m : Mem) : PV → Option (List PyData)
  | .d (.list xs) => some xs
  | .d (.tuple xs) => some xs
  | .ref k => match m[k]? with
    | some (some (.lst xs)) => some xs
    | some (some (.lstA _ xs)) => some xs
    | _ => none
  | .raw xs => some xs
  | _ => none
theorem seqP_ok {K : PySem.W.Frag} {w : Wd} {H : Hp} {v : V} {p : PV} {xs : List PyData} (hr : HR K w m H) (r : RV K w v p) (h : seqP m p = some xs) : ∃ a vs, v = .ref a ∧ (SqL K H a vs ∨ SqT K H a vs) ∧ DPs K w.F vs xs := by
  cases p with
  | d x =>
    cases x with
    | list ds =>
      have e : ds = xs := Option.some.inj h
      subst e
      obtain ⟨a, vs, e1, e2, d⟩ := dp_list r
      exact ⟨a, vs, e1, .inl (.of (hr.fz _ _ e2)), d⟩
    | tuple ds =>
      have e : ds = xs := Option.some.inj h
      subst e
      obtain ⟨a, vs, e1, e2, d⟩ := dp_tuple r
      exact ⟨a, vs, e1, .inr (hr.fz.sqt e2), d⟩
    | none => cases h
    | bool _ => cases h
    | int _ => cases h
    | str _ => cases h
    | dict _ => cases h
  | ref k =>
    have h' : (match m[k]? with | some (some (.lst xs)) => some xs | some (some (.lstA _ xs)) => some xs | _ => none) = some xs := h
    split at h'
    · rename_i ys hk
      cases h'
      obtain ⟨a, o, ea, eo, vs, rfl, d⟩ := hr.cell k _ hk
      obtain ⟨a', ea', rfl⟩ := r
      rw [ea] at ea'; cases ea'
      exact ⟨a, vs, rfl, .inl (.of eo), d⟩
    · rename_i b9 ys hk
      cases h'
      obtain ⟨a, o, ea, eo, _, vs, rfl, d⟩ := hr.cell k _ hk
      obtain ⟨a', ea', rfl⟩ := r
      rw [ea] at ea'; cases ea'
      exact ⟨a, vs, rfl, .inl (.of eo), d⟩
    · cases h'
  | raw u =>
    cases h
    obtain ⟨a, vs, e, s, d⟩ := r
    exact ⟨a, vs, e, .inl (hr.fz.sql s), d⟩
  | exc C x => cases h
  | excA a C x => cases h
theorem atI_dpa {K : PySem.W.Frag} {F : Hp} {vs : List V} {xs : List PyData} {i : Int} {x : PyData} (d : DPs K F vs xs) (h : atI xs i = some x) : ∃ v, atI vs i = some v ∧ DP K F v x := by
  unfold atI at h ⊢
  rw [dpa_len d]
  cases q : ixN xs.length i with
  | none => rw [q] at h; cases h
  | some j =>
    rw [q] at h
    exact dpa_get d h
theorem we_ix (h : WV X a L m fun p m1 => WE X b L m1 fun y m2 => ∃ i xs x, y = .int i ∧ seqP m2 p = some xs ∧ atI xs i = some x ∧ Q x m2) (hs : PlainIx b := by exact fun _ _ => rfl) : WE X (.Subscript a b pos) L m Q :=
  we_of (pe_ix ix_seq (peU a) (peU b) hs) fun w σ H r => h.go r fun w1 v p m1 H1 l1 r1 d1 q1 => q1.go r1 fun w2 u y m2 H2 l2 r2 d2 ⟨i, xs, x, e1, e2, e3, q⟩ => by
    subst e1
    obtain ⟨ad, vs, rfl, hh, d⟩ := seqP_ok r2.toHR (d1.mono l2.toLe0) e2
    obtain ⟨z, ez, dz⟩ := atI_dpa d e3
    rcases hh with hh | hh
    · exact .inl ⟨ad, vs, i, z, rfl, dp_int d2, hh, ez, w2, x, m2, l1.trans l2, r2.toHR, dz, q⟩
    · exact .inr (.inl ⟨ad, vs, i, z, rfl, dp_int d2, hh, ez, w2, x, m2, l1.trans l2, r2.toHR, dz, q⟩)
theorem wo_none {Q : Option Int → Mem → Prop} (q : Q none m) : WO X none L m Q := fun w σ H r pins s I => po_none.run pins s σ H _ I ⟨w, m, .refl w, r.toHR, q⟩
theorem wo_some {Q : Option Int → Mem → Prop} (h : WE X e L m fun x m1 => ∃ i, x = .int i ∧ Q (some i) m1) : WO X (some e) L m Q := fun w σ H r pins s I =>
  (po_some (peU e)).run pins s σ H _ I (h.go r fun w1 v x m1 H1 l1 r1 d1 ⟨i, e1, q⟩ => by
    subst e1
    exact ⟨i, dp_int d1, w1, m1, l1, r1.toHR, q⟩)
def cutD (xs : List PyData) (lo hi : Option Int) : List PyData := (xs.drop (HT.sIx xs.length 0 lo)).take (HT.sIx xs.length xs.length hi - HT.sIx xs.length 0 lo)
theorem cut_dpa {K : PySem.W.Frag} {F : Hp} {vs : List V} {xs : List PyData} (d : DPs K F vs xs) (lo hi : Option Int) : DPs K F (cutV vs lo hi) (cutD xs lo hi) := by
  unfold cutV cutD
  rw [dpa_len d]
  exact dpa_take _ (dpa_drop _ d)
def lstP (m : Mem) : PV → Option (List PyData)
  | .d (.list xs) => some xs
  | .ref k => match m[k]? with
    | some (some (.lst xs)) => some xs
    | some (some (.lstA _ xs)) => some xs
    | _ => none
  | _ => none
theorem lstP_ok {K : PySem.W.Frag} {w : Wd} {H : Hp} {v : V} {p : PV} {xs : List PyData} (hr : HR K w m H) (r : RV K w v p) (h : lstP m p = some xs) : ∃ a vs, v = .ref a ∧ H a = some (.lst vs) ∧ DPs K w.F vs xs := by
  cases p with
  | d x =>
    cases x with
    | list ds =>
      have e : ds = xs := Option.some.inj h
      subst e
      obtain ⟨a, vs, e1, e2, d⟩ := dp_list r
      exact ⟨a, vs, e1, hr.fz _ _ e2, d⟩
    | tuple ds => cases h
    | none => cases h
    | bool _ => cases h
    | int _ => cases h
    | str _ => cases h
    | dict _ => cases h
  | ref k =>
    have h' : (match m[k]? with | some (some (.lst xs)) => some xs | some (some (.lstA _ xs)) => some xs | _ => none) = some xs := h
    split at h'
    · rename_i ys hk
      cases h'
      obtain ⟨a, o, ea, eo, vs, rfl, d⟩ := hr.cell k _ hk
      obtain ⟨a', ea', rfl⟩ := r
      rw [ea] at ea'; cases ea'
      exact ⟨a, vs, rfl, eo, d⟩
    · rename_i b9 ys hk
      cases h'
      obtain ⟨a, o, ea, eo, _, vs, rfl, d⟩ := hr.cell k _ hk
      obtain ⟨a', ea', rfl⟩ := r
      rw [ea] at ea'; cases ea'
      exact ⟨a, vs, rfl, eo, d⟩
    · cases h'
  | raw u => cases h
  | exc C x => cases h
  | excA a C x => cases h
theorem wf_slice {lo hi : Option Expr} {p2 : Pos} {Q : List PyData → Mem → Prop} (h : WV X a L m fun p m1 => WO X lo L m1 fun i m2 => WO X hi L m2 fun j m3 => ∃ xs, lstP m3 p = some xs ∧ Q (cutD xs i j) m3) : WF X (.Subscript a (.Slice lo hi none p2) pos) L m Q :=
  wf_of (pe_slice sl_list (peU a) (poU lo) (poU hi)) fun w σ H r => h.go r fun w1 v p m1 H1 l1 r1 d1 q1 => q1.go r1 fun w2 i m2 H2 l2 r2 q2 => q2.go r2 fun w3 j m3 H3 l3 r3 ⟨xs, e1, q⟩ => by
    obtain ⟨ad, vs, rfl, hh, d⟩ := lstP_ok r3.toHR ((d1.mono l2.toLe0).mono l3.toLe0) e1
    refine ⟨ad, vs, rfl, .of hh, fun p hp => ?_⟩
    obtain ⟨hr2, u⟩ := r3.toHR.un (o := .lst (cutV vs i j)) hp
    exact ⟨w3, _, m3, p, _, rfl, (l1.trans l2).trans l3, hr2, upd_same, u, cut_dpa d i j, q⟩
theorem wf_cat {Q : List PyData → Mem → Prop} (h : WV X a L m fun p m1 => WV X b L m1 fun p' m2 => ∃ xs ys, lstP m2 p = some xs ∧ lstP m2 p' = some ys ∧ xs.length + ys.length ≤ sizeLine ∧ Q (xs ++ ys) m2) : WF X (.BinOp a .Add b pos) L m Q :=
  wf_of (pe_op op_cat (peU a) (peU b)) fun w σ H r => h.go r fun w1 v p m1 H1 l1 r1 d1 q1 => q1.go r1 fun w2 u p' m2 H2 l2 r2 d2 ⟨xs, ys, e1, e2, hz, q⟩ => by
    obtain ⟨a1, vs, rfl, hh, d⟩ := lstP_ok r2.toHR (d1.mono l2.toLe0) e1
    obtain ⟨a2, us, rfl, hh', d'⟩ := lstP_ok r2.toHR d2 e2
    refine ⟨a1, a2, vs, us, rfl, rfl, hh, hh', by rw [dpa_len d, dpa_len d']; exact hz, fun p hp => ?_⟩
    obtain ⟨hr2, u⟩ := r2.toHR.un (o := .lst (vs ++ us)) hp
    exact ⟨w2, _, m2, p, _, rfl, l1.trans l2, hr2, upd_same, u, dpa_app d d', q⟩
theorem wf_rep {Q : List PyData → Mem → Prop} (h : WV X a L m fun p m1 => WE X b L m1 fun y m2 => ∃ k xs, y = .int k ∧ lstP m2 p = some xs ∧ -(2 ^ 63) ≤ k ∧ k < 2 ^ 63 ∧ xs.length * k.toNat ≤ sizeLine ∧ Q (List.replicate k.toNat xs).flatten m2) : WF X (.BinOp a .Mult b pos) L m Q :=
  wf_of (pe_op op_rep (peU a) (peU b)) fun w σ H r => h.go r fun w1 v p m1 H1 l1 r1 d1 q1 => q1.go r1 fun w2 u y m2 H2 l2 r2 d2 ⟨k, xs, e0, e1, k1, k2, hz, q⟩ => by
    subst e0
    obtain ⟨a1, vs, rfl, hh, d⟩ := lstP_ok r2.toHR (d1.mono l2.toLe0) e1
    refine ⟨a1, k, vs, rfl, dp_int d2, hh, k1, k2, by rw [dpa_len d]; exact hz, fun p hp => ?_⟩
    obtain ⟨hr2, u⟩ := r2.toHR.un (o := .lst (List.replicate k.toNat vs).flatten) hp
    exact ⟨w2, _, m2, p, _, rfl, l1.trans l2, hr2, upd_same, u, dpa_rep d _, q⟩
theorem sqv {K : PySem.W.Frag} {H : Hp} {a : Addr} {vs : List V} (h : SqL K H a vs ∨ SqT K H a vs) : SqL K H a vs ∨ SqT K H a vs := h
theorem we_len {p : Pos} (hm : X.mg "len" = none) (h : WV X a L m fun p m1 => ∃ xs, seqP m1 p = some xs ∧ Q (.int xs.length) m1) (hg : Gl X "len" := by rfl) (he : starEach [a] X.env = (false, eval a X.env) :: starEach [] X.env := by rfl)
    (hpl : (backTo pos (starEach [] X.env)).any (·.1) = false := by rfl) : WE X (.Call (.Name "len" p) [a] [] pos) L m Q :=
  we_of (pe_callB call_len_seq hg hm boot_len (paU [a]) (he := he) (hpl := hpl)) fun w σ H r => WA.go (X := X) (Q := fun ps m1 => ∃ p, ps = [p] ∧ ∃ xs, seqP m1 p = some xs ∧ Q (.int xs.length) m1) (wa_cons (h := fun w σ H r => tU_mono (h w σ H r) fun _ _ ⟨w', x, m', l, hr, d, q⟩ => ⟨w', x, m', l, hr, d, wa_nil ⟨x, rfl, q⟩⟩) he) r fun w1 vs ps m1 H1 l1 r1 d1 ⟨p, e1, xs, e2, q⟩ => by
    subst e1
    cases d1 with
    | cons d1 d2 =>
      cases d2
      obtain ⟨ad, vs, rfl, hh, d⟩ := seqP_ok r1.toHR d1 e2
      refine ⟨ad, vs, rfl, sqv hh, w1, _, m1, l1, r1.toHR, .int _, ?_⟩
      rw [dpa_len d]
      exact q
theorem wa1 {Q : PV → Mem → Prop} (h : WV X a L m Q) (he : starEach [a] X.env = (false, eval a X.env) :: starEach [] X.env) : WA X [a] L m fun ps m1 => ∃ p, ps = [p] ∧ Q p m1 :=
  wa_cons (h := fun w σ H r => tU_mono (h w σ H r) fun _ _ ⟨w', x, m', l, hr, d, q⟩ => ⟨w', x, m', l, hr, d, wa_nil ⟨x, rfl, q⟩⟩) he
theorem wd1 {Q : PyData → Mem → Prop} (h : WE X a L m Q) (he : starEach [a] X.env = (false, eval a X.env) :: starEach [] X.env) : WA X [a] L m fun ps m1 => ∃ x, ps = [.d x] ∧ Q x m1 :=
  wa_d (h := h.mono fun x m1 q => wa_nil ⟨x, rfl, q⟩) he
theorem wd2 {Q : PyData → PyData → Mem → Prop} (h : WE X a L m fun x m1 => WE X b L m1 fun y m2 => Q x y m2) (he : starEach [a, b] X.env = (false, eval a X.env) :: starEach [b] X.env) (he2 : starEach [b] X.env = (false, eval b X.env) :: starEach [] X.env) : WA X [a, b] L m fun ps m1 => ∃ x y, ps = [.d x, .d y] ∧ Q x y m1 :=
  wa_d (h := h.mono fun x m1 h => wa_d (h := h.mono fun y m2 q => wa_nil ⟨x, y, rfl, q⟩) he2) he
theorem rvs1 {K : PySem.W.Frag} {w : Wd} {vs : List V} {p : PV} (h : RVs K w vs [p]) : ∃ v, vs = [v] ∧ RV K w v p := by
  cases h with
  | cons h1 h2 => cases h2; exact ⟨_, rfl, h1⟩
theorem rvs2 {K : PySem.W.Frag} {w : Wd} {vs : List V} {p q : PV} (h : RVs K w vs [p, q]) : ∃ v u, vs = [v, u] ∧ RV K w v p ∧ RV K w u q := by
  cases h with
  | cons h1 h2 =>
    obtain ⟨u, e, r⟩ := rvs1 h2
    exact ⟨_, u, by rw [e], h1, r⟩
theorem we_max2 {p : Pos} (hc : X.calm = true) (hm : X.mg "max" = none) (h : WE X a L m fun x m1 => WE X b L m1 fun y m2 => AskI x y fun i j => Q (.int (if j > i then j else i)) m2) (hg : Gl X "max" := by rfl) (he : starEach [a, b] X.env = (false, eval a X.env) :: starEach [b] X.env := by rfl)
    (he2 : starEach [b] X.env = (false, eval b X.env) :: starEach [] X.env := by rfl) (hpl : (backTo pos (starEach [b] X.env)).any (·.1) = false := by rfl) : WE X (.Call (.Name "max" p) [a, b] [] pos) L m Q :=
  we_of (pe_callB (call_max2 hc) hg hm (by decide +kernel) (paU [a, b]) (he := he) (hpl := hpl)) fun w σ H r => WA.go (wd2 h he he2) r fun w1 vs ps m1 H1 l1 r1 d1 ⟨x, y, e1, i, j, e2, e3, q⟩ => by
    subst e1; subst e2; subst e3
    obtain ⟨v, u, rfl, d1, d2⟩ := rvs2 d1
    exact ⟨i, j, by rw [dp_int d1, dp_int d2], w1, _, m1, l1, r1.toHR, .int _, q⟩
theorem we_min2 {p : Pos} (hc : X.calm = true) (hm : X.mg "min" = none) (h : WE X a L m fun x m1 => WE X b L m1 fun y m2 => AskI x y fun i j => Q (.int (if j < i then j else i)) m2) (hg : Gl X "min" := by rfl) (he : starEach [a, b] X.env = (false, eval a X.env) :: starEach [b] X.env := by rfl)
    (he2 : starEach [b] X.env = (false, eval b X.env) :: starEach [] X.env := by rfl) (hpl : (backTo pos (starEach [b] X.env)).any (·.1) = false := by rfl) : WE X (.Call (.Name "min" p) [a, b] [] pos) L m Q :=
  we_of (pe_callB (call_min2 hc) hg hm (by decide +kernel) (paU [a, b]) (he := he) (hpl := hpl)) fun w σ H r => WA.go (wd2 h he he2) r fun w1 vs ps m1 H1 l1 r1 d1 ⟨x, y, e1, i, j, e2, e3, q⟩ => by
    subst e1; subst e2; subst e3
    obtain ⟨v, u, rfl, d1, d2⟩ := rvs2 d1
    exact ⟨i, j, by rw [dp_int d1, dp_int d2], w1, _, m1, l1, r1.toHR, .int _, q⟩
theorem we_int1 {p : Pos} (hm : X.mg "int" = none) (h : WE X a L m fun x m1 => (∃ i, x = .int i ∧ Q (.int i) m1) ∨ (∃ k, x = .bool k ∧ Q (.int (if k then 1 else 0)) m1)) (hg : Gl X "int" := by rfl) (he : starEach [a] X.env = (false, eval a X.env) :: starEach [] X.env := by rfl)
    (hpl : (backTo pos (starEach [] X.env)).any (·.1) = false := by rfl) : WE X (.Call (.Name "int" p) [a] [] pos) L m Q :=
  we_of (pe_callTy call_int1 hg hm (by decide +kernel) (paU [a]) (he := he) (hpl := hpl)) fun w σ H r => WA.go (wd1 h he) r fun w1 vs ps m1 H1 l1 r1 d1 ⟨x, e1, q⟩ => by
    subst e1
    obtain ⟨v, rfl, d2⟩ := rvs1 d1
    rcases q with ⟨i, e, q⟩ | ⟨k, e, q⟩
    · subst e
      exact .inl ⟨i, by rw [dp_int d2], w1, _, m1, l1, r1.toHR, .int _, q⟩
    · subst e
      exact .inr ⟨k, by rw [dp_bool d2], w1, _, m1, l1, r1.toHR, .int _, q⟩
theorem we_tuple1 {p : Pos} (hm : X.mg "tuple" = none) (h : WV X a L m fun p m1 => ∃ xs, seqP m1 p = some xs ∧ Q (.tuple xs) m1) (hg : Gl X "tuple" := by rfl) (he : starEach [a] X.env = (false, eval a X.env) :: starEach [] X.env := by rfl)
    (hpl : (backTo pos (starEach [] X.env)).any (·.1) = false := by rfl) : WE X (.Call (.Name "tuple" p) [a] [] pos) L m Q :=
  we_of (pe_callTy call_tuple_of hg hm (by decide +kernel) (paU [a]) (he := he) (hpl := hpl)) fun w σ H r => WA.go (wa1 h he) r fun w1 vs ps m1 H1 l1 r1 d1 ⟨p, e1, xs, e2, q⟩ => by
    subst e1
    obtain ⟨v, rfl, d2⟩ := rvs1 d1
    by_cases ht : p = .d (.tuple xs)
    · subst ht
      obtain ⟨ad, vs, e3, e4, d⟩ := dp_tuple d2
      subst e3
      exact ⟨ad, vs, rfl, .inr ⟨r1.toHR.fz.sqt e4, w1, _, m1, l1, r1.toHR, d2, q⟩⟩
    · have e3 : ∃ ad vs, v = .ref ad ∧ SqL X.K H1 ad vs ∧ DPs X.K w1.F vs xs := by
        have key : ∀ p', p' = p → lstP m1 p' = some xs → ∃ ad vs, v = .ref ad ∧ SqL X.K H1 ad vs ∧ DPs X.K w1.F vs xs := fun p' e3 e4 => by
          subst e3
          obtain ⟨ad, vs, e5, hh, d⟩ := lstP_ok r1.toHR d2 e4
          exact ⟨ad, vs, e5, .of hh, d⟩
        cases p with
        | d x =>
          cases x <;> first | exact key _ rfl e2 | (cases e2; exact absurd rfl ht) | cases e2
        | ref k => exact key _ rfl e2
        | raw u =>
          cases e2
          obtain ⟨a, vs, e, s, d⟩ := d2
          exact ⟨a, vs, e, r1.toHR.fz.sql s, d⟩
        | exc C x => cases e2
        | excA a C x => cases e2
      obtain ⟨ad, vs, rfl, hh, d⟩ := e3
      refine ⟨ad, vs, rfl, .inl ⟨hh, fun l hl => ?_⟩⟩
      obtain ⟨l2, hr2⟩ := r1.toHR.fnew (o := .tup vs) hl
      exact ⟨_, _, m1, l1.trans l2, hr2, .tup (.of upd_same) (dpa_mono l2.sub _ _ d), q⟩
def rgD (a b : Int) : List PyData := (List.range (b - a).toNat).map fun i => PyData.int (a + (i : Nat))
theorem rg_dpa {K : PySem.W.Frag} {F : Hp} (a b : Int) : DPs K F (rgV a b) (rgD a b) := by
  unfold rgV rgD
  generalize List.range (b - a).toNat = l
  induction l with
  | nil => exact .nil
  | cons i l ih => exact .cons (.int _) ih
theorem wf_listRg1 {p q pq : Pos} {Q : List PyData → Mem → Prop} (hc : X.calm = true) (hm : X.mg "list" = none) (hmr : X.mg "range" = none) (h : WE X a L m fun x m1 => ∃ n, x = .int n ∧ RgOk 0 n ∧ Q (rgD 0 n) m1) (hg : Gl X "list" := by rfl) (hgr : Gl X "range" := by rfl)
    (na : starEach [a] X.env = (false, eval a X.env) :: starEach [] X.env := by rfl) (na2 : starEach [.Call (.Name "range" q) [a] [] pq] X.env = (false, eval (.Call (.Name "range" q) [a] [] pq) X.env) :: starEach [] X.env := by rfl) : WF X (.Call (.Name "list" p) [.Call (.Name "range" q) [a] [] pq] [] pos) L m Q :=
  wf_of (pe_listRg hc hg hm (prg_1 hgr hmr (peU a) na) na2) fun w σ H r => h.go r fun w1 v x m1 H1 l1 r1 d1 ⟨n, e1, ok, qq⟩ => by
    subst e1
    refine ⟨n, dp_int d1, ok, fun p hp => ?_⟩
    obtain ⟨hr2, u⟩ := r1.toHR.un (o := .lst (rgV 0 n)) hp
    exact ⟨w1, _, m1, p, _, rfl, l1, hr2, upd_same, u, rg_dpa 0 n, qq⟩
theorem wf_listRg2 {p q pq : Pos} {Q : List PyData → Mem → Prop} (hc : X.calm = true) (hm : X.mg "list" = none) (hmr : X.mg "range" = none) (h : WE X a L m fun x m1 => WE X b L m1 fun y m2 => AskI x y fun i j => RgOk i j ∧ Q (rgD i j) m2) (hg : Gl X "list" := by rfl) (hgr : Gl X "range" := by rfl)
    (na : starEach [a, b] X.env = (false, eval a X.env) :: starEach [b] X.env := by rfl) (nb : starEach [b] X.env = (false, eval b X.env) :: starEach [] X.env := by rfl) (na2 : starEach [.Call (.Name "range" q) [a, b] [] pq] X.env = (false, eval (.Call (.Name "range" q) [a, b] [] pq) X.env) :: starEach [] X.env := by rfl) (hp : (backTo pq (starEach [b] X.env)).any (·.1) = false := by rfl) : WF X (.Call (.Name "list" p) [.Call (.Name "range" q) [a, b] [] pq] [] pos) L m Q :=
  wf_of (pe_listRg hc hg hm (prg_2 hgr hmr (peU a) (peU b) na nb hp) na2) fun w σ H r => h.go r fun w1 v x m1 H1 l1 r1 d1 q1 => q1.go r1 fun w2 u y m2 H2 l2 r2 d2 ⟨i, j, e1, e2, ok, qq⟩ => by
    subst e1; subst e2
    refine ⟨i, j, dp_int (dp_mono l2.sub _ _ d1), dp_int d2, ok, fun p hp => ?_⟩
    obtain ⟨hr2, u⟩ := r2.toHR.un (o := .lst (rgV i j)) hp
    exact ⟨w2, _, m2, p, _, rfl, l1.trans l2, hr2, upd_same, u, rg_dpa i j, qq⟩
def rgV3 (a c : Int) (n : Nat) : List V := (List.range n).map fun i => V.int (a + (i : Nat) * c)
def rgD3 (a c : Int) (n : Nat) : List PyData := (List.range n).map fun i => PyData.int (a + (i : Nat) * c)
theorem rg3_dpa {K : PySem.W.Frag} {F : Hp} (a c : Int) (n : Nat) : DPs K F (rgV3 a c n) (rgD3 a c n) := by
  unfold rgV3 rgD3
  generalize List.range n = l
  induction l with
  | nil => exact .nil
  | cons i l ih => exact .cons (.int _) ih
theorem vals_rg3 {a c : Int} {n : Nat} {acc : Array Value} (h : ItemsOf (fun i v => ∃ t, v = .int (a + i * c) t) acc n) : Vals (rgV3 a c n) acc.toList := by
  have e : acc.toList.length = n := by rw [Array.length_toList]; exact h.1
  unfold rgV3
  rw [← e]
  refine vals_of_get acc.toList _ fun j u hj => ?_
  obtain ⟨t, rfl⟩ := h.2 j u (by rw [← hj, Array.getElem?_toList])
  exact ⟨t, rfl⟩
theorem pe_listRg3 {ta : TA} {p q pq : Pos} (hc : X.calm = true) (hg : Gl X "list") (hm : X.mg "list" = none) (hgr : Gl X "range") (hmr : X.mg "range" = none) (ha : PA X [a, b, c] ta)
    (hs : starEach [a, b, c] X.env = (false, eval a X.env) :: starEach [b, c] X.env) (hpl : (backTo pq (starEach [b, c] X.env)).any (·.1) = false)
    (na : starEach [.Call (.Name "range" q) [a, b, c] [] pq] X.env = (false, eval (.Call (.Name "range" q) [a, b, c] [] pq) X.env) :: starEach [] X.env) :
    PE X (.Call (.Name "list" p) [.Call (.Name "range" q) [a, b, c] [] pq] [] pos) (fun σ H Q => ta σ H fun vs H1 => ∃ (i j k : Int) (n : Nat), vs = [.int i, .int j, .int k] ∧ RgC i j k n ∧ n ≤ 2 ^ 24 ∧ ∀ q, H1 q = none → Q (.ref q) (upd H1 q (.lst (rgV3 i k n)))) := by
  refine ⟨fun pins s σ H Q I h => ?_⟩
  refine Call_ (ld_blt I hg hm boot_list (PyProof.Rows.callWith_type1 (args_cons (thn (Q := fun x s' => ∃ r i j k t u v H' n, x = .ref r ∧ IsRange s'.heap r i j k t u v ∧ Inv X pins σ H' s' ∧ RgC i j k n ∧ n ≤ 2 ^ 24 ∧ ∀ q, H' q = none → Q (.ref q) (upd H' q (.lst (rgV3 i k n)))) ?_ fun x s1 ⟨r, i, j, k, t, u, v, H1, n, ex, hr, I1, rg, b5, q⟩ => args_nil ?_) na) na))
  · refine Call_ (ld_blt I hgr hmr boot_range (PyProof.Rows.callWith_type1 (thn (ha.run pq pins s σ H _ I h) fun us s1 ⟨vs, H1, I1, r1, q1⟩ => ?_) hs hpl))
    obtain ⟨i, j, k, n, e, rg, hn, q⟩ := q1
    subst e
    cases r1 with
    | cons r rr =>
      cases rr with
      | cons r' rr =>
        cases rr with
        | cons r'' rr =>
          cases rr
          obtain ⟨t, rfl⟩ := r
          obtain ⟨t', rfl⟩ := r'
          obtain ⟨t'', rfl⟩ := r''
          exact call_range_3 rg.1 ⟨_, i, j, k, _, _, _, H1, n, rfl, IsRange.new _ _ _ _ _ _ _, I1.kept fun b u e => Heap.get?_push_of_some _ e, rg, hn, q⟩ (.inl (PyProof.noPylong_small rg.2.1))
  · subst ex
    refine call_list_range (n := n) (I1.ok.hd hc) hr rg.2.2.1 rg.2.2.2 b5 fun h' tk acc c' hk e' hi => ?_
    refine ⟨.ref s1.heap.objs.size, upd H1 s1.heap.objs.size (.lst (rgV3 i k n)), I1.laid hk (Nat.le_refl _) (show ObjOk X.prog X.w _ _ _ (.lst (rgV3 i k n)) from ⟨?_, acc.toList, c', vals_rg3 hi, ?_⟩), rfl, q _ (I1.hok.fresh (Nat.le_refl _))⟩
    · unfold rgV3; rw [List.length_map, List.length_range, sizeLine_eq]; omega
    · rw [Array.toArray_toList]; exact e'
theorem wd3 {Q : PyData → PyData → PyData → Mem → Prop} (h : WE X a L m fun x m1 => WE X b L m1 fun y m2 => WE X c L m2 fun z m3 => Q x y z m3) (he : starEach [a, b, c] X.env = (false, eval a X.env) :: starEach [b, c] X.env) (he2 : starEach [b, c] X.env = (false, eval b X.env) :: starEach [c] X.env) (he3 : starEach [c] X.env = (false, eval c X.env) :: starEach [] X.env) : WA X [a, b, c] L m fun ps m1 => ∃ x y z, ps = [.d x, .d y, .d z] ∧ Q x y z m1 :=
  wa_d (h := h.mono fun x m1 h => wa_d (h := h.mono fun y m2 h => wa_d (h := h.mono fun z m3 q => wa_nil ⟨x, y, z, rfl, q⟩) he3) he2) he
theorem rvs3 {K : PySem.W.Frag} {w : Wd} {vs : List V} {p q r : PV} (h : RVs K w vs [p, q, r]) : ∃ v u z, vs = [v, u, z] ∧ RV K w v p ∧ RV K w u q ∧ RV K w z r := by
  cases h with
  | cons h1 h2 =>
    obtain ⟨u, z, e, r⟩ := rvs2 h2
    exact ⟨_, u, z, by rw [e], h1, r⟩
theorem wf_listRg3 {p q pq : Pos} {Q : List PyData → Mem → Prop} (hc : X.calm = true) (hm : X.mg "list" = none) (hmr : X.mg "range" = none) (h : WE X a L m fun x m1 => WE X b L m1 fun y m2 => WE X c L m2 fun z m3 => ∃ i j k n, x = .int i ∧ y = .int j ∧ z = .int k ∧ RgC i j k n ∧ n ≤ 2 ^ 24 ∧ Q (rgD3 i k n) m3) (hg : Gl X "list" := by rfl) (hgr : Gl X "range" := by rfl)
    (na : starEach [a, b, c] X.env = (false, eval a X.env) :: starEach [b, c] X.env := by rfl) (nb : starEach [b, c] X.env = (false, eval b X.env) :: starEach [c] X.env := by rfl) (nc : starEach [c] X.env = (false, eval c X.env) :: starEach [] X.env := by rfl) (hpl : (backTo pq (starEach [b, c] X.env)).any (·.1) = false := by rfl)
    (na2 : starEach [.Call (.Name "range" q) [a, b, c] [] pq] X.env = (false, eval (.Call (.Name "range" q) [a, b, c] [] pq) X.env) :: starEach [] X.env := by rfl) : WF X (.Call (.Name "list" p) [.Call (.Name "range" q) [a, b, c] [] pq] [] pos) L m Q :=
  wf_of (pe_listRg3 hc hg hm hgr hmr (paU [a, b, c]) na hpl na2) fun w σ H r => WA.go (wd3 h na nb nc) r fun w1 vs ps m1 H1 l1 r1 d1 ⟨x, y, z, e0, i, j, k, n, e1, e2, e3, rg, hn, qq⟩ => by
    subst e0; subst e1; subst e2; subst e3
    obtain ⟨v, u, z, rfl, d1, d2, d3⟩ := rvs3 d1
    refine ⟨i, j, k, n, by rw [dp_int d1, dp_int d2, dp_int d3], rg, hn, fun p hp => ?_⟩
    obtain ⟨hr2, u⟩ := r1.toHR.un (o := .lst (rgV3 i k n)) hp
    exact ⟨w1, _, m1, p, _, rfl, l1, hr2, upd_same, u, rg3_dpa i k n, qq⟩
end
end PP
namespace PP
open PySem PySem.Spec PyProof.Rows L2
section
variable {X : Cx} {L : Loc} {m : Mem} {e a b c : Expr} {es : List Expr} {pos : Pos} {D : PEnds} {st : Stmt} {rest body : List Stmt}
theorem RV.backE {K : PySem.W.Frag} {w w1 : Wd} (l : w.le w1) (D : PEnds) : (∀ σ H, (toE K w1 D).nx σ H → (toE K w D).nx σ H) ∧ (∀ v H, (toE K w1 D).rt v H → (toE K w D).rt v H) ∧ (∀ σ H, (toE K w1 D).bk σ H → (toE K w D).bk σ H) ∧ (∀ σ H, (toE K w1 D).ct σ H → (toE K w D).ct σ H) :=
  ⟨fun _ _ h => POS.back l h, fun _ _ h => POV.back l h, fun _ _ h => POS.back l h, fun _ _ h => POS.back l h⟩
theorem tUSs_back {w w1 : Wd} {σ : L2.St} {H : Hp} (l : w.le w1) (h : tUSs X body (toE X.K w1 D) σ H) : tUSs X body (toE X.K w D) σ H := let ⟨a, b, c, d⟩ := RV.backE l D; tUSs_mono h a b c d
theorem WSs.imp {D' : PEnds} (h : WSs X body L m D) (n : ∀ L m, D.nx L m → D'.nx L m) (r : ∀ p m, D.rt p m → D'.rt p m) (b : ∀ L m, D.bk L m → D'.bk L m) (k : ∀ L m, D.ct L m → D'.ct L m) : WSs X body L m D' := fun w σ H rp =>
  tUSs_mono (h w σ H rp) (fun _ _ ⟨w', L, m, l, r', q⟩ => ⟨w', L, m, l, r', n _ _ q⟩) (fun _ _ ⟨w', p, m, l, hr, d, q⟩ => ⟨w', p, m, l, hr, d, r _ _ q⟩) (fun _ _ ⟨w', L, m, l, r', q⟩ => ⟨w', L, m, l, r', b _ _ q⟩) (fun _ _ ⟨w', L, m, l, r', q⟩ => ⟨w', L, m, l, r', k _ _ q⟩)
theorem WS.imp {D' : PEnds} (h : WS X st L m D) (n : ∀ L m, D.nx L m → D'.nx L m) (r : ∀ p m, D.rt p m → D'.rt p m) (b : ∀ L m, D.bk L m → D'.bk L m) (k : ∀ L m, D.ct L m → D'.ct L m) : WS X st L m D' := fun w σ H rp =>
  tUS_mono (h w σ H rp) (fun _ _ ⟨w', L, m, l, r', q⟩ => ⟨w', L, m, l, r', n _ _ q⟩) (fun _ _ ⟨w', p, m, l, hr, d, q⟩ => ⟨w', p, m, l, hr, d, r _ _ q⟩) (fun _ _ ⟨w', L, m, l, r', q⟩ => ⟨w', L, m, l, r', b _ _ q⟩) (fun _ _ ⟨w', L, m, l, r', q⟩ => ⟨w', L, m, l, r', k _ _ q⟩)
theorem wss_nil (q : D.nx L m) : WSs X [] L m D := wss_of pss_nil fun w σ H r => ⟨w, L, m, .refl w, r, q⟩
theorem wss_cons (h : WS X st L m { D with nx := fun L1 m1 => WSs X rest L1 m1 D }) : WSs X (st :: rest) L m D :=
  wss_of (pss_cons (psU st) (pssU rest)) fun w σ H r => tUS_mono (h w σ H r) (fun σ' H' ⟨w', L', m', l, r', q⟩ => tUSs_back l (q w' σ' H' r')) (fun _ _ h => h) (fun _ _ h => h) (fun _ _ h => h)
theorem wss_one (h : WS X st L m D) : WSs X [st] L m D := wss_of (pss_one (psU st)) fun w σ H r => h w σ H r
theorem ws_expr (h : WE X e L m fun _ m1 => D.nx L m1) (hs : swapsWith e none pos.line X.env = pure false := by rfl) : WS X (.Expr e pos) L m D := ws_of (ps_expr (peU e) hs) fun w σ H r => h.go r fun w1 v x m1 H1 l1 r1 d1 q => ⟨w1, L, m1, l1, r1, q⟩
theorem ws_ret (h : WE X e L m fun x m1 => D.rt (.d x) m1) : WS X (.Return (some e) pos) L m D := ws_of (ps_ret (peU e)) fun w σ H r => h.go r fun w1 v x m1 H1 l1 r1 d1 q => ⟨w1, .d x, m1, l1, r1.toHR, d1, q⟩
theorem ws_retV (h : WV X e L m fun x m1 => D.rt x m1) : WS X (.Return (some e) pos) L m D := ws_of (ps_ret (peU e)) fun w σ H r => h.go r fun w1 v x m1 H1 l1 r1 d1 q => ⟨w1, x, m1, l1, r1.toHR, d1, q⟩
theorem ws_retF (h : WF X e L m fun xs m1 => D.rt (.ref m1.length) (m1 ++ [some (.lst xs)])) : WS X (.Return (some e) pos) L m D := ws_of (ps_ret (peU e)) fun w σ H r => h.go r fun w1 p vs xs m1 H1 l1 r1 hp u d q => by
  obtain ⟨l2, hr2⟩ := r1.toHR.adopt (c := .lst xs) u hp ⟨vs, rfl, d⟩
  refine ⟨_, .ref m1.length, _, l1.trans l2, hr2, ⟨p, ?_, rfl⟩, q⟩
  show (w1.A ++ [p])[m1.length]? = some p
  rw [← r1.toHR.len, List.getElem?_append_right (Nat.le_refl _)]; simp
theorem ws_if {t f : List Stmt} (h : WT X c L m fun k m1 => (k = true → WSs X t L m1 D) ∧ (k = false → WSs X f L m1 D)) : WS X (.If c t f pos) L m D :=
  ws_of (ps_if (ptU c) (pssU t) (pssU f)) fun w σ H r => h.go r fun w1 k m1 H1 l1 r1 ⟨q1, q2⟩ => by
    cases k with
    | true =>
      rw [if_pos rfl]
      exact tUSs_back l1 (q1 rfl _ _ _ r1)
    | false =>
      rw [if_neg Bool.false_ne_true]
      exact tUSs_back l1 (q2 rfl _ _ _ r1)
theorem Rep.set {K : PySem.W.Frag} {w : Wd} {σ : L2.St} {H : Hp} {i : Nat} {v : V} {p : PV} (r : Rep K w L m σ H) (d : RV K w v p) : Rep K w (L.set i (some p)) m (σ.set i (some v)) H :=
  ⟨r.toHR, by rw [List.length_set, List.length_set]; exact r.sl, fun j q e => by
    by_cases hj : i = j
    · subst hj
      by_cases hi : i < L.length
      · rw [List.getElem?_set_self hi] at e
        cases e
        exact ⟨v, by rw [List.getElem?_set_self (by rw [r.sl]; exact hi)], d⟩
      · rw [List.getElem?_eq_none (by rw [List.length_set]; omega)] at e; cases e
    · rw [List.getElem?_set_ne hj] at e
      obtain ⟨u, e1, r1⟩ := r.loc j q e
      exact ⟨u, by rw [List.getElem?_set_ne hj]; exact e1, r1⟩⟩
section
variable {i : Nat} {x : Str} {pos' : Pos}
theorem ws_set (i : Nat) (hN : X.N.Nodup) (hi : X.N[i]? = some x) (hx : L2.Loc X.env.scope x) (h : WE X e L m fun y m1 => D.nx (L.set i (some (.d y))) m1) (hs : swapsWith e (some (.Name x pos')) pos.line X.env = pure false := by rfl) (hf : X.fn x = true ∨ X.env.scope.names.lookup x = some .local := by first | exact .inl rfl | exact .inr rfl | assumption) :
    WS X (.Assign [.Name x pos'] e pos) L m D := ws_of (ps_set hN hi hx (peU e) hs hf) fun w σ H r => h.go r fun w1 v y m1 H1 l1 r1 d1 q => ⟨w1, _, m1, l1, r1.set (p := .d y) d1, q⟩
theorem ws_setV (i : Nat) (hN : X.N.Nodup) (hi : X.N[i]? = some x) (hx : L2.Loc X.env.scope x) (h : WV X e L m fun y m1 => D.nx (L.set i (some y)) m1) (hs : swapsWith e (some (.Name x pos')) pos.line X.env = pure false := by rfl) (hf : X.fn x = true ∨ X.env.scope.names.lookup x = some .local := by first | exact .inl rfl | exact .inr rfl | assumption) :
    WS X (.Assign [.Name x pos'] e pos) L m D := ws_of (ps_set hN hi hx (peU e) hs hf) fun w σ H r => h.go r fun w1 v y m1 H1 l1 r1 d1 q => ⟨w1, _, m1, l1, r1.set d1, q⟩
theorem wv_wf {Q : PV → Mem → Prop} (h : WF X e L m fun xs m1 => Q (.ref m1.length) (m1 ++ [some (.lst xs)])) : WV X e L m Q := fun w σ H r => h.go r fun w1 p vs xs m1 H1 l1 r1 hp u d q => by
  obtain ⟨l2, hr2⟩ := r1.toHR.adopt (c := .lst xs) u hp ⟨vs, rfl, d⟩
  refine ⟨_, .ref m1.length, _, l1.trans l2, hr2, ⟨p, ?_, rfl⟩, q⟩
  show (w1.A ++ [p])[m1.length]? = some p
  rw [← r1.toHR.len, List.getElem?_append_right (Nat.le_refl _)]; simp
end
theorem wg_of {tg : Expr} {t : TG} {x : PyData} {Q : Loc → Mem → Prop} (h : PG X tg t) (k : ∀ (w : Wd) (σ : L2.St) (H : Hp) (v : V), Rep X.K w L m σ H → DP X.K w.F v x → t v σ H (POS X.K w Q)) : WG X tg x L m Q := fun w σ H v r d pins s u I rv => h.run pins s σ H v u _ I rv (k w σ H v r d)
theorem wg_name {x : Str} {y : PyData} {Q : Loc → Mem → Prop} (i : Nat) (hN : X.N.Nodup) (hi : X.N[i]? = some x) (hx : L2.Loc X.env.scope x) (q : Q (L.set i (some (.d y))) m) (hf : X.fn x = true ∨ X.env.scope.names.lookup x = some .local := by first | exact .inl rfl | exact .inr rfl | assumption) : WG X (.Name x pos) y L m Q :=
  wg_of (pg_name hN hi hx hf) fun w σ H v r d => ⟨w, _, m, .refl w, r.set (p := .d y) d, q⟩
end
def tUGs (X : Cx) (ts : List Expr) : TGs := fun vs σ H Q => ∀ (pins : List (Addr × Obj)) (s : Shared) (us : List Value), Inv X pins σ H s → Vals vs us → wpAny (model X.prog X.w) X.A (assignInOrder ((assignEach ts X.env).map (·.2)) us) (fun _ s' => ∃ σ' H', Inv X pins σ' H' s' ∧ Q σ' H') X.xe s
theorem pgsU {X : Cx} (ts : List Expr) : PGs X ts (tUGs X ts) := ⟨fun pins s _ _ _ us _ I r h => h pins s us I r⟩
def WGn (X : Cx) (es : List Expr) (xs : List PyData) (L : Loc) (m : Mem) (Q : Loc → Mem → Prop) : Prop := ∀ (w : Wd) (σ : L2.St) (H : Hp) (vs : List V), Rep X.K w L m σ H → DPs X.K w.F vs xs → tUGs X es vs σ H (POS X.K w Q)
section
variable {X : Cx} {L : Loc} {m : Mem} {e a b c tg : Expr} {es : List Expr} {pos : Pos} {D : PEnds} {st : Stmt} {rest body : List Stmt} {Q : Loc → Mem → Prop}
theorem wgn_nil (q : Q L m) : WGn X [] [] L m Q := fun w σ H vs r d pins s us I rv => pgs_nil.run pins s σ H vs us _ I rv (by cases d; exact ⟨rfl, w, L, m, .refl w, r, q⟩)
theorem wgn_cons {x : PyData} {xs : List PyData} (h : WG X e x L m fun L1 m1 => WGn X es xs L1 m1 Q) (hs : (assignEach (e :: es) X.env).map (·.2) = assign e X.env :: (assignEach es X.env).map (·.2) := by rfl) : WGn X (e :: es) (x :: xs) L m Q := fun w σ H vs r d pins s us I rv =>
  (pgs_cons (pgU e) (pgsU es) hs).run pins s σ H vs us _ I rv (by
    cases d with
    | cons d1 d2 =>
      refine ⟨_, _, rfl, tUG_mono (h w σ H _ r d1) fun σ' H' ⟨w', L', m', l, r', q⟩ => ?_⟩
      intro pins s us I rv
      exact thn (q w' σ' H' _ r' (dpa_mono l.sub _ _ d2) pins s us I rv) fun _ s' ⟨σ2, H2, I2, q2⟩ => ⟨σ2, H2, I2, POS.back l q2⟩)
theorem wg_tup {k n : Nat} {x : PyData} (hc : X.calm = true) (h : ∃ xs, x = .tuple xs ∧ xs.length = n ∧ WGn X es xs L m Q) (hn : (assignEach es X.env).length = n := by rfl) (hst : (assignEach es X.env).findIdx? (·.1) = none := by rfl) : WG X (.Tuple es k pos) x L m Q := by
  obtain ⟨xs, rfl, hl, h⟩ := h
  refine wg_of (pg_tup hc (pgsU es) hn hst) fun w σ H v r d => ?_
  obtain ⟨a, vs, rfl, e1, d1⟩ := dp_tuple d
  exact ⟨a, vs, rfl, r.toHR.fz.sqt e1, by rw [dpa_len d1]; exact hl, h w σ H vs r d1⟩
theorem wg_sub {x : PyData} (h : WV X a L m fun p m1 => WE X b L m1 fun y m2 => ∃ k i xs j, p = .ref k ∧ y = .int i ∧ m2[k]? = some (some (.lst xs)) ∧ ixN xs.length i = some j ∧ Q L (m2.set k (some (.lst (xs.set j x)))))
    (ha : ∀ v, assign (.Subscript a b pos) X.env v = (do
      let ov ← holding [v] (eval a X.env)
      let iv ← holding [v, ov] (eval b X.env)
      standAt pos
      holding [v, ov, iv] (setItem ov iv v)
      release [v, ov, iv] []) := by intro _; rfl) : WG X (.Subscript a b pos) x L m Q := by
  refine wg_of (pg_sub (peU a) (peU b) set_list ha) fun w σ H v r d => ?_
  refine h.go r fun w1 ov p m1 H1 l1 r1 d1 q1 => q1.go r1 fun w2 iv y m2 H2 l2 r2 d2 ⟨k, i, xs, j, e1, e2, e3, e4, q⟩ => ?_
  subst e1; subst e2
  obtain ⟨ad, o, ea, eo, vs, rfl, dv⟩ := r2.cell k _ e3
  obtain ⟨ad', ea', rfl⟩ := d1.mono l2.toLe0
  rw [ea] at ea'; cases ea'
  have dd := dp_mono (l1.trans l2).sub _ _ d
  have hr3 := r2.toHR.write (c' := .lst (xs.set j x)) (o := .lst (vs.set j v)) ea e3 ⟨_, rfl, dpa_set dd j dv⟩
  exact ⟨ad, vs, i, j, rfl, dp_int d2, eo, by rw [dpa_len dv]; exact e4, w2, L, _, l1.trans l2, r2.go (.refl w2) hr3, q⟩
theorem ws_asg (h : WE X e L m fun x m1 => WG X tg x L m1 D.nx) (hs : swapsWithSole [tg] e pos.line X.env = pure false := by rfl) (hw : swappedStores [tg] e X.env = pure none := by rfl)
    (h1 : (assignEach [tg] X.env).map (·.2) = [assign tg X.env] := by rfl) : WS X (.Assign [tg] e pos) L m D :=
  ws_of (ps_asg (peU e) (pgU tg) hs hw h1) fun w σ H r => h.go r fun w1 v x m1 H1 l1 r1 d1 q => tUG_mono (q w1 σ H1 v r1 d1) fun σ' H' q => POS.back l1 q
theorem ws_par {x y : Str} {px py pt : Pos} {kt k2 pt2} (i j : Nat) (hc : X.calm = true) (hN : X.N.Nodup) (hi : X.N[i]? = some x) (hj : X.N[j]? = some y) (hij : i ≠ j)
    (hx : X.env.scope.names.lookup x = some .local) (hy : X.env.scope.names.lookup y = some .local) (h : WA X [a, b] L m fun ps m1 => ∃ p q, ps = [p, q] ∧ D.nx ((L.set i (some p)).set j (some q)) m1)
    (hw : swappedStores [.Tuple [.Name x px, .Name y py] kt pt] (.Tuple [a, b] k2 pt2) X.env = pure (some [x, y]) := by rfl)
    (hs : swapsWithSole [.Tuple [.Name x px, .Name y py] kt pt] (.Tuple [a, b] k2 pt2) pos.line X.env = pure false := by rfl) :
    WS X (.Assign [.Tuple [.Name x px, .Name y py] kt pt] (.Tuple [a, b] k2 pt2) pos) L m D :=
  ws_of (ps_par hc hN hi hj hij hx hy (paU [a, b]) hw hs) fun w σ H r => h.go r fun w1 vs ps m1 H1 l1 r1 d1 ⟨p, q, e1, qq⟩ => by
    subst e1
    obtain ⟨v, u, rfl, d1, d2⟩ := rvs2 d1
    exact ⟨v, u, rfl, w1, _, m1, l1, (r1.set d1).set d2, qq⟩
structure JOk (K : PySem.W.Frag) (w1 : Wd) (J : It) (xs : List PyData) (g : Mem → Prop) : Prop where
  go : ∀ (w' : Wd) (m' : Mem) (H' : Hp) (i : Nat) (x : PyData), w1.le0 w' → HR K w' m' H' → g m' → xs[i]? = some x → J.go i H' ∧ ∀ v H'', J.yld i H' v H'' → ∃ w'', w'.le w'' ∧ HR K w'' m' H'' ∧ DP K w''.F v x
  stop : ∀ (w' : Wd) (m' : Mem) (H' : Hp) (i : Nat), w1.le0 w' → HR K w' m' H' → g m' → xs.length ≤ i → J.stop i H'
def WI (X : Cx) (tg iter : Expr) (L : Loc) (m : Mem) (Q : List PyData → (Mem → Prop) → Mem → Prop) : Prop := ∀ (w : Wd) (σ : L2.St) (H : Hp), Rep X.K w L m σ H → tUI X tg iter σ H fun J H1 => ∃ w1 m1 xs g, w.le w1 ∧ HR X.K w1 m1 H1 ∧ JOk X.K w1 J xs g ∧ Q xs g m1
theorem WI.go {iter : Expr} {Q : List PyData → (Mem → Prop) → Mem → Prop} (h : WI X tg iter L m Q) {w : Wd} {σ : L2.St} {H : Hp} (r : Rep X.K w L m σ H) {R : It → Hp → Prop} (k : ∀ (w' : Wd) (J : It) (xs : List PyData) (g : Mem → Prop) (m' : Mem) (H' : Hp), w.le w' → Rep X.K w' L m' σ H' → JOk X.K w' J xs g → Q xs g m' → R J H') : tUI X tg iter σ H R :=
  tUI_mono (h w σ H r) fun J H' ⟨w', m', xs, g, l, hr, j, q⟩ => k w' J xs g m' H' l (r.go l hr) j q
structure Wk (n : Nat) (L : Loc) (m : Mem) (L' : Loc) (m' : Mem) : Prop where
  ln : L'.length = L.length
  lc : ∀ (i : Nat) (p : PV), L'[i]? = some (some p) → L[i]? = some (some p) ∧ ∀ k, p = .ref k → k < m'.length
  mm : ∃ j, n ≤ j ∧ m' = m.take j
theorem Wk.refl {n : Nat} (h : n ≤ m.length) (hl : ∀ (i k : Nat), L[i]? = some (some (.ref k)) → k < m.length) : Wk n L m L m := ⟨rfl, fun i p e => ⟨e, fun k e2 => hl i k (e2 ▸ e)⟩, m.length, h, by rw [List.take_length]⟩
theorem Wk.rep {K : PySem.W.Frag} {n : Nat} {L' : Loc} {m' : Mem} {w : Wd} {σ : L2.St} {H : Hp} (k : Wk n L m L' m') (r : Rep K w L m σ H) : ∃ w', Rep K w' L' m' σ H ∧ ∀ w0 : Wd, w0.A.length ≤ n → w0.le w → w0.le w' := by
  obtain ⟨j, hj, rfl⟩ := k.mm
  refine ⟨w.cut j, ⟨r.toHR.cut j, by rw [k.ln]; exact r.sl, fun i p e => ?_⟩, fun w0 h0 l => l.cut (Nat.le_trans h0 hj)⟩
  obtain ⟨e1, hk⟩ := k.lc i p e
  obtain ⟨v, e2, d⟩ := r.loc i p e1
  refine ⟨v, e2, ?_⟩
  cases p with
  | d x => exact d
  | raw u => exact d
  | exc C x => exact d
  | excA a C x => exact d
  | ref kk =>
    obtain ⟨ad, ea, ev⟩ := d
    refine ⟨ad, ?_, ev⟩
    have h1 := hk kk rfl
    show (w.A.take j)[kk]? = some ad
    have : kk < j := by
      rw [List.length_take] at h1
      exact Nat.lt_of_lt_of_le h1 (Nat.min_le_left _ _)
    rw [List.getElem?_take, if_pos this]
    exact ea
theorem ws_for {iter : Expr} (hp : PassesOwn (model X.prog X.w) X.A X.env X.xe) (hc : X.calm = true)
    (h : WI X tg iter L m fun xs g m1 => ∃ I : Nat → Loc → Mem → Prop, I 0 L m1 ∧ (∀ (i : Nat) (x : PyData) (L' : Loc) (m' : Mem), xs[i]? = some x → I i L' m' → g m' ∧ WG X tg x L' m' fun L2 m2 =>
        WSs X body L2 m2 { D with nx := fun L3 m3 => ∃ L4 m4, Wk m'.length L3 m3 L4 m4 ∧ I (i + 1) L4 m4, ct := fun L3 m3 => ∃ L4 m4, Wk m'.length L3 m3 L4 m4 ∧ I (i + 1) L4 m4, bk := D.nx }) ∧ (∀ L' m', I xs.length L' m' → g m' ∧ D.nx L' m'))
    (hs : ∀ x, foldedSetIterable iter X.env x = pure x := by intro _; rfl) : WS X (.For tg iter body [] pos) L m D := by
  refine ws_of (ps_for hp hc (piU tg iter) (pgU tg) (pssU body) hs) fun w σ H r => ?_
  refine h.go r fun w1 J xs g m1 H1 l1 r1 jo ⟨I, i0, it, ie⟩ => ?_
  refine ⟨fun i n σ' H' => n = xs.length - i ∧ i ≤ xs.length ∧ ∃ w' L' m', w1.le w' ∧ Rep X.K w' L' m' σ' H' ∧ I i L' m', ⟨xs.length, by simp, Nat.zero_le _, w1, L, m1, .refl w1, r1, i0⟩, ?_⟩
  rintro i n σ' H' ⟨rfl, hi, w', L', m', l', r', q⟩
  by_cases hlt : i < xs.length
  · refine .inr ?_
    have hx : xs[i]? = some xs[i] := List.getElem?_eq_getElem hlt
    obtain ⟨gm, wg⟩ := it i _ L' m' hx q
    obtain ⟨jg, jy⟩ := jo.go w' m' H' i _ l'.toLe0 r'.toHR gm hx
    refine ⟨jg, fun σ2 H2 => ∃ w2 L2 m2, w1.le w2 ∧ Rep X.K w2 L2 m2 σ2 H2 ∧ I (i + 1) L2 m2, fun σ2 H2 ⟨w2, L2, m2, l2, r2, q2⟩ => ⟨xs.length - (i + 1), by omega, rfl, hlt, w2, L2, m2, l2, r2, q2⟩, fun v H'' y => ?_⟩
    obtain ⟨w2, l2, hr2, d2⟩ := jy v H'' y
    have r2 := r'.go l2 hr2
    have nxt : ∀ (w3 : Wd) (σ3 : L2.St) (H3 : Hp), w2.le w3 → POS X.K w3 (fun L3 m3 => ∃ L4 m4, Wk m'.length L3 m3 L4 m4 ∧ I (i + 1) L4 m4) σ3 H3 → ∃ w2 L2 m2, w1.le w2 ∧ Rep X.K w2 L2 m2 σ3 H3 ∧ I (i + 1) L2 m2 := fun w3 σ3 H3 l3 ⟨w4, L3, m3, l4, r3, L4, m4, k, q4⟩ => by
      obtain ⟨w5, r5, h5⟩ := k.rep r3
      have l24 : w'.le w4 := (l2.trans l3).trans l4
      have : w'.le w5 := h5 w' (by rw [r'.toHR.len]; exact Nat.le_refl _) l24
      exact ⟨w5, L4, m4, l'.trans this, r5, q4⟩
    refine tUG_mono (wg w2 σ' H'' v r2 d2) fun σ3 H3 ⟨w3, L3, m3, l3, r3, q3⟩ => ?_
    refine tUSs_mono (q3 w3 σ3 H3 r3) ?_ ?_ ?_ ?_
    · exact fun σ4 H4 q4 => nxt w3 σ4 H4 l3 q4
    · exact fun v H4 q4 => POV.back (((l1.trans l').trans l2).trans l3) q4
    · exact fun σ4 H4 q4 => POS.back (((l1.trans l').trans l2).trans l3) q4
    · exact fun σ4 H4 q4 => nxt w3 σ4 H4 l3 q4
  · have e : i = xs.length := by omega
    subst e
    obtain ⟨gm, qd⟩ := ie L' m' q
    exact .inl ⟨jo.stop w' m' H' _ l'.toLe0 r'.toHR gm (Nat.le_refl _), w', L', m', l1.trans l', r', qd⟩
end
end PP
namespace PP
open PySem PySem.Spec PyProof.Rows L2
section
variable {X : Cx} {L : Loc} {m : Mem} {e a b c tg : Expr} {pos : Pos} {QI : List PyData → (Mem → Prop) → Mem → Prop}
theorem WV.mono {Q Q' : PV → Mem → Prop} (h : WV X e L m Q) (k : ∀ x m', Q x m' → Q' x m') : WV X e L m Q' := fun w σ H r => tU_mono (h w σ H r) fun _ _ ⟨w', x, m', l, hr, d, q⟩ => ⟨w', x, m', l, hr, d, k _ _ q⟩
theorem wi_of {iter : Expr} {t : TI} (h : PI X tg iter t) (k : ∀ (w : Wd) (σ : L2.St) (H : Hp), Rep X.K w L m σ H → t σ H fun J H1 => ∃ w1 m1 xs g, w.le w1 ∧ HR X.K w1 m1 H1 ∧ JOk X.K w1 J xs g ∧ QI xs g m1) : WI X tg iter L m QI := fun w σ H r pins s I => h.run pins s σ H _ I (k w σ H r)
theorem jok_list {K : PySem.W.Frag} {w : Wd} {a : Addr} {p : PV} {xs : List PyData} (r : RV K w (.ref a) p) : JOk K w (Itl K a) xs fun m => lstP m p = some xs where
  go := fun w' m' H' i x l hr g hx => by
    obtain ⟨ad, vs, e1, e2, d⟩ := lstP_ok hr (r.mono l) g
    cases e1
    obtain ⟨v, hv, dv⟩ := dpa_get d hx
    refine ⟨⟨vs, v, .of e2, hv⟩, fun u H'' ⟨e3, y⟩ => ?_⟩
    subst e3
    have : u = v := Option.some.inj ((y vs (.of e2)).symm.trans hv)
    subst this
    exact ⟨w', .refl w', hr, dv⟩
  stop := fun w' m' H' i l hr g hi => by
    obtain ⟨ad, vs, e1, e2, d⟩ := lstP_ok hr (r.mono l) g
    cases e1
    exact ⟨vs, .of e2, by rw [dpa_len d]; exact hi⟩
theorem wi_list (h : WV X e L m fun p m1 => ∃ xs, lstP m1 p = some xs ∧ QI xs (fun m2 => lstP m2 p = some xs) m1) : WI X tg e L m QI :=
  wi_of (pi_list (peU e)) fun w σ H r => h.go r fun w1 v p m1 H1 l1 r1 d1 ⟨xs, e1, q⟩ => by
    obtain ⟨ad, vs, rfl, e2, d⟩ := lstP_ok r1.toHR d1 e1
    exact ⟨ad, rfl, ⟨vs, .of e2⟩, w1, m1, xs, _, l1, r1.toHR, jok_list d1, q⟩
theorem wi_new (h : WF X e L m fun xs m1 => QI xs (fun _ => True) m1) : WI X tg e L m QI :=
  wi_of (pi_list (peU e)) fun w σ H r => (we_wf (Q := fun x m1 => ∃ xs, x = .list xs ∧ QI xs (fun _ => True) m1) (h.mono fun xs m1 q => ⟨xs, rfl, q⟩)).go r fun w1 v p m1 H1 l1 r1 d1 ⟨xs, e1, q⟩ => by
    subst e1
    obtain ⟨ad, vs, rfl, e2, d⟩ := lstP_ok (p := .d (.list xs)) r1.toHR d1 rfl
    have j := jok_list (K := X.K) (w := w1) (a := ad) (p := .d (.list xs)) (xs := xs) d1
    exact ⟨ad, rfl, ⟨vs, .of e2⟩, w1, m1, xs, fun _ => True, l1, r1.toHR, ⟨fun w' m' H' i x l hr _ hx => j.go w' m' H' i x l hr rfl hx, fun w' m' H' i l hr _ hi => j.stop w' m' H' i l hr rfl hi⟩, q⟩
theorem rgD3_len {a c : Int} {n : Nat} : (rgD3 a c n).length = n := by unfold rgD3; rw [List.length_map, List.length_range]
theorem rgD_get {a b : Int} {i : Nat} {x : PyData} (h : (rgD a b)[i]? = some x) : i < (b - a).toNat ∧ x = .int (a + i) := by
  unfold rgD at h
  rw [List.getElem?_map] at h
  by_cases hi : i < (b - a).toNat
  · rw [List.getElem?_range hi] at h
    cases h
    exact ⟨hi, rfl⟩
  · rw [List.getElem?_eq_none (by rw [List.length_range]; omega)] at h; cases h
theorem rgD_len {a b : Int} : (rgD a b).length = (b - a).toNat := by unfold rgD; rw [List.length_map, List.length_range]
theorem jok_rng {K : PySem.W.Frag} {w : Wd} {a b : Int} : JOk K w (Itr a (b - a).toNat) (rgD a b) fun _ => True where
  go := fun w' m' H' i x l hr g hx => by
    obtain ⟨hi, rfl⟩ := rgD_get hx
    refine ⟨hi, fun u H'' ⟨e3, y⟩ => ?_⟩
    subst e3; subst y
    exact ⟨w', .refl w', hr, .int _⟩
  stop := fun w' m' H' i l hr g hi => by rw [rgD_len] at hi; exact hi
theorem wi_rng1 {p : Pos} (hm : X.mg "range" = none) (h : WE X a L m fun x m1 => ∃ n, x = .int n ∧ -(2 ^ 62) ≤ n ∧ n < 2 ^ 62 ∧ QI (rgD 0 n) (fun _ => True) m1) (hg : Gl X "range" := by rfl) (hs : starEach [a] X.env = [(false, eval a X.env)] := by rfl)
    (he : starEach [a] X.env = (false, eval a X.env) :: starEach [] X.env := by rfl) : WI X tg (.Call (.Name "range" p) [a] [] pos) L m QI :=
  wi_of (pi_range1 hg hm (paU [a]) hs) fun w σ H r => WA.go (wd1 h he) r fun w1 vs ps m1 H1 l1 r1 d1 ⟨x, e1, n, e2, n1, n2, q⟩ => by
    subst e1; subst e2
    obtain ⟨v, rfl, d2⟩ := rvs1 d1
    refine ⟨n, by rw [dp_int d2], n1, n2, w1, m1, rgD 0 n, _, l1, r1.toHR, ?_, q⟩
    have := jok_rng (K := X.K) (w := w1) (a := 0) (b := n)
    rwa [Int.sub_zero] at this
theorem wi_rng2 {p : Pos} (hm : X.mg "range" = none) (h : WE X a L m fun x m1 => WE X b L m1 fun y m2 => AskI x y fun i j => (-(2 ^ 62) ≤ i ∧ i < 2 ^ 62 ∧ -(2 ^ 62) ≤ j ∧ j < 2 ^ 62) ∧ QI (rgD i j) (fun _ => True) m2) (hg : Gl X "range" := by rfl) (hs : starEach [a, b] X.env = [(false, eval a X.env), (false, eval b X.env)] := by rfl) (hs2 : starEach [b] X.env = [(false, eval b X.env)] := by rfl)
    (he : starEach [a, b] X.env = (false, eval a X.env) :: starEach [b] X.env := by rfl) (he2 : starEach [b] X.env = (false, eval b X.env) :: starEach [] X.env := by rfl) : WI X tg (.Call (.Name "range" p) [a, b] [] pos) L m QI :=
  wi_of (pi_range2 hg hm (paU [a, b]) hs hs2) fun w σ H r => WA.go (wd2 h he he2) r fun w1 vs ps m1 H1 l1 r1 d1 ⟨x, y, e1, i, j, e2, e3, hb, q⟩ => by
    subst e1; subst e2; subst e3
    obtain ⟨v, u, rfl, d2, d3⟩ := rvs2 d1
    exact ⟨i, j, by rw [dp_int d2, dp_int d3], hb, w1, m1, rgD i j, _, l1, r1.toHR, jok_rng, q⟩
end
def enD (xs : List PyData) : List PyData := xs.zipIdx.map fun p => .tuple [.int (p.2 : Int), p.1]
theorem enD_get {xs : List PyData} {i : Nat} {x : PyData} (h : (enD xs)[i]? = some x) : ∃ y, xs[i]? = some y ∧ x = .tuple [.int (i : Int), y] := by
  unfold enD at h
  rw [List.getElem?_map, List.getElem?_zipIdx] at h
  cases e : xs[i]? with
  | none => rw [e] at h; cases h
  | some y => rw [e] at h; simp at h; exact ⟨y, rfl, h.symm⟩
theorem enD_len {xs : List PyData} : (enD xs).length = xs.length := by unfold enD; rw [List.length_map, List.length_zipIdx]
theorem HR.pair {K : PySem.W.Frag} {w : Wd} {m : Mem} {H : Hp} {T : Addr} {v u : V} {x y : PyData} (hr : HR K w m H) (hT : H T = none) (d1 : DP K w.F v x) (d2 : DP K w.F u y) : ∃ w', w.le w' ∧ HR K w' m (upd H T (.tup [v, u])) ∧ DP K w'.F (.ref T) (.tuple [x, y]) := by
  obtain ⟨l, hr2⟩ := hr.fnew (o := .tup [v, u]) hT
  exact ⟨_, l, hr2, .tup (.of upd_same) (.cons (dp_mono l.sub _ _ d1) (.cons (dp_mono l.sub _ _ d2) .nil))⟩
set_option maxHeartbeats 1000000 in
theorem meets_enumerate_new1 {v : Value} {o : Obj} {H : Heap → Prop} (B : Begins v o H) :
    Meets (Builtin.«enumerate.__new__» ⟨[.type "enumerate", v], []⟩) (fun _ R s => H s.heap ∧
      R (.ok (.ret (.ref (s.heap.push o).objs.size))) { s with heap := (s.heap.push o).push { cls := .type "enumerate", data := .fields #[.none, .bool false, .ref s.heap.objs.size, rawInt 0, .none, .none] } }) :=
  .of_wp fun prog w A R s h => by
    obtain ⟨hp, g, d, tk, os⟩ := s; obtain ⟨h1, h⟩ := h
    have hsub := sub_enumerate
    have q1 : ∀ {A' : Around} {E : Value → Shared → Prop} {Q : Value → Shared → Prop}, Q (.ref hp.objs.size) ⟨hp.push o, g, d, tk, os⟩ → wpAny (model prog w) A' (pyIter v) Q E ⟨hp, g, d, tk, os⟩ :=
      fun q => B.iter prog w _ _ ⟨hp, g, d, tk, os⟩ _ h1 q
    wp_walk using q1
    refine wpAny_stack_any fun st => wpAny_pure ?_
    split
    · rename_i c _ _ _ _ _
      cases (c == Value.type "enumerate")
      · wp_walk using q1
        exact ⟨_, rfl, h⟩
      · wp_walk using q1
        exact ⟨_, rfl, h⟩
    · wp_walk using q1
      exact ⟨_, rfl, h⟩
section
variable {prog : Program} {w : World} {A : Around} {E : Value → Shared → Prop} {s : Shared}
theorem enum_begins1 {v : Value} {o : Obj} {H : Heap → Prop} {Q : Value → Shared → Prop} (B : Begins v o H) (h1 : H s.heap)
    (h : ∀ h', IsEnum h' (s.heap.objs.size + 1) s.heap.objs.size 0 .none → h'.get? s.heap.objs.size = some o → h'.objs.size = s.heap.objs.size + 2 →
      (∀ b o, s.heap.get? b = some o → h'.get? b = some o) → Q (.ref (s.heap.objs.size + 1)) { s with heap := h' }) :
    wpAny (model prog w) A (call (.type "enumerate") [v]) Q E s := by
  refine callType_new F.called_enumerate (by decide) (F.typeCall_enumerate_1 _) (F.newCall_enumerate_1 _) (fun obj => F.args_object_init_2 obj _) F.entry_enumerate_new
    (meets_enumerate_new1 B) ⟨h1, ?_⟩
  have hz : (s.heap.push o).objs.size = s.heap.objs.size + 1 := Heap.size_push ..
  show _ ∧ _
  rw [hz]
  have he : IsEnum ((s.heap.push o).push { cls := .type "enumerate", data := .fields #[.none, .bool false, .ref s.heap.objs.size, rawInt 0, .none, .none] }) (s.heap.objs.size + 1) s.heap.objs.size 0 .none := by
    have := Heap.get?_push_size (s.heap.push o) (o := { cls := .type "enumerate", data := .fields #[.none, .bool false, .ref s.heap.objs.size, rawInt 0, .none, .none] }) rfl
    rw [hz] at this; exact this
  refine ⟨⟨_, he, rfl⟩, h _ he (Heap.get?_push_of_some _ (Heap.get?_push_size _ B.free)) (by rw [Heap.size_push, hz]) fun b o x => Heap.get?_push_of_some _ (Heap.get?_push_of_some _ x)⟩
end
def IteT (K : PySem.W.Frag) (a : Addr) : It :=
  ⟨fun i H => ∃ (xs : List V) (x : V), SqT K H a xs ∧ xs[i]? = some x, fun i H v H' => ∃ T x, v = .ref T ∧ H T = none ∧ H' = upd H T (.tup [.int (i : Nat), x]) ∧ ∀ xs, SqT K H a xs → xs[i]? = some x, fun i H => ∃ xs : List V, SqT K H a xs ∧ xs.length ≤ i⟩
theorem turn_enumT {P : Program} {w : World} {K : PySem.W.Frag} {elts : List Expr} {kk : Nat} {tpos : Pos} (a e it : Addr) (items : Array Value) :
    Turn P w K (.Tuple elts kk tpos) (IteT K a) [e, it] e (fun i h => (∃ old, IsEnum h e it ((i : Nat) : Int) old) ∧ h.IsTupleIter it a i ∧ e ≠ it) where
  mem := by simp
  obj := fun i h st b hb => by
    obtain ⟨⟨old, he⟩, ⟨o, ho, hc, hd⟩, _⟩ := st
    have e' : b = e ∨ b = it := by simpa using hb
    rcases e' with z | z
    · rw [z]; exact ⟨_, he, fun v q => nomatch q⟩
    · rw [z]; exact ⟨o, ho, fun v q => by rw [hd] at q; cases q⟩
  keep := fun i h h' st k => let ⟨⟨old, he⟩, hi, hne⟩ := st; ⟨⟨old, k e (by simp) _ he⟩, hi.at fun o q => k it (by simp) o q, hne⟩
  item := by
    intro X hP hw hK hc i pins s σ H E I hf st hg
    subst hP hw hK
    obtain ⟨⟨old, he⟩, hit, hne⟩ := st
    obtain ⟨xs, x, hq, hx⟩ := hg
    obtain ⟨its, rv, p, hz⟩ := I.tuple hq
    obtain ⟨u, hu, ru⟩ := rv.get hx
    have hel : e < s.heap.objs.size := Heap.lt_size he
    have hil : it < s.heap.objs.size := by obtain ⟨_, q, _⟩ := hit; exact Heap.lt_size q
    have hpt : s.heap.IsTuple a its.toArray := p
    obtain ⟨oa, hoa, hca, na, hda⟩ := hpt
    have hne2 : a ≠ it := fun z => by
      obtain ⟨oi, hoi, hci, hdi⟩ := hit
      rw [z, hoi] at hoa; cases hoa; rw [hdi] at hda; cases hda
    have hea : e ≠ a := fun z => by
      have he2 : s.heap.get? e = _ := he
      rw [z, hoa] at he2
      have := Option.some.inj he2
      rw [this] at hda
      cases hda
    have D := Draws.tuple (prog := X.prog) (w := X.w) (A := X.A.in1) (I.ok.hd hc) it a hne2 its.toArray
    refine wpAny_pyNext_enum_itemD D he ⟨hit, p⟩ (by rw [List.size_toArray]; exact (List.getElem?_eq_some_iff.mp hu).1) hne (by simp [hne, hea]) fun y h' tk hy ho hst' hT hsz hk => ?_
    have ey : y = u := by
      have hy' : its[i]? = some y := by simpa using hy
      rw [hu] at hy'; exact (Option.some.inj hy').symm
    subst ey
    refine ⟨_, rfl, wpAny_letOwnedTupleGo_enum (s := { s with heap := h', toks := tk + 1 }) ho fun h'' he' sb => ?_⟩
    have hT2 : h''.get? s.heap.objs.size = some { cls := .type "tuple", data := .seq #[.int i tk, y] } := (sb.2 _ (Nat.ne_of_gt hel)).trans hT
    have new : ObjOk X.prog X.w (upd H s.heap.objs.size (.tup [.int (i : Nat), x])) h'' s.heap.objs.size (.tup [.int (i : Nat), x]) :=
      ⟨by show 2 ≤ sizeLine; decide, [.int i tk, y], .cons ⟨_, rfl⟩ (.cons ru .nil), ⟨_, hT2, rfl, _, rfl⟩⟩
    have I1 : Inv X pins σ (upd H s.heap.objs.size (.tup [.int (i : Nat), x])) { s with heap := h'', toks := tk + 1 } :=
      I.turnedNew (ch := [e, it]) (fun b ob hb q => (sb.2 b (fun z => hb (by simp [z]))).trans (hk b ob (fun z => hb (by simp [z])) (fun z => hb (by simp [z])) q)) hf (Nat.le_refl _) new
    refine ⟨.ref s.heap.objs.size, _, I1, rfl, ⟨_, x, rfl, I.hok.fresh (Nat.le_refl _), rfl, fun ys hy => by rw [I.tuple_inj hy hq]; exact hx⟩, ⟨⟨y, ?_⟩, hst'.1.at fun o q => (sb.2 it (Ne.symm hne)).trans q, hne⟩, fun b hb => ?_⟩
    · have e1 : ((i + 1 : Nat) : Int) = (i : Int) + 1 := by omega
      rw [e1]; exact he'
    · have hb' : b < s.heap.objs.size := by
        have e' : b = e ∨ b = it := by simpa using hb
        rcases e' with z | z
        · rw [z]; exact hel
        · rw [z]; exact hil
      rw [upd_ne (Nat.ne_of_lt hb')]
      exact (hf b hb).1
  done := by
    intro X hP hw hK hc i pins s σ H E I hf st hg
    subst hP hw hK
    obtain ⟨⟨old, he⟩, hit, hne⟩ := st
    obtain ⟨xs, hq, hx⟩ := hg
    obtain ⟨its, rv, p, hz⟩ := I.tuple hq
    obtain ⟨f0, f1, f2, f3, f4, f5⟩ := hf it (by simp)
    have hl := rv.length
    have hpt : s.heap.IsTuple a its.toArray := p
    obtain ⟨oa, hoa, hca, na, hda⟩ := hpt
    have hne2 : a ≠ it := fun z => by
      obtain ⟨oi, hoi, hci, hdi⟩ := hit
      rw [z, hoi] at hoa; cases hoa; rw [hdi] at hda; cases hda
    have hT : s.TypeIs (.ref e) "enumerate" := ⟨_, he, rfl⟩
    unfold pyNext
    refine wpAny_bind (wpAny_attempt (wpAny_callSpecial?_slot (name := Str.ofString "__next__") hT F.slot_enumerate_next
      (wpAny_call_entry F.slot_enumerate_next hT F.entry_enumerate_next ?_ (F.args_enumerate_next_1 _))))
    show wpAny _ _ (field (.ref e) 2 >>= _) _ _ _
    refine wpAny_bind (wpAny_field he rfl (x := .ref it) rfl ?_)
    refine wpAny_bind (wpAny_nextOf_tuple_end (I.ok.hd hc) hit p (by simp; omega) fun h' x he' hx' => ?_)
    obtain ⟨o, ho, hc⟩ := hx'
    refine wpAny_bind (wpAny_isInstance (T := "StopIteration") (b := true) ⟨o, ho, hc⟩ isSubtype_stop ?_)
    exact wpAny_pure ⟨rfl, I.turned (t' := s.toks) (fun b o hb q => he' b o hb q) f0 f1 f3 f4 f5⟩
  self := fun A i s Q E st h => let ⟨⟨_, he⟩, _⟩ := st; wpAny_pyIter_enum he h
section
variable {X : Cx} {L : Loc} {m : Mem} {e a b c tg : Expr} {pos : Pos} {QI : List PyData → (Mem → Prop) → Mem → Prop}
theorem pi_enumT {e : Expr} {ta : TA} {p pos tpos : Pos} {elts : List Expr} {kk : Nat} (hg : Gl X "enumerate") (hm : X.mg "enumerate" = none) (ha : PA X [e] ta) (hs : starEach [e] X.env = [(false, eval e X.env)] := by rfl) :
    PI X (.Tuple elts kk tpos) (.Call (.Name "enumerate" p) [e] [] pos) (fun σ H R => ta σ H fun vs H1 => ∃ a xs, vs = [.ref a] ∧ SqT X.K H1 a xs ∧ R (IteT X.K a) H1) := by
  refine ⟨fun pins s σ H R I h => ?_⟩
  refine Call_ (ld_blt I hg hm boot_enumerate (PyProof.Rows.callWith_type1 (thn (ha.run pos pins s σ H _ I h) fun us s1 ⟨vs, H1, I1, r1, q1⟩ => ?_) hs rfl))
  obtain ⟨a, xs, ex, hq, q⟩ := q1
  subst ex
  cases r1 with
  | cons r rr =>
    cases rr
    cases r
    obtain ⟨its, rv, p', hz⟩ := I1.tuple hq
    refine enum_begins1 (begins_tuple a its.toArray) p' fun h' he hit hsz hk => wpAny_pyIter_enum he ?_
    have I2 : Inv X pins σ H1 { s1 with heap := h' } := I1.kept (t' := s1.toks) hk
    refine ⟨s1.heap.objs.size + 1, [s1.heap.objs.size + 1, s1.heap.objs.size], _, _, H1, rfl, I2, turn_enumT a (s1.heap.objs.size + 1) s1.heap.objs.size its.toArray, ⟨⟨.none, he⟩, ⟨_, hit, rfl, rfl⟩, Nat.succ_ne_self _⟩, fun b hb => ?_, q⟩
    have e' : b = s1.heap.objs.size + 1 ∨ b = s1.heap.objs.size := by simpa using hb
    have hle : s1.heap.objs.size ≤ b := by
      rcases e' with z | z
      · rw [z]; exact Nat.le_add_right _ _
      · rw [z]; exact Nat.le_refl _
    exact I1.fpOk hle (I1.hok.fresh hle)
theorem wi_enumT {p tpos : Pos} {elts : List Expr} {kk : Nat} (hm : X.mg "enumerate" = none) (h : WE X a L m fun x m1 => ∃ xs, x = .tuple xs ∧ QI (enD xs) (fun _ => True) m1) (hg : Gl X "enumerate" := by rfl) (hs : starEach [a] X.env = [(false, eval a X.env)] := by rfl)
    (he : starEach [a] X.env = (false, eval a X.env) :: starEach [] X.env := by rfl) : WI X (.Tuple elts kk tpos) (.Call (.Name "enumerate" p) [a] [] pos) L m QI :=
  wi_of (pi_enumT hg hm (paU [a]) hs) fun w σ H r => WA.go (wd1 h he) r fun w1 vs ps m1 H1 l1 r1 d1 ⟨x, e1, xs, e2, q⟩ => by
    subst e1; subst e2
    obtain ⟨v, rfl, d2⟩ := rvs1 d1
    obtain ⟨ad, vs, rfl, e3, d⟩ := dp_tuple d2
    refine ⟨ad, vs, rfl, r1.toHR.fz.sqt e3, w1, m1, enD xs, _, l1, r1.toHR, ⟨fun w' m' H' i x l hr _ hx => ?_, fun w' m' H' i l hr _ hi => ?_⟩, q⟩
    · obtain ⟨y, hy, rfl⟩ := enD_get hx
      obtain ⟨ad', vs', e4, e5, d'⟩ := dp_tuple (dp_mono l.sub _ _ d2)
      cases e4
      obtain ⟨v, hv, dv⟩ := dpa_get d' hy
      have e5 := hr.fz.sqt e5
      refine ⟨⟨vs', v, e5, hv⟩, fun u H'' ⟨T, x, e6, hT, e7, yy⟩ => ?_⟩
      have : x = v := Option.some.inj ((yy vs' e5).symm.trans hv)
      subst this; subst e6; subst e7
      exact hr.pair hT (.int _) dv
    · obtain ⟨ad', vs', e4, e5, d'⟩ := dp_tuple (dp_mono l.sub _ _ d2)
      cases e4
      rw [enD_len] at hi
      exact ⟨vs', hr.fz.sqt e5, by rw [dpa_len d']; exact hi⟩
theorem wi_enumL {p tpos : Pos} {elts : List Expr} {kk : Nat} (hm : X.mg "enumerate" = none) (h : WV X a L m fun x m1 => ∃ xs, lstP m1 x = some xs ∧ QI (enD xs) (fun m2 => lstP m2 x = some xs) m1) (hg : Gl X "enumerate" := by rfl) (hs : starEach [a] X.env = [(false, eval a X.env)] := by rfl)
    (he : starEach [a] X.env = (false, eval a X.env) :: starEach [] X.env := by rfl) : WI X (.Tuple elts kk tpos) (.Call (.Name "enumerate" p) [a] [] pos) L m QI :=
  wi_of (pi_enum hg hm (paU [a]) hs) fun w σ H r => WA.go (wa1 h he) r fun w1 vs ps m1 H1 l1 r1 d1 ⟨x, e1, xs, e2, q⟩ => by
    subst e1
    obtain ⟨v, rfl, d2⟩ := rvs1 d1
    obtain ⟨ad, vs, rfl, e3, d⟩ := lstP_ok r1.toHR d2 e2
    refine ⟨ad, vs, rfl, .of e3, w1, m1, enD xs, _, l1, r1.toHR, ⟨fun w' m' H' i z l hr g hx => ?_, fun w' m' H' i l hr g hi => ?_⟩, q⟩
    · obtain ⟨y, hy, rfl⟩ := enD_get hx
      obtain ⟨ad', vs', e4, e5, d'⟩ := lstP_ok hr (d2.mono l) g
      cases e4
      obtain ⟨v, hv, dv⟩ := dpa_get d' hy
      refine ⟨⟨vs', v, .of e5, hv⟩, fun u H'' ⟨T, x, e6, hT, e7, yy⟩ => ?_⟩
      have : x = v := Option.some.inj ((yy vs' (.of e5)).symm.trans hv)
      subst this; subst e6; subst e7
      exact hr.pair hT (.int _) dv
    · obtain ⟨ad', vs', e4, e5, d'⟩ := lstP_ok hr (d2.mono l) g
      cases e4
      rw [enD_len] at hi
      exact ⟨vs', .of e5, by rw [dpa_len d']; exact hi⟩
end
end PP
namespace PP
open PySem PySem.Spec PyProof.Rows L2
section
variable {K : PySem.W.Frag} {w w' : Wd} {L : PP.Loc} {m m' : Mem} {σ : L2.St} {H H' : Hp} {D : Addr} {o o' : HO}
theorem Rep.go0 (h : Rep K w L m σ H) (l : w.le0 w') (r : HR K w' m' H') : Rep K w' L m' σ H' :=
  ⟨r, h.sl, fun i p e => let ⟨v, e1, q⟩ := h.loc i p e; ⟨v, e1, q.mono l⟩⟩
def Wd.hide (w : Wd) (D : Addr) (o : HO) : Wd := { w with T := (D, o) :: w.T }
theorem Wd.le0_hide (w : Wd) (D : Addr) (o : HO) : w.le0 (w.hide D o) := ⟨⟨[], by simp [Wd.hide]⟩, Sub.refl _⟩
theorem HR.hide (h : HR K w m H) (u : Un1 w D) (e : H D = some o) : HR K (w.hide D o) m H :=
  ⟨h.fz, h.len, h.nd, h.sep, h.occ, fun p hp => by
    rcases List.mem_cons.mp hp with z | z
    · subst z; exact ⟨e, u.f, u.a⟩
    · exact h.tp p z, by
    show ((D, o) :: w.T |>.map (·.1)).Nodup
    rw [List.map_cons, List.nodup_cons]
    exact ⟨u.t, h.tnd⟩, fun k c e => let ⟨a, x, e1, e2, r⟩ := h.cell k c e; ⟨a, x, e1, e2, r.mono (Sub.refl _)⟩⟩
theorem HR.unhide (h : HR K (w.hide D o) m H) : HR K w m H ∧ Un1 w D ∧ H D = some o := by
  obtain ⟨e1, e2, e3⟩ := h.tp (D, o) List.mem_cons_self
  have nd : ((D, o) :: w.T |>.map (·.1)).Nodup := h.tnd
  rw [List.map_cons, List.nodup_cons] at nd
  exact ⟨⟨h.fz, h.len, h.nd, h.sep, h.occ, fun p hp => h.tp p (List.mem_cons_of_mem _ hp), nd.2, fun k c e => let ⟨a, x, e1, e2, r⟩ := h.cell k c e; ⟨a, x, e1, e2, r.mono (Sub.refl _)⟩⟩, ⟨e2, e3, nd.1⟩, e1⟩
theorem HR.updUn (h : HR K w m H) (u : Un1 w D) : HR K w m (upd H D o) := by
  refine ⟨fun a x e => ?_, h.len, h.nd, h.sep, fun a ha => ?_, fun q hq => ?_, h.tnd, fun k c e => ?_⟩
  · have hne : a ≠ D := fun z => by rw [z, u.f] at e; cases e
    rw [upd_ne hne]; exact h.fz a x e
  · have hne : a ≠ D := fun z => u.a (z ▸ ha)
    rw [upd_ne hne]; exact h.occ a ha
  · obtain ⟨e1, e2, e3⟩ := h.tp q hq
    have hne : q.1 ≠ D := fun z => u.t (z ▸ List.mem_map_of_mem hq)
    exact ⟨by rw [upd_ne hne]; exact e1, e2, e3⟩
  · obtain ⟨a, x, e1, e2, r⟩ := h.cell k c e
    have hne : a ≠ D := fun z => u.a (z ▸ List.mem_of_getElem? e1)
    exact ⟨a, x, e1, by rw [upd_ne hne]; exact e2, r⟩
theorem le_hide {w'' : Wd} (l : (w.hide D o).le w'') : ∃ w3, w'' = w3.hide D o ∧ w.le w3 := by
  refine ⟨{ w'' with T := w.T }, ?_, ⟨⟨l.pre, l.sub⟩, rfl⟩⟩
  obtain ⟨A, T, F⟩ := w''
  have e : T = (D, o) :: w.T := l.hid
  subst e
  rfl
def wipeL (L : PP.Loc) : List Nat → PP.Loc
  | [] => L
  | v :: vs => (wipeL L vs).set v none
theorem wipeL_length (L : PP.Loc) : ∀ vs : List Nat, (wipeL L vs).length = L.length
  | [] => rfl
  | v :: vs => by unfold wipeL; rw [List.length_set, wipeL_length L vs]
theorem wipeL_some {i : Nat} {x : PV} : ∀ {vs : List Nat}, (wipeL L vs)[i]? = some (some x) → L[i]? = some (some x) ∧ i ∉ vs
  | [], h => ⟨h, by simp⟩
  | v :: vs, h => by
    unfold wipeL at h
    by_cases hi : v = i
    · subst hi
      by_cases hv : v < (wipeL L vs).length
      · rw [List.getElem?_set_self hv] at h; cases h
      · rw [List.getElem?_eq_none (by simpa using hv)] at h; cases h
    · rw [List.getElem?_set_ne hi] at h
      obtain ⟨h1, h2⟩ := wipeL_some h
      exact ⟨h1, by simp only [List.mem_cons, not_or]; exact ⟨fun e => hi e.symm, h2⟩⟩
theorem Rep.wipe (h : Rep K w L m σ H) (vs : List Nat) : Rep K w (wipeL L vs) m (L2.wipe σ vs) H :=
  ⟨h.toHR, by rw [wipe_length, wipeL_length]; exact h.sl, fun i p e => by
    obtain ⟨e1, hi⟩ := wipeL_some e
    obtain ⟨v, e2, d⟩ := h.loc i p e1
    exact ⟨v, by rw [wipe_out hi]; exact e2, d⟩⟩
theorem wipe_in {i : Nat} : ∀ {vs : List Nat}, i ∈ vs → i < σ.length → (L2.wipe σ vs)[i]? = some none
  | v :: vs, h, hl => by
    unfold L2.wipe
    by_cases e : v = i
    · subst e
      rw [List.getElem?_set_self (by rw [wipe_length]; exact hl)]
    · rw [List.getElem?_set_ne e]
      exact wipe_in ((List.mem_cons.mp h).resolve_left (Ne.symm e)) hl
theorem wipe_eq {σ' : L2.St} {vs : List Nat} (hl : σ'.length = σ.length) (h : ∀ i, i ∉ vs → σ'[i]? = (L2.wipe σ vs)[i]?) : L2.wipe σ' vs = L2.wipe σ vs := by
  apply List.ext_getElem?
  intro i
  by_cases hi : i ∈ vs
  · by_cases hs : i < σ.length
    · rw [wipe_in hi (by omega), wipe_in hi hs]
    · rw [List.getElem?_eq_none (by rw [wipe_length]; omega), List.getElem?_eq_none (by rw [wipe_length]; omega)]
  · rw [wipe_out hi, h i hi]
end
inductive Pat where
  | nm (j : Nat)
  | tp (js : List Nat)
  | lp (js : List Nat)
def gNames : List Nat → TGs
  | [] => gNil
  | j :: js => gCons (gName j) (gNames js)
def gP (K : PySem.W.Frag) : Pat → TG
  | .nm j => gName j
  | .tp js => gTup K js.length (gNames js)
  | .lp js => gLst K js.length (gNames js)
def Pat.slots : Pat → List Nat
  | .nm j => [j]
  | .tp js => js
  | .lp js => js
def setN (L : PP.Loc) : List Nat → List PyData → PP.Loc
  | j :: js, x :: xs => setN (L.set j (some (.d x))) js xs
  | _, _ => L
def setP (L : PP.Loc) : Pat → PyData → Option PP.Loc
  | .nm j, x => some (L.set j (some (.d x)))
  | .tp js, .tuple xs => if xs.length = js.length then some (setN L js xs) else none
  | .tp _, _ => none
  | .lp js, .list xs => if xs.length = js.length then some (setN L js xs) else none
  | .lp _, _ => none
section
variable {K : PySem.W.Frag} {w : Wd} {m : Mem}
theorem gNames_ok {H : Hp} {Q : L2.St → Hp → Prop} {vsl : List Nat} : ∀ {js : List Nat} {xs : List PyData} {vs : List V} {σ : L2.St} {L : PP.Loc}, xs.length = js.length → DPs K w.F vs xs → Rep K w L m σ H → (∀ j ∈ js, j ∈ vsl) →
    (∀ σ', σ'.length = σ.length → Rep K w (setN L js xs) m σ' H → (∀ i, i ∉ vsl → σ'[i]? = σ[i]?) → Q σ' H) → gNames js vs σ H Q
  | [], [], _, σ, L, _, d, r, _, k => by
    cases d
    exact ⟨rfl, k σ rfl r fun _ _ => rfl⟩
  | j :: js, x :: xs, _, σ, L, hl, d, r, hj, k => by
    cases d with
    | cons d1 d2 =>
      refine ⟨_, _, rfl, ?_⟩
      show gNames js _ (σ.set j (some _)) H Q
      refine gNames_ok (by simpa using hl) d2 (r.set (p := .d x) d1) (fun i hi => hj i (List.mem_cons_of_mem _ hi)) fun σ' e1 r' h' => k σ' (by rw [e1, List.length_set]) r' fun i hi => ?_
      rw [h' i hi, List.getElem?_set_ne (fun z => hi (by rw [← z]; exact hj j List.mem_cons_self))]
  | [], _ :: _, _, _, _, hl, _, _, _, _ => by simp at hl
  | _ :: _, [], _, _, _, hl, _, _, _, _ => by simp at hl
theorem gP_ok {H : Hp} {σ : L2.St} {L Lx : PP.Loc} {Q : L2.St → Hp → Prop} {vsl : List Nat} {pat : Pat} {x : PyData} {v : V} (d : DP K w.F v x) (r : Rep K w L m σ H) (hp : ∀ j ∈ pat.slots, j ∈ vsl) (hs : setP L pat x = some Lx)
    (k : ∀ σ', σ'.length = σ.length → Rep K w Lx m σ' H → (∀ i, i ∉ vsl → σ'[i]? = σ[i]?) → Q σ' H) : gP K pat v σ H Q := by
  cases pat with
  | nm j =>
    cases hs
    exact k _ (List.length_set ..) (r.set (p := .d x) d) fun i hi => by rw [List.getElem?_set_ne (fun z => hi (by rw [← z]; exact hp j List.mem_cons_self))]
  | tp js =>
    cases x with
    | tuple xs =>
      have hs : (if xs.length = js.length then some (setN L js xs) else none) = some Lx := hs
      split at hs
      · rename_i hl
        cases hs
        obtain ⟨a, vs, rfl, e1, d1⟩ := dp_tuple d
        exact ⟨a, vs, rfl, r.toHR.fz.sqt e1, by rw [dpa_len d1]; exact hl, gNames_ok hl d1 r hp k⟩
      · cases hs
    | none => cases hs
    | bool _ => cases hs
    | int _ => cases hs
    | str _ => cases hs
    | list _ => cases hs
    | dict _ => cases hs
  | lp js =>
    cases x with
    | list xs =>
      have hs : (if xs.length = js.length then some (setN L js xs) else none) = some Lx := hs
      split at hs
      · rename_i hl
        cases hs
        obtain ⟨a, vs, rfl, e1, d1⟩ := dp_list d
        exact ⟨a, vs, rfl, .of (r.toHR.fz _ _ e1), by rw [dpa_len d1]; exact hl, gNames_ok hl d1 r hp k⟩
      · cases hs
    | none => cases hs
    | bool _ => cases hs
    | int _ => cases hs
    | str _ => cases hs
    | tuple _ => cases hs
    | dict _ => cases hs
end
abbrev BX (X : Cx) (scope : Scope) (s : Shared) (H : Hp) (C : Addr) (cl : List (Str × Addr)) (fp : List Addr) : Cx := X.blk s H scope (compEnvC scope cl C X.env) fp
def WEb (X : Cx) (scope : Scope) (e : Expr) (L : PP.Loc) (m : Mem) (Q : QE) : Prop := ∀ (s : Shared) (H : Hp) (C : Addr) (cl : List (Str × Addr)) (fp : List Addr), WE (BX X scope s H C cl fp) e L m Q
def WTb (X : Cx) (scope : Scope) (e : Expr) (L : PP.Loc) (m : Mem) (Q : Bool → Mem → Prop) : Prop := ∀ (s : Shared) (H : Hp) (C : Addr) (cl : List (Str × Addr)) (fp : List Addr), WT (BX X scope s H C cl fp) e L m Q
section
variable {X : Cx} {L : PP.Loc} {m : Mem} {elt tg iter c : Expr} {ifs : List Expr} {scope : Scope} {own : List (Str × Nat)} {pos : Pos} {pat : Pat} {Q : List PyData → Mem → Prop}
theorem lc_read {tt : TT} {te : TE} {w : Wd} {σ : L2.St} {H : Hp} (rp : Rep X.K w L m σ H) (hp : ∀ j ∈ pat.slots, j ∈ own.map (·.2))
    (h : WI X tg iter L m fun xs g m1 => xs.length ≤ sizeLine ∧ ∃ I : Nat → List PyData → Mem → Prop, I 0 [] m1 ∧
      (∀ (i : Nat) (x : PyData) (ys : List PyData) (m' : Mem), xs[i]? = some x → ys.length ≤ i → I i ys m' → g m' ∧ ∃ Lx, setP (wipeL L (own.map (·.2))) pat x = some Lx ∧
        ∀ (w : Wd) (σ : L2.St) (H : Hp), Rep X.K w Lx m' σ H → tt σ H fun b H3 => ∃ w3 m3, w.le w3 ∧ HR X.K w3 m3 H3 ∧ (b = true → ∀ (w : Wd) (H : Hp), Rep X.K w Lx m3 σ H → te σ H (POE X.K w fun y m4 => I (i + 1) (ys ++ [y]) m4)) ∧ (b = false → I (i + 1) ys m3)) ∧
      ∀ ys m', ys.length ≤ xs.length → I xs.length ys m' → g m' ∧ Q ys m')
    (ttm : ∀ (σ : L2.St) (H : Hp) (Q Q' : Bool → Hp → Prop), (∀ b H', Q b H' → Q' b H') → tt σ H Q → tt σ H Q') (tem : ∀ (σ : L2.St) (H : Hp) (Q Q' : VK), (∀ b H', Q b H' → Q' b H') → te σ H Q → te σ H Q') :
    tLc (tUI X tg iter) (gP X.K pat) tt te (own.map (·.2)) σ H (PF X.K w Q) := by
  refine h.go rp fun w1 J xs g m1 H1 l1 r1 jo ⟨hz, I, i0, it, ie⟩ => ?_
  intro D hD
  generalize hvs : own.map (·.2) = vs at *
  obtain ⟨hr0, u0⟩ := r1.toHR.un (o := .lst []) hD
  refine ⟨fun i n H' => n = xs.length - i ∧ i ≤ xs.length ∧ ∃ w' m' ys us, w1.le w' ∧ HR X.K (w'.hide D (.lst us)) m' H' ∧ DPs X.K w'.F us ys ∧ ys.length ≤ i ∧ I i ys m', ⟨xs.length, by simp, Nat.zero_le _, w1, m1, [], [], .refl w1, hr0.hide u0 upd_same, .nil, Nat.le_refl _, i0⟩, ?_⟩
  rintro i n H' ⟨rfl, hi, w', m', ys, us, l', hr', d', hy, q⟩
  by_cases hlt : i < xs.length
  · refine .inr ?_
    have hx : xs[i]? = some xs[i] := List.getElem?_eq_getElem hlt
    obtain ⟨gm, Lx, hs, tst⟩ := it i _ ys m' hx hy q
    obtain ⟨jg, jy⟩ := jo.go (w'.hide D (.lst us)) m' H' i _ (l'.toLe0.trans (Wd.le0_hide _ _ _)) hr' gm hx
    refine ⟨jg, fun H2 => ∃ w2 m2 ys us, w1.le w2 ∧ HR X.K (w2.hide D (.lst us)) m2 H2 ∧ DPs X.K w2.F us ys ∧ ys.length ≤ i + 1 ∧ I (i + 1) ys m2, fun H2 ⟨w2, m2, ys, us, a, b, c, d, e⟩ => ⟨xs.length - (i + 1), by omega, rfl, hlt, w2, m2, ys, us, a, b, c, d, e⟩, fun v H'' y => ?_⟩
    obtain ⟨w2, l2, hr2, d2⟩ := jy v H'' y
    obtain ⟨w3, rfl, l3⟩ := le_hide l2
    have r2 : Rep X.K (w3.hide D (.lst us)) L m' σ H'' := r1.go0 ((l'.trans l3).toLe0.trans (Wd.le0_hide _ _ _)) hr2
    refine gP_ok d2 (r2.wipe vs) hp hs fun σ' e1 r3 e2 => ⟨?_, ?_⟩
    · exact wipe_eq (by rw [e1, wipe_length]) e2
    refine ttm _ _ _ _ (fun b H3 ⟨w4, m3, l4, hr4, qt, qf⟩ => ?_) (tst _ σ' H'' r3)
    obtain ⟨w5, rfl, l5⟩ := le_hide l4
    cases b with
    | true =>
      rw [if_pos rfl]
      refine tem _ _ _ _ (fun v4 H4 ⟨w6, y, m4, l6, hr6, d6, q6⟩ => ?_) (qt rfl _ H3 (r3.go l4 hr4))
      obtain ⟨w7, rfl, l7⟩ := le_hide l6
      obtain ⟨hr7, u7, e7⟩ := hr6.unhide
      have lall : w'.le w7 := (l3.trans l5).trans l7
      have dus := dpa_mono lall.sub _ _ d'
      refine ⟨us, e7, by rw [dpa_len d']; omega, w7, m4, ys ++ [y], us ++ [v4], l'.trans lall, (hr7.updUn u7).hide u7 upd_same, dpa_app dus (.cons d6 .nil), by rw [List.length_append]; simp; omega, q6⟩
    | false =>
      rw [if_neg Bool.false_ne_true]
      have lall : w'.le w5 := l3.trans l5
      exact ⟨w5, m3, ys, us, l'.trans lall, hr4, dpa_mono lall.sub _ _ d', by omega, qf rfl⟩
  · have e : i = xs.length := by omega
    subst e
    obtain ⟨gm, qd⟩ := ie ys m' hy q
    obtain ⟨hr7, u7, e7⟩ := hr'.unhide
    exact .inl ⟨jo.stop (w'.hide D (.lst us)) m' H' _ (l'.toLe0.trans (Wd.le0_hide _ _ _)) hr' gm (Nat.le_refl _), w', ys, m', D, us, rfl, l1.trans l', hr7, e7, u7, d', qd⟩
def tUb (X : Cx) (scope : Scope) (e : Expr) : TE := fun σ H Q => ∀ (s : Shared) (H0 : Hp) (C : Addr) (cl : List (Str × Addr)) (fp : List Addr), tU (BX X scope s H0 C cl fp) e σ H Q
def tUTb (X : Cx) (scope : Scope) (e : Expr) : TT := fun σ H Q => ∀ (s : Shared) (H0 : Hp) (C : Addr) (cl : List (Str × Addr)) (fp : List Addr), tUT (BX X scope s H0 C cl fp) e σ H Q
theorem peUb (e : Expr) (s : Shared) (H : Hp) (C : Addr) (cl : List (Str × Addr)) (fp : List Addr) : PE (BX X scope s H C cl fp) e (tUb X scope e) := ⟨fun pins s1 _ _ _ I h => h s H C cl fp pins s1 I⟩
theorem ptUb (e : Expr) (s : Shared) (H : Hp) (C : Addr) (cl : List (Str × Addr)) (fp : List Addr) : PT (BX X scope s H C cl fp) e (tUTb X scope e) := ⟨fun pins s1 _ _ _ I h => h s H C cl fp pins s1 I⟩
abbrev LcAsk (X : Cx) (L : PP.Loc) (m : Mem) (elt tg iter : Expr) (scope : Scope) (own : List (Str × Nat)) (pat : Pat) (Q : List PyData → Mem → Prop) : Prop :=
  WI X tg iter L m fun xs g m1 => xs.length ≤ sizeLine ∧ ∃ I : Nat → List PyData → Mem → Prop, I 0 [] m1 ∧
      (∀ (i : Nat) (x : PyData) (ys : List PyData) (m' : Mem), xs[i]? = some x → ys.length ≤ i → I i ys m' → g m' ∧ ∃ Lx, setP (wipeL L (own.map (·.2))) pat x = some Lx ∧ WEb X scope elt Lx m' fun y m4 => I (i + 1) (ys ++ [y]) m4) ∧
      ∀ ys m', ys.length ≤ xs.length → I xs.length ys m' → g m' ∧ Q ys m'
abbrev LcAsk1 (X : Cx) (L : PP.Loc) (m : Mem) (elt tg iter c : Expr) (scope : Scope) (own : List (Str × Nat)) (pat : Pat) (Q : List PyData → Mem → Prop) : Prop :=
  WI X tg iter L m fun xs g m1 => xs.length ≤ sizeLine ∧ ∃ I : Nat → List PyData → Mem → Prop, I 0 [] m1 ∧
      (∀ (i : Nat) (x : PyData) (ys : List PyData) (m' : Mem), xs[i]? = some x → ys.length ≤ i → I i ys m' → g m' ∧ ∃ Lx, setP (wipeL L (own.map (·.2))) pat x = some Lx ∧
        WTb X scope c Lx m' fun b m3 => (b = true → WEb X scope elt Lx m3 fun y m4 => I (i + 1) (ys ++ [y]) m4) ∧ (b = false → I (i + 1) ys m3)) ∧
      ∀ ys m', ys.length ≤ xs.length → I xs.length ys m' → g m' ∧ Q ys m'
theorem lc_read0 {w : Wd} {σ : L2.St} {H : Hp} (rp : Rep X.K w L m σ H) (hp : ∀ j ∈ pat.slots, j ∈ own.map (·.2)) (h : LcAsk X L m elt tg iter scope own pat Q) : tLc (tUI X tg iter) (gP X.K pat) tYes (tUb X scope elt) (own.map (·.2)) σ H (PF X.K w Q) :=
  lc_read rp hp (fun w σ H r => tUI_mono (h w σ H r) fun J H1 ⟨w1, m1, xs, g, l, hr, jo, hz, I, i0, it, ie⟩ => ⟨w1, m1, xs, g, l, hr, jo, hz, I, i0, fun i x ys m' hx hy q => let ⟨gm, Lx, hs, k⟩ := it i x ys m' hx hy q; ⟨gm, Lx, hs, fun w σ H r => ⟨w, m', .refl w, r.toHR, fun _ w H r s H0 C cl fp => k s H0 C cl fp w σ H r, fun z => by cases z⟩⟩, ie⟩)
    (fun _ _ _ _ k h => k _ _ h) (fun _ _ _ _ k h s H0 C cl fp => tU_mono (h s H0 C cl fp) k)
theorem lc_read1 {w : Wd} {σ : L2.St} {H : Hp} (rp : Rep X.K w L m σ H) (hp : ∀ j ∈ pat.slots, j ∈ own.map (·.2)) (h : LcAsk1 X L m elt tg iter c scope own pat Q) : tLc (tUI X tg iter) (gP X.K pat) (tUTb X scope c) (tUb X scope elt) (own.map (·.2)) σ H (PF X.K w Q) :=
  lc_read rp hp (fun w σ H r => tUI_mono (h w σ H r) fun J H1 ⟨w1, m1, xs, g, l, hr, jo, hz, I, i0, it, ie⟩ => ⟨w1, m1, xs, g, l, hr, jo, hz, I, i0, fun i x ys m' hx hy q => let ⟨gm, Lx, hs, k⟩ := it i x ys m' hx hy q; ⟨gm, Lx, hs, fun w σ H r s H0 C cl fp => tUT_mono (k s H0 C cl fp w σ H r) fun b H3 ⟨w3, m3, l3, hr3, qt, qf⟩ => ⟨w3, m3, l3, hr3, fun hb w H r s H0 C cl fp => qt hb s H0 C cl fp w σ H r, qf⟩⟩, ie⟩)
    (fun _ _ _ _ k h s H0 C cl fp => tUT_mono (h s H0 C cl fp) k) (fun _ _ _ _ k h s H0 C cl fp => tU_mono (h s H0 C cl fp) k)
theorem wf_lc (own : List (Str × Nat)) (pat : Pat) (hc : X.calm = true) (hN : X.N.Nodup) (ok : BlkOk X.N X.env.scope scope own) (hg : ∀ (s : Shared) (H : Hp) (C : Addr) (cl : List (Str × Addr)) (fp : List Addr), PG (BX X scope s H C cl fp) tg (gP X.K pat)) (hp : ∀ j ∈ pat.slots, j ∈ own.map (·.2))
    (h : LcAsk X L m elt tg iter scope own pat Q) (hs : ∀ x, foldedSetIterable iter X.env x = pure x := by intro _; rfl) : WF X (.ListComp elt [⟨tg, iter, [], 0⟩] scope pos) L m Q :=
  wf_of (pe_lc hc hN (piU tg iter) ok hg (fun _ _ _ _ _ => pts_nil) (fun s H C cl fp => peUb elt s H C cl fp) hs) fun w σ H r => lc_read0 r hp h
theorem wf_lc1 (own : List (Str × Nat)) (pat : Pat) (hc : X.calm = true) (hN : X.N.Nodup) (ok : BlkOk X.N X.env.scope scope own) (hg : ∀ (s : Shared) (H : Hp) (C : Addr) (cl : List (Str × Addr)) (fp : List Addr), PG (BX X scope s H C cl fp) tg (gP X.K pat)) (hp : ∀ j ∈ pat.slots, j ∈ own.map (·.2))
    (h : LcAsk1 X L m elt tg iter c scope own pat Q) (hs : ∀ x, foldedSetIterable iter X.env x = pure x := by intro _; rfl) : WF X (.ListComp elt [⟨tg, iter, [c], 0⟩] scope pos) L m Q :=
  wf_of (pe_lc hc hN (piU tg iter) ok hg (fun s H C cl fp => pts_one (ptUb c s H C cl fp)) (fun s H C cl fp => peUb elt s H C cl fp) hs) fun w σ H r => lc_read1 r hp h
theorem setF_core {i : Nat} {y : Str} {py : Pos} {e : Expr} {spos : Pos} {D : PEnds} {t : TE} (ps : PS X (.Assign [.Name y py] e spos) (tAsg t (gName i)))
    (h : ∀ (w : Wd) (σ : L2.St) (H : Hp), Rep X.K w L m σ H → t σ H (PF X.K w fun xs m1 => D.nx (L.set i (some (.d (.list xs)))) m1 ∨ D.nx (L.set i (some (.ref m1.length))) (m1 ++ [some (.lst xs)])))
    (tm : ∀ (σ : L2.St) (H : Hp) (Q Q' : VK), (∀ b H', Q b H' → Q' b H') → t σ H Q → t σ H Q') : WS X (.Assign [.Name y py] e spos) L m D :=
  ws_of ps fun w σ H r => tm _ _ _ _ (fun v H' ⟨w', xs, m1, p, vs, e1, l, hr, hp, u, d, q⟩ => by
    subst e1
    have r' := r.go l hr
    rcases q with q | q
    · obtain ⟨l2, hr2⟩ := hr.freeze u hp
      exact ⟨_, _, m1, l.trans l2, (r'.go l2 hr2).set (p := .d (.list xs)) (.lst upd_same (dpa_mono l2.sub _ _ d)), q⟩
    · obtain ⟨l2, hr2⟩ := hr.adopt (c := .lst xs) u hp ⟨vs, rfl, d⟩
      refine ⟨_, _, _, l.trans l2, (r'.go l2 hr2).set (p := .ref m1.length) ⟨p, ?_, rfl⟩, q⟩
      show (w'.A ++ [p])[m1.length]? = some p
      rw [← hr.len, List.getElem?_append_right (Nat.le_refl _)]; simp) (h w σ H r)
theorem tLc_mono {wi : TI} {g : TG} {tt : TT} {te : TE} {vs : List Nat} (wm : ∀ (σ : L2.St) (H : Hp) (R R' : It → Hp → Prop), (∀ J H', R J H' → R' J H') → wi σ H R → wi σ H R') (σ : L2.St) (H : Hp) (Q Q' : VK) (k : ∀ b H', Q b H' → Q' b H') (h : tLc wi g tt te vs σ H Q) : tLc wi g tt te vs σ H Q' :=
  wm _ _ _ _ (fun J H1 h D hD => by
    obtain ⟨W, w0, st⟩ := h D hD
    exact ⟨W, w0, fun i n H' wt => (st i n H' wt).imp (fun ⟨a, b⟩ => ⟨a, k _ _ b⟩) id⟩) h
theorem ws_setLc {y : Str} {py : Pos} {spos : Pos} {D : PEnds} (i : Nat) (own : List (Str × Nat)) (pat : Pat) (hc : X.calm = true) (hN : X.N.Nodup) (hy : X.N[i]? = some y) (hyl : X.env.scope.names.lookup y = some .local) (hsw : swapsWith (.ListComp elt [⟨tg, iter, [], 0⟩] scope pos) (some (.Name y py)) spos.line X.env = pure true)
    (ok : BlkOk X.N X.env.scope scope own) (hg : ∀ (s : Shared) (H : Hp) (C : Addr) (cl : List (Str × Addr)) (fp : List Addr), PG (BX X scope s H C cl fp) tg (gP X.K pat)) (hp : ∀ j ∈ pat.slots, j ∈ own.map (·.2))
    (h : LcAsk X L m elt tg iter scope own pat fun xs m1 => D.nx (L.set i (some (.d (.list xs)))) m1 ∨ D.nx (L.set i (some (.ref m1.length))) (m1 ++ [some (.lst xs)])) (hs : ∀ x, foldedSetIterable iter X.env x = pure x := by intro _; rfl) : WS X (.Assign [.Name y py] (.ListComp elt [⟨tg, iter, [], 0⟩] scope pos) spos) L m D :=
  setF_core (ps_setLc hc hN hy hyl hsw (piU tg iter) ok hg (fun _ _ _ _ _ => pts_nil) (fun s H C cl fp => peUb elt s H C cl fp) hs) (fun w σ H r => lc_read0 r hp h) (tLc_mono fun _ _ _ _ k h => tUI_mono h k)
theorem ws_setLc1 {y : Str} {py : Pos} {spos : Pos} {D : PEnds} (i : Nat) (own : List (Str × Nat)) (pat : Pat) (hc : X.calm = true) (hN : X.N.Nodup) (hy : X.N[i]? = some y) (hyl : X.env.scope.names.lookup y = some .local) (hsw : swapsWith (.ListComp elt [⟨tg, iter, [c], 0⟩] scope pos) (some (.Name y py)) spos.line X.env = pure true)
    (ok : BlkOk X.N X.env.scope scope own) (hg : ∀ (s : Shared) (H : Hp) (C : Addr) (cl : List (Str × Addr)) (fp : List Addr), PG (BX X scope s H C cl fp) tg (gP X.K pat)) (hp : ∀ j ∈ pat.slots, j ∈ own.map (·.2))
    (h : LcAsk1 X L m elt tg iter c scope own pat fun xs m1 => D.nx (L.set i (some (.d (.list xs)))) m1 ∨ D.nx (L.set i (some (.ref m1.length))) (m1 ++ [some (.lst xs)])) (hs : ∀ x, foldedSetIterable iter X.env x = pure x := by intro _; rfl) : WS X (.Assign [.Name y py] (.ListComp elt [⟨tg, iter, [c], 0⟩] scope pos) spos) L m D :=
  setF_core (ps_setLc hc hN hy hyl hsw (piU tg iter) ok hg (fun s H C cl fp => pts_one (ptUb c s H C cl fp)) (fun s H C cl fp => peUb elt s H C cl fp) hs) (fun w σ H r => lc_read1 r hp h) (tLc_mono fun _ _ _ _ k h => tUI_mono h k)
theorem ws_setF {y : Str} {py : Pos} {e : Expr} {spos : Pos} {D : PEnds} (i : Nat) (hN : X.N.Nodup) (hi : X.N[i]? = some y) (hx : L2.Loc X.env.scope y) (h : WF X e L m fun xs m1 => D.nx (L.set i (some (.ref m1.length))) (m1 ++ [some (.lst xs)])) (hs : swapsWith e (some (.Name y py)) spos.line X.env = pure false := by rfl) (hf : X.fn y = true ∨ X.env.scope.names.lookup y = some .local := by first | exact .inl rfl | exact .inr rfl | assumption) : WS X (.Assign [.Name y py] e spos) L m D :=
  setF_core (ps_set hN hi hx (peU e) hs hf) (fun w σ H r => tU_mono (h w σ H r) fun v H' ⟨w', xs, m1, p, vs, e1, l, hr, hp, u, d, q⟩ => ⟨w', xs, m1, p, vs, e1, l, hr, hp, u, d, .inr q⟩) fun _ _ _ _ k h => tU_mono h k
theorem pg_nm {x : Str} {tp : Pos} {j : Nat} {s : Shared} {H : Hp} {C : Addr} {cl : List (Str × Addr)} {fp : List Addr} (hN : X.N.Nodup) (hi : X.N[j]? = some x) (hx : L2.Loc (compEnvC scope cl C X.env).scope x) (hf : (scope.names.lookup x == some .cell) = true ∨ (compEnvC scope cl C X.env).scope.names.lookup x = some .local) : PG (BX X scope s H C cl fp) (.Name x tp) (gP X.K (.nm j)) := pg_name (X := BX X scope s H C cl fp) hN hi hx hf
end
end PP
namespace PP
open PySem PySem.Spec PyProof.Rows L2
abbrev FSp := List PV → Mem → (PV → Mem → Prop) → Prop
def toSp (K : PySem.W.Frag) (f : FSp) : Sp := fun vs H Q _ => ∃ (w : Wd) (pvs : List PV) (m : Mem) (q : PV → Mem → Prop), HR K w m H ∧ RVs K w vs pvs ∧ f pvs m q ∧
  ∀ (w' : Wd) (v : V) (p : PV) (m' : Mem) (H' : Hp), w.le w' → HR K w' m' H' → RV K w' v p → q p m' → Q v H'
def cellsA (bs : List Addr) (rs : List (List PyData)) : Mem := (bs.zip rs).map fun p => some (.lstA p.1 p.2)
theorem cellsA_len {bs : List Addr} {rs : List (List PyData)} (h : bs.length = rs.length) : (cellsA bs rs).length = bs.length := by
  unfold cellsA
  rw [List.length_map, List.length_zip]; omega
theorem cellsA_at {bs : List Addr} {rs : List (List PyData)} {i : Nat} {b : Addr} {r : List PyData} (h1 : bs[i]? = some b) (h2 : rs[i]? = some r) : (cellsA bs rs)[i]? = some (some (.lstA b r)) := by
  unfold cellsA
  rw [List.getElem?_map, List.getElem?_zip_eq_some (z := (b, r)) |>.mpr ⟨h1, h2⟩]; rfl
def Wd.pushAll (w : Wd) (bs : List Addr) : Wd := { w with A := w.A ++ bs }
theorem HR.adoptAll {K : PySem.W.Frag} {H : Hp} : ∀ (bs : List Addr) (rs : List (List PyData)) {w : Wd} {m : Mem}, HR K w m H → bs.length = rs.length → bs.Nodup → (∀ b ∈ bs, Un1 w b) →
    (∀ (i : Nat) (b : Addr) (r : List PyData), bs[i]? = some b → rs[i]? = some r → ∃ vs, H b = some (.lst vs) ∧ DPs K w.F vs r) → w.le (w.pushAll bs) ∧ HR K (w.pushAll bs) (m ++ cellsA bs rs) H
  | [], [], w, m, h, _, _, _, _ => by
    have e : w.pushAll [] = w := by unfold Wd.pushAll; rw [List.append_nil]
    have e2 : m ++ cellsA [] [] = m := List.append_nil _
    rw [e, e2]
    exact ⟨.refl w, h⟩
  | b :: bs, r :: rs, w, m, h, hl, nd, un, at_ => by
    obtain ⟨vs, e, d⟩ := at_ 0 b r rfl rfl
    obtain ⟨nb, nd⟩ := List.nodup_cons.mp nd
    obtain ⟨l1, h1⟩ := h.adopt (c := .lstA b r) (un b List.mem_cons_self) e ⟨rfl, vs, rfl, d⟩
    have un2 : ∀ x ∈ bs, Un1 (w.push b) x := fun x hx => by
      have u := un x (List.mem_cons_of_mem _ hx)
      refine ⟨u.f, fun z => ?_, u.t⟩
      rcases List.mem_append.mp (show x ∈ w.A ++ [b] from z) with z | z
      · exact u.a z
      · rw [List.mem_singleton.mp z] at hx
        exact nb hx
    obtain ⟨l2, h2⟩ := HR.adoptAll bs rs h1 (by simpa using hl) nd un2 fun i b2 r2 e1 e2 => at_ (i + 1) b2 r2 (by simpa using e1) (by simpa using e2)
    have e3 : (w.push b).pushAll bs = w.pushAll (b :: bs) := by
      unfold Wd.pushAll Wd.push
      rw [List.append_assoc]; rfl
    have e4 : m ++ [some (Cell.lstA b r)] ++ cellsA bs rs = m ++ cellsA (b :: bs) (r :: rs) := by
      rw [List.append_assoc]; rfl
    rw [e3] at h2 l2
    rw [e4] at h2
    exact ⟨l1.trans l2, h2⟩
def Adj (n : Nat) (q : PV → Mem → Prop) : PV → Mem → Prop := fun p m => n ≤ m.length ∧
  ((∃ x, p = .d x ∧ q (.d x) (m.take n)) ∨
   ((∃ k, p = .ref k ∧ k < n ∧ q (.ref k) (m.take n)) ∨ (∃ k g x y z, p = .ref (k + 1) ∧ n ≤ k ∧ m[k]? = some (some (.lst g)) ∧ m[k + 1]? = some (some (.own x y z)) ∧ q (.ref (n + 1)) (m.take n ++ [some (.lst g), some (.own x y z)]))) ∨
   (∃ k c, p = .ref k ∧ n ≤ k ∧ m[k]? = some (some c) ∧ match c with
    | .own _ _ _ => False
    | .rws bs => ∃ (j : Nat) (rs : List (List PyData)), n ≤ j ∧ bs.length = rs.length ∧ (∀ i, i < bs.length → m[j + i]? = (cellsA bs rs)[i]?) ∧ q (.ref (n + bs.length)) (m.take n ++ cellsA bs rs ++ [some (.rws bs)])
    | c => q (.ref n) (m.take n ++ [some c])))
theorem RVs.length {K : PySem.W.Frag} {w : Wd} {vs : List V} {ps : List PV} (h : RVs K w vs ps) : vs.length = ps.length := Paired.length h
section
variable {K : PySem.W.Frag} {w w' : Wd} {m m' : Mem} {H H' : Hp}
theorem adj_ok {q : PV → Mem → Prop} {v : V} {p : PV} {Q : VK} (hl : w.A.length = m.length) (l : w.le w') (hr : HR K w' m' H') (r : RV K w' v p) (a : Adj m.length q p m')
    (k : ∀ (w' : Wd) (v : V) (p : PV) (m' : Mem) (H' : Hp), w.le w' → HR K w' m' H' → RV K w' v p → q p m' → Q v H') : Q v H' := by
  obtain ⟨hn, a⟩ := a
  have lc : w.le (w'.cut m.length) := l.cut (by omega)
  have hc := hr.cut m.length
  rcases a with ⟨x, rfl, qq⟩ | (⟨j, rfl, hj, qq⟩ | ⟨j, g, x, y, z, rfl, hj, hm, hm2, qq⟩) | ⟨j, c, rfl, hj, hm, qq⟩
  · exact k _ v (.d x) _ H' lc hc r qq
  · obtain ⟨ad, ea, ev⟩ := r
    refine k _ v (.ref j) _ H' lc hc ⟨ad, ?_, ev⟩ qq
    show (w'.A.take m.length)[j]? = some ad
    rw [List.getElem?_take, if_pos hj]; exact ea
  · obtain ⟨a1, o1, ea1, eo1, us, rfl, dg⟩ := hr.cell j _ hm
    obtain ⟨a2, o2, ea2, eo2, j', q', e3, e4, rfl⟩ := hr.cell (j + 1) _ hm2
    obtain ⟨ad', ea', ev⟩ := r
    rw [ea2] at ea'; cases ea'
    have e5 : j' = j := by omega
    subst e5
    rw [ea1] at e4; cases e4
    have un : ∀ (i : Nat) (ad : Addr) (c : Cell), m.length ≤ i → w'.A[i]? = some ad → m'[i]? = some (some c) → Un1 (w'.cut m.length) ad := fun i ad c hi ea hc2 => by
      refine ⟨hr.sep i ad c ea hc2, fun z => ?_, fun z => ?_⟩
      · obtain ⟨i2, hi2⟩ := List.getElem?_of_mem z
        have hi' : (w'.A.take m.length)[i2]? = some ad := hi2
        rw [List.getElem?_take] at hi'
        split at hi'
        · rename_i hlt
          have := nodup_at hr.nd hi' ea
          omega
        · cases hi'
      · obtain ⟨t, ht, et⟩ := List.mem_map.mp z
        exact (hr.tp t ht).2.2 (et ▸ List.mem_of_getElem? ea)
    have hcl : (w'.A.take m.length).length = m.length := by rw [List.length_take, hr.len]; omega
    obtain ⟨l2, hr2⟩ := hc.adopt (c := .lst g) (un j' a1 _ hj ea1 hm) eo1 ⟨us, rfl, dg⟩
    have u2 := un (j' + 1) a2 _ (by omega) ea2 hm2
    have u3 : Un1 ((w'.cut m.length).push a1) a2 := ⟨u2.f, fun z => by
      rcases List.mem_append.mp (show a2 ∈ (w'.cut m.length).A ++ [a1] from z) with z | z
      · exact u2.a z
      · have e6 : a2 = a1 := by simpa using z
        rw [e6] at ea2
        have := nodup_at hr.nd ea1 ea2
        omega, u2.t⟩
    have hml : (m'.take m.length ++ [some (Cell.lst g)]).length = m.length + 1 := by rw [List.length_append, List.length_take, List.length_singleton]; omega
    obtain ⟨l3, hr3⟩ := hr2.adopt (c := .own x y z) u3 eo2 ⟨m.length, a1, hml, by
      show ((w'.A.take m.length) ++ [a1])[m.length]? = some a1
      rw [List.getElem?_append_right (by omega), hcl]; simp, rfl⟩
    refine k _ v (.ref (m.length + 1)) _ H' (lc.trans (l2.trans l3)) (by rw [List.append_assoc] at hr3; exact hr3) ⟨a2, ?_, ev⟩ qq
    show (((w'.A.take m.length) ++ [a1]) ++ [a2])[m.length + 1]? = some a2
    rw [List.getElem?_append_right (by rw [List.length_append, hcl]; simp), List.length_append, hcl]; simp
  · obtain ⟨ad, o, ea, eo, cr⟩ := hr.cell j c hm
    obtain ⟨ad', ea', ev⟩ := r
    rw [ea] at ea'; cases ea'
    by_cases hrws : ∃ bs, c = .rws bs
    · obtain ⟨bs, rfl⟩ := hrws
      obtain ⟨j2, rs, hj2, hbl, hat, qq⟩ := qq
      have una : ∀ (i : Nat) (ad : Addr) (c : Cell), w'.A[i]? = some ad → m.length ≤ i → m'[i]? = some (some c) → Un1 (w'.cut m.length) ad := fun i ad c ea hi hc2 => by
        refine ⟨hr.sep i ad c ea hc2, fun z => ?_, fun z => ?_⟩
        · obtain ⟨i2, hi2⟩ := List.getElem?_of_mem z
          have hi' : (w'.A.take m.length)[i2]? = some ad := hi2
          rw [List.getElem?_take] at hi'
          split at hi'
          · rename_i hlt
            have := nodup_at hr.nd hi' ea
            omega
          · cases hi'
        · obtain ⟨t, ht, et⟩ := List.mem_map.mp z
          exact (hr.tp t ht).2.2 (et ▸ List.mem_of_getElem? ea)
      have row : ∀ (i : Nat) (b : Addr) (r : List PyData), bs[i]? = some b → rs[i]? = some r → m'[j2 + i]? = some (some (.lstA b r)) ∧ w'.A[j2 + i]? = some b ∧ ∃ vs, H' b = some (.lst vs) ∧ DPs K w'.F vs r := fun i b r h1 h2 => by
        have e1 : m'[j2 + i]? = some (some (.lstA b r)) := by rw [hat i (List.getElem?_eq_some_iff.mp h1).1, cellsA_at h1 h2]
        obtain ⟨a9, o9, e2, e3, rfl, vs, rfl, d⟩ := hr.cell _ _ e1
        exact ⟨e1, e2, vs, e3, d⟩
      have rowb : ∀ (i : Nat) (b : Addr), bs[i]? = some b → ∃ r, rs[i]? = some r := fun i b h1 => ⟨_, List.getElem?_eq_getElem (by have := (List.getElem?_eq_some_iff.mp h1).1; omega)⟩
      have ndb : bs.Nodup := by
        have eb : bs = (w'.A.drop j2).take bs.length := by
          refine List.ext_getElem? fun i => ?_
          rw [List.getElem?_take]
          by_cases hi : i < bs.length
          · obtain ⟨b, hb⟩ : ∃ b, bs[i]? = some b := ⟨_, List.getElem?_eq_getElem hi⟩
            obtain ⟨r, hr9⟩ := rowb i b hb
            rw [if_pos hi, List.getElem?_drop, hb, (row i b r hb hr9).2.1]
          · rw [if_neg hi, List.getElem?_eq_none (by omega)]
        rw [eb]
        exact hr.nd.sublist ((List.take_sublist ..).trans (List.drop_sublist ..))
      have unb : ∀ b ∈ bs, Un1 (w'.cut m.length) b := fun b hb => by
        obtain ⟨i, hi⟩ := List.getElem?_of_mem hb
        obtain ⟨r, hr9⟩ := rowb i b hi
        obtain ⟨e1, e2, _⟩ := row i b r hi hr9
        exact una _ _ _ e2 (by omega) e1
      obtain ⟨l2, hr2⟩ := HR.adoptAll bs rs hc hbl ndb unb fun i b r h1 h2 => (row i b r h1 h2).2.2
      have hcl : (w'.A.take m.length).length = m.length := by rw [List.length_take, hr.len]; omega
      have u2 := una j ad _ ea hj hm
      have u3 : Un1 ((w'.cut m.length).pushAll bs) ad := ⟨u2.f, fun z => by
        rcases List.mem_append.mp (show ad ∈ (w'.cut m.length).A ++ bs from z) with z | z
        · exact u2.a z
        · obtain ⟨i, hi⟩ := List.getElem?_of_mem z
          obtain ⟨r, hr9⟩ := rowb i ad hi
          obtain ⟨e1, e2, _⟩ := row i ad r hi hr9
          have e3 := nodup_at hr.nd e2 ea
          rw [e3, hm] at e1
          exact absurd (Option.some.inj (Option.some.inj e1)) (by intro z; cases z), u2.t⟩
      obtain ⟨l3, hr3⟩ := hr2.adopt (c := .rws bs) u3 eo cr
      refine k _ v (.ref (m.length + bs.length)) _ H' (lc.trans (l2.trans l3)) hr3 ⟨ad, ?_, ev⟩ qq
      show (((w'.A.take m.length) ++ bs) ++ [ad])[m.length + bs.length]? = some ad
      rw [List.getElem?_append_right (by rw [List.length_append, hcl]; omega), List.length_append, hcl]; simp
    have nr : ∀ bs, c ≠ .rws bs := fun bs e => hrws ⟨bs, e⟩
    have un : Un1 (w'.cut m.length) ad := by
      refine ⟨hr.sep j ad c ea hm, fun z => ?_, fun z => ?_⟩
      · obtain ⟨i, hi⟩ := List.getElem?_of_mem z
        have hi' : (w'.A.take m.length)[i]? = some ad := hi
        rw [List.getElem?_take] at hi'
        split at hi'
        · rename_i hlt
          have := nodup_at hr.nd hi' ea
          omega
        · cases hi'
      · obtain ⟨t, ht, et⟩ := List.mem_map.mp z
        exact (hr.tp t ht).2.2 (et ▸ List.mem_of_getElem? ea)
    obtain ⟨cr2, qq⟩ : CR K (w'.cut m.length) (m'.take m.length).length ad c o ∧ q (.ref m.length) (m'.take m.length ++ [some c]) := by
      cases c with
      | lst ds => exact ⟨cr, qq⟩
      | dK kvs => exact ⟨cr, qq⟩
      | own a b c => exact False.elim qq
      | dD kvs => exact ⟨cr, qq⟩
      | lkD ob us kvs => exact ⟨cr, qq⟩
      | lkK ob us kvs => exact ⟨cr, qq⟩
      | lstA b ds => exact ⟨cr, qq⟩
      | dR kvs => exact ⟨cr, qq⟩
      | rws bs => exact absurd rfl (nr bs)
    obtain ⟨l2, hr2⟩ := hc.adopt (c := c) un eo cr2
    refine k _ v (.ref m.length) _ H' (lc.trans l2) hr2 ⟨ad, ?_, ev⟩ qq
    show ((w'.A.take m.length) ++ [ad])[m.length]? = some ad
    have : (w'.A.take m.length).length = m.length := by rw [List.length_take, hr.len]; omega
    rw [List.getElem?_append_right (by omega), this]; simp
end
abbrev startL (N : List Str) (pvs : List PV) : PP.Loc := pvs.map some ++ List.replicate (N.length - pvs.length) none
theorem rep_start {K : PySem.W.Frag} {w : Wd} {m : Mem} {H : Hp} {vs : List V} {pvs : List PV} (N : List Str) (hr : HR K w m H) (r : RVs K w vs pvs) : Rep K w (startL N pvs) m (L2.start N vs) H := by
  refine ⟨hr, ?_, fun i p e => ?_⟩
  · unfold L2.start startL
    rw [List.length_append, List.length_append, List.length_map, List.length_map, List.length_replicate, List.length_replicate, r.length]
  · unfold startL at e
    unfold L2.start
    by_cases hi : i < pvs.length
    · rw [List.getElem?_append_left (by simpa using hi), List.getElem?_map] at e
      rw [List.getElem?_append_left (by rw [List.length_map, r.length]; exact hi), List.getElem?_map]
      cases e1 : pvs[i]? with
      | none => rw [e1] at e; cases e
      | some q =>
        rw [e1] at e
        have e' : q = p := by simpa using e
        subst e'
        have key : ∀ {vs : List V} {ps : List PV} {i : Nat} {q : PV}, RVs K w vs ps → ps[i]? = some q → ∃ v, vs[i]? = some v ∧ RV K w v q := by
          intro vs ps i q r e
          induction r generalizing i with
          | nil => simp at e
          | cons r1 _ ih =>
            cases i with
            | zero => simp at e; subst e; exact ⟨_, rfl, r1⟩
            | succ i =>
              obtain ⟨v, h1, h2⟩ := ih (i := i) (by simpa using e)
              exact ⟨v, by simpa using h1, h2⟩
        obtain ⟨v, h1, h2⟩ := key r e1
        exact ⟨v, by rw [h1]; rfl, h2⟩
    · rw [List.getElem?_append_right (by simpa using hi), List.getElem?_replicate] at e
      split at e <;> cases e
abbrev DX (P : Program) (w : World) (K : PySem.W.Frag) (mg : Str → Option Value) (base : Heap) (N : List Str) (qual : Str) (st : Stmt) (f : Addr) (cdv : Value) (A : Around) (outer : List Env) (s : Shared) (H : Hp) (E : XK) : Cx := (cxOf CX0 P w K mg base N qual (defScope st) f cdv A outer s H E).nox
abbrev fnE (n : Nat) (q : PV → Mem → Prop) : PEnds := { nx := fun _ m => Adj n q (.d .none) m, rt := Adj n q }
section
variable {P : Program} {w : World} {K : PySem.W.Frag} {mg : Str → Option Value} {base : Heap}
theorem fn_pp {x qual : Str} {st : Stmt} {f : Addr} {fd : FuncData} {N ps : List Str} {k : Nat} {sp : FSp} (F : Fun K x qual st f fd) (S : FnScope N ps (defScope st)) (len : ∀ pvs m q, sp pvs m q → pvs.length = ps.length)
    (body : ∀ (cdv : Value) (A : Around) (outer : List Env) (s : Shared) (H : Hp) (E : XK), Room k (DX P w K mg base N qual st f cdv A outer s H E).A → ∀ pvs m q, sp pvs m q → WSs (DX P w K mg base N qual st f cdv A outer s H E) (defBody st) (startL N pvs) m (fnE m.length q)) :
    FnOk P w K mg base CX0 (k + 1) f fd ps (toSp K sp) := by
  refine F.ok S (fun vs H Q E ⟨w, pvs, m, q, hr, r, h, k⟩ => by rw [r.length]; exact len _ _ _ h) fun cdv A outer s H vs Q E hrm h => ?_
  refine ⟨_, pssU _, ?_⟩
  obtain ⟨wd, pvs, m, q, hr, r, h, kk⟩ := h
  refine tUSs_mono (body cdv A outer s H E hrm pvs m q h wd _ H (rep_start N hr r)) ?_ ?_ ?_ ?_
  · rintro σ' H' ⟨w', L', m', l, r', a⟩
    exact adj_ok hr.len l r'.toHR (show RV K w' V.non (.d .none) from DP.non) a kk
  · rintro v H' ⟨w', p, m', l, hr', d, a⟩
    exact adj_ok hr.len l hr' d a kk
  · rintro σ' H' ⟨_, _, _, _, _, z⟩
    exact z
  · rintro σ' H' ⟨_, _, _, _, _, z⟩
    exact z
end
def ren (ks : List Nat) : PV → PV
  | .ref k => .ref (ks.idxOf k)
  | p => p
def refsIn (ks : List Nat) : PV → Prop
  | .ref k => k ∈ ks
  | _ => True
def keepO (pv : Option Nat) (k : Nat) : Option Cell → Option Cell
  | some (.own a b c) => match pv with
    | some j => if j + 1 = k then some (.own a b c) else none
    | none => none
  | c => c
def cellsFr (m : Mem) : Option Nat → List Nat → Mem
  | _, [] => []
  | pv, k :: ks => keepO pv k (m[k]?).join :: cellsFr m (some k) ks
def cellsAt (m : Mem) (ks : List Nat) : Mem := cellsFr m none ks
theorem cellsFr_len (m : Mem) : ∀ (pv : Option Nat) (ks : List Nat), (cellsFr m pv ks).length = ks.length
  | _, [] => rfl
  | _, k :: ks => congrArg (· + 1) (cellsFr_len m (some k) ks)
theorem cellsAt_len {m : Mem} {ks : List Nat} : (cellsAt m ks).length = ks.length := cellsFr_len m none ks
def ahead (pv : Option Nat) (ks : List Nat) : Nat → Option Nat
  | 0 => pv
  | j + 1 => ks[j]?
theorem cellsFr_at {m : Mem} {c : Cell} : ∀ {pv : Option Nat} {ks : List Nat} {j : Nat}, (cellsFr m pv ks)[j]? = some (some c) → ∃ k, ks[j]? = some k ∧ m[k]? = some (some c) ∧ ((∃ x y z, c = .own x y z) → ∃ i, ahead pv ks j = some i ∧ i + 1 = k)
  | _, [], _, e => by cases e
  | pv, k :: ks, 0, e => by
    have e : keepO pv k (m[k]?).join = some c := by simpa [cellsFr] using e
    refine ⟨k, rfl, ?_, ?_⟩
    · cases r : (m[k]?).join with
      | none => rw [r] at e; cases e
      | some d =>
        rw [r] at e
        have ed : d = c := by
          cases d with
          | lst _ => exact Option.some.inj e
          | dK _ => exact Option.some.inj e
          | dD _ => exact Option.some.inj e
          | lkD _ _ _ => exact Option.some.inj e
          | lkK _ _ _ => exact Option.some.inj e
          | lstA _ _ => exact Option.some.inj e
          | rws _ => exact Option.some.inj e
          | dR _ => exact Option.some.inj e
          | own x y z =>
            unfold keepO at e
            cases pv with
            | none => cases e
            | some i =>
              dsimp only at e
              split at e
              · exact Option.some.inj e
              · cases e
        subst ed
        cases q : m[k]? with
        | none => rw [q] at r; cases r
        | some o => rw [q] at r; rw [show o = some d from r]
    · rintro ⟨x, y, z, rfl⟩
      cases r : (m[k]?).join with
      | none => rw [r] at e; cases e
      | some d =>
        rw [r] at e
        cases d with
        | lst _ => cases e
        | dK _ => cases e
        | dD _ => cases e
        | lkD _ _ _ => cases e
        | lkK _ _ _ => cases e
        | lstA _ _ => cases e
        | rws _ => cases e
        | dR _ => cases e
        | own x y z =>
          unfold keepO at e
          cases pv with
          | none => cases e
          | some i =>
            dsimp only at e
            split at e
            · rename_i h; exact ⟨i, rfl, h⟩
            · cases e
  | pv, k :: ks, j + 1, e => by
    have e : (cellsFr m (some k) ks)[j]? = some (some c) := by simpa [cellsFr] using e
    obtain ⟨k', h1, h2, h3⟩ := cellsFr_at e
    refine ⟨k', by simpa using h1, h2, fun h => ?_⟩
    obtain ⟨i, h4, h5⟩ := h3 h
    refine ⟨i, ?_, h5⟩
    cases j with
    | zero => exact h4
    | succ j => exact h4
def setAll (m : Mem) : List Nat → Mem → Mem
  | k :: ks, c :: cs => setAll (m.set k c) ks cs
  | _, _ => m
theorem setAll_len : ∀ (ks : List Nat) (cs m : Mem), (setAll m ks cs).length = m.length
  | [], [], _ => rfl
  | [], _ :: _, _ => rfl
  | k :: ks, [], m => rfl
  | k :: ks, c :: cs, m => by unfold setAll; rw [setAll_len ks cs, List.length_set]
theorem setAll_out : ∀ {ks : List Nat} {cs m : Mem} {i : Nat}, i ∉ ks → (setAll m ks cs)[i]? = m[i]?
  | [], cs, m, i, _ => by cases cs <;> rfl
  | k :: ks, [], m, i, _ => rfl
  | k :: ks, c :: cs, m, i, h => by
    unfold setAll
    rw [setAll_out (fun z => h (List.mem_cons_of_mem _ z)), List.getElem?_set_ne (fun z => h (by rw [← z]; exact List.mem_cons_self))]
theorem setAll_in : ∀ {ks : List Nat} {cs m : Mem} {j k : Nat} {c : Option Cell}, ks.Nodup → (∀ k ∈ ks, k < m.length) → ks[j]? = some k → cs[j]? = some c → (setAll m ks cs)[k]? = some c
  | [], _, _, _, _, _, _, _, e, _ => by simp at e
  | _ :: _, [], _, _, _, _, _, _, _, e => by simp at e
  | k0 :: ks, c0 :: cs, m, 0, k, c, nd, hl, e1, e2 => by
    have e1' : k0 = k := by simpa using e1
    have e2' : c0 = c := by simpa using e2
    subst e1'; subst e2'
    unfold setAll
    rw [setAll_out (List.nodup_cons.mp nd).1, List.getElem?_set_self (hl k0 List.mem_cons_self)]
  | k0 :: ks, c0 :: cs, m, j + 1, k, c, nd, hl, e1, e2 => by
    unfold setAll
    exact setAll_in (List.nodup_cons.mp nd).2 (fun i hi => by rw [List.length_set]; exact hl i (List.mem_cons_of_mem _ hi)) (by simpa using e1) (by simpa using e2)
section
variable {K : PySem.W.Frag} {w : Wd} {m : Mem} {H : Hp} {ks : List Nat}
def othersOf (w : Wd) (H : Hp) (ks : List Nat) : List (Addr × HO) := (List.range w.A.length).filterMap fun k => if k ∈ ks then none else
  match w.A[k]? with
  | some a => match w.F a with
    | none => (H a).map fun o => (a, o)
    | some _ => none
  | none => none
theorem mem_others {p : Addr × HO} : p ∈ othersOf w H ks ↔ ∃ k, k ∉ ks ∧ w.A[k]? = some p.1 ∧ w.F p.1 = none ∧ H p.1 = some p.2 := by
  unfold othersOf
  rw [List.mem_filterMap]
  constructor
  · rintro ⟨k, _, e⟩
    split at e
    · cases e
    · rename_i hk
      split at e
      · rename_i a ea
        split at e
        · rename_i hf
          cases q : H a with
          | none => rw [q] at e; cases e
          | some o =>
            rw [q] at e
            have e' : (a, o) = p := by simpa using e
            subst e'
            exact ⟨k, hk, ea, hf, q⟩
        · cases e
      · cases e
  · rintro ⟨k, hk, ea, hf, q⟩
    refine ⟨k, List.mem_range.mpr (List.getElem?_eq_some_iff.mp ea).1, ?_⟩
    rw [if_neg hk, ea]
    simp only [hf, q, Option.map_some]
theorem others_nodup (nd : w.A.Nodup) : ((othersOf w H ks).map (·.1)).Nodup := by
  have gen : ∀ (l : List Nat), l.Nodup → ((l.filterMap fun k => if k ∈ ks then none else match w.A[k]? with | some a => (match w.F a with | none => (H a).map fun o => (a, o) | some _ => none) | none => none).map (·.1)).Nodup := by
    intro l
    induction l with
    | nil => intro _; exact .nil
    | cons k l ih =>
      intro hl
      rw [List.nodup_cons] at hl
      rw [List.filterMap_cons]
      split
      · exact ih hl.2
      · rename_i p e
        rw [List.map_cons, List.nodup_cons]
        refine ⟨fun z => ?_, ih hl.2⟩
        have hk : w.A[k]? = some p.1 := by
          split at e
          · cases e
          · split at e
            · rename_i a ea
              split at e
              · cases q : H a with
                | none => rw [q] at e; cases e
                | some o => rw [q] at e; simp at e; rw [← e]; exact ea
              · cases e
            · cases e
        obtain ⟨p', hp', ep⟩ := List.mem_map.mp z
        obtain ⟨k', hk', e'⟩ := List.mem_filterMap.mp hp'
        have hk2 : w.A[k']? = some p'.1 := by
          split at e'
          · cases e'
          · split at e'
            · rename_i a ea
              split at e'
              · cases q : H a with
                | none => rw [q] at e'; cases e'
                | some o => rw [q] at e'; simp at e'; rw [← e']; exact ea
              · cases e'
            · cases e'
        rw [ep] at hk2
        have := nodup_at nd hk2 hk
        subst this
        exact hl.1 hk'
  exact gen _ List.nodup_range
def Wd.sub (w : Wd) (H : Hp) (ks : List Nat) : Wd := { A := ks.map fun k => w.A.getD k 0, T := w.T ++ othersOf w H ks, F := w.F }
theorem sub_at (w : Wd) (H : Hp) {j k : Nat} (e : ks[j]? = some k) (hk : k < w.A.length) : (w.sub H ks).A[j]? = w.A[k]? := by
  show (ks.map fun k => w.A.getD k 0)[j]? = _
  rw [List.getElem?_map, e, List.getElem?_eq_getElem hk]
  simp [List.getD, List.getElem?_eq_getElem hk]
theorem sub_inv (w : Wd) (H : Hp) (hk : ∀ k ∈ ks, k < w.A.length) {j : Nat} {a : Addr} (e : (w.sub H ks).A[j]? = some a) : ∃ k, ks[j]? = some k ∧ w.A[k]? = some a := by
  have e' : (ks.map fun k => w.A.getD k 0)[j]? = some a := e
  rw [List.getElem?_map] at e'
  cases q : ks[j]? with
  | none => rw [q] at e'; cases e'
  | some k =>
    refine ⟨k, rfl, ?_⟩
    rw [← sub_at w H q (hk k (List.mem_of_getElem? q))]; exact e
theorem HR.subWorld (h : HR K w m H) (nd : ks.Nodup) (hk : ∀ k ∈ ks, k < m.length) : HR K (w.sub H ks) (cellsAt m ks) H := by
  have hk' : ∀ k ∈ ks, k < w.A.length := fun k z => by rw [h.len]; exact hk k z
  refine ⟨h.fz, ?_, ?_, fun j a c e1 e2 => ?_, fun a ha => ?_, fun p hp => ?_, ?_, fun j c e => ?_⟩
  · show (ks.map _).length = _
    rw [List.length_map, cellsAt_len]
  · show (ks.map fun k => w.A.getD k 0).Nodup
    refine List.Pairwise.map _ (R := fun a b => a ≠ b ∧ a ∈ ks ∧ b ∈ ks) (fun a b ⟨hab, ha, hb⟩ z => hab ?_) ?_
    · have h1 := hk' a ha
      have h2 := hk' b hb
      have e1 : w.A[a]? = some (w.A.getD a 0) := by rw [List.getElem?_eq_getElem h1]; simp [List.getD, List.getElem?_eq_getElem h1]
      have e2 : w.A[b]? = some (w.A.getD a 0) := by rw [z, List.getElem?_eq_getElem h2]; simp [List.getD, List.getElem?_eq_getElem h2]
      exact nodup_at h.nd e1 e2
    · exact List.Pairwise.imp_of_mem (fun {a b} ha hb hab => ⟨hab, ha, hb⟩) nd
  · obtain ⟨k, e3, e4⟩ := sub_inv w H hk' e1
    obtain ⟨k', e5, e6, _⟩ := cellsFr_at e2
    rw [e3] at e5; cases e5
    exact h.sep k a c e4 e6
  · obtain ⟨j, e1⟩ := List.getElem?_of_mem ha
    obtain ⟨k, e3, e4⟩ := sub_inv w H hk' e1
    exact h.occ a (List.mem_of_getElem? e4)
  · have notin : ∀ a, (∀ k, w.A[k]? = some a → k ∉ ks) → a ∉ (w.sub H ks).A := fun a hn z => by
      obtain ⟨j, e1⟩ := List.getElem?_of_mem z
      obtain ⟨k, e3, e4⟩ := sub_inv w H hk' e1
      exact hn k e4 (List.mem_of_getElem? e3)
    rcases List.mem_append.mp hp with z | z
    · obtain ⟨e1, e2, e3⟩ := h.tp p z
      exact ⟨e1, e2, notin _ fun k ek _ => e3 (List.mem_of_getElem? ek)⟩
    · obtain ⟨k, hk1, ea, hf, eh⟩ := mem_others.mp z
      exact ⟨eh, hf, notin _ fun k2 ek2 z2 => hk1 (nodup_at h.nd ek2 ea ▸ z2)⟩
  · show ((w.T ++ othersOf w H ks).map (·.1)).Nodup
    rw [List.map_append]
    refine List.nodup_append.mpr ⟨h.tnd, others_nodup h.nd, fun a ha b hb z => ?_⟩
    obtain ⟨p, hp, e1⟩ := List.mem_map.mp ha
    obtain ⟨q, hq, e2⟩ := List.mem_map.mp hb
    obtain ⟨k, _, ea, _⟩ := mem_others.mp hq
    exact (h.tp p hp).2.2 (by rw [e1, z, ← e2]; exact List.mem_of_getElem? ea)
  · obtain ⟨k, e3, e4, e0⟩ := cellsFr_at e
    obtain ⟨a, o, e5, e6, r⟩ := h.cell k c e4
    refine ⟨a, o, by rw [sub_at w H e3 (hk' k (List.mem_of_getElem? e3))]; exact e5, e6, ?_⟩
    cases c with
    | lst ds => exact r
    | dK kvs => exact r
    | dD kvs => exact r
    | lkD ob us kvs => exact r
    | lkK ob us kvs => exact r
    | lstA b ds => exact r
    | rws bs => exact r
    | dR kvs => exact r
    | own x y z =>
      obtain ⟨i, h1, h2⟩ := e0 ⟨x, y, z, rfl⟩
      obtain ⟨j', q, r1, r2, r3⟩ := r
      cases j with
      | zero => cases h1
      | succ j =>
        have h1 : ks[j]? = some i := h1
        refine ⟨j, q, rfl, ?_, r3⟩
        rw [sub_at w H h1 (hk' i (List.mem_of_getElem? h1)), show i = j' by omega]
        exact r2
theorem sub_rv (h : HR K w m H) (hk : ∀ k ∈ ks, k < m.length) {v : V} {p : PV} (r : RV K w v p) (hp : refsIn ks p) : RV K (w.sub H ks) v (ren ks p) := by
  cases p with
  | d x => exact r
  | raw u => exact r
  | exc C x => exact r
  | excA a C x => exact r
  | ref k =>
    obtain ⟨a, ea, ev⟩ := r
    have hin : k ∈ ks := hp
    refine ⟨a, ?_, ev⟩
    have : ks[ks.idxOf k]? = some k := by
      rw [List.getElem?_eq_getElem (List.idxOf_lt_length_of_mem hin)]
      exact congrArg some (List.getElem_idxOf _)
    rw [sub_at w H this (by rw [h.len]; exact hk k hin)]; exact ea
theorem sub_rvs (h : HR K w m H) (hk : ∀ k ∈ ks, k < m.length) : ∀ {vs : List V} {ps : List PV}, RVs K w vs ps → (∀ p ∈ ps, refsIn ks p) → RVs K (w.sub H ks) vs (ps.map (ren ks))
  | _, _, .nil, _ => .nil
  | _, _, .cons r t, hp => .cons (sub_rv h hk r (hp _ List.mem_cons_self)) (sub_rvs h hk t fun p z => hp p (List.mem_cons_of_mem _ z))
def okO (pv : Option Nat) (k : Nat) : Option Cell → Bool
  | some (.own _ _ _) => match pv with
    | some j => decide (j + 1 = k)
    | none => false
  | _ => true
def backB : Option Nat → List Nat → Mem → Bool
  | _, [], [] => true
  | pv, k :: ks, c :: cs => okO pv k c && backB (some k) ks cs
  | _, _, _ => false
theorem backB_len : ∀ {pv : Option Nat} {ks : List Nat} {cs : Mem}, backB pv ks cs = true → cs.length = ks.length
  | _, [], [], _ => rfl
  | _, [], _ :: _, h => by cases h
  | _, _ :: _, [], h => by cases h
  | pv, k :: ks, c :: cs, h => by
    unfold backB at h
    rw [List.length_cons, List.length_cons, backB_len (Bool.and_eq_true_iff.mp h).2]
theorem backB_own {x y z : Int} : ∀ {pv : Option Nat} {ks : List Nat} {cs : Mem} {j : Nat}, backB pv ks cs = true → cs[j]? = some (some (.own x y z)) → ∃ i k, ahead pv ks j = some i ∧ ks[j]? = some k ∧ i + 1 = k
  | _, [], [], _, _, e => by cases e
  | _, [], _ :: _, _, h, _ => by cases h
  | _, _ :: _, [], _, h, _ => by cases h
  | pv, k :: ks, c :: cs, 0, h, e => by
    unfold backB at h
    have e : c = some (.own x y z) := by simpa using e
    subst e
    have h1 := (Bool.and_eq_true_iff.mp h).1
    unfold okO at h1
    cases pv with
    | none => cases h1
    | some i => exact ⟨i, k, rfl, rfl, of_decide_eq_true h1⟩
  | pv, k :: ks, c :: cs, j + 1, h, e => by
    unfold backB at h
    obtain ⟨i, k', h1, h2, h3⟩ := backB_own (Bool.and_eq_true_iff.mp h).2 (by simpa using e)
    refine ⟨i, k', ?_, by simpa using h2, h3⟩
    cases j with
    | zero => exact h1
    | succ j => exact h1
theorem HR.back {w' : Wd} {mc : Mem} {H' : Hp} {mo : List Addr} {ex : Mem} (h : HR K w m H) (nd : ks.Nodup) (hk : ∀ k ∈ ks, k < m.length) (l : (w.sub H ks).le w') (hr : HR K w' (mc ++ ex) H') (hbk : backB none ks mc = true) :
    w.le { w with F := w'.F } ∧ HR K { w with F := w'.F } (setAll m ks mc) H' := by
  have hl := backB_len hbk
  have hk' : ∀ k ∈ ks, k < w.A.length := fun k z => by rw [h.len]; exact hk k z
  obtain ⟨more, em⟩ := l.pre
  have hT : w'.T = w.T ++ othersOf w H ks := l.hid
  have inA : ∀ {j k : Nat} {a : Addr}, ks[j]? = some k → w.A[k]? = some a → w'.A[j]? = some a := fun {j k a} e1 e2 => by
    rw [em, List.getElem?_append_left]
    · rw [sub_at w H e1 (hk' k (List.mem_of_getElem? e1))]; exact e2
    · show j < (ks.map _).length
      rw [List.length_map]; exact (List.getElem?_eq_some_iff.mp e1).1
  have out : ∀ {k : Nat} {a : Addr}, w.A[k]? = some a → k ∉ ks → w.F a = none → ∃ o, H a = some o ∧ H' a = some o ∧ w'.F a = none := fun {k a} ea hn hf => by
    cases q : H a with
    | none => exact absurd q (h.occ a (List.mem_of_getElem? ea))
    | some o =>
      have := hr.tp (a, o) (by rw [hT]; exact List.mem_append_right _ (mem_others.mpr ⟨k, hn, ea, hf, q⟩))
      exact ⟨o, rfl, this.1, this.2.1⟩
  refine ⟨⟨⟨⟨[], by simp⟩, l.sub⟩, rfl⟩, hr.fz, by rw [setAll_len]; exact h.len, h.nd, fun k a c e1 e2 => ?_, fun a ha => ?_, fun p hp => ?_, h.tnd, fun k c e => ?_⟩
  · by_cases hin : k ∈ ks
    · obtain ⟨j, ej⟩ := List.getElem?_of_mem hin
      have hj : j < mc.length := by rw [hl]; exact (List.getElem?_eq_some_iff.mp ej).1
      have e3 := setAll_in nd hk ej (List.getElem?_eq_getElem hj)
      rw [e3] at e2
      have e4 : (mc ++ ex)[j]? = some (some c) := by rw [List.getElem?_append_left hj, List.getElem?_eq_getElem hj]; exact e2
      exact hr.sep j a c (inA ej e1) e4
    · rw [setAll_out hin] at e2
      exact (out e1 hin (h.sep k a c e1 e2)).choose_spec.2.2
  · obtain ⟨k, ek⟩ := List.getElem?_of_mem ha
    by_cases hin : k ∈ ks
    · obtain ⟨j, ej⟩ := List.getElem?_of_mem hin
      exact hr.occ a (List.mem_of_getElem? (inA ej ek))
    · cases hf : w.F a with
      | none =>
        obtain ⟨o, _, e2, _⟩ := out ek hin hf
        rw [e2]; exact fun z => by cases z
      | some o =>
        rw [hr.fz a o (l.sub a o hf)]; exact fun z => by cases z
  · obtain ⟨e1, e2, _⟩ := hr.tp p (by rw [hT]; exact List.mem_append_left _ hp)
    exact ⟨e1, e2, (h.tp p hp).2.2⟩
  · by_cases hin : k ∈ ks
    · obtain ⟨j, ej⟩ := List.getElem?_of_mem hin
      have hj : j < mc.length := by rw [hl]; exact (List.getElem?_eq_some_iff.mp ej).1
      have e3 := setAll_in nd hk ej (List.getElem?_eq_getElem hj)
      rw [e3] at e
      have e4 : (mc ++ ex)[j]? = some (some c) := by rw [List.getElem?_append_left hj, List.getElem?_eq_getElem hj]; exact e
      obtain ⟨a, o, e5, e6, r⟩ := hr.cell j c e4
      have hkl := hk' k hin
      have e7 := inA ej (List.getElem?_eq_getElem hkl)
      rw [e5] at e7
      cases e7
      refine ⟨_, o, List.getElem?_eq_getElem hkl, e6, ?_⟩
      cases c with
      | lst ds => exact r
      | dK kvs => exact r
      | dD kvs => exact r
      | lkD ob us kvs => exact r
      | lkK ob us kvs => exact r
      | lstA b ds => exact r
      | rws bs => exact r
      | dR kvs => exact r
      | own x y z =>
        have e9 : mc[j]? = some (some (.own x y z)) := by rw [← e4, List.getElem?_append_left hj]
        obtain ⟨i, k2, b1, b2, b3⟩ := backB_own hbk e9
        obtain ⟨j', q, r1, r2, r3⟩ := r
        subst r1
        have b1 : ks[j']? = some i := b1
        rw [ej] at b2
        cases b2
        have hi := hk' i (List.mem_of_getElem? b1)
        have e10 := inA b1 (List.getElem?_eq_getElem hi)
        rw [r2] at e10
        refine ⟨i, q, b3.symm, ?_, r3⟩
        show w.A[i]? = some q
        rw [List.getElem?_eq_getElem hi, e10]
    · rw [setAll_out hin] at e
      obtain ⟨a, o, e5, e6, r⟩ := h.cell k c e
      obtain ⟨o', h1, h2, _⟩ := out e5 hin (h.sep k a c e5 e)
      rw [e6] at h1; cases h1
      exact ⟨a, o, e5, h2, r.mono l.sub⟩
end
section
variable {X : Cx} {L : PP.Loc} {m : Mem} {e a b : Expr} {es : List Expr} {pos p : Pos} {Q : QE} {k : Nat} {f : Addr} {fd : FuncData} {ps : List Str} {sp : FSp} {x : Str}
def CallAsk (sp : FSp) (ks : List Nat) (pvs : List PV) (m : Mem) (q : PV → Mem → Prop) : Prop := ks.Nodup ∧ (∀ k ∈ ks, k < m.length) ∧ (∀ p ∈ pvs, refsIn ks p) ∧ sp (pvs.map (ren ks)) (cellsAt m ks) q
theorem we_call (ks : List Nat) (F : FnOk X.prog X.w X.K X.mg X.base CX0 k f fd ps (toSp X.K sp)) (hr : Room k X.A) (hm : X.mg x = some (.ref f)) (hk : PySem.W.keepIn X.K (.ref f) = true) (hb : Binds X.K fd ps [])
    (h : WA X (e :: es) L m fun pvs m1 => CallAsk sp ks pvs m1 fun p mc => ∃ y, p = .d y ∧ backB none ks mc = true ∧ Q y (setAll m1 ks mc))
    (hg : Gl X x := by rfl) (hdb : (x == ("__debug__" : Str)) = false := by decide) (he : starEach (e :: es) X.env = (false, eval e X.env) :: starEach es X.env := by rfl) (hpl : (backTo pos (starEach es X.env)).any (·.1) = false := by rfl) : WE X (.Call (.Name x p) (e :: es) [] pos) L m Q :=
  we_of (pe_call F hr hg hm hk hb .nil pass0 (paU (e :: es)) hdb he hpl) fun w σ H r => h.go r fun w1 vs pvs m1 H1 l1 r1 d1 ⟨nd, hl, hi, hs⟩ => by
    show toSp X.K sp (vs ++ []) H1 _ _
    rw [List.append_nil]
    refine ⟨_, _, _, _, r1.toHR.subWorld nd hl, sub_rvs r1.toHR hl d1 hi, hs, fun w' v q mc H' l hr' d ⟨y, ey, hmc, qq⟩ => ?_⟩
    subst ey
    obtain ⟨l3, hr3⟩ := r1.toHR.back (mo := []) (ex := []) nd hl l (by rw [List.append_nil]; exact hr') hmc
    exact ⟨_, y, _, l1.trans l3, hr3, d, qq⟩
theorem wf_call {Q : List PyData → Mem → Prop} (ks : List Nat) (F : FnOk X.prog X.w X.K X.mg X.base CX0 k f fd ps (toSp X.K sp)) (hr : Room k X.A) (hm : X.mg x = some (.ref f)) (hk : PySem.W.keepIn X.K (.ref f) = true) (hb : Binds X.K fd ps [])
    (h : WA X (e :: es) L m fun pvs m1 => CallAsk sp ks pvs m1 fun p mc => ∃ mc0 xs, p = .ref ks.length ∧ mc = mc0 ++ [some (.lst xs)] ∧ backB none ks mc0 = true ∧ Q xs (setAll m1 ks mc0))
    (hg : Gl X x := by rfl) (hdb : (x == ("__debug__" : Str)) = false := by decide) (he : starEach (e :: es) X.env = (false, eval e X.env) :: starEach es X.env := by rfl) (hpl : (backTo pos (starEach es X.env)).any (·.1) = false := by rfl) : WF X (.Call (.Name x p) (e :: es) [] pos) L m Q :=
  wf_of (pe_call F hr hg hm hk hb .nil pass0 (paU (e :: es)) hdb he hpl) fun w σ H r => h.go r fun w1 vs pvs m1 H1 l1 r1 d1 ⟨nd, hl, hi, hs⟩ => by
    show toSp X.K sp (vs ++ []) H1 _ _
    rw [List.append_nil]
    refine ⟨_, _, _, _, r1.toHR.subWorld nd hl, sub_rvs r1.toHR hl d1 hi, hs, fun w' v q mc H' l hr' d ⟨mc0, xs, ey, em, hmc, qq⟩ => ?_⟩
    subst ey; subst em
    obtain ⟨l3, hr3⟩ := r1.toHR.back (mo := []) (ex := [some (.lst xs)]) nd hl l hr' hmc
    have ec : (mc0 ++ [some (Cell.lst xs)])[ks.length]? = some (some (.lst xs)) := by rw [← backB_len hmc, List.getElem?_append_right (Nat.le_refl _)]; simp
    obtain ⟨ad, o, ea, eo, us, rfl, dd⟩ := hr'.cell _ _ ec
    obtain ⟨ad', ea', rfl⟩ := d
    rw [ea] at ea'; cases ea'
    have hF := hr'.sep _ _ _ ea ec
    obtain ⟨more, em⟩ := l.pre
    have hT : w'.T = w1.T ++ othersOf w1 H1 ks := l.hid
    refine ⟨_, xs, _, ad, us, rfl, l1.trans l3, hr3, eo, ⟨hF, fun z => ?_, fun z => ?_⟩, dd, qq⟩
    · have z : ad ∈ w1.A := z
      obtain ⟨i, ei⟩ := List.getElem?_of_mem z
      by_cases hin : i ∈ ks
      · obtain ⟨j, ej⟩ := List.getElem?_of_mem hin
        have hil : i < w1.A.length := (List.getElem?_eq_some_iff.mp ei).1
        have hj : j < ks.length := (List.getElem?_eq_some_iff.mp ej).1
        have e3 : w'.A[j]? = some ad := by
          rw [em, List.getElem?_append_left (by show j < (ks.map _).length; rw [List.length_map]; exact hj), sub_at w1 H1 ej hil]; exact ei
        have := nodup_at hr'.nd e3 ea
        omega
      · have hf : w1.F ad = none := l.sub.none hF
        cases q : H1 ad with
        | none => exact r1.toHR.occ ad z q
        | some o =>
          have := hr'.tp (ad, o) (by rw [hT]; exact List.mem_append_right _ (mem_others.mpr ⟨i, hin, ei, hf, q⟩))
          exact this.2.2 (List.mem_of_getElem? ea)
    · obtain ⟨t, ht, et⟩ := List.mem_map.mp z
      exact (hr'.tp t (by rw [hT]; exact List.mem_append_left _ ht)).2.2 (et ▸ List.mem_of_getElem? ea)
theorem cell_at {w : Wd} {H : Hp} {v : V} {k : Nat} {xs : List PyData} (hr : HR X.K w m H) (r : RV X.K w v (.ref k)) (hm : m[k]? = some (some (.lst xs))) : ∃ a vs, v = .ref a ∧ w.A[k]? = some a ∧ H a = some (.lst vs) ∧ DPs X.K w.F vs xs := by
  obtain ⟨a, o, ea, eo, vs, rfl, d⟩ := hr.cell k _ hm
  obtain ⟨a', ea', rfl⟩ := r
  rw [ea] at ea'; cases ea'
  exact ⟨a, vs, rfl, ea, eo, d⟩
theorem cell_upd {w : Wd} {H : Hp} {k : Nat} {a0 : Addr} {vs us : List V} {xs ys : List PyData} (hr : HR X.K w m H) (ea : w.A[k]? = some a0) (hm : m[k]? = some (some (.lst xs))) (d : DPs X.K w.F us ys) : HR X.K w (m.set k (some (.lst ys))) (upd H a0 (.lst us)) := hr.write (c' := .lst ys) (o := .lst us) ea hm ⟨us, rfl, d⟩
theorem we_lm1 {name : Str} {id : String} {r : V → List V → Hp → VK → Prop} {apos : Pos} {Qr : Nat → PyData → Mem → Prop} (slot : Slot "list" name id) (hty : typeOf (.builtin id) = pure (.type "method_descriptor")) (hmt : MtM X id r)
    (rule : ∀ (w0 w : Wd) (k : Nat) (y : PyData) (m : Mem) (H : Hp) (v u : V), w0.le w → HR X.K w m H → RV X.K w v (.ref k) → DP X.K w.F u y → Qr k y m → r v [u] H (POE X.K w0 Q))
    (h : WV X a L m fun p m1 => ∃ k xs0, p = .ref k ∧ m1[k]? = some (some (.lst xs0)) ∧ WE X e L m1 fun y m2 => Qr k y m2)
    (hb : attributeBase a name X.env (eval a X.env) = eval a X.env := by rfl)
    (hfew : ((backTo pos (starEach [e] X.env)).all (fun x => !x.1) && (backToKw pos (keywordEach [] X.env)).all (fun x => x.1.isSome)
      && decide ([e].length + ([] : List Keyword).length + (if ([] : List Keyword).isEmpty then 0 else 1) < 30)) = true := by rfl)
    (hline : (apos.endLine == pos.line) = true := by rfl) (he : starEach [e] X.env = (false, eval e X.env) :: starEach [] X.env := by rfl) (hpl : (backTo pos (starEach [] X.env)).any (·.1) = false := by rfl) : WE X (.Call (.Attribute a name apos) [e] [] pos) L m Q :=
  we_of (pe_bm PySem.F.plainAttrs_list slot hty hmt (peU a) (paU [e]) hb hfew hline he hpl) fun w σ H r => h.go r fun w1 v p m1 H1 l1 r1 d1 ⟨k, xs0, e1, e2, q1⟩ => by
    subst e1
    obtain ⟨a0, vs0, rfl, ea0, eo0, dd0⟩ := cell_at r1.toHR d1 e2
    refine ⟨.inl ⟨rfl, _, .inl (.inl eo0)⟩, WA.go (wd1 q1 he) r1 fun w2 us ps m2 H2 l2 r2 d2 ⟨y, e3, q⟩ => ?_⟩
    subst e3
    obtain ⟨u, rfl, d3⟩ := rvs1 d2
    exact rule w w2 k y m2 H2 _ u (l1.trans l2) r2.toHR (d1.mono l2.toLe0) d3 q
theorem we_lm0 {name : Str} {id : String} {r : V → List V → Hp → VK → Prop} {apos : Pos} {Qr : Nat → Mem → Prop} (slot : Slot "list" name id) (hty : typeOf (.builtin id) = pure (.type "method_descriptor")) (hmt : MtM X id r)
    (rule : ∀ (w0 w : Wd) (k : Nat) (m : Mem) (H : Hp) (v : V), w0.le w → HR X.K w m H → RV X.K w v (.ref k) → Qr k m → r v [] H (POE X.K w0 Q))
    (h : WV X a L m fun p m1 => ∃ k xs0, p = .ref k ∧ m1[k]? = some (some (.lst xs0)) ∧ Qr k m1)
    (hb : attributeBase a name X.env (eval a X.env) = eval a X.env := by rfl) (hline : (apos.endLine == pos.line) = true := by rfl) : WE X (.Call (.Attribute a name apos) [] [] pos) L m Q :=
  we_of (pe_bm0 PySem.F.plainAttrs_list slot hty hmt (peU a) hb hline) fun w σ H r => h.go r fun w1 v p m1 H1 l1 r1 d1 ⟨k, xs0, e1, e2, q1⟩ => by
    subst e1
    obtain ⟨a0, vs0, rfl, ea0, eo0, dd0⟩ := cell_at r1.toHR d1 e2
    exact ⟨.inl ⟨rfl, _, .inl (.inl eo0)⟩, rule w w1 k m1 H1 _ l1 r1.toHR d1 q1⟩
theorem we_append {apos : Pos} (h : WV X a L m fun p m1 => ∃ k xs0, p = .ref k ∧ m1[k]? = some (some (.lst xs0)) ∧ WE X e L m1 fun y m2 => ∃ xs, m2[k]? = some (some (.lst xs)) ∧ xs.length < sizeLine ∧ Q .none (m2.set k (some (.lst (xs ++ [y])))))
    (hb : attributeBase a "append" X.env (eval a X.env) = eval a X.env := by rfl)
    (hfew : ((backTo pos (starEach [e] X.env)).all (fun x => !x.1) && (backToKw pos (keywordEach [] X.env)).all (fun x => x.1.isSome)
      && decide ([e].length + ([] : List Keyword).length + (if ([] : List Keyword).isEmpty then 0 else 1) < 30)) = true := by rfl)
    (hline : (apos.endLine == pos.line) = true := by rfl) (he : starEach [e] X.env = (false, eval e X.env) :: starEach [] X.env := by rfl) (hpl : (backTo pos (starEach [] X.env)).any (·.1) = false := by rfl) : WE X (.Call (.Attribute a "append" apos) [e] [] pos) L m Q :=
  we_lm1 PySem.F.slot_list_append PySem.F.type_list_append mt_append (fun w0 w k y m H v u l hr d1 d2 ⟨xs, e4, hz, q⟩ => by
    obtain ⟨a1, vs, rfl, ea, eo, dd⟩ := cell_at hr d1 e4
    exact ⟨_, vs, u, rfl, rfl, eo, by rw [dpa_len dd]; exact hz, w, _, _, l, cell_upd (vs := vs) hr ea e4 (dpa_app dd (.cons d2 .nil)), .non, q⟩) h hb hfew hline he hpl
theorem we_pop {apos : Pos} (h : WV X a L m fun p m1 => ∃ k xs0, p = .ref k ∧ m1[k]? = some (some (.lst xs0)) ∧ ∃ xs z, m1[k]? = some (some (.lst xs)) ∧ xs[xs.length - 1]? = some z ∧ Q z (m1.set k (some (.lst xs.dropLast))))
    (hb : attributeBase a "pop" X.env (eval a X.env) = eval a X.env := by rfl) (hline : (apos.endLine == pos.line) = true := by rfl) : WE X (.Call (.Attribute a "pop" apos) [] [] pos) L m Q :=
  we_lm0 PySem.F.slot_list_pop PySem.F.type_list_pop mt_pop (fun w0 w k m H v l hr d1 ⟨xs, z, e4, e5, q⟩ => by
    obtain ⟨a1, vs, rfl, ea, eo, dd⟩ := cell_at hr d1 e4
    obtain ⟨z', ez, dz⟩ := dpa_get dd e5
    exact ⟨_, vs, z', rfl, rfl, eo, by rw [dpa_len dd]; exact ez, w, z, _, l, cell_upd (vs := vs) hr ea e4 (dpa_dropLast dd), dz, q⟩) h hb hline
end
end PP
namespace PP
open PySem PySem.Spec PyProof.Rows L2
def Bd (k : Nat) (i : Int) : Prop := i.natAbs < 2 ^ k
theorem Bd.of {k : Nat} {i : Int} (h0 : 0 ≤ i) (h : i < 2 ^ k) : Bd k i := by
  unfold Bd
  have : ((2 ^ k : Nat) : Int) = (2 : Int) ^ k := by simp
  omega
theorem Bd.mono {j k : Nat} {i : Int} (h : Bd j i) (l : j ≤ k) : Bd k i := Nat.lt_of_lt_of_le h (Nat.pow_le_pow_right (by decide) l)
theorem Bd.mul {j k : Nat} {a b : Int} (h : Bd j a) (g : Bd k b) : Bd (j + k) (a * b) := wide_lt h g
theorem Bd.log {k : Nat} {i : Int} (h : Bd k i) : i.natAbs.log2 ≤ k := by
  rcases Nat.eq_zero_or_pos i.natAbs with z | z
  · rw [z]; exact Nat.zero_le _
  · exact Nat.le_of_lt ((Nat.log2_lt (Nat.ne_of_gt z)).mpr h)
theorem cmul_of {j k : Nat} {a b : Int} (h : Bd j a) (g : Bd k b) (l : j + k < 1000000 := by decide) : CMulW a b := by
  have := h.log
  have := g.log
  unfold CMulW
  omega
theorem cdiv_of {k : Nat} {a b : Int} (h0 : 0 < b) (g : Bd k b) (l : k < 9000 := by decide) : CDivW a b := ⟨h0, Nat.lt_of_le_of_lt g.log l⟩
def CPowW (i j : Int) : Prop := 0 ≤ j ∧ (Builtin.Int.intBits i : Int) * j ≤ 2 ^ 27
theorem cpow_of {k : Nat} {a b : Int} (h : Bd k a) (h0 : 0 ≤ b) (h1 : b ≤ 64) (l : k ≤ 1000000 := by decide) : CPowW a b := by
  refine ⟨h0, ?_⟩
  have e : Builtin.Int.intBits a ≤ a.natAbs.log2 + 1 := by
    unfold Builtin.Int.intBits
    split <;> omega
  have := h.log
  have e2 : (Builtin.Int.intBits a : Int) * b ≤ 1000001 * 64 := Int.mul_le_mul (by omega) h1 h0 (by omega)
  have e3 : (2 : Int) ^ 27 = 134217728 := by decide
  omega
section
variable {X : Cx} {L : PP.Loc} {m : Mem} {a b : Expr} {pos : Pos} {Q : QE}
theorem op_powW : OpR X (binaryOp .Pow) (rI CPowW fun i j => .int (i ^ j.toNat)) := opI fun _ _ _ _ _ _ _ hc q => pow_int hc.1 hc.2 q
theorem we_pow (h : WE X a L m fun x m1 => WE X b L m1 fun y m2 => AskI x y fun i j => CPowW i j ∧ Q (.int (i ^ j.toNat)) m2) : WE X (.BinOp a .Pow b pos) L m Q := we_op op_powW (h.mono fun _ _ h => h.mono fun _ _ q => opw_I q)
end
end PP
namespace PP
open PySem PySem.Spec PyProof.Rows L2
section
variable {X : Cx} {L : PP.Loc} {m : Mem} {a b c e : Expr} {es : List Expr} {pos p : Pos} {Q : QE} {QT : Bool → Mem → Prop} {QL : List PyData → Mem → Prop} {D : PEnds}
def VT (X : Cx) (e : Expr) (L : PP.Loc) (m : Mem) (b : Bool) : Prop := ∀ Q : Bool → Mem → Prop, Q b m → WT X e L m Q
def VW (X : Cx) (e : Expr) (L : PP.Loc) (m : Mem) (b : Bool) : Prop := ∀ Q : Bool → Mem → Prop, Q b m → WW X e L m Q
def VE (X : Cx) (e : Expr) (L : PP.Loc) (m : Mem) (x : PyData) : Prop := ∀ Q : QE, Q x m → WE X e L m Q
theorem VT.use {k : Bool} (h : VT X e L m k) (q : QT k m) : WT X e L m QT := h QT q
theorem VE.use {k : PyData} (h : VE X e L m k) (q : Q k m) : WE X e L m Q := h Q q
theorem VW.vt {k : Bool} (h : VW X e L m k) : VT X e L m k := fun Q q => wt_ww (h Q q)
theorem vw_and1 {k : Bool} (h : VT X a L m k) : VW X (.BoolOp .And [a] pos) L m k := fun Q q => ww_and1 (h Q q)
theorem vw_or1 {k : Bool} (h : VT X a L m k) : VW X (.BoolOp .Or [a] pos) L m k := fun Q q => ww_or1 (h Q q)
theorem vw_and {k j : Bool} (h : VT X a L m k) (g : k = true → VW X (.BoolOp .And (b :: es) pos) L m j) : VW X (.BoolOp .And (a :: b :: es) pos) L m (k && j) := fun Q q => ww_and (h _ ⟨fun e => by
  subst e; exact g rfl Q q, fun e => by subst e; exact q⟩)
theorem vw_or {k j : Bool} (h : VT X a L m k) (g : k = false → VW X (.BoolOp .Or (b :: es) pos) L m j) : VW X (.BoolOp .Or (a :: b :: es) pos) L m (k || j) := fun Q q => ww_or (h _ ⟨fun e => by
  subst e; exact q, fun e => by subst e; exact g rfl Q q⟩)
theorem ve_one {op : BoolOp} {x : PyData} (h : VE X a L m x) : VE X (.BoolOp op [a] pos) L m x := fun Q q => we_one (h Q q)
theorem ve_and {k j : Bool} (h : VE X a L m (.bool k)) (g : k = true → VE X (.BoolOp .And (b :: es) pos) L m (.bool j)) : VE X (.BoolOp .And (a :: b :: es) pos) L m (.bool (k && j)) := fun Q q => we_andV (h _ ⟨k, rfl, fun e => by
  subst e; exact g rfl Q q, fun e => by subst e; exact q⟩)
theorem wt_truth (h : WV X a L m fun p m1 => ∃ xs, seqP m1 p = some xs ∧ QT (!xs.isEmpty) m1) (he : ∀ whole, isTrue a X.env whole = (do let v ← whole; standAt a.pos; holding [v] (truthy v)) := by intro _; rfl) : WT X a L m QT :=
  wt_of (pt_truth (peU a) he) fun w σ H r => h.go r fun w1 v p m1 H1 l1 r1 d1 ⟨xs, e1, q⟩ => by
    obtain ⟨ad, vs, rfl, hh, d⟩ := seqP_ok r1.toHR d1 e1
    have e2 : (!vs.isEmpty) = (!xs.isEmpty) := by
      cases d with
      | nil => rfl
      | cons _ _ => rfl
    rcases hh with hh | hh
    · exact ⟨_, .inl ⟨vs, hh, rfl⟩, w1, m1, l1, r1.toHR, by rw [e2]; exact q⟩
    · exact ⟨_, .inr (.inl ⟨vs, hh, rfl⟩), w1, m1, l1, r1.toHR, by rw [e2]; exact q⟩
theorem we_eqI (h : WE X a L m fun x m1 => WE X b L m1 fun y m2 => AskI x y fun i j => Q (.bool (decide (i = j))) m2) : WE X (.Compare a [.Eq] [b] pos) L m Q :=
  we_of (pe_cmp (pc_eqI (peU a) (peU b))) fun w σ H rp => by
    refine h.go rp fun w1 v x m1 H1 l1 r1 d1 q1 => q1.go r1 fun w2 u y m2 H2 l2 r2 d2 ⟨i, j, e1, e2, q⟩ => ?_
    subst e1; subst e2
    exact ⟨i, j, dp_int (dp_mono l2.sub _ _ d1), dp_int d2, w2, _, m2, l1.trans l2, r2.toHR, .bl _, q⟩
theorem we_neI (h : WE X a L m fun x m1 => WE X b L m1 fun y m2 => AskI x y fun i j => Q (.bool (!decide (i = j))) m2) : WE X (.Compare a [.NotEq] [b] pos) L m Q :=
  we_of (pe_cmp (pc_neI (peU a) (peU b))) fun w σ H rp => by
    refine h.go rp fun w1 v x m1 H1 l1 r1 d1 q1 => q1.go r1 fun w2 u y m2 H2 l2 r2 d2 ⟨i, j, e1, e2, q⟩ => ?_
    subst e1; subst e2
    exact ⟨i, j, dp_int (dp_mono l2.sub _ _ d1), dp_int d2, w2, _, m2, l1.trans l2, r2.toHR, .bl _, q⟩
theorem we_chain {op op' : CmpOp} {g g' : Int → Int → Bool} (ho : OpR X (compareOp op) (rI0 fun i j => .bl (g i j))) (ho' : OpR X (compareOp op') (rI0 fun i j => .bl (g' i j))) (hm : lastMarks [op, op'] [b, c] = false)
    (h : WE X a L m fun x m1 => WE X b L m1 fun y m2 => AskI x y fun i j => if g i j = true then WE X c L m2 fun z m3 => ∃ k, z = .int k ∧ Q (.bool (g' j k)) m3 else Q (.bool false) m2) : WE X (.Compare a [op, op'] [b, c] pos) L m Q := by
  refine we_of (pe_chain ho ho' (peU a) (peU b) (peU c) hm) fun w σ H rp => ?_
  refine h.go rp fun w1 v x m1 H1 l1 r1 d1 q1 => q1.go r1 fun w2 u y m2 H2 l2 r2 d2 ⟨i, j, e1, e2, q⟩ => ?_
  subst e1; subst e2
  have d1' := dp_int (dp_mono l2.sub _ _ d1)
  have d2' := dp_int d2
  refine ⟨i, j, d1', d2', _, rfl, ?_⟩
  have q : if g i j = true then WE X c L m2 fun z m3 => ∃ k, z = PyData.int k ∧ Q (.bool (g' j k)) m3 else Q (.bool false) m2 := q
  by_cases hg : g i j = true
  · rw [if_pos hg] at q
    rw [if_pos hg]
    refine q.go r2 fun w3 v3 z m3 H3 l3 r3 d3 ⟨k, e3, q3⟩ => ?_
    subst e3
    exact ⟨j, k, d2', dp_int d3, w3, _, m3, (l1.trans l2).trans l3, r3.toHR, .bl _, q3⟩
  · rw [if_neg hg] at q
    rw [if_neg hg]
    exact ⟨w2, _, m2, l1.trans l2, r2.toHR, .bl _, q⟩
theorem dp_cell {w : Wd} {H : Hp} {v : V} {pv : PV} {xs : List PyData} (hr : HR X.K w m H) (r : RV X.K w v pv) (h : lstP m pv = some xs) : Dp X.K H v (.list xs) := by
  obtain ⟨a, vs, rfl, e, d⟩ := lstP_ok hr r h
  exact .lst (.of e) (DPs.toDp _ _ (dpa_mono hr.fz _ _ d))
def asD (m : Mem) : PV → Option PyData
  | .d x => some x
  | .ref k => match m[k]? with
    | some (some (.lst xs)) => some (.list xs)
    | _ => none
  | _ => none
theorem asD_ok {w : Wd} {H : Hp} {v : V} {pv : PV} {x : PyData} (hr : HR X.K w m H) (r : RV X.K w v pv) (h : asD m pv = some x) : Dp X.K H v x := by
  cases pv with
  | d y => cases h; exact DP.toDp _ _ (dp_mono hr.fz _ _ r)
  | ref k =>
    have h' : (match m[k]? with | some (some (.lst xs)) => some (PyData.list xs) | _ => none) = some x := h
    split at h'
    · rename_i ys hk
      cases h'
      exact dp_cell hr r (by unfold lstP; dsimp only; rw [hk])
    · cases h'
  | raw u => cases h
  | exc C x => cases h
  | excA a C x => cases h
theorem wt_eqV (hu : X.A.units + 64 < cLine) (h : WV X a L m fun x m1 => WV X b L m1 fun y m2 => ∃ d e, asD m2 x = some d ∧ asD m2 y = some e ∧ shp d ∧ shp e ∧ QT (PyData.eqv d e) m2) : WT X (.Compare a [.Eq] [b] pos) L m QT :=
  wt_of (pt_cmpR (op_eqD hu) (peU a) (peU b) (nomark _)) fun w σ H r => h.go r fun w1 v x m1 H1 l1 r1 d1 q1 => q1.go r1 fun w2 u y m2 H2 l2 r2 d2 ⟨d, e, e1, e2, s1, s2, q⟩ =>
    ⟨_, _, asD_ok r2.toHR (d1.mono l2.toLe0) e1, asD_ok r2.toHR d2 e2, s1, s2, _, rfl, w2, m2, l1.trans l2, r2.toHR, q⟩
theorem dpa_bools_inv {K : PySem.W.Frag} {F : Hp} : ∀ {vs : List V} {bs : List Bool}, DPs K F vs (bs.map PyData.bool) → vs = bs.map V.bl
  | _, [], h => by cases h; rfl
  | _, b :: bs, h => by
    cases h with
    | cons h1 h2 => rw [dp_bool h1, dpa_bools_inv h2]; rfl
theorem wf_sortedI (hm : X.mg "sorted" = none) (h : WV X a L m fun p m1 => ∃ ns : List Int, lstP m1 p = some (ns.map .int) ∧ ns.length < 64 ∧ ∀ ns' : List Int, ns'.Perm ns → ns'.Pairwise (· ≤ ·) → QL (ns'.map .int) m1) (hg : Gl X "sorted" := by rfl) (he : starEach [a] X.env = (false, eval a X.env) :: starEach [] X.env := by rfl)
    (hpl : (backTo pos (starEach [] X.env)).any (·.1) = false := by rfl) : WF X (.Call (.Name "sorted" p) [a] [] pos) L m QL :=
  wf_of (pe_callB cr_sorted hg hm (by decide +kernel) (paU [a]) (he := he) (hpl := hpl)) fun w σ H r => WA.go (wa1 h he) r fun w1 vs ps m1 H1 l1 r1 d1 ⟨p, e1, ns, e2, hz, q⟩ => by
    subst e1
    obtain ⟨v, rfl, d2⟩ := rvs1 d1
    obtain ⟨ad, vs, rfl, hh, d⟩ := lstP_ok r1.toHR d2 e2
    have e3 := dpa_ints_inv d
    subst e3
    refine ⟨ad, ns, rfl, .of hh, hz, fun ns' p pm pw hp => ?_⟩
    obtain ⟨hr2, u⟩ := r1.toHR.un (o := .lst (ns'.map V.int)) hp
    exact ⟨w1, _, m1, p, _, rfl, l1, hr2, upd_same, u, dpa_ints ns', q ns' pm pw⟩
theorem we_all (hc : X.calm = true) (hm : X.mg "all" = none) (h : WV X a L m fun p m1 => ∃ bs : List Bool, lstP m1 p = some (bs.map .bool) ∧ Q (.bool (bs.all id)) m1) (hg : Gl X "all" := by rfl) (he : starEach [a] X.env = (false, eval a X.env) :: starEach [] X.env := by rfl)
    (hpl : (backTo pos (starEach [] X.env)).any (·.1) = false := by rfl) : WE X (.Call (.Name "all" p) [a] [] pos) L m Q :=
  we_of (pe_callB (cr_all hc) hg hm (by decide +kernel) (paU [a]) (he := he) (hpl := hpl)) fun w σ H r => WA.go (wa1 h he) r fun w1 vs ps m1 H1 l1 r1 d1 ⟨p, e1, bs, e2, q⟩ => by
    subst e1
    obtain ⟨v, rfl, d2⟩ := rvs1 d1
    obtain ⟨ad, vs, rfl, hh, d⟩ := lstP_ok r1.toHR d2 e2
    have e3 := dpa_bools_inv d
    subst e3
    exact ⟨ad, bs, rfl, .of hh, w1, _, m1, l1, r1.toHR, .bl _, q⟩
def tyD : PyData → String
  | .none => "NoneType"
  | .bool _ => "bool"
  | .int _ => "int"
  | .str _ => "str"
  | .list _ => "list"
  | .tuple _ => "tuple"
  | .dict _ => "dict"
theorem tyD_ok {w : Wd} {H : Hp} {v : V} {x : PyData} (hr : HR X.K w m H) (d : DP X.K w.F v x) : TyX X.K H v (.type (tyD x)) ∨ ∃ xs, x = .tuple xs := by
  cases d with
  | non => exact .inl (.base .non)
  | bl b => exact .inl (.base (.bl b))
  | int i => exact .inl (.base (.int i))
  | str s => exact .inl (.base (.str s))
  | lst h _ => exact .inl (.base (.lst (hr.fz _ _ h)))
  | tup h d =>
    refine .inr ⟨_, rfl⟩
theorem tyD_tup {w : Wd} {H : Hp} {v : V} {xs : List PyData} (hr : HR X.K w m H) (d : DP X.K w.F v (.tuple xs)) : TyX X.K H v (.type "tuple") := by
  cases d with
  | tup h d =>
    rcases hr.fz.sqt h with (h | ⟨o, h⟩) | ⟨o, its, n, hk, hcl, _⟩
    · exact .base (.tup h)
    · exact .fTuple h
    · exact .kTuple hk hcl
theorem we_isinst {T : String} {x : Str} {p2 : Pos} (hm : X.mg "isinstance" = none) (hmT : X.mg x = none) (hb : bootBuiltins x = some (.type T)) (h : WE X a L m fun y m1 => ∃ k, kitB (tyD y) T = some k ∧ Q (.bool k) m1) (hg : Gl X "isinstance" := by rfl) (hgT : Gl X x := by rfl)
    (hn : x ≠ "__name__" := by decide) (hd : (x == ("__debug__" : Str)) = false := by decide)
    (he : starEach [a, .Name x p2] X.env = (false, eval a X.env) :: starEach [.Name x p2] X.env := by rfl) (he2 : starEach [.Name x p2] X.env = (false, eval (.Name x p2) X.env) :: starEach [] X.env := by rfl) (hpl : (backTo pos (starEach [.Name x p2] X.env)).any (·.1) = false := by rfl) : WE X (.Call (.Name "isinstance" p) [a, .Name x p2] [] pos) L m Q :=
  we_of (pe_callB call_isi hg hm (by decide +kernel) (pa_cons (peU a) (pa_cons (pe_bltn (v := .ty T) hgT hmT hb rfl hn hd) pa_nil he2) he) (he := he) (hpl := hpl)) fun w σ H r => h.go r fun w1 v y m1 H1 l1 r1 d1 ⟨k, e1, q⟩ => by
    have ty : TyX X.K H1 v (.type (tyD y)) := by
      rcases tyD_ok r1.toHR d1 with t | ⟨xs, rfl⟩
      · exact t
      · exact tyD_tup r1.toHR d1
    exact ⟨v, .ty T, _, _, k, rfl, .ty T, ty, kit_ty e1, w1, _, m1, l1, r1.toHR, .bl k, q⟩
theorem cutD_whole {xs : List PyData} {lo hi : Option Int} (h : HT.sIx xs.length 0 lo = 0 ∧ HT.sIx xs.length xs.length hi = xs.length) : cutD xs lo hi = xs := by
  unfold cutD
  rw [h.1, h.2]
  simp
theorem we_sliceT {lo hi : Option Expr} {p2 : Pos} (h : WE X a L m fun x m1 => WO X lo L m1 fun i m2 => WO X hi L m2 fun j m3 => ∃ xs, x = .tuple xs ∧ Q (.tuple (cutD xs i j)) m3) : WE X (.Subscript a (.Slice lo hi none p2) pos) L m Q :=
  we_of (pe_slice sl_tupA (peU a) (poU lo) (poU hi)) fun w σ H r => h.go r fun w1 v x m1 H1 l1 r1 d1 q1 => q1.go r1 fun w2 i m2 H2 l2 r2 q2 => q2.go r2 fun w3 j m3 H3 l3 r3 ⟨xs, e1, q⟩ => by
    subst e1
    have d1 := dp_mono (l2.trans l3).sub _ _ d1
    obtain ⟨ad, vs, rfl, hh, d⟩ := dp_tuple d1
    refine ⟨ad, vs, rfl, r3.toHR.fz.sqt hh, fun z => ?_, fun _ p hp => ?_⟩
    · rw [dpa_len d] at z
      rw [cutD_whole z] at q
      exact ⟨w3, _, m3, (l1.trans l2).trans l3, r3.toHR, d1, q⟩
    · obtain ⟨l4, hr4⟩ := r3.toHR.fnew (o := .tup (cutV vs i j)) hp
      exact ⟨_, _, m3, ((l1.trans l2).trans l3).trans l4, hr4, .tup (.of upd_same) (dpa_mono l4.sub _ _ (cut_dpa d i j)), q⟩
theorem ws_par3 {x y z : Str} {px py pz pt : Pos} {kt k2 pt2} (i j l : Nat) (hc : X.calm = true) (hN : X.N.Nodup) (hi : X.N[i]? = some x) (hj : X.N[j]? = some y) (hl : X.N[l]? = some z) (hij : i ≠ j) (hil : i ≠ l) (hjl : j ≠ l)
    (hx : X.env.scope.names.lookup x = some .local) (hy : X.env.scope.names.lookup y = some .local) (hz : X.env.scope.names.lookup z = some .local) (h : WA X [a, b, c] L m fun ps m1 => ∃ p q r, ps = [p, q, r] ∧ D.nx (((L.set i (some p)).set j (some q)).set l (some r)) m1)
    (hw : swappedStores [.Tuple [.Name x px, .Name y py, .Name z pz] kt pt] (.Tuple [a, b, c] k2 pt2) X.env = pure (some [x, y, z]) := by rfl)
    (hs : swapsWithSole [.Tuple [.Name x px, .Name y py, .Name z pz] kt pt] (.Tuple [a, b, c] k2 pt2) pos.line X.env = pure false := by rfl) :
    WS X (.Assign [.Tuple [.Name x px, .Name y py, .Name z pz] kt pt] (.Tuple [a, b, c] k2 pt2) pos) L m D :=
  ws_of (ps_par3 hc hN hi hj hl hij hil hjl hx hy hz (paU [a, b, c]) hw hs) fun w σ H r => h.go r fun w1 vs ps m1 H1 l1 r1 d1 ⟨p, q, s, e1, qq⟩ => by
    subst e1
    obtain ⟨v, u, t, rfl, d1, d2, d3⟩ := rvs3 d1
    exact ⟨v, u, t, rfl, w1, _, m1, l1, ((r1.set d1).set d2).set d3, qq⟩
theorem we_index {apos : Pos} (hu : X.A.units + 65 < cLine) (h : WV X a L m fun p m1 => (∃ xs0, lstP m1 p = some xs0) ∧ WE X e L m1 fun y m2 => ∃ xs j z, lstP m2 p = some xs ∧ shp y ∧ shp (.list xs) ∧ xs[j]? = some z ∧ PyData.eqv z y = true ∧ (∀ i z', i < j → xs[i]? = some z' → PyData.eqv z' y = false) ∧ Q (.int (j : Nat)) m2)
    (hb : attributeBase a "index" X.env (eval a X.env) = eval a X.env := by rfl)
    (hfew : ((backTo pos (starEach [e] X.env)).all (fun x => !x.1) && (backToKw pos (keywordEach [] X.env)).all (fun x => x.1.isSome)
      && decide ([e].length + ([] : List Keyword).length + (if ([] : List Keyword).isEmpty then 0 else 1) < 30)) = true := by rfl)
    (hline : (apos.endLine == pos.line) = true := by rfl) (he : starEach [e] X.env = (false, eval e X.env) :: starEach [] X.env := by rfl) (hpl : (backTo pos (starEach [] X.env)).any (·.1) = false := by rfl) : WE X (.Call (.Attribute a "index" apos) [e] [] pos) L m Q :=
  we_of (pe_bm PySem.F.plainAttrs_list PySem.F.slot_list_index PySem.F.type_list_index (mt_indexD hu) (peU a) (paU [e]) hb hfew hline he hpl) fun w σ H r => h.go r fun w1 v p m1 H1 l1 r1 d1 ⟨⟨xs0, e2⟩, q1⟩ => by
    obtain ⟨a0, vs0, rfl, eo0, dd0⟩ := lstP_ok r1.toHR d1 e2
    refine ⟨.inl ⟨rfl, _, .inl (.inl eo0)⟩, WA.go (wd1 q1 he) r1 fun w2 us ps m2 H2 l2 r2 d2 ⟨y, e3, xs, j, z, e4, s1, s2, e5, e6, e7, q⟩ => ?_⟩
    subst e3
    obtain ⟨u, rfl, d3⟩ := rvs1 d2
    have dc := dp_cell r2.toHR (d1.mono l2.toLe0) e4
    exact ⟨a0, u, y, xs, j, z, rfl, rfl, dc, DP.toDp _ _ (dp_mono r2.toHR.fz _ _ d3), s2, s1, e5, e6, fun i z' hi hz => e7 i z' hi hz, w2, _, m2, l1.trans l2, r2.toHR, .int _, q⟩
def valD (kvs : List (Key × PyData)) (k : Key) : Option PyData := (kvs.find? fun kv => decide (kv.1 = k)).map (·.2)
def putD (kvs : List (Key × PyData)) (k : Key) (v : PyData) : List (Key × PyData) :=
  if (kvs.any fun kv => decide (kv.1 = k)) = true then kvs.map (fun kv => if kv.1 = k then (kv.1, v) else kv) else kvs ++ [(k, v)]
def keyD : Key → PyData
  | .inl i => .int i
  | .inr s => .str s
abbrev KDs (K : PySem.W.Frag) (F : Hp) : List (Key × V) → List (Key × PyData) → Prop := Paired fun p q => p.1 = q.1 ∧ DP K F p.2 q.2
section
variable {K : PySem.W.Frag} {F : Hp}
theorem dp_key {k : Key} {v : V} (h : DP K F v (keyD k)) : v = kV k := by
  cases k with
  | inl i => exact dp_int h
  | inr s => exact dp_str h
theorem kds_len {us : List (Key × V)} {kvs : List (Key × PyData)} (h : KDs K F us kvs) : us.length = kvs.length := Paired.length h
theorem kds_val {k : Key} : ∀ {us : List (Key × V)} {kvs : List (Key × PyData)}, KDs K F us kvs → (valV us k = none ∧ valD kvs k = none) ∨ ∃ v x, valV us k = some v ∧ valD kvs k = some x ∧ DP K F v x
  | _, _, .nil => .inl ⟨rfl, rfl⟩
  | (k1, v) :: us, (k2, x) :: kvs, .cons ⟨e, d⟩ t => by
    have e : k1 = k2 := e
    subst e
    by_cases hk : k1 = k
    · refine .inr ⟨v, x, valV_pos hk, ?_, d⟩
      simp [valD, List.find?_cons, hk]
    · rcases kds_val (k := k) t with ⟨h1, h2⟩ | ⟨v', x', h1, h2, d'⟩
      · refine .inl ⟨by rw [valV_neg hk]; exact h1, ?_⟩
        simp only [valD, List.find?_cons, hk, decide_false] at h2 ⊢
        exact h2
      · refine .inr ⟨v', x', by rw [valV_neg hk]; exact h1, ?_, d'⟩
        simp only [valD, List.find?_cons, hk, decide_false] at h2 ⊢
        exact h2
theorem kds_any {k : Key} : ∀ {us : List (Key × V)} {kvs : List (Key × PyData)}, KDs K F us kvs → (us.any fun kv => decide (kv.1 = k)) = (kvs.any fun kv => decide (kv.1 = k))
  | _, _, .nil => rfl
  | (k1, v) :: us, (k2, x) :: kvs, .cons ⟨e, d⟩ t => by
    have e : k1 = k2 := e
    subst e
    rw [List.any_cons, List.any_cons, kds_any t]
theorem kds_map {k : Key} {v : V} {x : PyData} (d : DP K F v x) : ∀ {us : List (Key × V)} {kvs : List (Key × PyData)}, KDs K F us kvs → KDs K F (us.map fun kv => if kv.1 = k then (kv.1, v) else kv) (kvs.map fun kv => if kv.1 = k then (kv.1, x) else kv)
  | _, _, .nil => .nil
  | (k1, u) :: us, (k2, y) :: kvs, .cons ⟨e, d'⟩ t => by
    have e : k1 = k2 := e
    subst e
    rw [List.map_cons, List.map_cons]
    refine .cons ?_ (kds_map d t)
    by_cases hk : k1 = k
    · rw [if_pos hk, if_pos hk]; exact ⟨rfl, d⟩
    · rw [if_neg hk, if_neg hk]; exact ⟨rfl, d'⟩
theorem kds_app : ∀ {us us2 : List (Key × V)} {kvs kvs2 : List (Key × PyData)}, KDs K F us kvs → KDs K F us2 kvs2 → KDs K F (us ++ us2) (kvs ++ kvs2)
  | _, _, _, _, .nil, s => s
  | _, _, _, _, .cons r t, s => .cons r (kds_app t s)
theorem kds_put {k : Key} {v : V} {x : PyData} {us : List (Key × V)} {kvs : List (Key × PyData)} (h : KDs K F us kvs) (d : DP K F v x) : KDs K F (putK us k v) (putD kvs k x) := by
  unfold putK putD
  rw [kds_any h]
  by_cases hk : (kvs.any fun kv => decide (kv.1 = k)) = true
  · rw [if_pos hk, if_pos hk]; exact kds_map d h
  · rw [if_neg hk, if_neg hk]; exact kds_app h (.cons ⟨rfl, d⟩ .nil)
end
theorem ws_setD {y : Str} {py : Pos} {p2 : Pos} (i : Nat) (hN : X.N.Nodup) (hi : X.N[i]? = some y) (hx : L2.Loc X.env.scope y) (h : D.nx (L.set i (some (.ref m.length))) (m ++ [some (.dK [])])) (hs : swapsWith (.Dict [] [] p2) (some (.Name y py)) pos.line X.env = pure false := by rfl) (hf : X.fn y = true ∨ X.env.scope.names.lookup y = some .local := by first | exact .inl rfl | exact .inr rfl | assumption) : WS X (.Assign [.Name y py] (.Dict [] [] p2) pos) L m D :=
  ws_of (ps_set hN hi hx pe_dnewK hs hf) fun w σ H r => fun p hp => by
    obtain ⟨hr, u⟩ := r.toHR.un (o := .dK []) hp
    obtain ⟨l2, hr2⟩ := hr.adopt (c := .dK []) u upd_same ⟨[], rfl, .nil⟩
    refine ⟨_, _, _, l2, (r.go l2 hr2).set (p := .ref m.length) ⟨p, ?_, rfl⟩, h⟩
    show (w.A ++ [p])[m.length]? = some p
    rw [← r.toHR.len, List.getElem?_append_right (Nat.le_refl _)]; simp
theorem set_dict (hu : X.A.units + 1 < cLine) : PSet X (fun o i v H Q => ∃ a H', o = .ref a ∧ DPut H a i v H' ∧ Q H') := by
  intro pins s σ H o i v ov iv u Q I ro ri rv h
  obtain ⟨a, H', rfl, g, q⟩ := h
  cases ro
  exact d_setItem hu I g ri rv fun s' I' => ⟨H', I', q⟩
theorem dcell_at {w : Wd} {H : Hp} {v : V} {k : Nat} {kvs : List (Key × PyData)} (hr : HR X.K w m H) (r : RV X.K w v (.ref k)) (hm : m[k]? = some (some (.dK kvs))) : ∃ a us, v = .ref a ∧ w.A[k]? = some a ∧ H a = some (.dK us) ∧ KDs X.K w.F us kvs := by
  obtain ⟨a, o, ea, eo, us, rfl, d⟩ := hr.cell k _ hm
  obtain ⟨a', ea', rfl⟩ := r
  rw [ea] at ea'; cases ea'
  exact ⟨a, us, rfl, ea, eo, d⟩
theorem wg_subD {x : PyData} {Q : PP.Loc → Mem → Prop} (hu : X.A.units + 1 < cLine) (h : WV X a L m fun p m1 => WE X b L m1 fun y m2 => ∃ k key kvs, p = .ref k ∧ y = keyD key ∧ m2[k]? = some (some (.dK kvs)) ∧ kvs.length < sizeLine ∧ Q L (m2.set k (some (.dK (putD kvs key x)))))
    (ha : ∀ v, assign (.Subscript a b pos) X.env v = (do
      let ov ← holding [v] (eval a X.env)
      let iv ← holding [v, ov] (eval b X.env)
      standAt pos
      holding [v, ov, iv] (setItem ov iv v)
      release [v, ov, iv] []) := by intro _; rfl) : WG X (.Subscript a b pos) x L m Q := by
  refine wg_of (pg_sub (peU a) (peU b) (set_dict hu) ha) fun w σ H v r d => ?_
  refine h.go r fun w1 ov p m1 H1 l1 r1 d1 q1 => q1.go r1 fun w2 iv y m2 H2 l2 r2 d2 ⟨k, key, kvs, e1, e2, e3, hz, q⟩ => ?_
  subst e1; subst e2
  obtain ⟨ad, us, rfl, ea, eo, dv⟩ := dcell_at r2.toHR (d1.mono l2.toLe0) e3
  have dd := dp_mono (l1.trans l2).sub _ _ d
  have hr3 := r2.toHR.write (c' := .dK (putD kvs key x)) (o := .dK (putK us key v)) ea e3 ⟨_, rfl, kds_put dv dd⟩
  have eiv := dp_key d2
  subst eiv
  exact ⟨ad, _, rfl, .k eo (by rw [kds_len dv]; exact hz), w2, L, _, l1.trans l2, r2.go (.refl w2) hr3, q⟩
end
end PP
namespace PP
open PySem PySem.Spec PyProof.Rows L2
theorem setAll_nil {m cs : Mem} : setAll m [] cs = m := by cases cs <;> rfl
theorem units65 {k : Nat} {A : Around} (r : Room k A) : A.units + 65 < cLine := by have := r.un; omega
theorem units1 {k : Nat} {A : Around} (r : Room k A) : A.units + 1 < cLine := by have := r.un; omega
theorem Bd.add {j k : Nat} {a b : Int} (h : Bd j a) (g : Bd k b) : Bd (max j k + 1) (a + b) := by
  unfold Bd at *
  have h1 : a.natAbs < 2 ^ max j k := Nat.lt_of_lt_of_le h (Nat.pow_le_pow_right (by decide) (Nat.le_max_left ..))
  have h2 : b.natAbs < 2 ^ max j k := Nat.lt_of_lt_of_le g (Nat.pow_le_pow_right (by decide) (Nat.le_max_right ..))
  rw [Nat.pow_succ]
  omega
theorem Bd.mod {k : Nat} {i j : Int} (h0 : 0 < j) (h : j ≤ 2 ^ k) : Bd k (i % j) := Bd.of (Int.emod_nonneg _ (by omega)) (Int.lt_of_lt_of_le (Int.emod_lt_of_pos _ h0) h)
theorem Bd.div {k : Nat} {a j : Int} (h : Bd k a) (ha : 0 ≤ a) (h0 : 0 < j) : Bd k (a / j) := by
  unfold Bd at *
  have h1 : a / j ≤ a := Int.ediv_le_self _ ha
  have h2 : 0 ≤ a / j := Int.ediv_nonneg ha (by omega)
  omega
theorem Bd.lit {k : Nat} {i : Int} (h : i.natAbs < 2 ^ k := by decide +kernel) : Bd k i := h
def WL (n : Nat) (xs : List PyData) : Prop := ∃ a b c : Int, xs = [.int a, .int b, .int c] ∧ 0 ≤ a ∧ Bd 2000000 a ∧ 0 ≤ b ∧ b < 2 ^ 120 ∧ 0 ≤ c ∧ c ≤ n
theorem WL.mono {n k : Nat} {xs : List PyData} (h : WL n xs) (l : n ≤ k) : WL k xs := by
  obtain ⟨a, b, c, e, h1, h2, h3, h4, h5, h6⟩ := h
  exact ⟨a, b, c, e, h1, h2, h3, h4, h5, by omega⟩
theorem bits_bd {z : Int} (h : Builtin.Int.intBits z ≤ 1048576) : Bd 1048577 z := by
  unfold Builtin.Int.intBits at h
  split at h
  · rename_i e
    have : z.natAbs = 0 := by simpa using e
    unfold Bd
    rw [this]
    exact Nat.pow_pos (by decide)
  · rename_i e
    have e0 : z.natAbs ≠ 0 := by simpa using e
    unfold Bd
    refine (Nat.log2_lt e0).mp ?_
    omega
theorem ixN_of {n : Nat} {i : Int} (h0 : 0 ≤ i) (h : i < n) : ixN n i = some i.toNat := by
  unfold ixN
  rw [if_pos h0, if_pos h]
theorem ixN_ng {n : Nat} {i : Int} (h0 : i < 0) (h : -(n : Int) ≤ i) : ixN n i = some (i + n).toNat := by
  unfold ixN
  rw [if_neg (by omega), if_pos h]
theorem atI_of {α : Type} {xs : List α} {i : Int} (h0 : 0 ≤ i) (h : i < xs.length) : atI xs i = some (xs[i.toNat]'(by omega)) := by
  unfold atI
  rw [ixN_of h0 h, Option.bind_some, List.getElem?_eq_getElem (by omega)]
theorem atI_ng {α : Type} {xs : List α} {i : Int} (h0 : i < 0) (h : -(xs.length : Int) ≤ i) : atI xs i = some (xs[(i + xs.length).toNat]'(by omega)) := by
  unfold atI
  rw [ixN_ng h0 h, Option.bind_some, List.getElem?_eq_getElem (by omega)]
theorem atI_ints {ns : List Int} {i : Int} (h0 : 0 ≤ i) (h : i < ns.length) : atI (ns.map PyData.int) i = some (.int (ns.getD i.toNat 0)) := by
  rw [atI_of h0 (by rw [List.length_map]; exact h), List.getElem_map]
  have h1 : i.toNat < ns.length := by omega
  rw [List.getD_eq_getElem?_getD, List.getElem?_eq_getElem h1, Option.getD_some]
theorem szl {n : Nat} (h : n ≤ 16777216) : n ≤ sizeLine := h
theorem szlt {n : Nat} (h : n < 16777216) : n < sizeLine := h
theorem lcP {X : Cx} {L : PP.Loc} {elt : Expr} {scope : Scope} {own : List (Str × Nat)} {pat : Pat} {Q : List PyData → Mem → Prop} {xs : List PyData} {g : Mem → Prop} {m1 : Mem} (hz : xs.length ≤ sizeLine) (hg : g m1) (f : Nat → PyData)
    (h : ∀ (i : Nat) (x : PyData), xs[i]? = some x → ∃ Lx, setP (wipeL L (own.map (·.2))) pat x = some Lx ∧ WEb X scope elt Lx m1 fun y m4 => y = f i ∧ m4 = m1) (q : Q ((List.range xs.length).map f) m1) :
    xs.length ≤ sizeLine ∧ ∃ I : Nat → List PyData → Mem → Prop, I 0 [] m1 ∧
      (∀ (i : Nat) (x : PyData) (ys : List PyData) (m' : Mem), xs[i]? = some x → ys.length ≤ i → I i ys m' → g m' ∧ ∃ Lx, setP (wipeL L (own.map (·.2))) pat x = some Lx ∧ WEb X scope elt Lx m' fun y m4 => I (i + 1) (ys ++ [y]) m4) ∧
      ∀ ys m', ys.length ≤ xs.length → I xs.length ys m' → g m' ∧ Q ys m' := by
  refine ⟨hz, fun i ys m => m = m1 ∧ ys = (List.range i).map f, ⟨rfl, rfl⟩, ?_, ?_⟩
  · rintro i x ys m' hx _ ⟨rfl, rfl⟩
    obtain ⟨Lx, e, w⟩ := h i x hx
    refine ⟨hg, Lx, e, fun s H C cl fp => (w s H C cl fp).mono ?_⟩
    rintro y m4 ⟨rfl, rfl⟩
    refine ⟨rfl, ?_⟩
    rw [List.range_succ, List.map_append]
    rfl
  · rintro ys m' _ ⟨rfl, rfl⟩
    exact ⟨hg, q⟩
theorem rep_ints {n : Nat} {z : Int} : (List.replicate n z).map PyData.int = (List.replicate n [PyData.int z]).flatten := by
  induction n with
  | zero => rfl
  | succ n ih => rw [List.replicate_succ, List.replicate_succ, List.map_cons, List.flatten_cons, ih]; rfl
inductive WkL (n : Nat) : PP.Loc → PP.Loc → Prop
  | nil : WkL n [] []
  | kd {x : PyData} {L L' : PP.Loc} : WkL n L L' → WkL n (some (.d x) :: L) (some (.d x) :: L')
  | kr {k : Nat} {L L' : PP.Loc} : k < n → WkL n L L' → WkL n (some (.ref k) :: L) (some (.ref k) :: L')
  | kw {x : List PyData} {L L' : PP.Loc} : WkL n L L' → WkL n (some (.raw x) :: L) (some (.raw x) :: L')
  | kx {C : Addr} {x : PyData} {L L' : PP.Loc} : WkL n L L' → WkL n (some (.exc C x) :: L) (some (.exc C x) :: L')
  | drop {y : Option PV} {L L' : PP.Loc} : WkL n L L' → WkL n (y :: L) (none :: L')
theorem WkL.len {n : Nat} : ∀ {L L' : PP.Loc}, WkL n L L' → L'.length = L.length
  | _, _, .nil => rfl
  | _, _, .kd h => by rw [List.length_cons, List.length_cons, h.len]
  | _, _, .kr _ h => by rw [List.length_cons, List.length_cons, h.len]
  | _, _, .kw h => by rw [List.length_cons, List.length_cons, h.len]
  | _, _, .kx h => by rw [List.length_cons, List.length_cons, h.len]
  | _, _, .drop h => by rw [List.length_cons, List.length_cons, h.len]
theorem WkL.at {n : Nat} : ∀ {L L' : PP.Loc}, WkL n L L' → ∀ (i : Nat) (p : PV), L'[i]? = some (some p) → L[i]? = some (some p) ∧ ∀ k, p = .ref k → k < n
  | _, _, .nil, i, p, e => by simp at e
  | _, _, .kd h, 0, p, e => by simp at e; subst e; exact ⟨rfl, fun k z => by cases z⟩
  | _, _, .kr hk h, 0, p, e => by simp at e; subst e; exact ⟨rfl, fun k z => by cases z; exact hk⟩
  | _, _, .kw h, 0, p, e => by simp at e; subst e; exact ⟨rfl, fun k z => by cases z⟩
  | _, _, .kx h, 0, p, e => by simp at e; subst e; exact ⟨rfl, fun k z => by cases z⟩
  | _, _, .drop h, 0, p, e => by simp at e
  | _, _, .kd h, i + 1, p, e => h.at i p (by simpa using e)
  | _, _, .kr _ h, i + 1, p, e => h.at i p (by simpa using e)
  | _, _, .kw h, i + 1, p, e => h.at i p (by simpa using e)
  | _, _, .kx h, i + 1, p, e => h.at i p (by simpa using e)
  | _, _, .drop h, i + 1, p, e => h.at i p (by simpa using e)
theorem Wk.same {n : Nat} {L L' : PP.Loc} {m : Mem} (h : WkL m.length L L') (hn : n ≤ m.length) : Wk n L m L' m := ⟨h.len, h.at, m.length, hn, by rw [List.take_length]⟩
theorem Wk.cut {n : Nat} {L L' : PP.Loc} {m : Mem} (h : WkL (m.take n).length L L') : Wk n L m L' (m.take n) := ⟨h.len, h.at, n, Nat.le_refl _, rfl⟩
theorem mem_cutD {xs : List PyData} {lo hi : Option Int} {x : PyData} (h : x ∈ cutD xs lo hi) : x ∈ xs := List.mem_of_mem_drop (List.mem_of_mem_take h)
theorem atI_gdn {xs : List PyData} {i : Int} (h0 : i < 0) (h : -(xs.length : Int) ≤ i) : atI xs i = some (xs.getD (i + xs.length).toNat .none) := by
  rw [atI_ng h0 h, List.getD_eq_getElem?_getD, List.getElem?_eq_getElem (by omega), Option.getD_some]
theorem mem_getD {α : Type} {xs : List α} {j : Nat} {d : α} (h : j < xs.length) : xs.getD j d ∈ xs := by
  rw [List.getD_eq_getElem?_getD, List.getElem?_eq_getElem h, Option.getD_some]
  exact List.getElem_mem h
end PP
namespace PP
open PySem PySem.Spec PyProof.Rows L2
def Sd (n : Nat) (d : PyData) : Prop := d.canLay0 = true ∧ d.depth ≤ n
theorem Sd.mono {n k : Nat} {d : PyData} (h : Sd n d) (l : n ≤ k) : Sd k d := ⟨h.1, Nat.le_trans h.2 l⟩
theorem Sd.shp {n : Nat} {d : PyData} (h : Sd n d) (l : n ≤ 64 := by decide) : shp d := by
  unfold PP.shp SeqAt.shaped
  rw [Bool.and_eq_true]
  exact ⟨h.1, decide_eq_true (Nat.le_trans h.2 l)⟩
theorem sd_int {n : Nat} {i : Int} : Sd n (.int i) := ⟨rfl, Nat.zero_le _⟩
theorem sd_all {n : Nat} : ∀ {xs : List PyData}, (∀ x ∈ xs, Sd n x) → PyData.canLayAll0 xs = true ∧ PyData.depthAll xs ≤ n
  | [], _ => ⟨rfl, Nat.zero_le _⟩
  | x :: xs, h => by
    obtain ⟨h1, h2⟩ := h x List.mem_cons_self
    obtain ⟨h3, h4⟩ := sd_all fun y hy => h y (List.mem_cons_of_mem _ hy)
    refine ⟨?_, ?_⟩
    · simp only [PyData.canLayAll0, h1, h3, Bool.and_self]
    · simp only [PyData.depthAll]; omega
theorem sd_list {n : Nat} {xs : List PyData} (h : ∀ x ∈ xs, Sd n x) : Sd (n + 1) (.list xs) := by
  obtain ⟨h1, h2⟩ := sd_all h
  exact ⟨by simp only [PyData.canLay0, h1], by simp only [PyData.depth]; omega⟩
theorem sd_tuple {n : Nat} {xs : List PyData} (h : ∀ x ∈ xs, Sd n x) : Sd (n + 1) (.tuple xs) := by
  obtain ⟨h1, h2⟩ := sd_all h
  exact ⟨by simp only [PyData.canLay0, h1], by simp only [PyData.depth]; omega⟩
theorem sd_ints {n : Nat} {ns : List Int} : ∀ x ∈ ns.map PyData.int, Sd n x := fun x hx => by
  obtain ⟨i, _, rfl⟩ := List.mem_map.mp hx
  exact sd_int
theorem shp_ints {ns : List Int} : shp (.list (ns.map .int)) := (sd_list (n := 0) sd_ints).shp
theorem eqvAll_ints : ∀ {ns ks : List Int}, PyData.eqvAll (ns.map .int) (ks.map .int) = decide (ns = ks)
  | [], [] => rfl
  | [], _ :: _ => rfl
  | _ :: _, [] => rfl
  | n :: ns, k :: ks => by
    show (PyData.eqv (.int n) (.int k) && PyData.eqvAll (ns.map .int) (ks.map .int)) = _
    rw [eqvAll_ints]
    show ((n == k) && decide (ns = ks)) = _
    by_cases h1 : n = k <;> by_cases h2 : ns = ks <;> simp [h1, h2]
theorem eqv_nil {xs : List PyData} : PyData.eqv (.list xs) (.list []) = xs.isEmpty := by
  cases xs <;> rfl
def Tg (k : Int) (x : PyData) : Prop := ∃ (u d : Int) (ns : List Int), x = .tuple [.int u, .int d, .tuple (ns.map .int)] ∧ -(1000 + 10 * k) ≤ u ∧ u ≤ 1000 + 10 * k ∧ -(1000 + 10 * k) ≤ d ∧ d ≤ 1000 + 10 * k ∧ ns.length ≤ 16 ∧
  ∀ z ∈ ns, -(1000000000000000000000000000000 + 100 * k) ≤ z ∧ z ≤ 1000000000000000000000000000000 + 100 * k
theorem Tg.mono {k l : Int} {x : PyData} (h : Tg k x) (e : k ≤ l) : Tg l x := by
  obtain ⟨u, d, ns, e1, h1, h2, h3, h4, h5, h6⟩ := h
  exact ⟨u, d, ns, e1, by omega, by omega, by omega, by omega, h5, fun z hz => by have := h6 z hz; omega⟩
end PP
namespace PP
open PySem PySem.Spec PyProof.Rows L2
section
variable {X : Cx} {L : PP.Loc} {m : Mem} {a b c : Expr} {pos : Pos} {i j k : Int} {Q : QE} {es : List Expr}
theorem ve_chain {op op' : CmpOp} {g g' : Int → Int → Bool} (ho : OpR X (compareOp op) (rI0 fun i j => .bl (g i j))) (ho' : OpR X (compareOp op') (rI0 fun i j => .bl (g' i j))) (hm : lastMarks [op, op'] [b, c] = false)
    (ha : VE X a L m (.int i)) (hb : VE X b L m (.int j)) (hc : g i j = true → VE X c L m (.int k)) : VE X (.Compare a [op, op'] [b, c] pos) L m (.bool (g i j && g' j k)) := fun Q q => we_chain ho ho' hm (ha _ (hb _ ⟨i, j, rfl, rfl, by
    dsimp only
    by_cases h : g i j = true
    · rw [if_pos h]
      refine hc h _ ⟨k, rfl, ?_⟩
      rw [h, Bool.true_and] at q
      exact q
    · rw [if_neg h]
      rw [Bool.eq_false_iff.mpr h, Bool.false_and] at q
      exact q⟩))
theorem vt_chain {op op' : CmpOp} {g g' : Int → Int → Bool} (ho : OpR X (compareOp op) (rI0 fun i j => .bl (g i j))) (ho' : OpR X (compareOp op') (rI0 fun i j => .bl (g' i j))) (hm : lastMarks [op, op'] [b, c] = false)
    (ha : VE X a L m (.int i)) (hb : VE X b L m (.int j)) (hc : g i j = true → VE X c L m (.int k)) : VT X (.Compare a [op, op'] [b, c] pos) L m (g i j && g' j k) := fun Q q => wt_chain ho ho' hm (ha _ (hb _ ⟨i, j, rfl, rfl, by
    dsimp only
    by_cases h : g i j = true
    · rw [if_pos h]
      refine hc h _ ⟨k, rfl, ?_⟩
      rw [h, Bool.true_and] at q
      exact q
    · rw [if_neg h]
      rw [Bool.eq_false_iff.mpr h, Bool.false_and] at q
      exact q⟩))
theorem we_notL (h : WV X a L m fun p m1 => ∃ xs, seqP m1 p = some xs ∧ Q (.bool xs.isEmpty) m1) : WE X (.UnaryOp .Not a pos) L m Q :=
  we_of (pe_notT (peU a)) fun w σ H r => h.go r fun w1 v p m1 H1 l1 r1 d1 ⟨xs, e1, q⟩ => by
    obtain ⟨ad, vs, rfl, hh, d⟩ := seqP_ok r1.toHR d1 e1
    have e2 : (!(!vs.isEmpty)) = xs.isEmpty := by
      cases d with
      | nil => rfl
      | cons _ _ => rfl
    rcases hh with hh | hh
    · exact ⟨_, .inl ⟨vs, hh, rfl⟩, w1, _, m1, l1, r1.toHR, .bl _, by rw [e2]; exact q⟩
    · exact ⟨_, .inr (.inl ⟨vs, hh, rfl⟩), w1, _, m1, l1, r1.toHR, .bl _, by rw [e2]; exact q⟩
end
section
variable {X : Cx} {scope : Scope} {s : Shared} {H : Hp} {C : Addr} {cl : List (Str × Addr)} {fp : List Addr} {x y z : Str} {px py pz tp : Pos} {i j l k : Nat}
theorem pg_tp2 (hN : X.N.Nodup) (hi : X.N[i]? = some x) (hx : L2.Loc (compEnvC scope cl C X.env).scope x) (hf : (scope.names.lookup x == some .cell) = true ∨ (compEnvC scope cl C X.env).scope.names.lookup x = some .local)
    (hj : X.N[j]? = some y) (hy : L2.Loc (compEnvC scope cl C X.env).scope y) (hg : (scope.names.lookup y == some .cell) = true ∨ (compEnvC scope cl C X.env).scope.names.lookup y = some .local) (hc : X.calm = true := by rfl) : PG (BX X scope s H C cl fp) (.Tuple [.Name x px, .Name y py] k tp) (gP X.K (.tp [i, j])) :=
  pg_tup (X := BX X scope s H C cl fp) hc (pgs_cons (pg_name (X := BX X scope s H C cl fp) hN hi hx hf) (pgs_cons (pg_name (X := BX X scope s H C cl fp) hN hj hy hg) pgs_nil))
end
theorem ints_get {ns : List Int} {i : Nat} {x : PyData} (h : (ns.map PyData.int)[i]? = some x) : ∃ p : Int, ns[i]? = some p ∧ x = .int p := by
  rw [List.getElem?_map] at h
  cases e : ns[i]? with
  | none => rw [e] at h; cases h
  | some v => rw [e] at h; exact ⟨v, rfl, (Option.some.inj h).symm⟩
theorem perm2 {x y : Int} {ns : List Int} (p : ns.Perm [x, y]) (s : ns.Pairwise (· ≤ ·)) : ns = [min x y, max x y] := by
  have hl := p.length_eq
  match ns, hl with
  | [a, b], _ =>
    have hab : a ≤ b := by
      have := (List.pairwise_cons.mp s).1 b List.mem_cons_self
      exact this
    have ha : a ∈ [x, y] := p.mem_iff.mp List.mem_cons_self
    rcases List.mem_cons.mp ha with rfl | ha
    · have hb := List.perm_singleton.mp ((List.perm_cons _).mp p)
      have : b = y := by simpa using hb
      subst this
      rw [Int.min_eq_left hab, Int.max_eq_right hab]
    · have := List.mem_singleton.mp ha
      subst this
      have hb := List.perm_singleton.mp ((List.perm_cons _).mp (p.trans (List.Perm.swap _ _ [])))
      have : b = x := by simpa using hb
      subst this
      rw [Int.min_eq_right hab, Int.max_eq_left hab]
end PP
namespace PP
open PySem PySem.Spec PyProof.Rows L2
section
variable {X : Cx} {L : PP.Loc} {m : Mem} {e : Expr} {es : List Expr} {kws : List Keyword} {pos p kpos : Pos} {Q : QE} {k : Nat} {f : Addr} {fd : FuncData} {ps kn : List Str} {sp : FSp} {x : Str} {nm : Option Str}
def tUK (X : Cx) (kws : List Keyword) : TA := fun σ H Q => ∀ (pos : Pos) (pins : List (Addr × Obj)) (s : Shared), Inv X pins σ H s → wpAny (model X.prog X.w) X.A (evalAll ((backToKw pos (keywordEach kws X.env)).map (·.2))) (AP X pins σ Q) X.xe s
theorem pkU (kws : List Keyword) : PK X kws (tUK X kws) := ⟨fun pos pins s _ _ _ I h => h pos pins s I⟩
theorem tUK_mono {kws : List Keyword} {σ : L2.St} {H : Hp} {Q Q' : List V → Hp → Prop} (h : tUK X kws σ H Q) (k : ∀ v H', Q v H' → Q' v H') : tUK X kws σ H Q' := fun pos pins s I =>
  thn (h pos pins s I) fun us s' ⟨vs, H', I', r, q⟩ => ⟨vs, H', I', r, k _ _ q⟩
def WK (X : Cx) (kws : List Keyword) (L : PP.Loc) (m : Mem) (Q : List PV → Mem → Prop) : Prop := ∀ (w : Wd) (σ : L2.St) (H : Hp), Rep X.K w L m σ H → tUK X kws σ H (POA X.K w Q)
theorem WK.go {Q : List PV → Mem → Prop} (h : WK X kws L m Q) {w : Wd} {σ : L2.St} {H : Hp} (r : Rep X.K w L m σ H) {R : List V → Hp → Prop} (k : ∀ (w' : Wd) (vs : List V) (ps : List PV) (m' : Mem) (H' : Hp), w.le w' → Rep X.K w' L m' σ H' → RVs X.K w' vs ps → Q ps m' → R vs H') : tUK X kws σ H R :=
  tUK_mono (h w σ H r) fun v H' ⟨w', x, m', l, hr, d, q⟩ => k w' v x m' H' l (r.go l hr) d q
theorem wk_nil {Q : List PV → Mem → Prop} (q : Q [] m) : WK X [] L m Q := fun w σ H r pos pins s I => pk_nil.run pos pins s σ H _ I ⟨w, [], m, .refl w, r.toHR, .nil, q⟩
theorem wk_cons {Q : List PV → Mem → Prop} (h : WV X e L m fun x m1 => WK X kws L m1 fun xs m2 => Q (x :: xs) m2) : WK X (⟨nm, e, kpos⟩ :: kws) L m Q := fun w σ H r pos pins s I =>
  (pk_cons (peU e) (pkU kws)).run pos pins s σ H _ I (h.go r fun w1 v x m1 H1 l1 r1 d1 q1 => q1.go r1 fun w2 vs xs m2 H2 l2 r2 d2 q2 => ⟨w2, x :: xs, m2, l1.trans l2, r2.toHR, .cons (d1.mono l2.toLe0) d2, q2⟩)
theorem wk_d {Q : List PV → Mem → Prop} (h : WE X e L m fun x m1 => WK X kws L m1 fun xs m2 => Q (.d x :: xs) m2) : WK X (⟨nm, e, kpos⟩ :: kws) L m Q := wk_cons (wv_we h)
theorem pe_callK0 {CX : CXT} {tk : TA} {ps kn : List Str} {sp : Sp} {E : XK} {g : List Value → List Value → List Value} {gV : List V → List V → List V} (F : FnOk X.prog X.w X.K X.mg X.base CX k f fd ps sp) (hr : Room k X.A) (hg : Gl X x) (hm : X.mg x = some (.ref f)) (hk : PySem.W.keepIn X.K (.ref f) = true) (hb : KBinds X.K fd ps kn g gV) (hx : Passes CX X E)
    (hkw : PK X kws tk) (hall : (backToKw pos (keywordEach kws X.env)).all (·.1.isSome) = true := by rfl) (hks : (backToKw pos (keywordEach kws X.env)).filterMap (·.1) = kn := by rfl)
    (hdb : (x == ("__debug__" : Str)) = false := by decide)
    (hpl : ((backTo pos (starEach [] X.env)).any (·.1) || (backToKw pos (keywordEach kws X.env)).any (·.1.isNone)) = false := by rfl) :
    PE X (.Call (.Name x p) [] kws pos) (tCallK sp gV E tNil tk) := by
  refine ⟨fun pins s σ H Q I h => ?_⟩
  refine wpAny_Call_Name_kw (ld_glob I hg hm ?_ hdb)
  refine PySem.W.callWith_KW0 (h₀ := X.base) I.ok.mod.kin hk hall (thn (hkw.run pos pins s σ H _ I h) fun ws s2 ⟨zs, H2, I2, rz, q2⟩ => ⟨I2.kIn, ?_⟩) hpl
  rw [hks]
  exact run_fnk F hr hb hx I2 .nil rz q2
theorem call_readE {ks : List Nat} {w w1 : Wd} {σ : L2.St} {H1 : Hp} {vs : List V} {pvs : List PV} {m1 : Mem} {E : XK} (l1 : w.le w1) (r1 : Rep X.K w1 L m1 σ H1) (d1 : RVs X.K w1 vs pvs) (h : CallAsk sp ks pvs m1 fun p mc => ∃ y, p = .d y ∧ backB none ks mc = true ∧ Q y (setAll m1 ks mc)) : toSp X.K sp vs H1 (POE X.K w Q) E := by
  obtain ⟨nd, hl, hi, hs⟩ := h
  refine ⟨_, _, _, _, r1.toHR.subWorld nd hl, sub_rvs r1.toHR hl d1 hi, hs, fun w' v q mc H' l hr' d ⟨y, ey, hmc, qq⟩ => ?_⟩
  subst ey
  obtain ⟨l3, hr3⟩ := r1.toHR.back (mo := []) (ex := []) nd hl l (by rw [List.append_nil]; exact hr') hmc
  exact ⟨_, y, _, l1.trans l3, hr3, d, qq⟩
structure KBp (K : PySem.W.Frag) (fd : FuncData) (ps : List Str) (n : Nat) (kn : List Str) : Prop where
  to : ∀ (s : Shared) (us ws : List Value), K.In s.heap → us.length = n → ws.length = kn.length → BindsTo s fd ⟨us, kn.zip ws⟩ (ps.zip (us ++ ws))
  ne : ps ≠ []
def gL {α : Type} (n k : Nat) (us ws : List α) : List α := if us.length = n ∧ ws.length = k then us ++ ws else []
theorem vals_app : ∀ {vs zs : List V} {us ws : List Value}, Vals vs us → Vals zs ws → Vals (vs ++ zs) (us ++ ws)
  | _, _, _, _, .nil, s => s
  | _, _, _, _, .cons r t, s => .cons r (vals_app t s)
theorem KBp.kb {K : PySem.W.Frag} {fd : FuncData} {ps kn : List Str} {n : Nat} (h : KBp K fd ps n kn) : KBinds K fd ps kn (gL n kn.length) (gL n kn.length) where
  to := fun s us ws X hl => by
    unfold gL at hl ⊢
    split at hl
    · rename_i c
      rw [if_pos c]
      exact h.to s us ws X c.1 c.2
    · exact absurd (List.length_eq_zero_iff.mp hl.symm) h.ne
  rel := fun {vs us zs ws} r rz => by
    unfold gL
    rw [r.length, rz.length]
    split
    · exact vals_app r rz
    · exact .nil
end
def spLaw : FSp := fun pvs m q => ∃ ns : List Int, pvs = [.raw (ns.map .int)] ∧ m = [] ∧ ns.length ≤ 63 ∧ (∀ z ∈ ns, Builtin.Int.intBits z ≤ 1048576) ∧ q (.d (.bool true)) []
end PP
namespace PP
open PySem PySem.Spec PyProof.Rows L2
theorem hr_base {K : PySem.W.Frag} {H : Hp} : HR K ⟨[], [], H⟩ [] H where
  fz := Sub.refl _
  len := rfl
  nd := .nil
  sep := fun k a c e _ => by simp at e
  occ := fun a h => by cases h
  tp := fun p h => by cases h
  tnd := .nil
  cell := fun k c e => by simp at e
theorem law_sp {K : PySem.W.Frag} {H : Hp} {a : Addr} {ns : List Int} {E : XK} (hl : ns.length ≤ 63) (hb : ∀ z ∈ ns, Builtin.Int.intBits z ≤ 1048576) (hS : SqL K H a (ns.map V.int)) : toSp K spLaw [.ref a] H (fun v _ => v = .bl true) E :=
  ⟨⟨[], [], H⟩, [.raw (ns.map .int)], [], fun p _ => p = .d (.bool true), hr_base, .cons ⟨a, _, rfl, hS, dpa_ints ns⟩ .nil, ⟨ns, rfl, rfl, hl, hb, rfl⟩, fun w' v p m' H' _ _ r e => by
    subst e
    exact dp_bool r⟩
end PP
namespace PP
open PySem PySem.Spec PyProof.Rows L2 RZ
def zipD (xs ys : List PyData) : List PyData := (xs.zip ys).map fun p => .tuple [p.1, p.2]
theorem zipD_get {xs ys : List PyData} {i : Nat} {x : PyData} (h : (zipD xs ys)[i]? = some x) : ∃ a b, xs[i]? = some a ∧ ys[i]? = some b ∧ x = .tuple [a, b] := by
  unfold zipD at h
  rw [List.getElem?_map] at h
  cases e : (xs.zip ys)[i]? with
  | none => rw [e] at h; cases h
  | some p =>
    rw [e] at h
    obtain ⟨h1, h2⟩ := List.getElem?_zip_eq_some.mp e
    exact ⟨p.1, p.2, h1, h2, (Option.some.inj h).symm⟩
theorem zipD_len {xs ys : List PyData} : (zipD xs ys).length = min xs.length ys.length := by unfold zipD; rw [List.length_map, List.length_zip]
theorem jok_zipL {K : PySem.W.Frag} {w : Wd} {a b : Addr} {xs ys : List PyData} (r : DP K w.F (.ref a) (.list xs)) (r2 : DP K w.F (.ref b) (.list ys)) : JOk K w (Itz K a b) (zipD xs ys) fun _ => True where
  go := fun w' m' H' i x l hr g hx => by
    obtain ⟨ad, vs, e1, e2, d⟩ := dp_list (dp_mono l.sub _ _ r)
    cases e1
    obtain ⟨bd, us, e1, e3, d2⟩ := dp_list (dp_mono l.sub _ _ r2)
    cases e1
    obtain ⟨y, z, hy, hz, rfl⟩ := zipD_get hx
    obtain ⟨v, hv, dv⟩ := dpa_get d hy
    obtain ⟨u, hu, du⟩ := dpa_get d2 hz
    have e2 : SqL K H' a vs := .of (hr.fz _ _ e2)
    have e3 : SqL K H' b us := .of (hr.fz _ _ e3)
    refine ⟨⟨vs, us, v, u, e2, e3, hv, hu⟩, fun t H'' ⟨T, p, q, et, hT, eh, f1, f2⟩ => ?_⟩
    subst et; subst eh
    have ep : p = v := Option.some.inj ((f1 vs e2).symm.trans hv)
    have eq : q = u := Option.some.inj ((f2 us e3).symm.trans hu)
    subst ep; subst eq
    obtain ⟨w2, l2, hr2, d3⟩ := hr.pair hT dv du
    exact ⟨w2, l2, hr2, d3⟩
  stop := fun w' m' H' i l hr g hi => by
    obtain ⟨ad, vs, e1, e2, d⟩ := dp_list (dp_mono l.sub _ _ r)
    cases e1
    obtain ⟨bd, us, e1, e3, d2⟩ := dp_list (dp_mono l.sub _ _ r2)
    cases e1
    refine ⟨vs, us, .of (hr.fz _ _ e2), .of (hr.fz _ _ e3), ?_⟩
    rw [zipD_len] at hi
    rw [dpa_len d, dpa_len d2]
    omega
theorem jok_zipT {K : PySem.W.Frag} {w : Wd} {a b : Addr} {xs ys : List PyData} (r : DP K w.F (.ref a) (.tuple xs)) (r2 : DP K w.F (.ref b) (.tuple ys)) : JOk K w (ItzT K a b) (zipD xs ys) fun _ => True where
  go := fun w' m' H' i x l hr g hx => by
    obtain ⟨ad, vs, e1, e2, d⟩ := dp_tuple (dp_mono l.sub _ _ r)
    cases e1
    obtain ⟨bd, us, e1, e3, d2⟩ := dp_tuple (dp_mono l.sub _ _ r2)
    cases e1
    obtain ⟨y, z, hy, hz, rfl⟩ := zipD_get hx
    obtain ⟨v, hv, dv⟩ := dpa_get d hy
    obtain ⟨u, hu, du⟩ := dpa_get d2 hz
    have e2 : SqT K H' a vs := hr.fz.sqt e2
    have e3 : SqT K H' b us := hr.fz.sqt e3
    refine ⟨⟨vs, us, v, u, e2, e3, hv, hu⟩, fun t H'' ⟨T, p, q, et, hT, eh, f1, f2⟩ => ?_⟩
    subst et; subst eh
    have ep : p = v := Option.some.inj ((f1 vs e2).symm.trans hv)
    have eq : q = u := Option.some.inj ((f2 us e3).symm.trans hu)
    subst ep; subst eq
    obtain ⟨w2, l2, hr2, d3⟩ := hr.pair hT dv du
    exact ⟨w2, l2, hr2, d3⟩
  stop := fun w' m' H' i l hr g hi => by
    obtain ⟨ad, vs, e1, e2, d⟩ := dp_tuple (dp_mono l.sub _ _ r)
    cases e1
    obtain ⟨bd, us, e1, e3, d2⟩ := dp_tuple (dp_mono l.sub _ _ r2)
    cases e1
    refine ⟨vs, us, hr.fz.sqt e2, hr.fz.sqt e3, ?_⟩
    rw [zipD_len] at hi
    rw [dpa_len d, dpa_len d2]
    omega
section
variable {X : Cx} {L : PP.Loc} {m : Mem} {a b : Expr} {pos p : Pos} {Q : QE} {QT : Bool → Mem → Prop} {QI : List PyData → (Mem → Prop) → Mem → Prop}
theorem wi_zip {tpos : Pos} {elts : List Expr} {kk : Nat} (hm : X.mg "zip" = none) (h : WE X a L m fun x m1 => WE X b L m1 fun y m2 => ∃ xs ys, ((x = .list xs ∧ y = .list ys) ∨ (x = .tuple xs ∧ y = .tuple ys)) ∧ QI (zipD xs ys) (fun _ => True) m2) (hg : Gl X "zip" := by rfl)
    (hs : starEach [a, b] X.env = (false, eval a X.env) :: starEach [b] X.env := by rfl) (hs2 : starEach [b] X.env = (false, eval b X.env) :: starEach [] X.env := by rfl) (hpl : (backTo pos (starEach [b] X.env)).any (·.1) = false := by rfl) : WI X (.Tuple elts kk tpos) (.Call (.Name "zip" p) [a, b] [] pos) L m QI :=
  wi_of (pi_zipA hg hm (paU [a, b]) hs hpl) fun w σ H r => WA.go (wd2 h hs hs2) r fun w1 vs ps m1 H1 l1 r1 d1 ⟨x, y, e1, xs, ys, e2, q⟩ => by
    subst e1
    obtain ⟨v, u, rfl, d2, d3⟩ := rvs2 d1
    rcases e2 with ⟨rfl, rfl⟩ | ⟨rfl, rfl⟩
    · obtain ⟨ad, us, rfl, h1, _⟩ := dp_list d2
      obtain ⟨bd, ws, rfl, h2, _⟩ := dp_list d3
      exact ⟨ad, bd, us, ws, rfl, .inl ⟨.of (r1.toHR.fz _ _ h1), .of (r1.toHR.fz _ _ h2), w1, m1, _, _, l1, r1.toHR, jok_zipL d2 d3, q⟩⟩
    · obtain ⟨ad, us, rfl, h1, _⟩ := dp_tuple d2
      obtain ⟨bd, ws, rfl, h2, _⟩ := dp_tuple d3
      exact ⟨ad, bd, us, ws, rfl, .inr ⟨r1.toHR.fz.sqt h1, r1.toHR.fz.sqt h2, w1, m1, _, _, l1, r1.toHR, jok_zipT d2 d3, q⟩⟩
theorem we_isinst2 {S T : String} {x y : Str} {x1 : Nat} {p2 p3 p4 : Pos} (hm : X.mg "isinstance" = none) (hmS : X.mg x = none) (hmT : X.mg y = none) (hbS : bootBuiltins x = some (.type S)) (hb : bootBuiltins y = some (.type T)) (h : WE X a L m fun z m1 => ∃ j k, kitB (tyD z) S = some j ∧ kitB (tyD z) T = some k ∧ Q (.bool (j || k)) m1)
    (hg : Gl X "isinstance" := by rfl) (hgS : Gl X x := by rfl) (hgT : Gl X y := by rfl)
    (hnS : x ≠ "__name__" := by decide) (hdS : (x == ("__debug__" : Str)) = false := by decide) (hn : y ≠ "__name__" := by decide) (hd : (y == ("__debug__" : Str)) = false := by decide)
    (he : starEach [a, .Tuple [.Name x p2, .Name y p3] x1 p4] X.env = (false, eval a X.env) :: starEach [.Tuple [.Name x p2, .Name y p3] x1 p4] X.env := by rfl) (he2 : starEach [.Tuple [.Name x p2, .Name y p3] x1 p4] X.env = (false, eval (.Tuple [.Name x p2, .Name y p3] x1 p4) X.env) :: starEach [] X.env := by rfl)
    (he3 : starEach [.Name x p2, .Name y p3] X.env = (false, eval (.Name x p2) X.env) :: starEach [.Name y p3] X.env := by rfl) (he4 : starEach [.Name y p3] X.env = (false, eval (.Name y p3) X.env) :: starEach [] X.env := by rfl)
    (hpl : (backTo pos (starEach [.Tuple [.Name x p2, .Name y p3] x1 p4] X.env)).any (·.1) = false := by rfl) : WE X (.Call (.Name "isinstance" p) [a, .Tuple [.Name x p2, .Name y p3] x1 p4] [] pos) L m Q :=
  we_of (pe_callB call_isiT hg hm (by decide +kernel) (pa_cons (peU a) (pa_cons (pe_tup (pa_cons (pe_bltn (v := .ty S) hgS hmS hbS rfl hnS hdS) (pa_cons (pe_bltn (v := .ty T) hgT hmT hb rfl hn hd) pa_nil he4) he3)) pa_nil he2) he) (he := he) (hpl := hpl)) fun w σ H r => h.go r fun w1 v z m1 H1 l1 r1 d1 ⟨j, k, e1, e2, q⟩ => by
    refine ⟨szl (by simp), fun t ht => ?_⟩
    obtain ⟨l2, hr2⟩ := r1.toHR.fnew (o := .tup [.ty S, .ty T]) ht
    have d2 := dp_mono l2.sub _ _ d1
    have ty : TyX X.K (upd H1 t (.tup [.ty S, .ty T])) v (.type (tyD z)) := by
      rcases tyD_ok hr2 d2 with t | ⟨xs, rfl⟩
      · exact t
      · exact tyD_tup hr2 d2
    refine ⟨v, t, [.ty S, .ty T], _, [.type S, .type T], j || k, rfl, upd_same, .cons (.ty S) (.cons (.ty T) .nil), ty, kitAny_cons (kit_ty e1) (fun hj => kitAny_cons (kit_ty e2) (fun hk => by rw [hj, hk]; rfl) fun hk => by rw [hj, hk]; rfl) (fun hj => by rw [hj]; rfl), _, _, m1, l1.trans l2, hr2, .bl _, q⟩
def isNoneD : PyData → Bool
  | .none => true
  | _ => false
theorem isNone_ok {K : PySem.W.Frag} {F : Hp} {v : V} {x : PyData} (d : DP K F v x) : decide (v = .non) = isNoneD x := by
  cases d <;> simp [isNoneD]
theorem we_isNone (h : WE X a L m fun x m1 => WE X b L m1 fun y m2 => y = .none ∧ Q (.bool (isNoneD x)) m2) : WE X (.Compare a [.Is] [b] pos) L m Q :=
  we_cmp op_isN (h.mono fun _ _ h => h.mono fun _ _ ⟨e, q⟩ w0 w H v u l hr d1 d2 => by
    subst e
    exact ⟨dp_none d2, by rw [isNone_ok d1]; exact po_bool l hr q⟩) (nomark _)
theorem wt_isNone (h : WE X a L m fun x m1 => WE X b L m1 fun y m2 => y = .none ∧ QT (isNoneD x) m2) : WT X (.Compare a [.Is] [b] pos) L m QT :=
  wt_cmp op_isN (h.mono fun _ _ h => h.mono fun _ _ ⟨e, q⟩ w0 w H v u l hr d1 d2 => by
    subst e
    exact ⟨dp_none d2, by rw [isNone_ok d1]; exact po_bool l hr ⟨_, rfl, q⟩⟩) (nomark _) fun _ _ _ _ _ k ⟨e, q⟩ => ⟨e, k _ _ q⟩
end
end PP
namespace PP
open PySem PySem.Spec PyProof.Rows L2
def isT (s : String) (d : PyData) : Bool := tyD d == s
def isSc : PyData → Bool
  | .none => true
  | .bool _ => true
  | .int _ => true
  | .str _ => true
  | _ => false
inductive Dq : Nat → PyData → Prop
  | sc {n : Nat} {d : PyData} : isSc d = true → d.canLay0 = true → d.depth ≤ 64 → Dq n d
  | lst {n : Nat} {xs : List PyData} : (∀ x ∈ xs, Dq n x) → Dq (n + 1) (.list xs)
  | tup {n : Nat} {xs : List PyData} : (∀ x ∈ xs, Dq n x) → Dq (n + 1) (.tuple xs)
theorem dq_int {n : Nat} {i : Int} : Dq n (.int i) := .sc rfl rfl (Nat.zero_le _)
theorem kit_list {d : PyData} : kitB (tyD d) "list" = some (isT "list" d) := by cases d <;> (simp only [tyD, isT]; decide +kernel)
theorem kit_tuple {d : PyData} : kitB (tyD d) "tuple" = some (isT "tuple" d) := by cases d <;> (simp only [tyD, isT]; decide +kernel)
theorem kit_str {d : PyData} : kitB (tyD d) "str" = some (isT "str" d) := by cases d <;> (simp only [tyD, isT]; decide +kernel)
theorem kit_bool {d : PyData} : kitB (tyD d) "bool" = some (isT "bool" d) := by cases d <;> (simp only [tyD, isT]; decide +kernel)
theorem kit_int {d : PyData} : kitB (tyD d) "int" = some (isT "int" d || isT "bool" d) := by cases d <;> (simp only [tyD, isT]; decide +kernel)
theorem dq_sc {n : Nat} {d : PyData} (h : Dq n d) (g : (isT "list" d || isT "tuple" d) = false) : isSc d = true ∧ d.canLay0 = true ∧ d.depth ≤ 64 := by
  cases h with
  | sc h a b => exact ⟨h, a, b⟩
  | lst h => exfalso; simp only [isT, tyD] at g; revert g; decide +kernel
  | tup h => exfalso; simp only [isT, tyD] at g; revert g; decide +kernel
theorem seq_of {d : PyData} {xs : List PyData} (h : d = .list xs ∨ d = .tuple xs) (m : Mem) : seqP m (.d d) = some xs := by
  rcases h with rfl | rfl <;> rfl
end PP
namespace PP
open PySem PySem.Spec PyProof.Rows L2
theorem fnok_or {P : Program} {w : World} {K : PySem.W.Frag} {mg : Str → Option Value} {base : Heap} {CX : CXT} {k : Nat} {f : Addr} {fd : FuncData} {ps : List Str} {f1 f2 : FSp} (A : FnOk P w K mg base CX k f fd ps (toSp K f1)) (B : FnOk P w K mg base CX k f fd ps (toSp K f2)) : FnOk P w K mg base CX k f fd ps (toSp K fun pvs m q => f1 pvs m q ∨ f2 pvs m q) := by
  refine ⟨fun vs H Q E h => ?_, fun Ar outer s H args us vs Q E hr he hb hv h => ?_⟩
  · obtain ⟨wd, pvs, m, q, h1, h2, h3, h4⟩ := h
    rcases h3 with h3 | h3
    · exact A.len vs H Q E ⟨wd, pvs, m, q, h1, h2, h3, h4⟩
    · exact B.len vs H Q E ⟨wd, pvs, m, q, h1, h2, h3, h4⟩
  · obtain ⟨wd, pvs, m, q, h1, h2, h3, h4⟩ := h
    rcases h3 with h3 | h3
    · exact A.run Ar outer s H args us vs Q E hr he hb hv ⟨wd, pvs, m, q, h1, h2, h3, h4⟩
    · exact B.run Ar outer s H args us vs Q E hr he hb hv ⟨wd, pvs, m, q, h1, h2, h3, h4⟩
section
variable {X : Cx} {L : PP.Loc} {m : Mem} {a b : Expr} {pos : Pos} {Q : QE}
theorem we_ixD (hu : X.A.units + 1 < cLine) (h : WV X a L m fun p m1 => WE X b L m1 fun y m2 => ∃ k key kvs x, p = .ref k ∧ y = keyD key ∧ m2[k]? = some (some (.dK kvs)) ∧ valD kvs key = some x ∧ Q x m2) (hs : NoSl b := by exact fun _ _ => rfl) : WE X (.Subscript a b pos) L m Q :=
  we_of (pe_dget hu (peU a) (peU b) hs) fun w σ H r => h.go r fun w1 v p m1 H1 l1 r1 d1 q1 => q1.go r1 fun w2 u y m2 H2 l2 r2 d2 ⟨k, key, kvs, x, e1, e2, e3, e4, q⟩ => by
    subst e1; subst e2
    obtain ⟨ad, us, rfl, ea, eo, dv⟩ := dcell_at r2.toHR (d1.mono l2.toLe0) e3
    have eu := dp_key d2
    subst eu
    rcases kds_val (k := key) dv with ⟨h1, h2⟩ | ⟨v', x', h1, h2, d'⟩
    · rw [h2] at e4; cases e4
    · rw [h2] at e4; cases e4
      refine ⟨ad, v', rfl, ?_, w2, _, m2, l1.trans l2, r2.toHR, d', q⟩
      rw [← h1]
      exact .k eo
end
end PP
namespace PP
open PySem PySem.Spec PyProof.Rows L2
def permL {α : Type} (is : List Nat) (ws : List α) : List α := is.filterMap (ws[·]?)
structure KBr (K : PySem.W.Frag) (fd : FuncData) (ps : List Str) (n : Nat) (kn : List Str) (is : List Nat) : Prop where
  to : ∀ (s : Shared) (us ws : List Value), K.In s.heap → us.length = n → ws.length = kn.length → BindsTo s fd ⟨us, kn.zip ws⟩ (ps.zip (us ++ permL is ws))
  ne : ps ≠ []
def gR {α : Type} (n k : Nat) (is : List Nat) (us ws : List α) : List α := if us.length = n ∧ ws.length = k then us ++ permL is ws else []
theorem gR_of {α : Type} {n k : Nat} {is : List Nat} {us ws : List α} (h : us.length = n) (g : ws.length = k) : gR n k is us ws = us ++ permL is ws := by unfold gR; rw [if_pos ⟨h, g⟩]
theorem paired_get {α β : Type} {R : α → β → Prop} : ∀ {xs : List α} {ys : List β}, Paired R xs ys → ∀ i : Nat, (xs[i]? = none ∧ ys[i]? = none) ∨ ∃ a b, xs[i]? = some a ∧ ys[i]? = some b ∧ R a b
  | _, _, .nil, i => .inl ⟨rfl, rfl⟩
  | _, _, .cons r _, 0 => .inr ⟨_, _, rfl, rfl, r⟩
  | _, _, .cons _ t, i + 1 => by
    rcases paired_get t i with ⟨a, b⟩ | ⟨a, b, h1, h2, h3⟩
    · exact .inl ⟨by simpa using a, by simpa using b⟩
    · exact .inr ⟨a, b, by simpa using h1, by simpa using h2, h3⟩
theorem vals_get : ∀ {xs : List V} {ys : List Value}, Vals xs ys → ∀ i : Nat, (xs[i]? = none ∧ ys[i]? = none) ∨ ∃ a b, xs[i]? = some a ∧ ys[i]? = some b ∧ RelV a b
  | _, _, .nil, i => .inl ⟨rfl, rfl⟩
  | _, _, .cons r _, 0 => .inr ⟨_, _, rfl, rfl, r⟩
  | _, _, .cons _ t, i + 1 => by
    rcases vals_get t i with ⟨a, b⟩ | ⟨a, b, h1, h2, h3⟩
    · exact .inl ⟨by simpa using a, by simpa using b⟩
    · exact .inr ⟨a, b, by simpa using h1, by simpa using h2, h3⟩
theorem vals_perm {vs : List V} {us : List Value} (h : Vals vs us) : ∀ is : List Nat, Vals (permL is vs) (permL is us)
  | [] => .nil
  | i :: is => by
    unfold permL
    rw [List.filterMap_cons, List.filterMap_cons]
    rcases vals_get h i with ⟨a, b⟩ | ⟨a, b, h1, h2, h3⟩
    · rw [a, b]; exact vals_perm h is
    · rw [h1, h2]; exact .cons h3 (vals_perm h is)
theorem rvs_perm {K : PySem.W.Frag} {w : Wd} {vs : List V} {ps : List PV} (h : RVs K w vs ps) : ∀ is : List Nat, RVs K w (permL is vs) (permL is ps)
  | [] => .nil
  | i :: is => by
    unfold permL
    rw [List.filterMap_cons, List.filterMap_cons]
    rcases paired_get h i with ⟨a, b⟩ | ⟨a, b, h1, h2, h3⟩
    · rw [a, b]; exact rvs_perm h is
    · rw [h1, h2]; exact .cons h3 (rvs_perm h is)
theorem KBr.kb {K : PySem.W.Frag} {fd : FuncData} {ps kn : List Str} {n : Nat} {is : List Nat} (h : KBr K fd ps n kn is) : KBinds K fd ps kn (gR n kn.length is) (gR n kn.length is) where
  to := fun s us ws X hl => by
    unfold gR at hl ⊢
    split at hl
    · rename_i c
      rw [if_pos c]
      exact h.to s us ws X c.1 c.2
    · exact absurd (List.length_eq_zero_iff.mp hl.symm) h.ne
  rel := fun {vs us zs ws} r rz => by
    unfold gR
    rw [r.length, rz.length]
    split
    · exact vals_app r (vals_perm rz is)
    · exact .nil
theorem fun_kbr {K : PySem.W.Frag} {x qual : Str} {st : Stmt} {f : Addr} {fd : FuncData} {ps : List Str} (F : Fun K x qual st f fd) (n : Nat) (kn : List Str) (is : List Nat) (ne : ps ≠ [])
    (h : ∀ (kV doc pm : Value) (an : Option Addr) (cdv ct : Value) (us ws : List Value), us.length = n → ws.length = kn.length → bindArgs (PySem.W.fnOf x qual (defArgs st) (defBody st) (defScope st) .none kV doc pm an cdv ct) ⟨us, kn.zip ws⟩ = pure (ps.zip (us ++ permL is ws))) : KBr K fd ps n kn is := by
  obtain ⟨oc, od, kV, doc, pm, an, cdv, ct, osl, rfl, lk, hcd⟩ := F.ex
  exact ⟨fun s us ws _ l1 l2 => .of_eq (h kV doc pm an cdv ct us ws l1 l2), ne⟩
section
variable {X : Cx} {L : PP.Loc} {m : Mem} {e a b : Expr} {es : List Expr} {kws : List Keyword} {pos p kpos : Pos} {Q : QE} {k : Nat} {f : Addr} {fd : FuncData} {ps kn : List Str} {sp : FSp} {x : Str} {nm : Option Str} {is : List Nat}
theorem we_callR0 {n : Nat} (ks : List Nat) (F : FnOk X.prog X.w X.K X.mg X.base CX0 k f fd ps (toSp X.K sp)) (hr : Room k X.A) (hm : X.mg x = some (.ref f)) (hk : PySem.W.keepIn X.K (.ref f) = true) (hb : KBr X.K fd ps n kn is)
    (h : WK X kws L m fun pvs m1 => 0 = n ∧ pvs.length = kn.length ∧ CallAsk sp ks (permL is pvs) m1 fun p mc => ∃ y, p = .d y ∧ backB none ks mc = true ∧ Q y (setAll m1 ks mc))
    (hg : Gl X x := by rfl) (hall : (backToKw pos (keywordEach kws X.env)).all (·.1.isSome) = true := by rfl) (hks : (backToKw pos (keywordEach kws X.env)).filterMap (·.1) = kn := by rfl) (hdb : (x == ("__debug__" : Str)) = false := by decide)
    (hpl : ((backTo pos (starEach [] X.env)).any (·.1) || (backToKw pos (keywordEach kws X.env)).any (·.1.isNone)) = false := by rfl) : WE X (.Call (.Name x p) [] kws pos) L m Q :=
  we_of (pe_callK0 F hr hg hm hk hb.kb pass0 (pkU kws) hall hks hdb hpl) fun w σ H r => WK.go h r fun w1 vs pvs m1 H1 l1 r1 d1 ⟨e1, e2, hs⟩ => by
    show toSp X.K sp (gR n kn.length is [] vs) H1 _ _
    rw [gR_of (show ([] : List V).length = n from e1) (d1.length.trans e2), List.nil_append]
    exact call_readE l1 r1 (rvs_perm d1 is) hs
theorem inV_ints {i : Int} {ns : List Int} : inV (.int i) (ns.map V.int) = decide (i ∈ ns) := by
  unfold inV
  induction ns with
  | nil => simp
  | cons n ns ih =>
    rw [List.map_cons, List.any_cons, ih]
    show ((n == i) || decide (i ∈ ns)) = _
    by_cases h : n = i
    · subst h; simp
    · have h2 : ¬ i = n := fun z => h z.symm
      simp [h, h2]
theorem flat_ints {ns : List Int} : (ns.map V.int).all flatV = true := by
  rw [List.all_eq_true]
  intro x hx
  obtain ⟨i, _, rfl⟩ := List.mem_map.mp hx
  rfl
theorem ints_seq {w : Wd} {H : Hp} {v : V} {y : PyData} {ns : List Int} (hr : HR X.K w m H) (d : DP X.K w.F v y) (e : y = .tuple (ns.map .int) ∨ y = .list (ns.map .int)) : ∃ p, v = .ref p ∧ (SqL X.K H p (ns.map V.int) ∨ SqT X.K H p (ns.map V.int)) := by
  rcases e with rfl | rfl
  · obtain ⟨p, vs, rfl, h, dd⟩ := dp_tuple d
    have := dpa_ints_inv dd
    subst this
    exact ⟨p, rfl, .inr (hr.fz.sqt h)⟩
  · obtain ⟨p, vs, rfl, h, dd⟩ := dp_list d
    have := dpa_ints_inv dd
    subst this
    exact ⟨p, rfl, .inl (.of (hr.fz _ _ h))⟩
section
variable {QT : Bool → Mem → Prop}
theorem wt_inI (hm : behindInMarks .In b = false) (h : WE X a L m fun x m1 => WE X b L m1 fun y m2 => ∃ (i : Int) (ns : List Int), x = .int i ∧ (y = .tuple (ns.map .int) ∨ y = .list (ns.map .int)) ∧ QT (decide (i ∈ ns)) m2) : WT X (.Compare a [.In] [b] pos) L m QT :=
  wt_of (pt_cmpR op_in_seq (peU a) (peU b) hm) fun w σ H r => h.go r fun w1 v x m1 H1 l1 r1 d1 q1 => q1.go r1 fun w2 u y m2 H2 l2 r2 d2 ⟨i, ns, e1, e2, q⟩ => by
    subst e1
    obtain ⟨p, rfl, hs⟩ := ints_seq r2.toHR d2 e2
    have := dp_int d1
    subst this
    refine ⟨p, _, rfl, hs, rfl, flat_ints, _, rfl, w2, m2, l1.trans l2, r2.toHR, ?_⟩
    show QT (inV (.int i) (ns.map V.int)) m2
    rw [inV_ints]; exact q
theorem wt_notinI (hm : behindInMarks .NotIn b = false) (h : WE X a L m fun x m1 => WE X b L m1 fun y m2 => ∃ (i : Int) (ns : List Int), x = .int i ∧ (y = .tuple (ns.map .int) ∨ y = .list (ns.map .int)) ∧ QT (!decide (i ∈ ns)) m2) : WT X (.Compare a [.NotIn] [b] pos) L m QT :=
  wt_of (pt_cmpR op_notIn_seq (peU a) (peU b) hm) fun w σ H r => h.go r fun w1 v x m1 H1 l1 r1 d1 q1 => q1.go r1 fun w2 u y m2 H2 l2 r2 d2 ⟨i, ns, e1, e2, q⟩ => by
    subst e1
    obtain ⟨p, rfl, hs⟩ := ints_seq r2.toHR d2 e2
    have := dp_int d1
    subst this
    refine ⟨p, _, rfl, hs, rfl, flat_ints, _, rfl, w2, m2, l1.trans l2, r2.toHR, ?_⟩
    show QT (!inV (.int i) (ns.map V.int)) m2
    rw [inV_ints]; exact q
end
end
end PP
namespace PP
open PySem PySem.Spec PyProof.Rows L2
open PySem.W (AlikeAll dataLt reads_keeps iter_tupleW cmpIn_lt moved_old)
end PP
namespace PP
open PySem PySem.Spec PyProof.Rows L2
section
variable {prog : Program} {w : World} {A : Around} {R : Result → Shared → Prop} {s : Shared} {kx vx ta ia tb ib : Expr} {scope : Scope} {pos : Pos} {it : Value} {D : Addr} {env : Env}
abbrev dc2 (kx vx ta ia tb ib : Expr) (scope : Scope) (pos : Pos) : Expr := .DictComp kx vx [⟨ta, ia, [], 0⟩, ⟨tb, ib, [], 0⟩] scope pos
end
end PP
namespace PP
open PySem PySem.Spec PyProof.Rows L2
def dropD (kvs : List (Key × PyData)) (k : Key) : List (Key × PyData) := kvs.filter fun kv => decide (kv.1 ≠ k)
theorem valD_drop {k j : Key} : ∀ {kvs : List (Key × PyData)}, valD (dropD kvs k) j = if k = j then none else valD kvs j
  | [] => by simp [valD, dropD]
  | (k1, x) :: kvs => by
    have ih := valD_drop (k := k) (j := j) (kvs := kvs)
    unfold dropD at ih ⊢
    rw [List.filter_cons]
    by_cases h1 : k1 = k
    · subst h1
      rw [if_neg (by simp), ih]
      by_cases h2 : k1 = j
      · rw [if_pos h2, if_pos h2]
      · rw [if_neg h2, if_neg h2]
        simp [valD, List.find?_cons, h2]
    · rw [if_pos (by simpa using h1)]
      by_cases h3 : k1 = j
      · subst h3
        rw [if_neg (fun z => h1 z.symm)]
        simp [valD, List.find?_cons]
      · have e : ∀ t : List (Key × PyData), valD ((k1, x) :: t) j = valD t j := fun t => by simp [valD, List.find?_cons, h3]
        rw [e, e]
        exact ih
end PP
namespace PP
open PySem PySem.Spec PyProof.Rows L2 RZ
theorem jok_zipV {K : PySem.W.Frag} {w : Wd} {a b : Addr} {p p2 : PV} {xs ys : List PyData} (r : RV K w (.ref a) p) (r2 : RV K w (.ref b) p2) : JOk K w (Itz K a b) (zipD xs ys) fun m => lstP m p = some xs ∧ lstP m p2 = some ys where
  go := fun w' m' H' i x l hr g hx => by
    obtain ⟨ad, vs, e1, e2, d⟩ := lstP_ok hr (r.mono l) g.1
    cases e1
    obtain ⟨bd, us, e1, e3, d2⟩ := lstP_ok hr (r2.mono l) g.2
    cases e1
    obtain ⟨y, z, hy, hz, rfl⟩ := zipD_get hx
    obtain ⟨v, hv, dv⟩ := dpa_get d hy
    obtain ⟨u, hu, du⟩ := dpa_get d2 hz
    have e2 : SqL K H' a vs := .of e2
    have e3 : SqL K H' b us := .of e3
    refine ⟨⟨vs, us, v, u, e2, e3, hv, hu⟩, fun t H'' ⟨T, p, q, et, hT, eh, f1, f2⟩ => ?_⟩
    subst et; subst eh
    have ep : p = v := Option.some.inj ((f1 vs e2).symm.trans hv)
    have eq : q = u := Option.some.inj ((f2 us e3).symm.trans hu)
    subst ep; subst eq
    obtain ⟨w2, l2, hr2, d3⟩ := hr.pair hT dv du
    exact ⟨w2, l2, hr2, d3⟩
  stop := fun w' m' H' i l hr g hi => by
    obtain ⟨ad, vs, e1, e2, d⟩ := lstP_ok hr (r.mono l) g.1
    cases e1
    obtain ⟨bd, us, e1, e3, d2⟩ := lstP_ok hr (r2.mono l) g.2
    cases e1
    refine ⟨vs, us, .of e2, .of e3, ?_⟩
    rw [zipD_len] at hi
    rw [dpa_len d, dpa_len d2]
    omega
section
variable {X : Cx} {L : PP.Loc} {m : Mem} {a b : Expr} {pos p : Pos} {QI : List PyData → (Mem → Prop) → Mem → Prop}
theorem wi_zipV {tpos : Pos} {elts : List Expr} {kk : Nat} (hm : X.mg "zip" = none) (h : WV X a L m fun x m1 => WV X b L m1 fun y m2 => ∃ xs ys, lstP m2 x = some xs ∧ lstP m2 y = some ys ∧ QI (zipD xs ys) (fun m => lstP m x = some xs ∧ lstP m y = some ys) m2) (hg : Gl X "zip" := by rfl)
    (hs : starEach [a, b] X.env = (false, eval a X.env) :: starEach [b] X.env := by rfl) (hs2 : starEach [b] X.env = (false, eval b X.env) :: starEach [] X.env := by rfl) (hpl : (backTo pos (starEach [b] X.env)).any (·.1) = false := by rfl) : WI X (.Tuple elts kk tpos) (.Call (.Name "zip" p) [a, b] [] pos) L m QI :=
  wi_of (pi_zipA hg hm (paU [a, b]) hs hpl) fun w σ H r => WA.go (Q := fun ps m2 => ∃ x y, ps = [x, y] ∧ ∃ xs ys, lstP m2 x = some xs ∧ lstP m2 y = some ys ∧ QI (zipD xs ys) (fun m => lstP m x = some xs ∧ lstP m y = some ys) m2) (wa_cons (h.mono fun x m1 h1 => wa_cons (h1.mono fun y m2 h2 => wa_nil ⟨x, y, rfl, h2⟩) hs2) hs) r fun w1 vs ps m1 H1 l1 r1 d1 ⟨x, y, e1, xs, ys, e2, e3, q⟩ => by
    subst e1
    obtain ⟨v, u, rfl, d2, d3⟩ := rvs2 d1
    obtain ⟨ad, us, rfl, h1, _⟩ := lstP_ok r1.toHR d2 e2
    obtain ⟨bd, ws, rfl, h2, _⟩ := lstP_ok r1.toHR d3 e3
    exact ⟨ad, bd, us, ws, rfl, .inl ⟨.of h1, .of h2, w1, m1, _, _, l1, r1.toHR, jok_zipV d2 d3, q⟩⟩
end
end PP
namespace PP
open PySem PySem.Spec PyProof.Rows L2
structure FunD (K : PySem.W.Frag) (x qual : Str) (st : Stmt) (f : Addr) (fd : FuncData) (T : Addr) : Prop where
  ex : ∃ (oc : Value) (od : Option Addr) (kV doc pm : Value) (an : Option Addr) (cdv ct : Value) (osl : Array (Option Value)),
    fd = PySem.W.fnOf x qual (defArgs st) (defBody st) (defScope st) (.ref T) kV doc pm an cdv ct ∧ K.lookup f = some ⟨oc, od, .func fd, osl⟩ ∧ PySem.W.codeIn K cdv qual = true
  kp : PySem.W.keepIn K (.ref f) = true
section
variable {P : Program} {w : World} {K : PySem.W.Frag} {mg : Str → Option Value} {base : Heap} {T : Addr}
theorem FunD.ok {x qual : Str} {st : Stmt} {f : Addr} {fd : FuncData} {N ps : List Str} {k : Nat} {sp : Sp} (F : FunD K x qual st f fd T) (S : FnScope N ps (defScope st)) (len : ∀ vs H Q E, sp vs H Q E → vs.length = ps.length)
    (hbody : ∀ (cdv : Value) (A : Around) (outer : List Env) (s : Shared) (H : Hp) (vs : List V) (Q : VK) (E : XK), Room k (A.deeper (envOfC qual (defScope st) s.heap.objs.size f cdv)) → sp vs H Q E →
      ∃ t, PSs (cxOf CX0 P w K mg base N qual (defScope st) f cdv A outer s H E).nox (defBody st) t ∧ t { nx := fun _ H' => Q .non H', rt := Q } (start N vs) H) : FnOk P w K mg base CX0 (k + 1) f fd ps sp := by
  obtain ⟨oc, od, kV, doc, pm, an, cdv, ct, osl, rfl, lk, hcd⟩ := F.ex
  refine fn_of lk hcd S len fun A outer s H vs Q E hr hsp => ?_
  obtain ⟨t, h, q⟩ := hbody cdv A outer s H vs Q E hr hsp
  exact ⟨t, h.nox, q⟩
theorem FunD.binds {x qual : Str} {st : Stmt} {f : Addr} {fd : FuncData} {ps : List Str} {ds : List Value} {o : Obj} {items : Array Value} {n : Nat} (F : FunD K x qual st f fd T) (ho : K.lookup T = some o) (hs : o.data = .seq items n)
    (h : ∀ (kV doc pm : Value) (an : Option Addr) (cdv ct : Value) (us : List Value), (us ++ ds).length = ps.length → ∃ k, bindArgs (PySem.W.fnOf x qual (defArgs st) (defBody st) (defScope st) (.ref T) kV doc pm an cdv ct) ⟨us, []⟩ = seqItems? (Value.ref T) >>= k ∧ k (some items) = pure (ps.zip (us ++ ds))) : Binds K fd ps ds := by
  obtain ⟨oc, od, kV, doc, pm, an, cdv, ct, osl, rfl, lk, hcd⟩ := F.ex
  intro s us X hl
  obtain ⟨k, e1, e2⟩ := h kV doc pm an cdv ct us hl
  exact BindsTo.of_defaults rfl (X _ _ ho) hs e1 e2
end
section
variable {X : Cx} {L : PP.Loc} {m : Mem} {a b e : Expr} {es : List Expr} {pos p : Pos} {Q : QE} {QT : Bool → Mem → Prop} {k : Nat} {f : Addr} {fd : FuncData} {ps : List Str} {sp : FSp} {x : Str}
theorem cell_ty {w : Wd} {H : Hp} {v : V} {p : PV} {xs : List PyData} (hr : HR X.K w m H) (r : RV X.K w v p) (h : lstP m p = some xs) : TyX X.K H v (.type "list") := by
  obtain ⟨ad, vs, rfl, e, _⟩ := lstP_ok hr r h
  exact .base (.lst e)
theorem we_isinstV {T : String} {x : Str} {p2 : Pos} (hm : X.mg "isinstance" = none) (hmT : X.mg x = none) (hb : bootBuiltins x = some (.type T)) (h : WV X a L m fun y m1 => (∃ xs, lstP m1 y = some xs) ∧ ∃ k, kitB "list" T = some k ∧ Q (.bool k) m1) (hg : Gl X "isinstance" := by rfl) (hgT : Gl X x := by rfl)
    (hn : x ≠ "__name__" := by decide) (hd : (x == ("__debug__" : Str)) = false := by decide)
    (he : starEach [a, .Name x p2] X.env = (false, eval a X.env) :: starEach [.Name x p2] X.env := by rfl) (he2 : starEach [.Name x p2] X.env = (false, eval (.Name x p2) X.env) :: starEach [] X.env := by rfl) (hpl : (backTo pos (starEach [.Name x p2] X.env)).any (·.1) = false := by rfl) : WE X (.Call (.Name "isinstance" p) [a, .Name x p2] [] pos) L m Q :=
  we_of (pe_callB call_isi hg hm (by decide +kernel) (pa_cons (peU a) (pa_cons (pe_bltn (v := .ty T) hgT hmT hb rfl hn hd) pa_nil he2) he) (he := he) (hpl := hpl)) fun w σ H r => h.go r fun w1 v y m1 H1 l1 r1 d1 ⟨⟨xs, e0⟩, k, e1, q⟩ =>
    ⟨v, .ty T, _, _, k, rfl, .ty T, cell_ty r1.toHR d1 e0, kit_ty e1, w1, _, m1, l1, r1.toHR, .bl k, q⟩
theorem wt_isNoneV (h : WV X a L m fun p m1 => (∃ xs, lstP m1 p = some xs) ∧ WE X b L m1 fun y m2 => y = .none ∧ QT false m2) : WT X (.Compare a [.Is] [b] pos) L m QT :=
  wt_of (pt_cmpR op_isN (peU a) (peU b) (nomark _)) fun w σ H r => h.go r fun w1 v p m1 H1 l1 r1 d1 ⟨⟨xs, e0⟩, q1⟩ => q1.go r1 fun w2 u y m2 H2 l2 r2 d2 ⟨e2, q⟩ => by
    subst e2
    obtain ⟨ad, vs, rfl, _, _⟩ := lstP_ok r1.toHR d1 e0
    exact ⟨dp_none d2, false, by rw [decide_eq_false (fun z => by cases z)], w2, m2, l1.trans l2, r2.toHR, q⟩
end
end PP
namespace PP
open PySem PySem.Spec PyProof.Rows L2
end PP
namespace PP
open PySem PySem.Spec PyProof.Rows L2
end PP
namespace PP
open PySem PySem.Spec PyProof.Rows L2
open PySem.W (AllAlike Sortable dataLe dataLt EachIs sorted_data)
section
variable {X : Cx} {L : PP.Loc} {m : Mem} {a b : Expr} {pos p : Pos} {QL : List PyData → Mem → Prop}
abbrev srtD (xs : List PyData) : List PyData := xs.mergeSort (dataLe false id)
theorem each_of {R : Value → PyData → Prop} {P : V → PyData → Prop} (f : ∀ v u d, P v d → RelV v u → R u d) : ∀ {vs : List V} {us : List Value} {ds : List PyData}, Paired P vs ds → Vals vs us → EachIs R us ds
  | _, _, _, .nil, .nil => .nil
  | _, _, _, .cons p ps, .cons r rs => .cons (f _ _ _ p r) (each_of f ps rs)
theorem each_back {P : V → PyData → Prop} : ∀ {us : List Value} {ds : List PyData}, EachIs (fun u d => ∃ v, RelV v u ∧ P v d) us ds → ∃ vs, Vals vs us ∧ Paired P vs ds
  | _, _, .nil => ⟨[], .nil, .nil⟩
  | _, _, .cons ⟨v, r, p⟩ t => by
    obtain ⟨vs, r2, p2⟩ := each_back t
    exact ⟨v :: vs, .cons r r2, .cons p p2⟩
def rSortedD (K : PySem.W.Frag) : List V → Hp → VK → Prop := fun vs H Q => ∃ (a : Addr) (xs : List V) (ds : List PyData) (P : V → PyData → Prop), vs = [V.ref a] ∧ SqL K H a xs ∧ Paired P xs ds ∧ (∀ v d, P v d → Dp K H v d) ∧ AllAlike ds ∧ Sortable ds ∧ (∀ d ∈ ds, d.depth ≤ 60) ∧
  ∀ (ys : List V) (p : Addr), Paired P ys (srtD ds) → H p = none → Q (.ref p) (upd H p (.lst ys))
theorem cr_sortedD (hu : X.A.units + 65 < cLine) : CallR X (.builtin "sorted") (rSortedD X.K) := by
  intro pins s σ H vs us Q I r h
  obtain ⟨a, xs, ds, P, rfl, hs, hp, hd, hal, hk, hz, q⟩ := h
  obtain ⟨its, rv, hl, hlen⟩ := I.list hs
  rw [Vals.ref1 r]
  have e1 : EachIs (fun u d => ∃ v, RelV v u ∧ P v d) its ds := each_of (fun v u d pp rr => ⟨v, rr, pp⟩) hp rv
  have e2 : EachIs (fun u d => ∃ as, Reads s.heap u d as) its ds := each_of (fun v u d pp rr => Dp.reads I d v u (hd v d pp) rr) hp rv
  have hll : ds.length ≤ sizeLine := by rw [← e1.length, ← rv.length]; exact hlen
  refine sorted_data (enc := id) hl.isList e1 e2 (by rw [List.map_id]; exact hal) (by rw [List.map_id]; exact hk) hll (fun d hdm => ?_) fun out hol eo => ?_
  · have := hz d hdm
    show X.A.units + 2 + d.depth < cLine
    omega
  obtain ⟨ys, rys, pys⟩ := each_back eo
  obtain ⟨ep, he'⟩ := PyProof.Rows.sortedAll_at s.heap its out.toArray
  have hyl : ys.length ≤ sizeLine := by rw [rys.length, hol]; exact hll
  exact ⟨.ref _, upd H (s.heap.objs.size + 1) (.lst ys), I.laid (t' := s.toks) (fun _ _ => PyProof.Rows.sortedAll_old) (Nat.le_succ _) ⟨hyl, out, ep, rys, he'⟩, rfl, q _ _ pys (I.hok.fresh (Nat.le_succ _))⟩
theorem dps_paired {K : PySem.W.Frag} {F : Hp} : ∀ {vs : List V} {ds : List PyData}, DPs K F vs ds → Paired (DP K F) vs ds
  | _, _, .nil => .nil
  | _, _, .cons r t => .cons r (dps_paired t)
theorem paired_dps {K : PySem.W.Frag} {F : Hp} : ∀ {vs : List V} {ds : List PyData}, Paired (DP K F) vs ds → DPs K F vs ds
  | _, _, .nil => .nil
  | _, _, .cons r t => .cons r (paired_dps t)
theorem wf_sortedD (hu : X.A.units + 65 < cLine) (hm : X.mg "sorted" = none) (h : WV X a L m fun p m1 => ∃ ds, lstP m1 p = some ds ∧ AllAlike ds ∧ Sortable ds ∧ (∀ d ∈ ds, d.depth ≤ 60) ∧ QL (srtD ds) m1) (hg : Gl X "sorted" := by rfl) (he : starEach [a] X.env = (false, eval a X.env) :: starEach [] X.env := by rfl)
    (hpl : (backTo pos (starEach [] X.env)).any (·.1) = false := by rfl) : WF X (.Call (.Name "sorted" p) [a] [] pos) L m QL :=
  wf_of (pe_callB (cr_sortedD hu) hg hm (by decide +kernel) (paU [a]) (he := he) (hpl := hpl)) fun w σ H r => WA.go (wa1 h he) r fun w1 vs ps m1 H1 l1 r1 d1 ⟨p, e1, ds, e2, hal, hk, hz, q⟩ => by
    subst e1
    obtain ⟨v, rfl, d2⟩ := rvs1 d1
    obtain ⟨ad, vs, rfl, hh, d⟩ := lstP_ok r1.toHR d2 e2
    refine ⟨ad, vs, ds, DP X.K w1.F, rfl, .of hh, dps_paired d, fun v d hv => DP.toDp _ _ (dp_mono r1.toHR.fz _ _ hv), hal, hk, hz, fun ys p hp hn => ?_⟩
    obtain ⟨hr2, u⟩ := r1.toHR.un (o := .lst ys) hn
    exact ⟨w1, _, m1, p, _, rfl, l1, hr2, upd_same, u, paired_dps hp, q⟩
end
theorem srt_mem {xs : List PyData} {x : PyData} : x ∈ srtD xs ↔ x ∈ xs := (List.mergeSort_perm xs _).mem_iff
theorem srt_len {xs : List PyData} : (srtD xs).length = xs.length := (List.mergeSort_perm xs _).length_eq
end PP
namespace PP
open PySem PySem.Spec PyProof.Rows L2
end PP
namespace PP
open PySem PySem.Spec PyProof.Rows L2
end PP
namespace PP
open PySem PySem.Spec PyProof.Rows L2
end PP
namespace PP
open PySem PySem.Spec PyProof.Rows L2
end PP
namespace PP
open PySem PySem.Spec PyProof.Rows L2
theorem wv_of {X : Cx} {L : PP.Loc} {m : Mem} {e : Expr} {t : TE} {Q : PV → Mem → Prop} (h : PE X e t) (k : ∀ (w : Wd) (σ : L2.St) (H : Hp), Rep X.K w L m σ H → t σ H (POV X.K w Q)) : WV X e L m Q := fun w σ H r pins s I => h.run pins s σ H _ I (k w σ H r)
end PP
namespace PP
open PySem PySem.Spec PyProof.Rows L2
end PP
namespace PP
open PySem PySem.Spec PyProof.Rows L2
end PP
namespace PP
open PySem PySem.Spec PyProof.Rows L2
end PP
namespace PP
open PySem PySem.Spec PyProof.Rows L2
end PP
namespace PP
open PySem PySem.Spec PyProof.Rows L2
end PP
namespace PP
open PySem PySem.Spec PyProof.Rows L2
end PP
namespace PP
open PySem PySem.Spec PyProof.Rows L2
structure ExOk (K : PySem.W.Frag) (C : Addr) : Prop where
  T : OexC K C
  F : XfC K C
  nv : PySem.W.findIn K (.ref C) "value" = some none
  cc : PySem.W.findIn K (.ref C) "__class__" = some (some (.builtin "object.__class__"))
  gg : PySem.W.specialIn K (.builtin "object.__class__") "__get__" = some (some (.builtin "getset_descriptor.__get__"))
  tk : PySem.W.takesIn K (.builtin "object.__class__") = some true
  ob : PySem.W.mroIn K C (.type "object") = some true
  me : PySem.W.subIn K (.ref C) (.ref C) = some true
theorem exm_of {K : PySem.W.Frag} {A B : Addr} {k : Bool} (ok : ExOk K B) (h : PySem.W.subIn K (.ref A) (.ref B) = some k) : PySem.W.exmOne K (.ref A) (.ref B) = some k :=
  PySem.W.exm_ref ok.F.exC ok.F.hdC ok.T.tyC h
structure EOk (P : Program) (w : World) (K : PySem.W.Frag) (mg : Str → Option Value) (base : Heap) (nm : Str) (C : Addr) (spI : Sp) : Prop extends ExOk K C where
  m : mg nm = some (.ref C)
  ini : ∃ (fI : Addr) (fd : FuncData), PySem.W.findIn K (.ref C) "__init__" = some (some (.ref fI)) ∧ PySem.W.typeIn K (.ref fI) = some (.type "function") ∧ FnOk P w K mg base CX0 1 fI fd ["self", "value"] spI ∧ Binds K fd ["self", "value"] []
def spIn (K : PySem.W.Frag) : Sp := fun vs H Q _ => ∃ (a C : Addr) (y : V), vs = [.ref a, y] ∧ H a = some (exo a C none) ∧ OexC K C ∧ PySem.W.findIn K (.ref C) "value" = some none ∧
  ∀ dx, H dx = none → dx ≠ a → Q .non (upd (upd H dx (exd dx [("value", y)])) a (exo a C (some dx)))
theorem exH_at {P : Program} {w : World} {H : Hp} {h : Heap} {a C d : Addr} (hok : HOk P w H h) (e : H a = some (exH a C d)) : ∃ (oe : Obj) (vs : Array Value), h.get? a = some oe ∧ oe.cls = .ref C ∧ oe.dict = some d ∧ oe.data = .fields vs := by
  have x : ObjOk P w H h a (.ext fun h => ∃ (oe : Obj) (vs : Array Value), h.get? a = some oe ∧ oe.cls = .ref C ∧ oe.dict = some d ∧ oe.data = .fields vs) := hok a _ e
  exact x.1
theorem exH_ok {P : Program} {w : World} {H : Hp} {h : Heap} {a C d : Addr} {oe : Obj} {vs : Array Value} (e : h.get? a = some oe) (c : oe.cls = .ref C) (hd : oe.dict = some d) (hv : oe.data = .fields vs) : ObjOk P w H h a (exH a C d) :=
  ⟨⟨oe, vs, e, c, hd, hv⟩, ⟨oe, e⟩, fun h1 h2 ⟨o, us, z, r⟩ k => ⟨o, us, k _ z, r⟩⟩
theorem exN_ok {P : Program} {w : World} {H : Hp} {h : Heap} {a C d : Addr} {oe : Obj} {vs : Array Value} (e : h.get? a = some oe) (c : oe.cls = .ref C) (hd : oe.dict = some d) (hv : oe.data = .fields vs) (hx : vs[2]? = some .none) : ObjOk P w H h a (exN a C d) :=
  ⟨⟨oe, vs, e, c, hd, hv, hx⟩, ⟨oe, e⟩, fun h1 h2 ⟨o, us, z, r⟩ k => ⟨o, us, k _ z, r⟩⟩
section
variable {X : Cx} {L : PP.Loc} {m : Mem} {a b : Expr} {pos p : Pos} {Q : QE} {QT : Bool → Mem → Prop}
theorem exc_inst0 {pins : List (Addr × Obj)} {σ : L2.St} {H : Hp} {s : Shared} {a0 C d : Addr} {fs : List (Str × V)} (I : Inv X pins σ H s) (e : ∃ (oe : Obj) (vs : Array Value), s.heap.get? a0 = some oe ∧ oe.cls = .ref C ∧ oe.dict = some d ∧ oe.data = .fields vs) (e2 : H d = some (.xd fs)) :
    ∃ (oe od : Obj) (mA : Str → Option Value), PySem.W.InstAt s.heap a0 oe C (some od) ∧ s.heap.Ns1 d mA ∧ (∀ f, RelO (fs.lookup f) (mA f)) ∧ s.heap.get? d = some od := by
  obtain ⟨oe, vs, h1, h2, h3, h4⟩ := e
  have hx : ObjOk X.prog X.w H s.heap d (.xd fs) := I.hok d _ e2
  obtain ⟨mA, hns, hr⟩ := hx
  obtain ⟨od, ho, hl⟩ := lookIn_ns hns
  refine ⟨oe, od, mA, ⟨h1, h2, ?_, ?_⟩, hns, hr, ho⟩
  · unfold PySem.W.notCls
    rw [h4]
  · rw [h3]; exact ho
theorem exc_inst {pins : List (Addr × Obj)} {σ : L2.St} {H : Hp} {s : Shared} {a0 C d : Addr} {fs : List (Str × V)} (I : Inv X pins σ H s) (e : H a0 = some (exH a0 C d)) (e2 : H d = some (.xd fs)) :
    ∃ (oe od : Obj) (mA : Str → Option Value), PySem.W.InstAt s.heap a0 oe C (some od) ∧ s.heap.Ns1 d mA ∧ (∀ f, RelO (fs.lookup f) (mA f)) ∧ s.heap.get? d = some od := exc_inst0 I (exH_at I.hok e) e2
theorem we_exv (h : WV X a L m fun p m1 => ∃ C y, p = .exc C y ∧ ExOk X.K C ∧ Q y m1) (hb : attributeBase a "value" X.env (eval a X.env) = eval a X.env := by rfl) : WE X (.Attribute a "value" pos) L m Q := fun w σ H r pins s I => by
  refine attr_of hb (thn (h.go r (R := fun v H1 => ∃ (a0 C d : Addr) (vv : V), v = .ref a0 ∧ H1 a0 = some (exH a0 C d) ∧ H1 d = some (.xd [("value", vv)]) ∧ ExOk X.K C ∧ POE X.K w Q vv H1) (fun w1 v p m1 H1 l1 r1 d1 ⟨C, y, e1, ok, q⟩ => ?_) pins s I) fun u s1 ⟨v, H1, I1, r1, a0, C, d, vv, e1, e2, e3, ok, q⟩ => ?_)
  · subst e1
    obtain ⟨a0, d, vv, e2, e3, e4, e5⟩ := d1
    exact ⟨a0, C, d, vv, e2, r1.toHR.fz _ _ e3, r1.toHR.fz _ _ e4, ok, w1, y, m1, l1, r1.toHR, e5, q⟩
  · subst e1
    obtain rfl : u = Value.ref a0 := r1
    obtain ⟨oe, od, mA, J, hns, hr, ho⟩ := exc_inst I1 e2 e3
    obtain ⟨od2, ho2, hl⟩ := lookIn_ns hns
    rw [ho] at ho2; cases ho2
    have hl2 : List.lookup ("value" : Str) [(("value" : Str), vv)] = some vv := by simp [List.lookup]
    obtain ⟨u, hu, ru⟩ := RelO.some_of (v := vv) (o := mA "value") (by rw [← hl2]; exact hr "value")
    exact HandSPX.exc_get I1.kIn J ok.F.ga ok.F.gg ok.F.exC (PySem.W.findObj_own ok.F.hdC ok.nv rfl (by rw [hl, hu])) (handed_of ru) ⟨vv, H1, I1.tok _, ru, q⟩
end
abbrev XQ := Addr → PyData → PP.Loc → Mem → Prop
def XW (K : PySem.W.Frag) (w : Wd) (e : XQ) : WX := fun cls d σ H => ∃ (C dd : Addr) (w' : Wd) (L' : PP.Loc) (m' : Mem) (vv : V) (y : PyData), cls = .ref C ∧ d = some dd ∧ w.le w' ∧ Rep K w' L' m' σ H ∧ w'.F dd = some (.xd [("value", vv)]) ∧ DP K w'.F vv y ∧ e C y L' m'
theorem takes_le {X : Cx} {w w1 : Wd} {e : XQ} (l : w.le w1) (t : L2N.Takes X (XW X.K w e)) : L2N.Takes X (XW X.K w1 e) :=
  t.imp fun _ _ _ _ ⟨C, dd, w', L', m', vv, y, h1, h2, l', r⟩ => ⟨C, dd, w', L', m', vv, y, h1, h2, l.trans l', r⟩
section
variable (X : Cx)
def WSX (st : Stmt) (L : PP.Loc) (m : Mem) (D : PEnds) (e : XQ) : Prop := ∀ (w : Wd) (σ : L2.St) (H : Hp), Rep X.K w L m σ H → L2N.Takes X (XW X.K w e) → tUS X st (toE X.K w D) σ H
def WSsX (st : List Stmt) (L : PP.Loc) (m : Mem) (D : PEnds) (e : XQ) : Prop := ∀ (w : Wd) (σ : L2.St) (H : Hp), Rep X.K w L m σ H → L2N.Takes X (XW X.K w e) → tUSs X st (toE X.K w D) σ H
def WEX (a : Expr) (L : PP.Loc) (m : Mem) (e : XQ) : Prop := ∀ (w : Wd) (σ : L2.St) (H : Hp), Rep X.K w L m σ H → L2N.Takes X (XW X.K w e) → tU X a σ H (fun _ _ => False)
end
section
variable {X : Cx} {L : PP.Loc} {m : Mem} {a b c tg : Expr} {es : List Expr} {st : Stmt} {rest body : List Stmt} {pos p pos' : Pos} {D : PEnds} {e : XQ}
theorem wsx_of (h : WS X st L m D) : WSX X st L m D e := fun w σ H r _ => h w σ H r
theorem wssx_of (h : WSs X body L m D) : WSsX X body L m D e := fun w σ H r _ => h w σ H r
theorem ws_nox (h : WS X.nox st L m D) : WS X st L m D := fun w σ H r pins s I =>
  wpAny_mono ((psU (X := X.nox) st).run pins s σ H _ (I.wish _) (h w σ H r)) (fun _ _ q => q.unwish) fun _ _ z => False.elim z
theorem wsx_nox (h : WS X.nox st L m D) : WSX X st L m D e := wsx_of (ws_nox h)
theorem wssx_cons (h : WSX X st L m { D with nx := fun L1 m1 => WSsX X rest L1 m1 D e } e) : WSsX X (st :: rest) L m D e := fun w σ H r t pins s I =>
  (pss_cons (psU st) (pssU rest)).run pins s σ H _ I (tUS_mono (h w σ H r t) (fun σ' H' ⟨w', L', m', l, r', q⟩ => tUSs_back l (q w' σ' H' r' (takes_le l t))) (fun _ _ h => h) (fun _ _ h => h) (fun _ _ h => h))
theorem wssx_pre (h : WS X.nox st L m { D with nx := fun L1 m1 => WSsX X rest L1 m1 D e }) : WSsX X (st :: rest) L m D e := wssx_cons (wsx_nox h)
theorem wssx_nil (q : D.nx L m) : WSsX X [] L m D e := wssx_of (wss_nil q)
theorem wssx_one (h : WSX X st L m D e) : WSsX X [st] L m D e := fun w σ H r t pins s I => (pss_one (psU st)).run pins s σ H _ I (h w σ H r t)
theorem wsx_if {t f : List Stmt} (h : WT X.nox c L m fun k m1 => (k = true → WSsX X t L m1 D e) ∧ (k = false → WSsX X f L m1 D e)) : WSX X (.If c t f pos) L m D e := fun w σ H r tk pins s I =>
  (ps_if (PT.nox (ptU (X := X.nox) c)) (pssU t) (pssU f)).run pins s σ H _ I (h.go (X := X.nox) r fun w1 k m1 H1 l1 r1 ⟨q1, q2⟩ => by
    cases k with
    | true => rw [if_pos rfl]; exact tUSs_back l1 (q1 rfl _ _ _ r1 (takes_le l1 tk))
    | false => rw [if_neg Bool.false_ne_true]; exact tUSs_back l1 (q2 rfl _ _ _ r1 (takes_le l1 tk)))
theorem wsx_set {x : Str} (i : Nat) (hN : X.N.Nodup) (hi : X.N[i]? = some x) (hx : L2.Loc X.env.scope x) (h : WEX X a L m e) (hs : swapsWith a (some (.Name x pos')) pos.line X.env = pure false := by rfl) (hf : X.fn x = true ∨ X.env.scope.names.lookup x = some .local := by first | exact .inl rfl | exact .inr rfl | assumption) : WSX X (.Assign [.Name x pos'] a pos) L m D e := fun w σ H r t pins s I =>
  (ps_set hN hi hx (peU a) hs hf).run pins s σ H _ I (tU_mono (h w σ H r t) fun _ _ z => False.elim z)
theorem upd_del {H : Hp} {a dx : Addr} {u o1 o2 o3 : HO} (na : H a = none) (hne : dx ≠ a) : upd (L2.del (upd (upd (upd H a o1) dx o2) a o3) a) dx u = upd H dx u := by
  funext b
  by_cases h1 : b = dx
  · subst h1; rw [upd_same, upd_same]
  · rw [upd_ne h1, upd_ne h1]
    by_cases h2 : b = a
    · subst h2; rw [L2.del_same, na]
    · rw [L2.del_ne h2, upd_ne h2, upd_ne h1, upd_ne h2]
theorem pmkN_oex {CX : CXT} {x : Str} {C fI : Addr} {k : Nat} {fd : FuncData} {ps : List Str} {sp : Sp} {ta : TA} {e0 : Expr} {more : List Expr} (T : OexC X.K C)
    (iC : PySem.W.findIn X.K (.ref C) "__init__" = some (some (.ref fI)))
    (tI : PySem.W.typeIn X.K (.ref fI) = some (.type "function"))
    (Fi : FnOk X.prog X.w X.K X.mg X.base CX k fI fd ps sp) (rm : Room (k + 1) X.A) (bi : Binds X.K fd ps []) (px : Passes CX X (fun _ _ _ => False)) (gx : Gl X x) (mx : X.mg x = some (.ref C))
    (hargs : PA X (e0 :: more) ta) (ndb : (x == ("__debug__" : Str)) = false := by decide) (hse : starEach (e0 :: more) X.env = (false, eval e0 X.env) :: starEach more X.env := by rfl)
    (hpl : (backTo pos (starEach more X.env)).any (·.1) = false := by rfl) : L2N.PMk X (.Call (.Name x p) (e0 :: more) [] pos) (tMkO C sp [] ta) := fun pins st0 σ H Q J hq => by
  obtain ⟨_, _, _, _, bm, _, _, _, _, _, _, _, _, _, _, clsC, refs⟩ := T.cls
  refine wpAny_Call_Name_kw (ld_glob J gx mx ?_ ndb)
  refine PySem.W.callWith_K (h₀ := X.base) J.ok.mod.kin T.kC (thn (hargs.run pos pins st0 σ H _ J hq) fun us s1 ⟨vs, H1, J1, rvs, few, ask⟩ => ⟨J1.kIn, ?_⟩) hse hpl
  show wpAny _ _ (call (.ref C) us) _ _ _
  obtain ⟨h1, gs, dr, tks, os⟩ := s1
  obtain ⟨at1, hat⟩ : ∃ at1, at1 = h1.objs.size + 1 := ⟨_, rfl⟩
  have fr : H1 at1 = none := J1.hok.fresh (by rw [hat]; exact Nat.le_succ _)
  have ask := ask at1 fr
  rw [List.append_nil] at ask
  subst hat
  have keeps : ∀ b o, h1.get? b = some o → ((h1.push (PySem.W.kdv_tup us)).push (PySem.HandSPX.excO C h1.objs.size)).get? b = some o :=
    fun b o z => Heap.get?_push_of_some _ (Heap.get?_push_of_some _ z)
  have J2 := J1.laid (t' := tks) (a := h1.objs.size + 1) (o := exo (h1.objs.size + 1) C none) keeps (Nat.le_succ _) (exo_ok (by heap_get))
  have rv2 : Vals (V.ref (h1.objs.size + 1) :: vs) (Value.ref (h1.objs.size + 1) :: us) := .cons rfl rvs
  have ln : (Value.ref (h1.objs.size + 1) :: us ++ []).length = ps.length := by
    rw [List.append_nil, ← Fi.len _ _ _ _ ask]; exact rv2.length.symm
  have bnd := bi _ (Value.ref (h1.objs.size + 1) :: us) J2.kIn ln
  rw [List.append_nil] at bnd
  refine wpAny_call (PySem.HandSPX.call_own F.excBase_ValueError (fun Y => PySem.HandSPX.refsVE_contains Y bm refs) (J1.kIn _ _ clsC)
    (PySem.W.looks_findIn J1.kIn iC) (fun self => PySem.W.bind_fn J1.kIn self tI) (by rw [← Paired.length rvs, sizeLine_eq]; omega) (codeAny_mono
      (Fi.run _ X.stack _ _ ⟨Value.ref (h1.objs.size + 1) :: us, []⟩ _ _ _ (fun _ _ _ => False) (rm.make C us []) (J2.env0.make C us []) bnd rv2 ask) fun res s2 post => ?_))
  match res, post with
  | .error er, post => exact px pins σ _ _ er s2 J2 post
  | .ok .next, post => exact post.elim
  | .ok .brk, post => exact post.elim
  | .ok .cont, post => exact post.elim
  | .ok (.ret u), post =>
    obtain ⟨v, H2, os2, bare2, un2, hok2, ru, ev, dx, fs, ea, ed, nd1, qq⟩ := post
    subst ev
    obtain ⟨h2, g2, d2, t2, o2⟩ := s2
    obtain ⟨t0, G, JG, kG, gone, obj, nH⟩ := mk_end0 (d2 := d2) (t2 := t2) J1 (Nat.le_succ _) keeps un2 hok2 os2 bare2 ea ed nd1
    exact ⟨ru, h1.objs.size + 1, _, _, ⟨G, g2, d2, t2, o2⟩, _, .ref C, some dx, rfl, JG, kG, gone, obj,
      ⟨rfl, rfl, fun ws hw => by cases hw; rfl⟩, rfl, rfl, nH, rfl, bare2, raises_own T.exC T.tyC, qq⟩
theorem wsx_raise {x : Str} {C : Addr} (hc : X.calm = true) (B : EOk X.prog X.w X.K X.mg X.base x C (spIn X.K)) (hr : Room 2 X.A) (h : WE X.nox a L m fun y m1 => e C y L m1) (hg : Gl X x := by rfl) (hdb : (x == ("__debug__" : Str)) = false := by decide)
    (he : starEach [a] X.env = (false, eval a X.env) :: starEach [] X.env := by rfl) (hpl : (backTo pos' (starEach [] X.env)).any (·.1) = false := by rfl) : WSX X (.Raise (some (.Call (.Name x p) [a] [] pos')) none pos) L m D e := fun w σ H r t pins s I => by
  obtain ⟨fI, fd, i1, i2, i3, i4⟩ := B.ini
  refine (L2N.ps_raise hc t (pmkN_oex B.T i1 i2 i3 (hr.mono (by decide)) i4 pass0 hg B.m (pa_cons (PE.nox (peU (X := X.nox) a)) pa_nil he) hdb he hpl)).run pins s σ H _ I ?_
  refine h.go (X := X.nox) r fun w1 v y m1 H1 l1 r1 d1 q => ?_
  refine ⟨by show 1 ≤ 1000; decide, fun a0 na => ?_⟩
  refine ⟨a0, C, v, rfl, upd_same, B.T, B.nv, fun dx hdx hne => ⟨rfl, dx, [("value", v)], upd_same, ?_, ?_, ?_⟩⟩
  · rw [upd_ne hne, upd_same]
  · rwa [upd_ne hne] at hdx
  · rw [upd_ne hne] at hdx
    rw [upd_del na hne]
    obtain ⟨l2, hr2⟩ := r1.toHR.fnew (o := .xd [("value", v)]) hdx
    exact ⟨C, dx, _, L, m1, v, y, rfl, rfl, l1.trans l2, r1.go l2 hr2, upd_same, dp_mono l2.sub _ _ d1, q⟩
abbrev FSpX := List PV → Mem → (Addr → PyData → Mem → Prop) → Prop
def toSpX (K : PySem.W.Frag) (f : FSpX) : Sp := fun vs H _ E => ∃ (w : Wd) (pvs : List PV) (m : Mem) (q : Addr → PyData → Mem → Prop), HR K w m H ∧ RVs K w vs pvs ∧ f pvs m q ∧
  ∀ (w' : Wd) (C d : Addr) (vv : V) (y : PyData) (m' : Mem) (H' : Hp), w.le w' → HR K w' m' H' → w'.F d = some (.xd [("value", vv)]) → DP K w'.F vv y → q C y m' → E (.ref C) (some d) H'
def CallAskX (sp : FSpX) (ks : List Nat) (pvs : List PV) (m : Mem) (q : Addr → PyData → Mem → Prop) : Prop := ks.Nodup ∧ (∀ k ∈ ks, k < m.length) ∧ (∀ p ∈ pvs, refsIn ks p) ∧ sp (pvs.map (ren ks)) (cellsAt m ks) q
theorem callX_read {sp : FSpX} {ks : List Nat} {w w1 : Wd} {σ : L2.St} {H1 : Hp} {vs : List V} {pvs : List PV} {m1 : Mem} {Q : VK} (l1 : w.le w1) (r1 : Rep X.K w1 L m1 σ H1) (d1 : RVs X.K w1 vs pvs) (h : CallAskX sp ks pvs m1 fun C y mc => backB none ks mc = true ∧ e C y L (setAll m1 ks mc)) : toSpX X.K sp vs H1 Q (L2.WE (XW X.K w e) σ) := by
  obtain ⟨nd, hl, hi, hs⟩ := h
  refine ⟨_, _, _, _, r1.toHR.subWorld nd hl, sub_rvs r1.toHR hl d1 hi, hs, fun w' C d vv y mc H' l hr' hd dy ⟨hmc, qq⟩ => ?_⟩
  obtain ⟨l3, hr3⟩ := r1.toHR.back (mo := []) (ex := []) nd hl l (by rw [List.append_nil]; exact hr') hmc
  exact ⟨C, d, _, L, _, vv, y, rfl, rfl, l1.trans l3, r1.go l3 hr3, hd, dy, qq⟩
theorem tUA_nox {σ : L2.St} {H : Hp} {Q : List V → Hp → Prop} (h : tUA X.nox es σ H Q) : tUA X es σ H Q := fun pos pins s I =>
  wpAny_mono (h pos pins s (I.wish _)) (fun _ _ ⟨v, H', I', r, q⟩ => ⟨v, H', I'.unwish, r, q⟩) fun _ _ z => False.elim z
theorem wex_call {x : Str} {k : Nat} {f : Addr} {fd : FuncData} {ps : List Str} {sp : FSpX} {a0 : Expr} (ks : List Nat) (F : FnOk X.prog X.w X.K X.mg X.base (L2N.CX X.prog X.w) k f fd ps (toSpX X.K sp)) (hr : Room k X.A) (hm : X.mg x = some (.ref f)) (hk : PySem.W.keepIn X.K (.ref f) = true) (hb : Binds X.K fd ps [])
    (h : WA X.nox (a0 :: es) L m fun pvs m1 => CallAskX sp ks pvs m1 fun C y mc => backB none ks mc = true ∧ e C y L (setAll m1 ks mc))
    (hg : Gl X x := by rfl) (hdb : (x == ("__debug__" : Str)) = false := by decide) (he : starEach (a0 :: es) X.env = (false, eval a0 X.env) :: starEach es X.env := by rfl) (hpl : (backTo pos (starEach es X.env)).any (·.1) = false := by rfl) : WEX X (.Call (.Name x p) (a0 :: es) [] pos) L m e := fun w σ H r t pins s I => by
  refine (pe_callS (E := L2.WE (XW X.K w e)) F hr hg hm hk hb (fun σ => L2N.passAt t σ) (paU (a0 :: es)) hdb he hpl).run pins s σ H _ I (tUA_nox (WA.go (X := X.nox) h r fun w1 vs pvs m1 H1 l1 r1 d1 q => ?_))
  exact callX_read l1 r1 d1 q
theorem run_fnkS {CX : CXT} {k : Nat} {f : Addr} {fd : FuncData} {ps kn : List Str} {sp : Sp} {E : L2.St → XK} {g : List Value → List Value → List Value} {gV : List V → List V → List V} {pins : List (Addr × Obj)} {σ : L2.St} {H : Hp} {s : Shared} {Q : VK} {us ws : List Value} {vs zs : List V} (F : FnOk X.prog X.w X.K X.mg X.base CX k f fd ps sp) (hr : Room k X.A) (hb : KBinds X.K fd ps kn g gV) (hx : PassesAt CX X σ (E σ))
    (I : Inv X pins σ H s) (r : Vals vs us) (rz : Vals zs ws) (h : sp (gV vs zs) H Q (E σ)) : wpAny (model X.prog X.w) X.A (call (.ref f) us (kn.zip ws)) (EP X pins σ Q) X.xe s := by
  have r2 := hb.rel r rz
  have hl : (g us ws).length = ps.length := r2.length.symm.trans (F.len _ _ _ _ h)
  refine wpAny_call (codeAny_mono (F.run X.A X.stack s H ⟨us, kn.zip ws⟩ (g us ws) (gV vs zs) Q (E σ) hr I.env0 (hb.to s us ws I.kIn hl) r2 h) fun z s' hq => ?_)
  match z, hq with
  | .error e, hq => exact hx pins H s e s' I hq
  | .ok (.ret u), hq => exact I.after hq
  | .ok .next, hq => exact False.elim hq
  | .ok .brk, hq => exact False.elim hq
  | .ok .cont, hq => exact False.elim hq
theorem wex_callR0 {x : Str} {k n : Nat} {f : Addr} {fd : FuncData} {ps kn : List Str} {is : List Nat} {sp : FSpX} {kws : List Keyword} (ks : List Nat) (F : FnOk X.prog X.w X.K X.mg X.base (L2N.CX X.prog X.w) k f fd ps (toSpX X.K sp)) (hr : Room k X.A) (hm : X.mg x = some (.ref f)) (hk : PySem.W.keepIn X.K (.ref f) = true) (hb : KBr X.K fd ps n kn is)
    (h : WK X kws L m fun pvs m1 => 0 = n ∧ pvs.length = kn.length ∧ CallAskX sp ks (permL is pvs) m1 fun C y mc => backB none ks mc = true ∧ e C y L (setAll m1 ks mc))
    (hg : Gl X x := by rfl) (hall : (backToKw pos (keywordEach kws X.env)).all (·.1.isSome) = true := by rfl) (hks : (backToKw pos (keywordEach kws X.env)).filterMap (·.1) = kn := by rfl) (hdb : (x == ("__debug__" : Str)) = false := by decide)
    (hpl : ((backTo pos (starEach [] X.env)).any (·.1) || (backToKw pos (keywordEach kws X.env)).any (·.1.isNone)) = false := by rfl) : WEX X (.Call (.Name x p) [] kws pos) L m e := fun w σ H r t pins s I => by
  refine wpAny_Call_Name_kw (ld_glob I hg hm ?_ hdb)
  refine PySem.W.callWith_KW0 (h₀ := X.base) I.ok.mod.kin hk hall (thn ((pkU kws).run pos pins s σ H _ I (WK.go h r (R := fun vs H1 => (0 = n ∧ vs.length = kn.length) ∧ toSpX X.K sp (permL is vs) H1 (fun _ _ => False) (L2.WE (XW X.K w e) σ)) fun w1 vs pvs m1 H1 l1 r1 d1 ⟨e1, e2, q⟩ => ⟨⟨e1, d1.length.trans e2⟩, callX_read l1 r1 (rvs_perm d1 is) q⟩)) fun ws s2 ⟨zs, H2, I2, rz, ⟨e0, e3⟩, q2⟩ => ⟨I2.kIn, ?_⟩) hpl
  rw [hks]
  refine run_fnkS F hr hb.kb (L2N.passAt t σ) I2 .nil rz ?_
  rw [gR_of (show ([] : List V).length = n from e0) e3, List.nil_append]
  exact q2
theorem inv_suite {pins : List (Addr × Obj)} {σ : L2.St} {H : Hp} {s : Shared} (I : Inv X pins σ H s) (a : Addr) : Inv (X.suite a (X.pn ++ pins)) [] σ H s :=
  ⟨I.ok.suite _ _, I.os, I.bare, I.base, I.loc, I.cell, I.free, I.freeC, fun q hq => I.pin q (by rw [List.append_nil] at hq; exact hq), I.hok, I.len⟩
theorem inv_unsuite {pins pn' : List (Addr × Obj)} {σ : L2.St} {H : Hp} {s : Shared} {a : Addr} (I : Inv (X.suite a (X.pn ++ pins)) pn' σ H s) (ok : X.Ok) : Inv X pins σ H s :=
  ⟨ok, I.os, I.bare, I.base, I.loc, I.cell, I.free, I.freeC, fun q hq => I.pin q (List.mem_append_left _ hq), I.hok, I.len⟩
theorem inv_note {pins : List (Addr × Obj)} {σ : L2.St} {H : Hp} {s : Shared} {a : Addr} {o : HO} (I : Inv X pins σ H s) (na : H a = none) (h0 : X.s_0.heap.get? a = none) (nL : a ≠ X.env.locals) (nc : ∀ x c, X.env.cells.lookup x = some c → c ≠ a) (np : ∀ q ∈ X.pn ++ pins, q.1 ≠ a) (new : ObjOk X.prog X.w (upd H a o) s.heap a o) : Inv X pins σ (upd H a o) s := by
  have ne : ∀ {b : Addr} {u : HO}, H b = some u → b ≠ a := fun {b u} e => ne_of_none e na
  refine ⟨I.ok, I.os, I.bare, ⟨I.base.keep, I.base.slot, fun b u e n hx => ?_, I.base.there, fun b xs e => ?_, fun b ob u e => ?_, fun b ts e => ?_⟩, I.loc, I.cell, ?_, fun x c e => ?_, fun q hq => ?_, fun b u e => ?_, I.len⟩
  · rw [upd_ne (fun z => by rw [z, h0] at e; cases e)]
    exact I.base.free b u e n hx
  · have z := I.base.tups b xs e
    rw [upd_ne (ne z)]; exact z
  · have z := I.base.frzs b ob u e
    rw [upd_ne (ne z)]; exact z
  · obtain ⟨more, z⟩ := I.base.tbls b ts e
    exact ⟨more, by rw [upd_ne (ne z)]; exact z⟩
  · rw [upd_ne (Ne.symm nL)]; exact I.free
  · rw [upd_ne (nc x c e)]; exact I.freeC x c e
  · obtain ⟨e1, e2, e3⟩ := I.pin q hq
    exact ⟨e1, by rw [upd_ne (np q hq)]; exact e2, e3⟩
  · by_cases hb : b = a
    · subst hb
      rw [upd_same] at e; cases e
      exact new
    · rw [upd_ne hb] at e
      exact (I.hok b u e).stay (fun _ _ _ z => z) (fun c hc => by rw [upd_ne (ne hc)]; exact hc) fun c xs hc => by rw [upd_ne (ne hc)]; exact hc
def HQ (X : Cx) (D : PEnds) : List ExceptHandler → Addr → PyData → PP.Loc → Mem → Prop
  | .ExceptHandler (some (.Name x _)) (some n) (b₀ :: su) _ :: hs, C, y, L, m => ∃ (i : Nat) (c : Value) (k : Bool), X.N[i]? = some n ∧ X.env.kindOf n = some .local ∧ Names X x c ∧ PySem.W.exmOne X.K (.ref C) c = some k ∧
      (k = true → (∀ (a : Addr) (pn : List (Addr × Obj)), WSs (X.suite a pn) (b₀ :: su) (L.set i (some (.exc C y))) m { nx := fun L m => D.nx (L.set i none) m, rt := D.rt, bk := fun L m => D.bk (L.set i none) m, ct := fun L m => D.ct (L.set i none) m }) ∨
        (∀ (a : Addr) (pn : List (Addr × Obj)), WSs (X.suite a pn) (b₀ :: su) (L.set i (some (.excA a C y))) m { nx := fun L m => D.nx (L.set i none) m, rt := D.rt, bk := fun L m => D.bk (L.set i none) m, ct := fun L m => D.ct (L.set i none) m })) ∧ (k = false → HQ X D hs C y L m)
  | _, _, _, _, _ => False
theorem hq_as {x n : Str} {np pos2 : Pos} {b₀ : Stmt} {su : List Stmt} {hs : List ExceptHandler} {C : Addr} {y : PyData} {c : Value} (i : Nat) (hi : X.N[i]? = some n) (hl : X.env.kindOf n = some .local) (hn : Names X x c) (hm : PySem.W.exmOne X.K (.ref C) c = some true)
    (h : ∀ (a : Addr) (pn : List (Addr × Obj)), WSs (X.suite a pn) (b₀ :: su) (L.set i (some (.exc C y))) m { nx := fun L m => D.nx (L.set i none) m, rt := D.rt, bk := fun L m => D.bk (L.set i none) m, ct := fun L m => D.ct (L.set i none) m }) : HQ X D (.ExceptHandler (some (.Name x np)) (some n) (b₀ :: su) pos2 :: hs) C y L m :=
  ⟨i, c, true, hi, hl, hn, hm, fun _ => .inl h, fun z => nomatch z⟩
theorem ws_tryN {h₀ : ExceptHandler} {hds : List ExceptHandler} (h : WSs X.nox body L m D) : WS X (.Try body (h₀ :: hds) [] [] pos) L m D :=
  ws_of (ps_try_thru0 (pssU (X := X.nox) body)) fun w σ H r => h w σ H r
theorem rep_wipe {K : PySem.W.Frag} {w : Wd} {σ : L2.St} {H : Hp} (r : Rep K w L m σ H) (i : Nat) : Rep K w (L.set i none) m (σ.set i none) H :=
  ⟨r.toHR, by rw [List.length_set, List.length_set]; exact r.sl, fun j q e => by
    by_cases hj : i = j
    · subst hj
      by_cases hi : i < L.length
      · rw [List.getElem?_set_self hi] at e; cases e
      · rw [List.getElem?_eq_none (by rw [List.length_set]; omega)] at e; cases e
    · rw [List.getElem?_set_ne hj] at e
      obtain ⟨v, h1, h2⟩ := r.loc j q e
      exact ⟨v, by rw [List.getElem?_set_ne hj]; exact h1, h2⟩⟩
theorem ws_tryX {h₀ : ExceptHandler} {hds : List ExceptHandler} (hs : X.stack = X.env :: X.outer) (hf : X.env.frame = some X.env.locals) (hN : X.N.Nodup) (hex : X.ex = [])
    (h : ∀ (pn : List (Addr × Obj)) (xe : Value → Shared → Prop), PassesOwn (model X.prog X.w) X.A X.env xe → WSsX (X.tr pn xe) body L m D (HQ X D (h₀ :: hds))) : WS X (.Try body (h₀ :: hds) [] [] pos) L m D := fun w σ H r pins s I => by
  have ok := I.ok
  have hfr : X.A.frames = some (X.env :: X.outer) := ok.frames.trans (congrArg some hs)
  refine wpAny_Try_except ?_
  refine wpAny_mono (h (X.pn ++ pins) (fun e s₁ => wpAny (model X.prog X.w) X.A (noteFrame e X.env) (fun _ s₂ => wpAny (model X.prog X.w) X.A (setFlight e none)
    (fun _ s₃ => wpAny (model X.prog X.w) X.A (handleBy e X.env (h₀ :: hds)) (SP X pins (toE X.K w D)) X.xe s₃) X.xe s₂) X.xe s₁) PassesOwn.looking w σ H r (fun u s' xx => ?_) [] s (I.toTry _)) (fun f s1 hsp => ?_) (fun e s1 he => he)
  · obtain ⟨a, B, sI, pins', σ', H', cls, d, rfl, J', nb, up, sky, na, os, ag, C, dd, w', L', m', vv, y, rfl, rfl, l, r', hF, hd, hq⟩ := xx
    have J : Inv X pins σ' H' sI := J'.ofTry ok
    have sky' : Sky B (X.env :: X.outer) a (L2N.Zn (.ref C) (some dd)) X.env.locals s'.heap := hs ▸ sky
    refine L2N.Sky.land L2N.Zn.steady hfr hf sky' fun h3 fl3 up3 => ?_
    have J3 : Inv X pins σ' H' { s' with heap := h3 } := J.landed nb fl3.1 (up.trans up3) os ag
    obtain ⟨oe3, vs3, he3, hz3, hd3⟩ := fl3.there
    have nfr : a ∉ frs (X.env :: X.outer) := fun hm => by
      obtain ⟨_, o', e', hnf⟩ := fl3.2.2.1.mem hm
      rw [he3] at e'; cases e'
      exact hnf _ hd3
    have nL : a ≠ X.env.locals := fun z => nfr (List.mem_filterMap.mpr ⟨X.env, List.mem_cons_self, z ▸ hf⟩)
    have nI : sI.heap.get? a = none := by
      cases q : sI.heap.get? a with
      | none => rfl
      | some o =>
        have z := nb a o q (hs ▸ nfr)
        rw [fl3.2.1] at z; cases z
    have n0 : X.s_0.heap.get? a = none := by
      cases q : X.s_0.heap.get? a with
      | none => rfl
      | some o =>
        obtain ⟨o', z⟩ := J.base.there a o q (by rw [hex]; simp)
        rw [nI] at z; cases z
    have nC : ∀ x c, X.env.cells.lookup x = some c → c ≠ a := fun x c e z => by
      obtain ⟨v, hc⟩ := J.cell x c e
      obtain ⟨o, q, _⟩ := hc
      rw [z, nI] at q; cases q
    have nP : ∀ q ∈ X.pn ++ pins, q.1 ≠ a := fun q hq z => by
      have e := (J.pin q hq).1
      rw [z, nI] at e; cases e
    have S3 := inv_suite J3 a
    have go : ∀ hds' : List ExceptHandler, HQ X D hds' C y L' m' → wpAny (model X.prog X.w) X.A (handleBy (.ref a) X.env hds') (SP X pins (toE X.K w D)) X.xe { s' with heap := h3 } := by
      intro hds'
      induction hds' with
      | nil => intro z; exact z.elim
      | cons hh rest ih =>
        intro z
        match hh, z with
        | .ExceptHandler (some (.Name x np)) (some n) (b₀ :: su) pos2, ⟨i, c, k, hi, hln, hc, hx, hyes, hno⟩ =>
        refine wpAny_handleBy_cons (codeAny_handlers_test ?_) (by intro q; cases q)
        have LM := PySem.W.exm_one (M := model X.prog X.w) (h := h3) J3.kIn (fun A Q E s k q => wpAny_typeOf_ref (k _ _ he3) (by rw [hz3.1]; exact q)) hx
        have test : ∀ {Q : Value → Shared → Prop} {E : Value → Shared → Prop}, Q c { s' with heap := h3 } → wpAny (model X.prog X.w) (X.A.mark (some (.ref a))) (eval (.Name x np) X.env) Q E { s' with heap := h3 } := fun {Q E} q => by
          obtain ⟨hg, hdbg, hm | ⟨hm, hv, hnn⟩⟩ := hc
          · exact ld_glob (X := X.suite a (X.pn ++ pins)) S3 hg hm q hdbg
          · exact ld_blt (X := X.suite a (X.pn ++ pins)) S3 hg hm hv q hnn hdbg
        refine test (LM.here ?_)
        cases k with
        | false => exact ih (hno rfl)
        | true =>
          refine codeAny_handlers_suite_as (HandSPX.lands_againZ fl3 fun h4 fl4 up4 => ?_)
          have J4 : Inv X pins σ' H' { s' with heap := h4 } := J.landed nb fl4.1 ((up.trans up3).trans up4) os ag
          obtain ⟨oe4, vs4, he4, hz4, hd4⟩ := fl4.there
          have hctx : vs4[2]? = some .none := hz4.2.2 vs4 hd4
          have hyes : ∃ (o : HO) (p : PV), ObjOk X.prog X.w (upd H' a o) h4 a o ∧ (∀ w1 : Wd, w1.F a = some o → w1.F dd = some (.xd [("value", vv)]) → DP X.K w1.F vv y → RV X.K w1 (.ref a) p) ∧
              ∀ pn : List (Addr × Obj), WSs (X.suite a pn) (b₀ :: su) (L'.set i (some p)) m' { nx := fun L m => D.nx (L.set i none) m, rt := D.rt, bk := fun L m => D.bk (L.set i none) m, ct := fun L m => D.ct (L.set i none) m } := by
            rcases hyes rfl with hy | hy
            · exact ⟨_, .exc C y, exH_ok (C := C) (d := dd) he4 hz4.1 hz4.2.1 hd4, fun w1 e1 e2 e3 => ⟨a, dd, vv, rfl, e1, e2, e3⟩, hy a⟩
            · exact ⟨_, .excA a C y, exN_ok (C := C) (d := dd) he4 hz4.1 hz4.2.1 hd4 hctx, fun w1 e1 e2 e3 => ⟨dd, vv, rfl, e1, e2, e3⟩, hy a⟩
          obtain ⟨ob, pv, hob, hrv, hyes⟩ := hyes
          have K4 := inv_note J4 na n0 nL nC nP hob
          have S4 := inv_suite K4 a
          obtain ⟨l2, hr2⟩ := r'.toHR.fnew (o := ob) na
          refine store_ok (X := X.suite a (X.pn ++ pins)) (v := .ref a) S4 hN hi (.inl hln) rfl (fun s5 S5 => ?_) (.inr hln)
          have rv : RV X.K (w'.fz a ob) (.ref a) pv := hrv _ upd_same (l2.sub _ _ hF) (dp_mono l2.sub _ _ hd)
          have r5 := (r'.go l2 hr2).set (i := i) rv
          refine wpAny_mono (hyes (X.pn ++ pins) _ _ _ r5 [] s5 S5) (fun f s6 hsp => ?_) (fun _ _ z => False.elim z)
          have fin : ∀ {σ6 : L2.St} {H6 : Hp} {Q : Shared → Prop}, Inv (X.suite a (X.pn ++ pins)) [] σ6 H6 s6 → (∀ s7, Inv X pins (σ6.set i none) H6 s7 → Q s7) →
              wpAny (model X.prog X.w) X.A (do bindName X.env n .none; unbindBehindTheSuite X.env n pos2) (fun _ s7 => Q s7) X.xe s6 := fun {σ6 H6 Q} S6 hq => gone_ok (inv_unsuite S6 ok) hN hi hln hq
          have wp : ∀ {N : PP.Loc → Mem → Prop} {σ6 : L2.St} {H6 : Hp}, POS X.K (w'.fz a ob) (fun L m => N (L.set i none) m) σ6 H6 → POS X.K w N (σ6.set i none) H6 := fun {N σ6 H6} ⟨w6, L6, m6, l6, r6, q6⟩ => ⟨w6, _, m6, (l.trans l2).trans l6, rep_wipe r6 i, q6⟩
          match f, hsp with
          | .next, ⟨σ6, H6, S6, q6⟩ => exact fin S6 fun s7 J7 => ⟨_, _, J7, wp q6⟩
          | .brk, ⟨σ6, H6, S6, q6⟩ => exact fin S6 fun s7 J7 => ⟨_, _, J7, wp q6⟩
          | .cont, ⟨σ6, H6, S6, q6⟩ => exact fin S6 fun s7 J7 => ⟨_, _, J7, wp q6⟩
          | .ret u, ⟨v6, σ6, H6, S6, r6, q6⟩ => exact fin S6 fun s7 J7 => ⟨_, _, _, J7, r6, POV.back (l.trans l2) q6⟩
    exact go _ hq
  · match f, hsp with
    | .next, ⟨σ', H', J', q⟩ => exact wpAny_execs_nil ⟨σ', H', J'.ofTry ok, q⟩
    | .brk, ⟨σ', H', J', q⟩ => exact ⟨σ', H', J'.ofTry ok, q⟩
    | .cont, ⟨σ', H', J', q⟩ => exact ⟨σ', H', J'.ofTry ok, q⟩
    | .ret u, ⟨v, σ', H', J', rr, q⟩ => exact ⟨v, σ', H', J'.ofTry ok, rr, q⟩
end
section
variable {P : Program} {w : World} {K : PySem.W.Frag} {mg : Str → Option Value} {base : Heap}
abbrev DXx (P : Program) (w : World) (K : PySem.W.Frag) (mg : Str → Option Value) (base : Heap) (N : List Str) (qual : Str) (st : Stmt) (f : Addr) (cdv : Value) (A : Around) (outer : List Env) (s : Shared) (H : Hp) (E : XK) : Cx := cxOf (L2N.CX P w) P w K mg base N qual (defScope st) f cdv A outer s H E
abbrev fnN : PEnds := { nx := fun _ _ => False, rt := fun _ _ => False }
theorem okXN {x qual : Str} {st : Stmt} {f : Addr} {fd : FuncData} {N ps : List Str} {k : Nat} {sp : Sp} (F : Fun K x qual st f fd) (S : FnScope N ps (defScope st))
    (hl : ∀ vs H Q E, sp vs H Q E → vs.length = ps.length)
    (bd : ∀ (cdv : Value) (A : Around) (outer : List Env) (s : Shared) (H : Hp) (vs : List V) (Q : VK) (E : XK), Room k (DXx P w K mg base N qual st f cdv A outer s H E).A → sp vs H Q E →
      ∃ t, PSs (DXx P w K mg base N qual st f cdv A outer s H E) (defBody st) t ∧ t { nx := fun _ H' => Q .non H', rt := Q } (start N vs) H) :
    FnOk P w K mg base (L2N.CX P w) (k + 1) f fd ps sp := by
  obtain ⟨_, _, _, _, _, _, cv, _, _, e, lk, hcode⟩ := F.ex
  subst e
  exact fn_of lk hcode S hl fun A out st1 H1 us Q1 E1 rm ask => bd cv A out st1 H1 us Q1 E1 rm ask
theorem fnx_pp {x qual : Str} {st : Stmt} {f : Addr} {fd : FuncData} {N ps : List Str} {k : Nat} {sp : FSpX} (F : Fun K x qual st f fd) (S : FnScope N ps (defScope st)) (len : ∀ pvs m q, sp pvs m q → pvs.length = ps.length)
    (body : ∀ (cdv : Value) (A : Around) (outer : List Env) (s : Shared) (H : Hp) (E : XK), Room k (DXx P w K mg base N qual st f cdv A outer s H E).A → PassesOwn (model P w) (DXx P w K mg base N qual st f cdv A outer s H E).A (DXx P w K mg base N qual st f cdv A outer s H E).env (DXx P w K mg base N qual st f cdv A outer s H E).xe → ∀ pvs m q, sp pvs m q →
      WSsX (DXx P w K mg base N qual st f cdv A outer s H E) (defBody st) (startL N pvs) m fnN (fun C y _ m' => m.length ≤ m'.length ∧ q C y (m'.take m.length))) :
    FnOk P w K mg base (L2N.CX P w) (k + 1) f fd ps (toSpX K sp) := by
  refine okXN F S (fun vs H Q E ⟨w, pvs, m, q, hr, r, h, k⟩ => by rw [r.length]; exact len _ _ _ h) fun cdv A outer s H vs Q E hrm h => ?_
  refine ⟨_, pssU _, ?_⟩
  obtain ⟨wd, pvs, m, q, hr, r, h, kk⟩ := h
  have tk : L2N.Takes (DXx P w K mg base N qual st f cdv A outer s H E) (fun cls d _ H => E cls d H) := L2N.takes_of rfl rfl rfl rfl
  refine tUSs_mono (body cdv A outer s H E hrm (passes_of rfl) pvs m q h wd _ H (rep_start N hr r) (tk.imp ?_)) ?_ ?_ ?_ ?_
  · rintro cls d σ H' ⟨C, dd, w', L', m', vv, y, rfl, rfl, l, r', hF, hd, hn, qq⟩
    exact kk (w'.cut m.length) C dd vv y _ H' (l.cut (by rw [hr.len]; exact Nat.le_refl _)) (r'.toHR.cut m.length) hF hd qq
  · rintro σ' H' ⟨_, _, _, _, _, z⟩; exact z.elim
  · rintro v H' ⟨_, _, _, _, _, _, z⟩; exact z.elim
  · rintro σ' H' ⟨_, _, _, _, _, z⟩; exact z.elim
  · rintro σ' H' ⟨_, _, _, _, _, z⟩; exact z.elim
end
end PP
namespace PP
open PySem PySem.Spec PyProof.Rows L2
section
variable {X : Cx} {L : PP.Loc} {m : Mem} {a b c : Expr} {pos : Pos} {e : XQ}
theorem wex_if (h : WT X.nox c L m fun k m1 => (k = true → WEX X a L m1 e) ∧ (k = false → WEX X b L m1 e)) : WEX X (.IfExp c a b pos) L m e := fun w σ H r tk pins s I =>
  (pe_ifExp (PT.nox (ptU (X := X.nox) c)) (peU a) (peU b)).run pins s σ H _ I (h.go (X := X.nox) r fun w1 k m1 H1 l1 r1 ⟨q1, q2⟩ => by
    cases k with
    | true => rw [if_pos rfl]; exact q1 rfl _ _ _ r1 (takes_le l1 tk)
    | false => rw [if_neg Bool.false_ne_true]; exact q2 rfl _ _ _ r1 (takes_le l1 tk))
end
end PP
namespace PySem.W
open PySem PySem.Calls PyProof.Rows
end PySem.W
namespace PP
open PySem PySem.Spec PyProof.Rows L2
open PySem.W (AllAlike Sortable dataLe dataLt EachIs sorted_data)
end PP
namespace PP
open PySem PySem.Spec PyProof.Rows L2
section
variable {X : Cx}
def mkJ (s : Shared) (s' : Shared) : Prop := ∃ (h' : Heap) (t' : Nat), s' = { s with heap := h', toks := t' } ∧ ∀ b o, s.heap.get? b = some o → h'.get? b = some o
theorem mkJ.keep {s s1 s' : Shared} {wr : List Addr} (j : mkJ s s1) (m : Moved wr (fun a b : Array GenState => b = a) s1 s') (hw : ∀ b ∈ wr, s.heap.objs.size ≤ b) : mkJ s s' := by
  obtain ⟨h1, t1, rfl, k⟩ := j
  obtain ⟨mh, mg, md, mo, mt⟩ := m
  refine ⟨s'.heap, s'.toks, ?_, fun b o e => mh b o (fun z => ?_) (k b o e)⟩
  · cases s' with
    | mk h g d t o =>
      simp only at mg md mo
      subst mg; subst md; subst mo
      rfl
  · have z1 := hw b z
    exact absurd (Heap.lt_size e) (Nat.not_lt.mpr z1)
def mnL : List Int → Int
  | [] => 0
  | [x] => x
  | x :: y :: ys => if mnL (y :: ys) < x then mnL (y :: ys) else x
theorem mnL_ok : ∀ {xs : List Int}, 0 < xs.length → mnL xs ∈ xs ∧ ∀ y ∈ xs, mnL xs ≤ y
  | [], h => by simp at h
  | [x], _ => ⟨by rw [mnL]; exact List.mem_cons_self, fun y hy => by rw [mnL]; rw [List.mem_singleton.mp hy]; exact Int.le_refl _⟩
  | x :: y :: ys, _ => by
    obtain ⟨h1, h2⟩ := mnL_ok (xs := y :: ys) (Nat.succ_pos _)
    rw [mnL]
    split
    · rename_i c
      exact ⟨List.mem_cons_of_mem _ h1, fun z hz => by
        rcases List.mem_cons.mp hz with rfl | hz
        · omega
        · exact h2 z hz⟩
    · rename_i c
      exact ⟨List.mem_cons_self, fun z hz => by
        rcases List.mem_cons.mp hz with rfl | hz
        · exact Int.le_refl _
        · have := h2 z hz; omega⟩
end
end PP
namespace PP
open PySem PySem.Spec PyProof.Rows L2
end PP
namespace PP
open PySem PySem.Spec PyProof.Rows L2
end PP
namespace PP
open PySem PySem.Spec PyProof.Rows L2
theorem Un1.fz {w : Wd} {D p : Addr} {o : HO} (u : Un1 w D) (h : D ≠ p) : Un1 (w.fz p o) D := by
  refine ⟨?_, u.a, u.t⟩
  show upd w.F p o D = none
  rw [upd_ne h]; exact u.f
end PP
namespace MM
def stepR (mu : Int → Int) (s : List Int) (p : Int) : List Int := match s with
  | [] => [p]
  | t :: r => if t = mu p then r else p :: t :: r
def stkR (mu : Int → Int) (R : List Int) (i : Nat) : List Int := (R.take i).foldl (stepR mu) []
theorem stkR_zero {mu : Int → Int} {R : List Int} : stkR mu R 0 = [] := by unfold stkR; rw [List.take_zero]; rfl
theorem stkR_succ {mu : Int → Int} {R : List Int} {i : Nat} {p : Int} (h : R[i]? = some p) : stkR mu R (i + 1) = stepR mu (stkR mu R i) p := by
  unfold stkR
  rw [List.take_add_one, h, List.foldl_append]
  rfl
structure Inv (mu : Int → Int) (R : List Int) : Prop where
  nd : R.Nodup
  mem : ∀ p ∈ R, mu p ∈ R
  ne : ∀ p ∈ R, mu p ≠ p
  inv : ∀ p ∈ R, mu (mu p) = p
theorem idx_at {R : List Int} (nd : R.Nodup) {i : Nat} {p : Int} (h : R[i]? = some p) : R.idxOf p = i := by
  obtain ⟨hi, e⟩ := List.getElem?_eq_some_iff.mp h
  have h2 := List.idxOf_lt_length_of_mem (e ▸ List.getElem_mem hi)
  have h3 := List.getElem_idxOf h2
  exact (List.getElem_inj nd).mp (h3.trans e.symm)
theorem at_idx {R : List Int} {p : Int} (h : p ∈ R) : R[R.idxOf p]? = some p := by
  have h2 := List.idxOf_lt_length_of_mem h
  rw [List.getElem?_eq_getElem h2, List.getElem_idxOf h2]
theorem idx_inj {R : List Int} {p q : Int} (hp : p ∈ R) (hq : q ∈ R) (e : R.idxOf p = R.idxOf q) : p = q := by
  have h1 := at_idx hp
  rw [e, at_idx hq] at h1
  exact (Option.some.inj h1).symm
section
variable {mu : Int → Int} {R : List Int} (I : Inv mu R)
include I
theorem stk_sorted : ∀ {i : Nat}, i ≤ R.length → (∀ x ∈ stkR mu R i, x ∈ R ∧ R.idxOf x < i) ∧ (stkR mu R i).Pairwise fun a b => R.idxOf b < R.idxOf a
  | 0, _ => by rw [stkR_zero]; exact ⟨fun x h => (List.not_mem_nil h).elim, .nil⟩
  | i + 1, h => by
    obtain ⟨h1, h2⟩ := stk_sorted (i := i) (by omega)
    have hq : R[i]? = some R[i] := List.getElem?_eq_getElem (by omega)
    have hqp := idx_at I.nd hq
    rw [stkR_succ hq]
    cases e : stkR mu R i with
    | nil =>
      refine ⟨fun x hx => ?_, List.pairwise_singleton _ _⟩
      have := List.mem_singleton.mp hx
      subst this
      exact ⟨List.getElem_mem _, by omega⟩
    | cons t r =>
      rw [e] at h1 h2
      unfold stepR
      dsimp only
      split
      · exact ⟨fun x hx => let ⟨a, b⟩ := h1 x (List.mem_cons_of_mem _ hx); ⟨a, by omega⟩, (List.pairwise_cons.mp h2).2⟩
      · refine ⟨fun x hx => ?_, List.pairwise_cons.mpr ⟨fun y hy => ?_, h2⟩⟩
        · rcases List.mem_cons.mp hx with rfl | hx
          · exact ⟨List.getElem_mem _, by omega⟩
          · obtain ⟨a, b⟩ := h1 x hx
            exact ⟨a, by omega⟩
        · have := (h1 y hy).2
          omega
theorem stk_open : ∀ {i : Nat}, i ≤ R.length → ∀ p ∈ R, R.idxOf p < i → i ≤ R.idxOf (mu p) → p ∈ stkR mu R i
  | 0, _, _, _, h, _ => by omega
  | i + 1, h, p, hp, h1, h2 => by
    have hq : R[i]? = some R[i] := List.getElem?_eq_getElem (by omega)
    have hqm : R[i] ∈ R := List.getElem_mem _
    have hqp := idx_at I.nd hq
    have hs := stk_sorted I (i := i) (by omega)
    rw [stkR_succ hq]
    by_cases e : R.idxOf p = i
    · have ep : p = R[i] := idx_inj hp hqm (by omega)
      cases es : stkR mu R i with
      | nil => rw [ep]; exact List.mem_singleton.mpr rfl
      | cons t r =>
        unfold stepR
        dsimp only
        split
        · rename_i ht
          have h3 := (hs.1 t (by rw [es]; exact List.mem_cons_self)).2
          rw [ht, ← ep] at h3
          omega
        · rw [ep]; exact List.mem_cons_self
    · have ih := stk_open (i := i) (by omega) p hp (by omega) (by omega)
      cases es : stkR mu R i with
      | nil => rw [es] at ih; exact (List.not_mem_nil ih).elim
      | cons t r =>
        rw [es] at ih
        unfold stepR
        dsimp only
        split
        · rename_i ht
          rcases List.mem_cons.mp ih with rfl | ih
          · rw [ht, I.inv _ hqm] at h2
            omega
          · exact ih
        · exact List.mem_cons_of_mem _ ih
theorem stk_stays {i : Nat} {p : Int} (hp : p ∈ R) (hm : R.idxOf (mu p) < i) (h : p ∈ stkR mu R i) : ∀ {j : Nat}, i ≤ j → j ≤ R.length → p ∈ stkR mu R j
  | 0, h1, _ => by
    have : i = 0 := by omega
    subst this; exact h
  | j + 1, h1, h2 => by
    by_cases e : i = j + 1
    · subst e; exact h
    · have ih := stk_stays hp hm h (j := j) (by omega) (by omega)
      have hq : R[j]? = some R[j] := List.getElem?_eq_getElem (by omega)
      have hqm : R[j] ∈ R := List.getElem_mem _
      have hqp := idx_at I.nd hq
      rw [stkR_succ hq]
      cases es : stkR mu R j with
      | nil => rw [es] at ih; exact (List.not_mem_nil ih).elim
      | cons t r =>
        rw [es] at ih
        unfold stepR
        dsimp only
        split
        · rename_i ht
          rcases List.mem_cons.mp ih with rfl | ih
          · rw [ht, I.inv _ hqm] at hm
            omega
          · exact ih
        · exact List.mem_cons_of_mem _ ih
def Crs (mu : Int → Int) (R : List Int) (a b : Int) : Prop := R.idxOf a < R.idxOf b ∧ R.idxOf b < R.idxOf (mu a) ∧ R.idxOf (mu a) < R.idxOf (mu b)
theorem stk_only (nc : ∀ a ∈ R, ∀ b ∈ R, ¬ Crs mu R a b) : ∀ {i : Nat}, i ≤ R.length → ∀ x ∈ stkR mu R i, i ≤ R.idxOf (mu x)
  | 0, _, _, _ => Nat.zero_le _
  | i + 1, h, x, hx => by
    have hq : R[i]? = some R[i] := List.getElem?_eq_getElem (by omega)
    have hqm : R[i] ∈ R := List.getElem_mem _
    have hqp := idx_at I.nd hq
    have hs := stk_sorted I (i := i) (by omega)
    have ih := stk_only nc (i := i) (by omega)
    have hmq := I.mem _ hqm
    -- what is there and is not the mate stays open
    have keep : ∀ y ∈ stkR mu R i, y ≠ mu R[i] → i + 1 ≤ R.idxOf (mu y) := fun y hy hne => by
      have h1 := ih y hy
      have h2 : R.idxOf (mu y) ≠ i := fun z => hne (by
        have : mu y = R[i] := idx_inj (I.mem _ (hs.1 y hy).1) hqm (by omega)
        rw [← this, I.inv _ (hs.1 y hy).1])
      omega
    rw [stkR_succ hq] at hx
    have push : (∀ t r, stkR mu R i = t :: r → t ≠ mu R[i]) → i + 1 ≤ R.idxOf (mu R[i]) ∧ ∀ y ∈ stkR mu R i, y ≠ mu R[i] := fun htop => by
      have h1 : i + 1 ≤ R.idxOf (mu R[i]) := by
        have hne : R.idxOf (mu R[i]) ≠ i := fun z => I.ne _ hqm (idx_inj hmq hqm (by omega))
        have hlt : ¬ R.idxOf (mu R[i]) < i := fun z => by
          have ho := stk_open I (i := i) (by omega) (mu R[i]) hmq z (by rw [I.inv _ hqm]; omega)
          cases es : stkR mu R i with
          | nil => rw [es] at ho; exact (List.not_mem_nil ho).elim
          | cons t r =>
            have ht := htop t r es
            rw [es] at ho hs
            rcases List.mem_cons.mp ho with e | ho
            · exact ht e.symm
            · have h2 := (List.pairwise_cons.mp hs.2).1 _ ho
              have ht1 := hs.1 t List.mem_cons_self
              have h3 := keep t (by rw [es]; exact List.mem_cons_self) ht
              refine nc (mu R[i]) hmq t ht1.1 ⟨h2, ?_, ?_⟩
              · rw [I.inv _ hqm, hqp]; exact ht1.2
              · rw [I.inv _ hqm, hqp]; omega
        omega
      exact ⟨h1, fun y hy e => by
        have := (hs.1 y hy).2
        rw [e] at this
        omega⟩
    cases es : stkR mu R i with
    | nil =>
      rw [es] at hx
      have := List.mem_singleton.mp hx
      subst this
      exact (push fun t r e => by rw [es] at e; cases e).1
    | cons t r =>
      rw [es] at hx
      unfold stepR at hx
      dsimp only at hx
      split at hx
      · rename_i ht
        refine keep x (by rw [es]; exact List.mem_cons_of_mem _ hx) fun e => ?_
        rw [es] at hs
        have := (List.pairwise_cons.mp hs.2).1 _ hx
        rw [e, ht] at this
        omega
      · rename_i ht
        obtain ⟨p1, p2⟩ := push fun t' r' e => by rw [es] at e; cases e; exact ht
        rcases List.mem_cons.mp hx with rfl | hx
        · exact p1
        · exact keep x (by rw [es]; exact hx) (p2 x (by rw [es]; exact hx))
theorem pile_empty : stkR mu R R.length = [] ↔ ∀ a ∈ R, ∀ b ∈ R, ¬ Crs mu R a b := by
  constructor
  · intro e a ha b hb ⟨h1, h2, h3⟩
    have hma := I.mem _ ha
    have hc := List.idxOf_lt_length_of_mem hma
    have h4 := stk_open I (i := R.idxOf (mu a)) (by omega) a ha (by omega) (Nat.le_refl _)
    have h5 := stk_open I (i := R.idxOf (mu a)) (by omega) b hb h2 (by omega)
    have hs := stk_sorted I (i := R.idxOf (mu a)) (by omega)
    have h6 : a ∈ stkR mu R (R.idxOf (mu a) + 1) := by
      rw [stkR_succ (at_idx hma)]
      cases es : stkR mu R (R.idxOf (mu a)) with
      | nil => rw [es] at h4; exact (List.not_mem_nil h4).elim
      | cons t r =>
        rw [es] at h4 h5 hs
        unfold stepR
        dsimp only
        split
        · rename_i ht
          rw [I.inv _ ha] at ht
          subst ht
          rcases List.mem_cons.mp h5 with rfl | h5
          · omega
          · have := (List.pairwise_cons.mp hs.2).1 _ h5
            omega
        · exact List.mem_cons_of_mem _ h4
    have h7 := stk_stays I ha (by omega) h6 (j := R.length) (by omega) (Nat.le_refl _)
    rw [e] at h7
    exact List.not_mem_nil h7
  · intro nc
    cases es : stkR mu R R.length with
    | nil => rfl
    | cons t r =>
      have ht : t ∈ stkR mu R R.length := by rw [es]; exact List.mem_cons_self
      have h1 := stk_only I nc (Nat.le_refl _) t ht
      have h2 := List.idxOf_lt_length_of_mem (I.mem _ ((stk_sorted I (Nat.le_refl _)).1 t ht).1)
      omega
theorem crs_of {p q : Int} (hp : p ∈ R) (hq : q ∈ R) {l r s g : Nat} (e1 : l = min (R.idxOf p) (R.idxOf (mu p))) (e2 : r = max (R.idxOf p) (R.idxOf (mu p))) (e3 : s = min (R.idxOf q) (R.idxOf (mu q))) (e4 : g = max (R.idxOf q) (R.idxOf (mu q)))
    (h : (l < s ∧ s < r) ∧ ¬ (l < g ∧ g < r) ∨ ¬ (l < s ∧ s < r) ∧ (l < g ∧ g < r)) : ∃ a ∈ R, ∃ b ∈ R, Crs mu R a b := by
  -- the lesser end
  have low : ∀ {p : Int}, p ∈ R → ∃ a ∈ R, R.idxOf a = min (R.idxOf p) (R.idxOf (mu p)) ∧ R.idxOf (mu a) = max (R.idxOf p) (R.idxOf (mu p)) := fun {p} hp => by
    by_cases c : R.idxOf p ≤ R.idxOf (mu p)
    · exact ⟨p, hp, by omega, by omega⟩
    · exact ⟨mu p, I.mem _ hp, by omega, by rw [I.inv _ hp]; omega⟩
  obtain ⟨a, ha, a1, a2⟩ := low hp
  obtain ⟨b, hb, b1, b2⟩ := low hq
  have na : R.idxOf a ≠ R.idxOf (mu a) := fun z => I.ne _ ha (idx_inj (I.mem _ ha) ha z.symm)
  have nb : R.idxOf b ≠ R.idxOf (mu b) := fun z => I.ne _ hb (idx_inj (I.mem _ hb) hb z.symm)
  have inj1 : R.idxOf (mu a) = R.idxOf (mu b) → R.idxOf a = R.idxOf b := fun z => by
    have := idx_inj (I.mem _ ha) (I.mem _ hb) z
    rw [← I.inv _ ha, this, I.inv _ hb]
  have inj2 : R.idxOf a = R.idxOf b → R.idxOf (mu a) = R.idxOf (mu b) := fun z => by rw [idx_inj ha hb z]
  rcases h with h | h
  · exact ⟨a, ha, b, hb, by omega, by omega, by omega⟩
  · exact ⟨b, hb, a, ha, by omega, by omega, by omega⟩
end
end MM
namespace MM
open PySem PP L2
def ringI (n m : Int) : List Int := ((List.range (n - 0).toNat).map fun i => 0 + ((i : Nat) : Int)) ++ (List.range (n + m - 1 - (n - 1)).toNat).map fun i => n + m - 1 + ((i : Nat) : Int) * -1
theorem ringI_data {n m : Int} : rgD 0 n ++ rgD3 (n + m - 1) (-1) (n + m - 1 - (n - 1)).toNat = (ringI n m).map .int := by
  unfold ringI rgD rgD3
  rw [List.map_append, List.map_map, List.map_map]
  rfl
theorem ringI_mem {n m x : Int} (hn : 0 ≤ n) (hm : 0 ≤ m) : x ∈ ringI n m ↔ 0 ≤ x ∧ x < n + m := by
  unfold ringI
  rw [List.mem_append, List.mem_map, List.mem_map]
  constructor
  · rintro (⟨i, hi, rfl⟩ | ⟨i, hi, rfl⟩)
    · have := List.mem_range.mp hi
      omega
    · have := List.mem_range.mp hi
      omega
  · rintro ⟨h1, h2⟩
    by_cases c : x < n
    · exact .inl ⟨x.toNat, List.mem_range.mpr (by omega), by omega⟩
    · exact .inr ⟨(n + m - 1 - x).toNat, List.mem_range.mpr (by omega), by omega⟩
theorem ringI_len {n m : Int} (hn : 0 ≤ n) (hm : 0 ≤ m) : ((ringI n m).length : Int) = n + m := by
  unfold ringI
  rw [List.length_append, List.length_map, List.length_map, List.length_range, List.length_range]
  omega
theorem nodup_map_inj {α β : Type} {f : α → β} {xs : List α} (h : xs.Nodup) (inj : ∀ x ∈ xs, ∀ y ∈ xs, f x = f y → x = y) : (xs.map f).Nodup := by
  induction xs with
  | nil => exact .nil
  | cons x xs ih =>
    rw [List.nodup_cons] at h
    rw [List.map_cons, List.nodup_cons]
    refine ⟨fun z => ?_, ih h.2 fun a ha b hb => inj a (List.mem_cons_of_mem _ ha) b (List.mem_cons_of_mem _ hb)⟩
    obtain ⟨y, hy, e⟩ := List.mem_map.mp z
    exact h.1 (inj y (List.mem_cons_of_mem _ hy) x List.mem_cons_self e ▸ hy)
theorem ringI_nodup {n m : Int} (hn : 0 ≤ n) (hm : 0 ≤ m) : (ringI n m).Nodup := by
  unfold ringI
  refine List.nodup_append.mpr ⟨nodup_map_inj List.nodup_range fun x _ y _ h => by omega, nodup_map_inj List.nodup_range fun x _ y _ h => by omega, fun a ha b hb e => ?_⟩
  obtain ⟨i, hi, rfl⟩ := List.mem_map.mp ha
  obtain ⟨j, hj, e2⟩ := List.mem_map.mp hb
  have := List.mem_range.mp hi
  have := List.mem_range.mp hj
  omega
def mu (ns : List Int) (p : Int) : Int := ns.getD p.toNat 0
def matesAt (ns : List Int) (i : Nat) : Bool := (decide (0 ≤ ns.getD i 0) && decide (ns.getD i 0 < (ns.length : Int))) && (!decide (ns.getD i 0 = (i : Int)) && decide (ns.getD (ns.getD i 0).toNat 0 = (i : Int)))
def matesOk (ns : List Int) : Bool := ((List.range ns.length).map (matesAt ns)).all id
theorem matesOk_iff {ns : List Int} : matesOk ns = true ↔ ∀ i < ns.length, matesAt ns i = true := by
  unfold matesOk
  rw [List.all_eq_true]
  constructor
  · intro h i hi
    exact h _ (List.mem_map.mpr ⟨i, List.mem_range.mpr hi, rfl⟩)
  · intro h x hx
    obtain ⟨i, hi, rfl⟩ := List.mem_map.mp hx
    exact h i (List.mem_range.mp hi)
theorem matesAt_iff {ns : List Int} {i : Nat} : matesAt ns i = true ↔ 0 ≤ ns.getD i 0 ∧ ns.getD i 0 < (ns.length : Int) ∧ ns.getD i 0 ≠ (i : Int) ∧ ns.getD (ns.getD i 0).toNat 0 = (i : Int) := by
  unfold matesAt
  simp only [Bool.and_eq_true, decide_eq_true_eq, Bool.not_eq_true', decide_eq_false_iff_not, and_assoc, ne_eq]
theorem inv_of {ns : List Int} {n m : Int} (hn : 0 ≤ n) (hm : 0 ≤ m) (hl : (ns.length : Int) = n + m) (h : ∀ i < ns.length, matesAt ns i = true) : Inv (mu ns) (ringI n m) := by
  have key : ∀ p ∈ ringI n m, mu ns p ∈ ringI n m ∧ mu ns p ≠ p ∧ mu ns (mu ns p) = p := fun p hp => by
    have hp := (ringI_mem hn hm).mp hp
    obtain ⟨a, b, c, d⟩ := matesAt_iff.mp (h p.toNat (by omega))
    refine ⟨(ringI_mem hn hm).mpr ⟨a, by show ns.getD p.toNat 0 < _; omega⟩, fun e => c (by rw [show ns.getD p.toNat 0 = p from e]; omega), ?_⟩
    show ns.getD (ns.getD p.toNat 0).toNat 0 = p
    rw [d]; omega
  exact ⟨ringI_nodup hn hm, fun p hp => (key p hp).1, fun p hp => (key p hp).2.1, fun p hp => (key p hp).2.2⟩
def isMatB (u d : Int) (ns : List Int) : Bool := !(decide (u < 0) || (decide (d < 0) || (decide (u + d = 0) || !decide ((ns.length : Int) = u + d)))) && (matesOk ns && (stkR (mu ns) (ringI u d) (ringI u d).length).isEmpty)
def loI (ns : List Int) (R : List Int) (i : Nat) : Nat := min (R.idxOf (R.getD i 0)) (R.idxOf (mu ns (R.getD i 0)))
def hiI (ns : List Int) (R : List Int) (i : Nat) : Nat := max (R.idxOf (R.getD i 0)) (R.idxOf (mu ns (R.getD i 0)))
def BadI (ns : List Int) (R : List Int) (i j : Nat) : Prop := (loI ns R i < loI ns R j ∧ loI ns R j < hiI ns R i) ∧ ¬ (loI ns R i < hiI ns R j ∧ hiI ns R j < hiI ns R i) ∨ ¬ (loI ns R i < loI ns R j ∧ loI ns R j < hiI ns R i) ∧ (loI ns R i < hiI ns R j ∧ hiI ns R j < hiI ns R i)
theorem getD_idx {R : List Int} {p : Int} (h : p ∈ R) : R.getD (R.idxOf p) 0 = p := by
  rw [List.getD_eq_getElem?_getD, at_idx h, Option.getD_some]
theorem bad_iff {ns R : List Int} (I : Inv (mu ns) R) : (∀ i < R.length, ∀ j < R.length, ¬ BadI ns R i j) ↔ ∀ a ∈ R, ∀ b ∈ R, ¬ Crs (mu ns) R a b := by
  constructor
  · intro h a ha b hb ⟨h1, h2, h3⟩
    refine h _ (List.idxOf_lt_length_of_mem ha) _ (List.idxOf_lt_length_of_mem hb) (.inl ?_)
    unfold loI hiI
    rw [getD_idx ha, getD_idx hb]
    omega
  · intro h i hi j hj hb
    obtain ⟨a, ha, b, hb, c⟩ := crs_of I (mem_getD hi (d := 0)) (mem_getD hj (d := 0)) rfl rfl rfl rfl hb
    exact h a ha b hb c
theorem isMat_good {u d : Int} {ns : List Int} (hu : 0 ≤ u) (hd : 0 ≤ d) (h0 : 0 < u + d) (hl : (ns.length : Int) = u + d) (hok : ∀ i < ns.length, matesAt ns i = true) (h : ∀ i < (ringI u d).length, ∀ j < (ringI u d).length, ¬ BadI ns (ringI u d) i j) : isMatB u d ns = true := by
  have I := inv_of hu hd hl hok
  have e := (pile_empty I).mpr ((bad_iff I).mp h)
  unfold isMatB
  rw [e, matesOk_iff.mpr hok, show decide (u < 0) = false by simpa using hu, show decide (d < 0) = false by simpa using hd, show decide (u + d = 0) = false by simp; omega, show decide ((ns.length : Int) = u + d) = true by simpa using hl]
  rfl
theorem atI_top {S : List Int} (h : S ≠ []) : atI (S.reverse.map PyData.int) (-1) = some (.int (S.headD 0)) := by
  cases S with
  | nil => exact absurd rfl h
  | cons t r => rw [List.reverse_cons, List.map_append]; exact L2.atI_last _ _
theorem top_get {t : Int} {r : List Int} : ((t :: r).reverse.map PyData.int)[((t :: r).reverse.map PyData.int).length - 1]? = some (.int t) := by
  rw [List.reverse_cons, List.map_append]
  simp
theorem top_drop {t : Int} {r : List Int} : ((t :: r).reverse.map PyData.int).dropLast = r.reverse.map PyData.int := by
  rw [List.reverse_cons, List.map_append, List.map_cons, List.map_nil, List.dropLast_concat]
theorem rev_empty {S : List Int} : (S.reverse.map PyData.int).isEmpty = S.isEmpty := by
  cases S with
  | nil => rfl
  | cons t r => simp
def spRound : FSp := fun pvs m q => ∃ u d : Int, pvs = [.d (.int u), .d (.int d)] ∧ m = [] ∧ 0 ≤ u ∧ u ≤ 100000 ∧ 0 ≤ d ∧ d ≤ 100000 ∧ q (.ref 0) [some (.lst ((ringI u d).map .int))]
def spAre : FSp := fun pvs m q => ∃ ns : List Int, pvs = [.d (.tuple (ns.map .int))] ∧ m = [] ∧ ns.length ≤ 200000 ∧ q (.d (.bool (matesOk ns))) []
def spNone : FSp := fun pvs m q => ∃ (u d : Int) (ns : List Int), pvs = [.d (.int u), .d (.int d), .d (.tuple (ns.map .int))] ∧ m = [] ∧ 0 ≤ u ∧ u ≤ 100000 ∧ 0 ≤ d ∧ d ≤ 100000 ∧ (ns.length : Int) = u + d ∧ q (.d (.bool (stkR (mu ns) (ringI u d) (ringI u d).length).isEmpty)) []
def spIsMat : FSp := fun pvs m q => ∃ (u d : Int) (ns : List Int), pvs = [.d (.tuple [.int u, .int d, .tuple (ns.map .int)])] ∧ m = [] ∧ u ≤ 100000 ∧ d ≤ 100000 ∧ ns.length ≤ 200000 ∧ q (.d (.bool (isMatB u d ns))) []
end MM
namespace MM
open PySem PP L2
def ends (prs : List (Int × Int)) : List Int := prs.flatMap fun p => [p.1, p.2]
theorem mem_ends {prs : List (Int × Int)} {x : Int} : x ∈ ends prs ↔ ∃ p ∈ prs, x = p.1 ∨ x = p.2 := by
  unfold ends
  rw [List.mem_flatMap]
  simp
def Btw (x l h : Nat) : Prop := l < x ∧ x < h
def SepP (a b c d : Nat) : Prop := ¬ (Btw c (min a b) (max a b) ↔ Btw d (min a b) (max a b))
def Sep (R : List Int) (p q : Int × Int) : Prop := SepP (R.idxOf p.1) (R.idxOf p.2) (R.idxOf q.1) (R.idxOf q.2)
structure Match (R : List Int) (prs : List (Int × Int)) : Prop where
  nd : (ends prs).Nodup
  mem : ∀ x, x ∈ ends prs ↔ x ∈ R
  nc : ∀ p ∈ prs, ∀ q ∈ prs, ¬ Sep R p q
theorem sep_self {a b : Nat} : ¬ SepP a b a b := by
  unfold SepP Btw
  omega
theorem sep_rev {a b c d N : Nat} (la : a < N) (lb : b < N) (lc : c < N) (ld : d < N) (h : ¬ SepP a b c d) : ¬ SepP (N - 1 - a) (N - 1 - b) (N - 1 - c) (N - 1 - d) := by
  unfold SepP Btw at *
  omega
theorem ends_apart {prs : List (Int × Int)} (nd : (ends prs).Nodup) {p q : Int × Int} (hp : p ∈ prs) (hq : q ∈ prs) : p = q ∨ (q.1 ≠ p.1 ∧ q.1 ≠ p.2 ∧ q.2 ≠ p.1 ∧ q.2 ≠ p.2) := by
  induction prs with
  | nil => cases hp
  | cons r prs ih =>
    have nd' : (r.1 :: r.2 :: ends prs).Nodup := nd
    rw [List.nodup_cons, List.nodup_cons] at nd'
    obtain ⟨n1, n2, n3⟩ := nd'
    have far : ∀ q ∈ prs, (q.1 ≠ r.1 ∧ q.1 ≠ r.2 ∧ q.2 ≠ r.1 ∧ q.2 ≠ r.2) := fun q hq => by
      have e1 : q.1 ∈ ends prs := mem_ends.mpr ⟨q, hq, .inl rfl⟩
      have e2 : q.2 ∈ ends prs := mem_ends.mpr ⟨q, hq, .inr rfl⟩
      refine ⟨fun z => n1 ?_, fun z => n2 ?_, fun z => n1 ?_, fun z => n2 ?_⟩
      · rw [← z]; exact List.mem_cons_of_mem _ e1
      · rw [← z]; exact e1
      · rw [← z]; exact List.mem_cons_of_mem _ e2
      · rw [← z]; exact e2
    rcases List.mem_cons.mp hp with hp2 | hp2
    · rcases List.mem_cons.mp hq with hq2 | hq2
      · exact .inl (hp2.trans hq2.symm)
      · rw [hp2]; exact .inr (far q hq2)
    · rcases List.mem_cons.mp hq with hq2 | hq2
      · obtain ⟨a, b, c, d⟩ := far p hp2
        rw [hq2]
        exact .inr ⟨fun z => a z.symm, fun z => c z.symm, fun z => b z.symm, fun z => d z.symm⟩
      · exact ih n3 hp2 hq2
theorem idx_app {l r : List Int} {x : Int} : (l ++ r).idxOf x = if x ∈ l then l.idxOf x else l.length + r.idxOf x := by
  rw [List.idxOf_append]
  split <;> omega
theorem Match.lt {R : List Int} {prs : List (Int × Int)} (M : Match R prs) {p : Int × Int} (hp : p ∈ prs) : R.idxOf p.1 < R.length ∧ R.idxOf p.2 < R.length :=
  ⟨List.idxOf_lt_length_of_mem ((M.mem _).mp (mem_ends.mpr ⟨p, hp, .inl rfl⟩)), List.idxOf_lt_length_of_mem ((M.mem _).mp (mem_ends.mpr ⟨p, hp, .inr rfl⟩))⟩
theorem Match.in {R : List Int} {prs : List (Int × Int)} (M : Match R prs) {p : Int × Int} (hp : p ∈ prs) : p.1 ∈ R ∧ p.2 ∈ R :=
  ⟨(M.mem _).mp (mem_ends.mpr ⟨p, hp, .inl rfl⟩), (M.mem _).mp (mem_ends.mpr ⟨p, hp, .inr rfl⟩)⟩
theorem Match.put {l r : List Int} {a b : Int} {prs : List (Int × Int)} (nd : (l ++ a :: b :: r).Nodup) (M : Match (l ++ r) prs) : Match (l ++ a :: b :: r) ((a, b) :: prs) := by
  have nd0 := nd
  rw [List.nodup_append] at nd
  obtain ⟨nl, nr, far⟩ := nd
  rw [List.nodup_cons, List.nodup_cons] at nr
  obtain ⟨na, nb, nr⟩ := nr
  have al : a ∉ l := fun z => far a z a List.mem_cons_self rfl
  have bl : b ∉ l := fun z => far b z b (List.mem_cons_of_mem _ List.mem_cons_self) rfl
  have ar : a ∉ r := fun z => na (List.mem_cons_of_mem _ z)
  have ab : a ≠ b := fun z => na (z ▸ List.mem_cons_self)
  have pa : (l ++ a :: b :: r).idxOf a = l.length := by rw [idx_app, if_neg al, List.idxOf_cons_self]; rfl
  have pb : (l ++ a :: b :: r).idxOf b = l.length + 1 := by
    rw [idx_app, if_neg bl, List.idxOf_cons, show (a == b) = false by simpa using ab]
    simp only [cond_false]
    rw [List.idxOf_cons_self]
  have px : ∀ x ∈ l ++ r, (l ++ a :: b :: r).idxOf x = if (l ++ r).idxOf x < l.length then (l ++ r).idxOf x else (l ++ r).idxOf x + 2 := fun x hx => by
    rw [idx_app, idx_app]
    by_cases c : x ∈ l
    · have := List.idxOf_lt_length_of_mem c
      rw [if_pos c, if_pos c, if_pos this]
    · have hxr : x ∈ r := (List.mem_append.mp hx).elim (fun z => absurd z c) id
      have xa : a ≠ x := fun z => ar (z ▸ hxr)
      have xb : b ≠ x := fun z => nb (z ▸ hxr)
      rw [if_neg c, if_neg c, if_neg (by omega), List.idxOf_cons, show (a == x) = false by simpa using xa, List.idxOf_cons, show (b == x) = false by simpa using xb]
      simp only [cond_false]
      omega
  refine ⟨?_, fun x => ?_, fun p hp q hq => ?_⟩
  · show (a :: b :: ends prs).Nodup
    rw [List.nodup_cons, List.nodup_cons]
    refine ⟨fun z => ?_, fun z => ?_, M.nd⟩
    · rcases List.mem_cons.mp z with z | z
      · exact ab z
      · exact ((List.mem_append.mp ((M.mem _).mp z)).elim al ar)
    · exact ((List.mem_append.mp ((M.mem _).mp z)).elim bl nb)
  · show x ∈ a :: b :: ends prs ↔ _
    rw [List.mem_cons, List.mem_cons, M.mem, List.mem_append, List.mem_append, List.mem_cons, List.mem_cons]
    constructor
    · rintro (h | h | h | h)
      · exact .inr (.inl h)
      · exact .inr (.inr (.inl h))
      · exact .inl h
      · exact .inr (.inr (.inr h))
    · rintro (h | h | h | h)
      · exact .inr (.inr (.inl h))
      · exact .inl h
      · exact .inr (.inl h)
      · exact .inr (.inr (.inr h))
  · unfold Sep
    rcases List.mem_cons.mp hp with rfl | hp
    · rw [pa, pb]
      unfold SepP Btw
      omega
    · obtain ⟨h1, h2⟩ := M.in hp
      have e1 := px _ h1
      have e2 := px _ h2
      rcases List.mem_cons.mp hq with rfl | hq
      · rw [pa, pb]
        unfold SepP Btw
        split at e1 <;> split at e2 <;> omega
      · obtain ⟨h3, h4⟩ := M.in hq
        have e3 := px _ h3
        have e4 := px _ h4
        have hs := M.nc p hp q hq
        unfold Sep SepP Btw at hs
        unfold SepP Btw
        split at e1 <;> split at e2 <;> split at e3 <;> split at e4 <;> omega
theorem idx_rev {R : List Int} (nd : R.Nodup) {e : Int} (he : e ∈ R) : R.reverse.idxOf e = R.length - 1 - R.idxOf e := by
  have hl := List.idxOf_lt_length_of_mem he
  refine idx_at (List.pairwise_reverse.mpr (List.Pairwise.imp (fun h => Ne.symm h) nd)) ?_
  rw [List.getElem?_reverse (by omega), show R.length - 1 - (R.length - 1 - R.idxOf e) = R.idxOf e by omega]
  exact at_idx he
theorem Match.rev {R : List Int} {prs : List (Int × Int)} (nd : R.Nodup) (M : Match R prs) : Match R.reverse prs := by
  refine ⟨M.nd, fun e => by rw [M.mem, List.mem_reverse], fun p hp q hq => ?_⟩
  obtain ⟨h1, h2⟩ := M.in hp
  obtain ⟨h3, h4⟩ := M.in hq
  obtain ⟨l1, l2⟩ := M.lt hp
  obtain ⟨l3, l4⟩ := M.lt hq
  unfold Sep
  rw [idx_rev nd h1, idx_rev nd h2, idx_rev nd h3, idx_rev nd h4]
  exact sep_rev l1 l2 l3 l4 (M.nc p hp q hq)
theorem idx_map {f : Int → Int} : ∀ {R : List Int} {x : Int}, (∀ a ∈ R, ∀ b ∈ R, f a = f b → a = b) → x ∈ R → (R.map f).idxOf (f x) = R.idxOf x
  | [], _, _, h => by cases h
  | r :: R, x, inj, h => by
    rw [List.map_cons, List.idxOf_cons, List.idxOf_cons]
    by_cases e : r = x
    · subst e; simp
    · have hx : x ∈ R := (List.mem_cons.mp h).elim (fun z => absurd z.symm e) id
      have e2 : f r ≠ f x := fun z => e (inj r List.mem_cons_self x h z)
      rw [show (r == x) = false by simpa using e, show (f r == f x) = false by simpa using e2]
      simp only [cond_false]
      rw [idx_map (fun a ha b hb => inj a (List.mem_cons_of_mem _ ha) b (List.mem_cons_of_mem _ hb)) hx]
theorem Match.map {R : List Int} {prs : List (Int × Int)} {f : Int → Int} (inj : ∀ a ∈ R, ∀ b ∈ R, f a = f b → a = b) (M : Match R prs) : Match (R.map f) (prs.map fun p => (f p.1, f p.2)) := by
  have ee : ends (prs.map fun p => (f p.1, f p.2)) = (ends prs).map f := by
    unfold ends
    rw [List.flatMap_map, List.map_flatMap]
    rfl
  refine ⟨?_, fun x => ?_, fun p hp q hq => ?_⟩
  · rw [ee]
    exact nodup_map_inj M.nd fun a ha b hb => inj a ((M.mem _).mp ha) b ((M.mem _).mp hb)
  · rw [ee, List.mem_map, List.mem_map]
    constructor
    · rintro ⟨a, ha, rfl⟩; exact ⟨a, (M.mem _).mp ha, rfl⟩
    · rintro ⟨a, ha, rfl⟩; exact ⟨a, (M.mem _).mpr ha, rfl⟩
  · obtain ⟨p0, hp0, rfl⟩ := List.mem_map.mp hp
    obtain ⟨q0, hq0, rfl⟩ := List.mem_map.mp hq
    obtain ⟨h1, h2⟩ := M.in hp0
    obtain ⟨h3, h4⟩ := M.in hq0
    unfold Sep
    rw [idx_map inj h1, idx_map inj h2, idx_map inj h3, idx_map inj h4]
    exact M.nc p0 hp0 q0 hq0
def Row (prs : List (Int × Int)) (ns : List Int) : Prop := ∀ p ∈ prs, mu ns p.1 = p.2 ∧ mu ns p.2 = p.1
theorem match_isMat {u d : Int} {ns : List Int} {prs : List (Int × Int)} (hu : 0 ≤ u) (hd : 0 ≤ d) (h0 : 0 < u + d) (hl : (ns.length : Int) = u + d) (M : Match (ringI u d) prs) (W : Row prs ns) : isMatB u d ns = true := by
  have key : ∀ x ∈ ringI u d, ∃ p ∈ prs, (x = p.1 ∧ mu ns x = p.2) ∨ (x = p.2 ∧ mu ns x = p.1) := fun x hx => by
    obtain ⟨p, hp, e⟩ := mem_ends.mp ((M.mem x).mpr hx)
    obtain ⟨w1, w2⟩ := W p hp
    rcases e with rfl | rfl
    · exact ⟨p, hp, .inl ⟨rfl, w1⟩⟩
    · exact ⟨p, hp, .inr ⟨rfl, w2⟩⟩
  have ne : ∀ p ∈ prs, p.1 ≠ p.2 := fun p hp z => by
    have : ∀ (prs : List (Int × Int)), (ends prs).Nodup → p ∈ prs → p.1 ≠ p.2 := by
      intro prs
      induction prs with
      | nil => intro _ h; cases h
      | cons r prs ih =>
        intro nd h
        have nd' : (r.1 :: r.2 :: ends prs).Nodup := nd
        rw [List.nodup_cons, List.nodup_cons] at nd'
        rcases List.mem_cons.mp h with rfl | h
        · exact fun z => nd'.1 (z ▸ List.mem_cons_self)
        · exact ih nd'.2.2 h
    exact this prs M.nd hp z
  have hok : ∀ i < ns.length, matesAt ns i = true := fun i hi => by
    have hm : ((i : Nat) : Int) ∈ ringI u d := (ringI_mem hu hd).mpr ⟨by omega, by omega⟩
    obtain ⟨p, hp, e⟩ := key _ hm
    obtain ⟨w1, w2⟩ := W p hp
    obtain ⟨r1, r2⟩ := M.in hp
    have r1 := (ringI_mem hu hd).mp r1
    have r2 := (ringI_mem hu hd).mp r2
    have hn := ne p hp
    have ei : mu ns (i : Int) = ns.getD i 0 := by unfold mu; rw [Int.toNat_natCast]
    refine matesAt_iff.mpr ?_
    rcases e with ⟨e1, e2⟩ | ⟨e1, e2⟩
    · rw [← ei, e2]
      exact ⟨r2.1, by omega, fun z => hn (by rw [← e1]; exact z.symm), by show mu ns p.2 = _; rw [w2, ← e1]⟩
    · rw [← ei, e2]
      exact ⟨r1.1, by omega, fun z => hn (by rw [← e1]; exact z), by show mu ns p.1 = _; rw [w1, ← e1]⟩
  have I := inv_of hu hd hl hok
  refine isMat_good hu hd h0 hl hok ((bad_iff I).mpr fun a ha b hb ⟨c1, c2, c3⟩ => ?_)
  obtain ⟨p, hp, ep⟩ := key a ha
  obtain ⟨q, hq, eq⟩ := key b hb
  have hs := M.nc p hp q hq
  unfold Sep SepP Btw at hs
  rcases ep with ⟨e1, e2⟩ | ⟨e1, e2⟩ <;> rcases eq with ⟨e3, e4⟩ | ⟨e3, e4⟩ <;> rw [e2] at c2 c3 <;> rw [e4] at c3 <;> rw [e1] at c1 <;> rw [e3] at c1 c2 <;> omega
end MM
namespace MM
open PySem PP L2
theorem match_nil : Match [] [] := ⟨.nil, fun x => Iff.rfl, fun p hp => by cases hp⟩
theorem row_unique {u d : Int} {ns ks : List Int} {prs : List (Int × Int)} (hu : 0 ≤ u) (hd : 0 ≤ d) (hl : (ns.length : Int) = u + d) (hk : (ks.length : Int) = u + d) (M : Match (ringI u d) prs) (W : Row prs ns) (V : Row prs ks) : ns = ks := by
  refine List.ext_getElem (by omega) fun i h1 h2 => ?_
  have hm : ((i : Nat) : Int) ∈ ringI u d := (ringI_mem hu hd).mpr ⟨by omega, by omega⟩
  obtain ⟨p, hp, e⟩ := mem_ends.mp ((M.mem _).mpr hm)
  have e1 : mu ns (i : Int) = ns[i] := by unfold mu; rw [Int.toNat_natCast, List.getD_eq_getElem?_getD, List.getElem?_eq_getElem h1, Option.getD_some]
  have e2 : mu ks (i : Int) = ks[i] := by unfold mu; rw [Int.toNat_natCast, List.getD_eq_getElem?_getD, List.getElem?_eq_getElem h2, Option.getD_some]
  rw [← e1, ← e2]
  rcases e with e | e <;> rw [e]
  · rw [(W p hp).1, (V p hp).1]
  · rw [(W p hp).2, (V p hp).2]
theorem row_put {ns : List Int} {prs : List (Int × Int)} {a b : Int} (ha0 : 0 ≤ a) (ha : a < ns.length) (hb0 : 0 ≤ b) (hb : b < ns.length) (hab : a ≠ b) (hn : ∀ p ∈ prs, 0 ≤ p.1 ∧ 0 ≤ p.2 ∧ p.1 ≠ a ∧ p.1 ≠ b ∧ p.2 ≠ a ∧ p.2 ≠ b) (W : Row prs ns) : Row (prs ++ [(a, b)]) ((ns.set a.toNat b).set b.toNat a) := by
  have at_ : ∀ {x : Int}, 0 ≤ x → x ≠ a → x ≠ b → mu ((ns.set a.toNat b).set b.toNat a) x = mu ns x := fun {x} h0 h1 h2 => by
    unfold mu
    rw [List.getD_eq_getElem?_getD, List.getD_eq_getElem?_getD, List.getElem?_set_ne (by omega), List.getElem?_set_ne (by omega)]
  intro p hp
  rcases List.mem_append.mp hp with hp | hp
  · obtain ⟨n0, n1, n2, n3, n4, n5⟩ := hn p hp
    rw [at_ n0 n2 n3, at_ n1 n4 n5]
    exact W p hp
  · have := List.mem_singleton.mp hp
    subst this
    constructor
    · show mu _ a = b
      unfold mu
      rw [List.getD_eq_getElem?_getD, List.getElem?_set_ne (by omega), List.getElem?_set_self (by omega), Option.getD_some]
    · show mu _ b = a
      unfold mu
      rw [List.getD_eq_getElem?_getD, List.getElem?_set_self (by rw [List.length_set]; omega), Option.getD_some]
end MM
namespace MM
open PySem PP L2
theorem take_apart {prs : List (Int × Int)} {i : Nat} {p : Int × Int} (nd : (ends prs).Nodup) (hp : prs[i]? = some p) : p.1 ≠ p.2 ∧ ∀ q ∈ prs.take i, q.1 ≠ p.1 ∧ q.1 ≠ p.2 ∧ q.2 ≠ p.1 ∧ q.2 ≠ p.2 := by
  obtain ⟨hi, e⟩ := List.getElem?_eq_some_iff.mp hp
  have e1 : prs = prs.take i ++ p :: prs.drop (i + 1) := by
    conv => lhs; rw [← List.take_append_drop i prs, List.drop_eq_getElem_cons hi, e]
  have e2 : ends prs = ends (prs.take i) ++ (p.1 :: p.2 :: ends (prs.drop (i + 1))) := by
    conv => lhs; rw [e1]
    unfold ends
    rw [List.flatMap_append]
    rfl
  rw [e2, List.nodup_append] at nd
  obtain ⟨_, n2, n3⟩ := nd
  rw [List.nodup_cons] at n2
  refine ⟨fun z => n2.1 (z ▸ List.mem_cons_self), fun q hq => ?_⟩
  have q1 : q.1 ∈ ends (prs.take i) := mem_ends.mpr ⟨q, hq, .inl rfl⟩
  have q2 : q.2 ∈ ends (prs.take i) := mem_ends.mpr ⟨q, hq, .inr rfl⟩
  exact ⟨n3 _ q1 _ List.mem_cons_self, n3 _ q1 _ (List.mem_cons_of_mem _ List.mem_cons_self), n3 _ q2 _ List.mem_cons_self, n3 _ q2 _ (List.mem_cons_of_mem _ List.mem_cons_self)⟩
theorem map_get {α : Type} {f : α → PyData} {prs : List α} {i : Nat} {x : PyData} (h : (prs.map f)[i]? = some x) : ∃ p, prs[i]? = some p ∧ x = f p := by
  rw [List.getElem?_map] at h
  cases e : prs[i]? with
  | none => rw [e] at h; cases h
  | some v => rw [e] at h; exact ⟨v, rfl, (Option.some.inj h).symm⟩
theorem row_nil {ns : List Int} : Row [] ns := fun p hp => by cases hp
theorem row_next {ns : List Int} {prs : List (Int × Int)} {u d : Int} {i : Nat} {p : Int × Int} (hl : (ns.length : Int) = u + d) (nd : (ends prs).Nodup) (hin : ∀ x ∈ ends prs, 0 ≤ x ∧ x < u + d) (hp : prs[i]? = some p) (W : Row (prs.take i) ns) : Row (prs.take (i + 1)) ((ns.set p.1.toNat p.2).set p.2.toNat p.1) := by
  obtain ⟨ne, far⟩ := take_apart nd hp
  have hpm := List.mem_of_getElem? hp
  have a1 := hin _ (mem_ends.mpr ⟨p, hpm, .inl rfl⟩)
  have a2 := hin _ (mem_ends.mpr ⟨p, hpm, .inr rfl⟩)
  rw [List.take_add_one, hp]
  refine row_put a1.1 (by omega) a2.1 (by omega) ne (fun q hq => ?_) W
  have hqm := List.mem_of_mem_take hq
  have b1 := hin _ (mem_ends.mpr ⟨q, hqm, .inl rfl⟩)
  have b2 := hin _ (mem_ends.mpr ⟨q, hqm, .inr rfl⟩)
  obtain ⟨c1, c2, c3, c4⟩ := far q hq
  exact ⟨b1.1, b2.1, c1, c2, c3, c4⟩
end MM
namespace MM
open PySem PP L2
abbrev matD (u d : Int) (ns : List Int) : PyData := .tuple [.int u, .int d, .tuple (ns.map .int)]
def nPair (p : Int × Int) : PyData := .tuple [.int p.1, .int p.2]
def strI (ns : List Int) (i : Nat) : List (Int × Int) := ((List.range i).filter fun j : Nat => decide ((j : Int) < ns.getD j 0)).map fun j : Nat => ((j : Int), ns.getD j 0)
theorem strI_len {ns : List Int} {i : Nat} : (strI ns i).length ≤ i := by
  unfold strI
  rw [List.length_map]
  exact Nat.le_trans (List.length_filter_le ..) (by rw [List.length_range]; exact Nat.le_refl _)
theorem strI_yes {ns : List Int} {i : Nat} (h : (i : Int) < ns.getD i 0) : strI ns (i + 1) = strI ns i ++ [((i : Int), ns.getD i 0)] := by
  unfold strI
  rw [List.range_succ, List.filter_append, List.map_append, List.filter_cons, if_pos (decide_eq_true h), List.filter_nil]
  rfl
theorem strI_no {ns : List Int} {i : Nat} (h : ¬ (i : Int) < ns.getD i 0) : strI ns (i + 1) = strI ns i := by
  unfold strI
  rw [List.range_succ, List.filter_append, List.map_append, List.filter_cons, if_neg (fun z => h (of_decide_eq_true z)), List.filter_nil, List.map_nil, List.append_nil]
theorem strI_mem {ns : List Int} {i : Nat} {p : Int × Int} : p ∈ strI ns i ↔ ∃ j < i, (j : Int) < ns.getD j 0 ∧ p = ((j : Int), ns.getD j 0) := by
  unfold strI
  rw [List.mem_map]
  constructor
  · rintro ⟨j, hj, rfl⟩
    rw [List.mem_filter, List.mem_range] at hj
    exact ⟨j, hj.1, of_decide_eq_true hj.2, rfl⟩
  · rintro ⟨j, hj, hl, rfl⟩
    exact ⟨j, by rw [List.mem_filter, List.mem_range]; exact ⟨hj, decide_eq_true hl⟩, rfl⟩
def spCheck : FSp := fun pvs m q => ∃ (u d : Int) (ns : List Int), pvs = [.d (matD u d ns)] ∧ m = [] ∧ u ≤ 100000 ∧ d ≤ 100000 ∧ ns.length ≤ 200000 ∧ isMatB u d ns = true ∧ q (.d .none) []
def spStr : FSp := fun pvs m q => ∃ (u d : Int) (ns : List Int), pvs = [.d (matD u d ns)] ∧ m = [] ∧ ns.length ≤ 200000 ∧ q (.ref 0) [some (.lst ((strI ns ns.length).map nPair))]
def spMoved : FSp := fun pvs m q => ∃ (u d : Int) (ns pl : List Int), pvs = [.d (matD u d ns), .d (.list (pl.map .int))] ∧ m = [] ∧ ns.length ≤ 200000 ∧ pl.length = ns.length ∧ (∀ z ∈ ns, 0 ≤ z ∧ z < ns.length) ∧
  q (.ref 0) [some (.lst (((strI ns ns.length).map fun p => (pl.getD p.1.toNat 0, pl.getD p.2.toNat 0)).map nPair))]
def spOf : FSp := fun pvs m q => ∃ (u d : Int) (prs : List (Int × Int)), pvs = [.d (.int u), .d (.int d), .d (.list (prs.map nPair))] ∧ m = [] ∧ 0 ≤ u ∧ u ≤ 100000 ∧ 0 ≤ d ∧ d ≤ 100000 ∧ (ends prs).Nodup ∧ (∀ x ∈ ends prs, 0 ≤ x ∧ x < u + d) ∧
  ∀ ns : List Int, (ns.length : Int) = u + d → Row prs ns → q (.d (matD u d ns)) []
end MM
namespace MM
open PySem PP L2
theorem isMat_parts {u d : Int} {ns : List Int} (h : isMatB u d ns = true) : 0 ≤ u ∧ 0 ≤ d ∧ 0 < u + d ∧ (ns.length : Int) = u + d ∧ (∀ i < ns.length, matesAt ns i = true) ∧ stkR (mu ns) (ringI u d) (ringI u d).length = [] := by
  unfold isMatB at h
  rw [Bool.and_eq_true, Bool.and_eq_true, Bool.not_eq_true', Bool.or_eq_false_iff, Bool.or_eq_false_iff, Bool.or_eq_false_iff] at h
  obtain ⟨⟨h1, h2, h3, h4⟩, h5, h6⟩ := h
  have h1 := of_decide_eq_false h1
  have h2 := of_decide_eq_false h2
  have h3 := of_decide_eq_false h3
  rw [Bool.not_eq_false'] at h4
  have h4 := of_decide_eq_true h4
  exact ⟨by omega, by omega, by omega, h4, matesOk_iff.mp h5, List.isEmpty_iff.mp h6⟩
theorem mu_nat {ns : List Int} {i : Nat} : mu ns (i : Int) = ns.getD i 0 := by unfold mu; rw [Int.toNat_natCast]
theorem str_row {u d : Int} {ns : List Int} (h : isMatB u d ns = true) : Row (strI ns ns.length) ns := fun p hp => by
  obtain ⟨_, _, _, hl, hok, _⟩ := isMat_parts h
  obtain ⟨j, hj, _, rfl⟩ := strI_mem.mp hp
  obtain ⟨a, b, c, e⟩ := matesAt_iff.mp (hok j hj)
  exact ⟨mu_nat, e⟩
theorem str_ends {u d : Int} {ns : List Int} (h : isMatB u d ns = true) : (ends (strI ns ns.length)).Nodup ∧ ∀ x, x ∈ ends (strI ns ns.length) ↔ 0 ≤ x ∧ x < u + d := by
  obtain ⟨hu, hd, h0, hl, hok, _⟩ := isMat_parts h
  constructor
  · have gen : ∀ k ≤ ns.length, (ends (strI ns k)).Nodup := by
      intro k
      induction k with
      | zero => intro _; exact .nil
      | succ k ih =>
        intro hk
        by_cases c : (k : Int) < ns.getD k 0
        · rw [strI_yes c]
          have e : ends (strI ns k ++ [((k : Int), ns.getD k 0)]) = ends (strI ns k) ++ [(k : Int), ns.getD k 0] := by
            unfold ends
            rw [List.flatMap_append]
            rfl
          rw [e, List.nodup_append]
          refine ⟨ih (by omega), ?_, fun a ha b hb z => ?_⟩
          · rw [List.nodup_cons]
            exact ⟨fun z => by have := List.mem_singleton.mp z; omega, List.nodup_cons.mpr ⟨List.not_mem_nil, .nil⟩⟩
          · obtain ⟨p, hp, e2⟩ := mem_ends.mp ha
            obtain ⟨j, hj, hj2, rfl⟩ := strI_mem.mp hp
            obtain ⟨a1, a2, a3, a4⟩ := matesAt_iff.mp (hok j (by omega))
            obtain ⟨b1, b2, b3, b4⟩ := matesAt_iff.mp (hok k (by omega))
            simp only [List.mem_cons, List.not_mem_nil, or_false] at hb
            subst z
            rcases hb with rfl | rfl <;> rcases e2 with e2 | e2
            · have e2 : (k : Int) = (j : Int) := e2
              omega
            · have e2 : (k : Int) = ns.getD j 0 := e2
              rw [← e2, Int.toNat_natCast] at a4
              omega
            · have e2 : ns.getD k 0 = (j : Int) := e2
              omega
            · have e2 : ns.getD k 0 = ns.getD j 0 := e2
              rw [e2] at b4
              omega
        · rw [strI_no c]
          exact ih (by omega)
    exact gen _ (Nat.le_refl _)
  · intro x
    rw [mem_ends]
    constructor
    · rintro ⟨p, hp, e⟩
      obtain ⟨j, hj, hj2, rfl⟩ := strI_mem.mp hp
      obtain ⟨a1, a2, a3, a4⟩ := matesAt_iff.mp (hok j hj)
      rcases e with rfl | rfl
      · show (0 : Int) ≤ (j : Int) ∧ (j : Int) < u + d
        omega
      · show 0 ≤ ns.getD j 0 ∧ ns.getD j 0 < u + d
        omega
    · rintro ⟨x0, x1⟩
      obtain ⟨j, rfl⟩ : ∃ j : Nat, x = (j : Int) := ⟨x.toNat, by omega⟩
      have hj : j < ns.length := by omega
      obtain ⟨a1, a2, a3, a4⟩ := matesAt_iff.mp (hok j hj)
      by_cases c : (j : Int) < ns.getD j 0
      · exact ⟨_, strI_mem.mpr ⟨j, hj, c, rfl⟩, .inl rfl⟩
      · refine ⟨(((ns.getD j 0).toNat : Int), ns.getD (ns.getD j 0).toNat 0), strI_mem.mpr ⟨(ns.getD j 0).toNat, by omega, by rw [a4]; omega, rfl⟩, .inr ?_⟩
        exact a4.symm
theorem moved_row {u d : Int} {ns ks : List Int} {f : Int → Int} (h : isMatB u d ns = true) (W : Row ((strI ns ns.length).map fun p => (f p.1, f p.2)) ks) : ∀ x, 0 ≤ x → x < u + d → mu ks (f x) = f (mu ns x) := fun x h0 h1 => by
  obtain ⟨p, hp, e⟩ := mem_ends.mp (((str_ends h).2 x).mpr ⟨h0, h1⟩)
  obtain ⟨r1, r2⟩ := str_row h p hp
  obtain ⟨w1, w2⟩ := W _ (List.mem_map.mpr ⟨p, hp, rfl⟩)
  rcases e with rfl | rfl
  · rw [r1]; exact w1
  · rw [r2]; exact w2
theorem map_ends {f : Int → Int} {prs : List (Int × Int)} : ends (prs.map fun p => (f p.1, f p.2)) = (ends prs).map f := by
  unfold ends
  rw [List.flatMap_map, List.map_flatMap]
  rfl
theorem rows_same {N : Int} {ns ks : List Int} (hl : (ns.length : Int) = N) (hk : (ks.length : Int) = N) (h : ∀ x, 0 ≤ x → x < N → mu ns x = mu ks x) : ns = ks := by
  refine List.ext_getElem (by omega) fun i h1 h2 => ?_
  have := h (i : Int) (by omega) (by omega)
  rw [mu_nat, mu_nat, List.getD_eq_getElem?_getD, List.getD_eq_getElem?_getD, List.getElem?_eq_getElem h1, List.getElem?_eq_getElem h2] at this
  exact this
def flipP (u d x : Int) : Int := if x < u then d + x else x - u
def sideP (u d x : Int) : Int := if x < u then u - 1 - x else u + d - 1 - (x - u)
def upL (u d : Int) : List Int := ((List.range (d + u - d).toNat).map fun i => d + ((i : Nat) : Int)) ++ (List.range (d - 0).toNat).map fun i => 0 + ((i : Nat) : Int)
theorem upL_data {u d : Int} : rgD d (d + u) ++ rgD 0 d = (upL u d).map .int := by
  unfold upL rgD
  rw [List.map_append, List.map_map, List.map_map]
  rfl
theorem two_at {f g : Nat → Int} {a b : Nat} {x : Nat} (h : x < a + b) : (((List.range a).map f) ++ (List.range b).map g).getD x 0 = if x < a then f x else g (x - a) := by
  rw [List.getD_eq_getElem?_getD]
  by_cases c : x < a
  · rw [if_pos c, List.getElem?_append_left (by rw [List.length_map, List.length_range]; exact c), List.getElem?_map, List.getElem?_range c]
    rfl
  · rw [if_neg c, List.getElem?_append_right (by rw [List.length_map, List.length_range]; omega), List.length_map, List.length_range, List.getElem?_map, List.getElem?_range (by omega)]
    rfl
theorem upL_at {u d x : Int} (hu : 0 ≤ u) (hd : 0 ≤ d) (h0 : 0 ≤ x) (h1 : x < u + d) : (upL u d).getD x.toNat 0 = flipP u d x := by
  unfold upL
  rw [two_at (by omega)]
  unfold flipP
  split <;> split <;> omega
theorem upL_len {u d : Int} (hu : 0 ≤ u) (hd : 0 ≤ d) : ((upL u d).length : Int) = u + d := by
  unfold upL
  rw [List.length_append, List.length_map, List.length_map, List.length_range, List.length_range]
  omega
def spMove (f : Int → Int → Int → Int) (sw : Bool) : FSp := fun pvs m q => ∃ (u d : Int) (ns : List Int), pvs = [.d (matD u d ns)] ∧ m = [] ∧ u ≤ 100000 ∧ d ≤ 100000 ∧ ns.length ≤ 200000 ∧ isMatB u d ns = true ∧
  ∀ ks : List Int, (ks.length : Int) = u + d → (∀ x, 0 ≤ x → x < u + d → mu ks (f u d x) = f u d (mu ns x)) → q (.d (if sw then matD d u ks else matD u d ks)) []
theorem moved_ok {u d : Int} {ns pl : List Int} {f : Int → Int} (h : isMatB u d ns = true) (hp : ∀ x, 0 ≤ x → x < u + d → pl.getD x.toNat 0 = f x) (inj : ∀ x, 0 ≤ x → x < u + d → ∀ y, 0 ≤ y → y < u + d → f x = f y → x = y) (into : ∀ x, 0 ≤ x → x < u + d → 0 ≤ f x ∧ f x < u + d) :
    ((strI ns ns.length).map fun p => (pl.getD p.1.toNat 0, pl.getD p.2.toNat 0)) = ((strI ns ns.length).map fun p => (f p.1, f p.2)) ∧ (ends ((strI ns ns.length).map fun p => (f p.1, f p.2))).Nodup ∧ ∀ x ∈ ends ((strI ns ns.length).map fun p => (f p.1, f p.2)), 0 ≤ x ∧ x < u + d := by
  obtain ⟨e1, e2⟩ := str_ends h
  refine ⟨List.map_congr_left fun p hp2 => ?_, ?_, fun x hx => ?_⟩
  · have a := (e2 p.1).mp (mem_ends.mpr ⟨p, hp2, .inl rfl⟩)
    have b := (e2 p.2).mp (mem_ends.mpr ⟨p, hp2, .inr rfl⟩)
    rw [hp _ a.1 a.2, hp _ b.1 b.2]
  · rw [map_ends]
    exact nodup_map_inj e1 fun a ha b hb => inj a ((e2 a).mp ha).1 ((e2 a).mp ha).2 b ((e2 b).mp hb).1 ((e2 b).mp hb).2
  · rw [map_ends] at hx
    obtain ⟨a, ha, rfl⟩ := List.mem_map.mp hx
    exact into a ((e2 a).mp ha).1 ((e2 a).mp ha).2
end MM
namespace MM
open PySem PP L2
theorem flip_inj {u d : Int} (hu : 0 ≤ u) (hd : 0 ≤ d) : ∀ a ∈ ringI u d, ∀ b ∈ ringI u d, flipP u d a = flipP u d b → a = b := fun a ha b hb e => by
  have ha := (ringI_mem hu hd).mp ha
  have hb := (ringI_mem hu hd).mp hb
  unfold flipP at e
  split at e <;> split at e <;> omega
theorem flip_ring {u d : Int} (hu : 0 ≤ u) (hd : 0 ≤ d) : (ringI u d).map (flipP u d) = (ringI d u).reverse := by
  refine List.ext_getElem ?_ fun i h1 h2 => ?_
  · rw [List.length_map, List.length_reverse]
    have := ringI_len hu hd
    have := ringI_len hd hu
    omega
  · have l1 := ringI_len hu hd
    have l2 := ringI_len hd hu
    rw [List.length_map] at h1
    rw [List.getElem_map, List.getElem_reverse]
    have at1 : ∀ {n m : Int} (hn : 0 ≤ n) (hm : 0 ≤ m) (k : Nat) (h : k < (ringI n m).length), (ringI n m)[k] = if (k : Int) < n then (k : Int) else n + m - 1 - ((k : Int) - n) := fun {n m} hn hm k h => by
      have l3 := ringI_len hn hm
      have := two_at (f := fun i => 0 + ((i : Nat) : Int)) (g := fun i => n + m - 1 + ((i : Nat) : Int) * -1) (a := (n - 0).toNat) (b := (n + m - 1 - (n - 1)).toNat) (x := k) (by omega)
      have e : (ringI n m).getD k 0 = (ringI n m)[k] := by rw [List.getD_eq_getElem?_getD, List.getElem?_eq_getElem h, Option.getD_some]
      rw [← e]
      refine this.trans ?_
      split <;> split <;> omega
    rw [at1 hu hd i h1, at1 hd hu _ (by omega)]
    unfold flipP
    (repeat' split) <;> omega
theorem flip_match {u d : Int} {prs : List (Int × Int)} (hu : 0 ≤ u) (hd : 0 ≤ d) (M : Match (ringI u d) prs) : Match (ringI d u) (prs.map fun p => (flipP u d p.1, flipP u d p.2)) := by
  have h := M.map (flip_inj hu hd)
  rw [flip_ring hu hd] at h
  have h2 := h.rev (List.pairwise_reverse.mpr (List.Pairwise.imp (fun h => Ne.symm h) (ringI_nodup hd hu)))
  rwa [List.reverse_reverse] at h2
end MM
namespace MM
open PySem PP L2
theorem range_getD {α β : Type} (g : α → β) (d0 : α) (xs : List α) : (List.range xs.length).map (fun i => g (xs.getD i d0)) = xs.map g := by
  refine List.ext_getElem (by simp) fun i h1 h2 => ?_
  rw [List.length_map, List.length_range] at h1
  rw [List.getElem_map, List.getElem_map, List.getElem_range, List.getD_eq_getElem?_getD, List.getElem?_eq_getElem h1, Option.getD_some]
theorem flip_flip {u d x : Int} (hu : 0 ≤ u) (hd : 0 ≤ d) (h0 : 0 ≤ x) (h1 : x < u + d) : flipP d u (flipP u d x) = x := by
  unfold flipP
  (repeat' split) <;> omega
theorem dq_mat {u d : Int} {ns : List Int} : Dq 3 (matD u d ns) := .tup fun x hx => by
  simp only [List.mem_cons, List.not_mem_nil, or_false] at hx
  rcases hx with rfl | rfl | rfl
  · exact dq_int
  · exact dq_int
  · exact .tup fun y hy => by
      obtain ⟨i, _, rfl⟩ := List.mem_map.mp hy
      exact dq_int
end MM
namespace JJ
open PySem PP L2 MM
structure Sg (N : Int) (s : Int → Int) : Prop where
  into : ∀ x, 0 ≤ x → x < N → 0 ≤ s x ∧ s x < N
  ne : ∀ x, 0 ≤ x → x < N → s x ≠ x
  inv : ∀ x, 0 ≤ x → x < N → s (s x) = x
structure Rm (n m N : Int) (l : List Int) (x : Int) : Prop where
  lo : 0 ≤ x
  hi : x < N
  far : ∀ i ∈ l, x ≠ n + i ∧ x ≠ n + m + i
def El (n m : Int) (s : Int → Int) : List Int → Int → Int
  | [] => s
  | i :: l => fun x => if El n m s l (n + i) = n + m + i then El n m s l x else if x = El n m s l (n + i) then El n m s l (n + m + i) else if x = El n m s l (n + m + i) then El n m s l (n + i) else El n m s l x
def tau (n m x : Int) : Int := if n ≤ x ∧ x < n + m then x + m else if n + m ≤ x ∧ x < n + 2 * m then x - m else x
def wlk (n m : Int) (s : Int → Int) (x : Int) : Nat → Int
  | 0 => s x
  | j + 1 => s (tau n m (wlk n m s x j))
structure Ls (m : Int) (l : List Int) : Prop where
  nd : l.Nodup
  r : ∀ i ∈ l, 0 ≤ i ∧ i < m
theorem Ls.tl {m i : Int} {l : List Int} (h : Ls m (i :: l)) : Ls m l := ⟨(List.nodup_cons.mp h.nd).2, fun j hj => h.r j (List.mem_cons_of_mem _ hj)⟩
section
variable {n m N : Int} {s : Int → Int} (hn : 0 ≤ n) (hm : 0 ≤ m) (hN : n + 2 * m ≤ N) (S : Sg N s)
include hn hm hN S
theorem El_inv : ∀ {l : List Int}, Ls m l → ∀ x, Rm n m N l x → Rm n m N l (El n m s l x) ∧ El n m s l x ≠ x ∧ El n m s l (El n m s l x) = x
  | [], _, x, r => by
    have a := S.into x r.lo r.hi
    exact ⟨⟨a.1, a.2, fun i hi => by cases hi⟩, S.ne x r.lo r.hi, S.inv x r.lo r.hi⟩
  | i :: l, h, x, r => by
    have IH := El_inv h.tl
    have hi := h.r i List.mem_cons_self
    have hil := (List.nodup_cons.mp h.nd).1
    have fa : Rm n m N l (n + i) := ⟨by omega, by omega, fun j hj => ⟨fun z => hil (by rw [show i = j by omega]; exact hj), by have := h.r j (List.mem_cons_of_mem _ hj); omega⟩⟩
    have fb : Rm n m N l (n + m + i) := ⟨by omega, by omega, fun j hj => ⟨by have := h.r j (List.mem_cons_of_mem _ hj); omega, fun z => hil (by rw [show i = j by omega]; exact hj)⟩⟩
    have rl : Rm n m N l x := ⟨r.lo, r.hi, fun j hj => r.far j (List.mem_cons_of_mem _ hj)⟩
    have xa := (r.far i List.mem_cons_self).1
    have xb := (r.far i List.mem_cons_self).2
    obtain ⟨ra, na, ia⟩ := IH _ fa
    obtain ⟨rb, nb, ib⟩ := IH _ fb
    obtain ⟨rx, nx, ix⟩ := IH _ rl
    have up : ∀ {y}, Rm n m N l y → y ≠ n + i → y ≠ n + m + i → Rm n m N (i :: l) y := fun {y} q h1 h2 => ⟨q.lo, q.hi, fun j hj => by
      rcases List.mem_cons.mp hj with rfl | hj
      · exact ⟨h1, h2⟩
      · exact q.far j hj⟩
    generalize hE : El n m s l = E at *
    have e : ∀ y, El n m s (i :: l) y = if E (n + i) = n + m + i then E y else if y = E (n + i) then E (n + m + i) else if y = E (n + m + i) then E (n + i) else E y := fun y => by
      show (if El n m s l (n + i) = n + m + i then El n m s l y else if y = El n m s l (n + i) then El n m s l (n + m + i) else if y = El n m s l (n + m + i) then El n m s l (n + i) else El n m s l y) = _
      rw [hE]
    rw [e]
    by_cases c : E (n + i) = n + m + i
    · have eb : E (n + m + i) = n + i := by rw [← c]; exact ia
      rw [if_pos c]
      refine ⟨up rx (fun z => xb ?_) (fun z => xa ?_), nx, ?_⟩
      · rw [← ix, z]; exact c
      · rw [← ix, z]; exact eb
      · rw [e, if_pos c]; exact ix
    · have dc : E (n + m + i) ≠ n + i := fun z => c (by rw [← z]; exact ib)
      have cd : E (n + i) ≠ E (n + m + i) := fun z => by
        have : n + i = n + m + i := by rw [← ia, z]; exact ib
        rw [this] at c
        have hm0 : m = 0 := by omega
        omega
      by_cases c1 : x = E (n + i)
      · rw [if_neg c, if_pos c1]
        refine ⟨up rb dc nb, fun z => cd (by rw [← c1, z]), ?_⟩
        rw [e, if_neg c, if_neg (fun z => cd z.symm), if_pos rfl, c1]
      · by_cases c2 : x = E (n + m + i)
        · rw [if_neg c, if_neg c1, if_pos c2]
          refine ⟨up ra na c, fun z => cd (by rw [z, c2]), ?_⟩
          rw [e, if_neg c, if_pos rfl, c2]
        · rw [if_neg c, if_neg c1, if_neg c2]
          refine ⟨up rx (fun z => c1 ?_) (fun z => c2 ?_), nx, ?_⟩
          · rw [← ix, z]
          · rw [← ix, z]
          · rw [e, if_neg c, if_neg (fun z => xa ?_), if_neg (fun z => xb ?_)]
            · exact ix
            · rw [← ix, z]; exact ib
            · rw [← ix, z]; exact ia
end
def Cn (n m N : Int) (s : Int → Int) (x y : Int) : Prop := ∀ P : Int → Prop, (∀ z, 0 ≤ z → z < N → P z → P (s z) ∧ P (tau n m z)) → P x → P y
section
variable {n m N : Int} {s : Int → Int}
theorem Cn.refl {x : Int} : Cn n m N s x x := fun _ _ h => h
theorem Cn.trans {x y z : Int} (h : Cn n m N s x y) (g : Cn n m N s y z) : Cn n m N s x z := fun P c p => g P c (h P c p)
theorem Cn.s1 {x : Int} (h0 : 0 ≤ x) (h1 : x < N) : Cn n m N s x (s x) := fun P c p => (c x h0 h1 p).1
theorem Cn.t1 {x : Int} (h0 : 0 ≤ x) (h1 : x < N) : Cn n m N s x (tau n m x) := fun P c p => (c x h0 h1 p).2
theorem tau_in {x : Int} (hn : 0 ≤ n) (hm : 0 ≤ m) (hN : n + 2 * m ≤ N) (h0 : 0 ≤ x) (h1 : x < N) : 0 ≤ tau n m x ∧ tau n m x < N := by
  unfold tau
  (repeat' split) <;> omega
theorem tau_tau {x : Int} (hm : 0 ≤ m) : tau n m (tau n m x) = x := by
  unfold tau
  (repeat' split) <;> omega
variable (hn : 0 ≤ n) (hm : 0 ≤ m) (hN : n + 2 * m ≤ N) (S : Sg N s)
include hn hm hN S
theorem Cn.in {x y : Int} (h : Cn n m N s x y) (h0 : 0 ≤ x) (h1 : x < N) : 0 ≤ y ∧ y < N := h (fun z => 0 ≤ z ∧ z < N) (fun z a b _ => ⟨S.into z a b, tau_in hn hm hN a b⟩) ⟨h0, h1⟩
theorem Cn.symm {x y : Int} (h : Cn n m N s x y) (h0 : 0 ≤ x) (h1 : x < N) : Cn n m N s y x := by
  refine (h (fun z => (0 ≤ z ∧ z < N) ∧ Cn n m N s z x) (fun z a b ⟨_, p⟩ => ⟨⟨S.into z a b, ?_⟩, tau_in hn hm hN a b, ?_⟩) ⟨⟨h0, h1⟩, Cn.refl⟩).2
  · have i := S.into z a b
    have q : Cn n m N s (s z) (s (s z)) := Cn.s1 i.1 i.2
    rw [S.inv z a b] at q
    exact q.trans p
  · have i := tau_in (m := m) hn hm hN a b
    have q : Cn n m N s (tau n m z) (tau n m (tau n m z)) := Cn.t1 i.1 i.2
    rw [tau_tau hm] at q
    exact q.trans p
def outer (n m x : Int) : Prop := x < n ∨ n + 2 * m ≤ x
def down : Nat → List Int
  | 0 => []
  | i + 1 => (i : Int) :: down i
omit hn hm hN S in
theorem down_mem : ∀ {i : Nat} {x : Int}, x ∈ down i ↔ 0 ≤ x ∧ x < i
  | 0, x => by
    show x ∈ [] ↔ _
    simp
  | i + 1, x => by
    show x ∈ (i : Int) :: down i ↔ _
    rw [List.mem_cons, down_mem]
    omega
omit hn hm hN S in
theorem down_nd : ∀ i : Nat, (down i).Nodup
  | 0 => .nil
  | i + 1 => List.nodup_cons.mpr ⟨fun z => by have := down_mem.mp z; omega, down_nd i⟩
omit hn hm hN S in
theorem down_ls {i : Nat} (h : (i : Int) ≤ m) : Ls m (down i) := ⟨down_nd i, fun j hj => by have := down_mem.mp hj; omega⟩
omit S in
theorem mid_of {y : Int} (h0 : 0 ≤ y) (h1 : y < N) (h : ¬ outer n m y) : ∃ j, 0 ≤ j ∧ j < m ∧ (y = n + j ∨ y = n + m + j) := by
  unfold outer at h
  by_cases c : y < n + m
  · exact ⟨y - n, by omega, by omega, .inl (by omega)⟩
  · exact ⟨y - n - m, by omega, by omega, .inr (by omega)⟩
end
end JJ
namespace JJ
open PySem PP L2 MM
def ps (n m y : Int) : Int := if y < n + m then y else y - m
section
variable {n m N : Int} {s : Int → Int} (hn : 0 ≤ n) (hm : 0 ≤ m) (hN : n + 2 * m ≤ N) (S : Sg N s)
include hn hm hN S
theorem El_all {x : Int} (h0 : 0 ≤ x) (h1 : x < N) (ho : outer n m x) : Rm n m N (down m.toNat) x := ⟨h0, h1, fun i hi => by
  have := down_mem.mp hi
  unfold outer at ho
  omega⟩
omit S in
theorem rm_outer {x : Int} (h : Rm n m N (down m.toNat) x) : outer n m x := by
  have := h.lo
  have := h.hi
  by_cases c : outer n m x
  · exact c
  · obtain ⟨j, j0, j1, e⟩ := mid_of hn hm hN h.lo h.hi c
    have := h.far j (down_mem.mpr ⟨j0, by omega⟩)
    rcases e with e | e
    · exact absurd e this.1
    · exact absurd e this.2
end
def rgs (n m : Int) (s : Int → Int) : Nat → Int
  | 0 => 0
  | i + 1 => rgs n m s i + (if El n m s (down i) (n + (i : Int)) = n + m + (i : Int) then 1 else 0)
end JJ
namespace MM
open PySem PP L2
structure Is (u d : Int) (prs : List (Int × Int)) (ns : List Int) : Prop where
  hu : 0 ≤ u
  hd : 0 ≤ d
  h0 : 0 < u + d
  len : (ns.length : Int) = u + d
  M : Match (ringI u d) prs
  W : Row prs ns
abbrev mapP (f : Int → Int) (prs : List (Int × Int)) : List (Int × Int) := prs.map fun p => (f p.1, f p.2)
section
variable {u d : Int} {prs : List (Int × Int)} {ns ks : List Int}
theorem Is.mat (h : Is u d prs ns) : isMatB u d ns = true := match_isMat h.hu h.hd h.h0 h.len h.M h.W
theorem Is.one (h : Is u d prs ns) (g : Is u d prs ks) : ns = ks := row_unique h.hu h.hd h.len g.len h.M h.W g.W
theorem Is.in (h : Is u d prs ns) : ∀ x ∈ ends prs, 0 ≤ x ∧ x < u + d := fun x hx => (ringI_mem h.hu h.hd).mp ((h.M.mem x).mp hx)
theorem Is.inP (h : Is u d prs ns) {p : Int × Int} (hp : p ∈ prs) : (0 ≤ p.1 ∧ p.1 < u + d) ∧ 0 ≤ p.2 ∧ p.2 < u + d := ⟨h.in _ (mem_ends.mpr ⟨p, hp, .inl rfl⟩), h.in _ (mem_ends.mpr ⟨p, hp, .inr rfl⟩)⟩
theorem Is.nd (h : Is u d prs ns) : (ends prs).Nodup := h.M.nd
theorem Is.mv {a b : Int} {f : Int → Int} (h : Is u d prs ns) (ha : 0 ≤ a) (hb : 0 ≤ b) (hab : a + b = u + d) (hk : (ks.length : Int) = u + d) (M : Match (ringI a b) (mapP f prs)) (m : ∀ x, 0 ≤ x → x < u + d → mu ks (f x) = f (mu ns x)) : Is a b (mapP f prs) ks := by
  have := h.h0
  refine ⟨ha, hb, by omega, by omega, M, fun p hp => ?_⟩
  obtain ⟨q, hq, rfl⟩ := List.mem_map.mp hp
  obtain ⟨i1, i2⟩ := h.inP hq
  obtain ⟨w1, w2⟩ := h.W q hq
  show mu ks (f q.1) = f q.2 ∧ mu ks (f q.2) = f q.1
  rw [m _ i1.1 i1.2, m _ i2.1 i2.2, w1, w2]
  exact ⟨rfl, rfl⟩
theorem Is.flip (h : Is u d prs ns) (hk : (ks.length : Int) = u + d) (m : ∀ x, 0 ≤ x → x < u + d → mu ks (flipP u d x) = flipP u d (mu ns x)) : Is d u (mapP (flipP u d) prs) ks := h.mv h.hd h.hu (by omega) hk (flip_match h.hu h.hd h.M) m
theorem mapP_same {f g : Int → Int} (h : ∀ x ∈ ends prs, f x = g x) : mapP f prs = mapP g prs := List.map_congr_left fun p hp => by
  rw [h _ (mem_ends.mpr ⟨p, hp, .inl rfl⟩), h _ (mem_ends.mpr ⟨p, hp, .inr rfl⟩)]
theorem mapP_id {f : Int → Int} (h : ∀ x ∈ ends prs, f x = x) : mapP f prs = prs := by
  rw [mapP_same (g := fun x => x) h]
  exact List.map_id' prs
theorem mapP_two {f g : Int → Int} : mapP g (mapP f prs) = mapP (fun x => g (f x)) prs := by
  unfold mapP
  rw [List.map_map]
  rfl
theorem Is.of (h : Is u d prs ns) {qrs : List (Int × Int)} (e : prs = qrs) : Is u d qrs ns := e ▸ h
end
def sg (u d x : Int) : Int := if x < u then x else 2 * u + d - 1 - x
def tnK (u d k x : Int) : Int := sg u d (if sg u d x < k then sg u d x + (u + d) - k else sg u d x - k)
def tnP (u d x : Int) : Int := tnK u d 1 x
theorem ring_at {u d k : Int} (hu : 0 ≤ u) (hd : 0 ≤ d) (h0 : 0 ≤ k) (h1 : k < u + d) : (ringI u d)[k.toNat]? = some (sg u d k) := by
  have l := ringI_len hu hd
  have := two_at (f := fun i => 0 + ((i : Nat) : Int)) (g := fun i => u + d - 1 + ((i : Nat) : Int) * -1) (a := (u - 0).toNat) (b := (u + d - 1 - (u - 1)).toNat) (x := k.toNat) (by omega)
  have hk : k.toNat < (ringI u d).length := by omega
  rw [List.getElem?_eq_getElem hk]
  have e : (ringI u d).getD k.toNat 0 = (ringI u d)[k.toNat] := by rw [List.getD_eq_getElem?_getD, List.getElem?_eq_getElem hk, Option.getD_some]
  rw [← e]
  refine congrArg some (Eq.trans this ?_)
  unfold sg
  split <;> split <;> omega
theorem ring_idx {u d x : Int} (hu : 0 ≤ u) (hd : 0 ≤ d) (h0 : 0 ≤ x) (h1 : x < u + d) : ((ringI u d).idxOf x : Int) = sg u d x ∧ 0 ≤ sg u d x ∧ sg u d x < u + d := by
  have hs : 0 ≤ sg u d x ∧ sg u d x < u + d := by unfold sg; split <;> omega
  have e := ring_at hu hd hs.1 hs.2
  have e2 : sg u d (sg u d x) = x := by unfold sg; (repeat' split) <;> omega
  rw [e2] at e
  rw [idx_at (ringI_nodup hu hd) e]
  exact ⟨by omega, hs⟩
theorem valD_put {kvs : List (Key × PyData)} {k j : Key} {v : PyData} : valD (putD kvs k v) j = if k = j then some v else valD kvs j := by
  unfold putD
  by_cases a : (kvs.any fun kv => decide (kv.1 = k)) = true
  · rw [if_pos a]
    unfold valD
    induction kvs with
    | nil => simp at a
    | cons kv kvs ih =>
      rw [List.map_cons, List.find?_cons, List.find?_cons]
      by_cases c : kv.1 = k
      · rw [if_pos c]
        by_cases e : k = j
        · simp [c, e]
        · have e2 : ¬ kv.1 = j := fun z => e (c.symm.trans z)
          simp only [e2, decide_false, e, if_false]
          by_cases a2 : (kvs.any fun kv => decide (kv.1 = k)) = true
          · have := ih a2
            rw [if_neg e] at this
            exact this
          · have : (kvs.map fun kv => if kv.1 = k then (kv.1, v) else kv) = kvs := by
              rw [List.map_congr_left (g := id) fun z hz => ?_, List.map_id]
              rw [if_neg]
              · rfl
              · intro e3
                exact a2 (List.any_eq_true.mpr ⟨z, hz, decide_eq_true e3⟩)
            rw [this]
      · rw [if_neg c]
        have a2 : (kvs.any fun kv => decide (kv.1 = k)) = true := by
          rw [List.any_cons, Bool.or_eq_true] at a
          rcases a with a | a
          · exact absurd (of_decide_eq_true a) c
          · exact a
        have := ih a2
        by_cases e : kv.1 = j
        · have e3 : ¬ k = j := fun z => c (e.trans z.symm)
          simp [e, e3]
        · simp only [e, decide_false]
          exact this
  · rw [if_neg a]
    unfold valD
    rw [List.find?_append]
    by_cases e : k = j
    · rw [if_pos e]
      have : kvs.find? (fun kv => decide (kv.1 = j)) = none := by
        rw [List.find?_eq_none]
        intro z hz h
        exact a (List.any_eq_true.mpr ⟨z, hz, by rw [e]; exact h⟩)
      rw [this]
      simp [e]
    · rw [if_neg e]
      cases kvs.find? (fun kv => decide (kv.1 = j)) with
      | some z => rfl
      | none => simp [List.find?_cons, e]
end MM
namespace MM
open PySem PP L2
theorem Is.same {u d : Int} {P Q : List (Int × Int)} {ns ks : List Int} (h : Is u d P ns) (g : Is u d Q ks) (e : ∀ p ∈ P, p ∈ Q ∨ (p.2, p.1) ∈ Q) : ns = ks := by
  refine rows_same h.len g.len fun x x0 x1 => ?_
  obtain ⟨p, hp, ex⟩ := mem_ends.mp ((h.M.mem x).mpr ((ringI_mem h.hu h.hd).mpr ⟨x0, x1⟩))
  obtain ⟨w1, w2⟩ := h.W p hp
  have v : mu ks p.1 = p.2 ∧ mu ks p.2 = p.1 := by
    rcases e p hp with hq | hq
    · exact g.W p hq
    · exact (g.W _ hq).symm
  rcases ex with rfl | rfl
  · rw [w1, v.1]
  · rw [w2, v.2]
theorem match_sg {u d : Int} {prs : List (Int × Int)} (hu : 0 ≤ u) (hd : 0 ≤ d) (nd : (ends prs).Nodup) (mem : ∀ x, x ∈ ends prs ↔ 0 ≤ x ∧ x < u + d)
    (nc : ∀ p ∈ prs, ∀ q ∈ prs, (min (sg u d p.1) (sg u d p.2) < sg u d q.1 ∧ sg u d q.1 < max (sg u d p.1) (sg u d p.2)) ↔ (min (sg u d p.1) (sg u d p.2) < sg u d q.2 ∧ sg u d q.2 < max (sg u d p.1) (sg u d p.2))) : Match (ringI u d) prs := by
  refine ⟨nd, fun x => by rw [mem, ringI_mem hu hd], fun p hp q hq => ?_⟩
  have i1 := (mem p.1).mp (mem_ends.mpr ⟨p, hp, .inl rfl⟩)
  have i2 := (mem p.2).mp (mem_ends.mpr ⟨p, hp, .inr rfl⟩)
  have i3 := (mem q.1).mp (mem_ends.mpr ⟨q, hq, .inl rfl⟩)
  have i4 := (mem q.2).mp (mem_ends.mpr ⟨q, hq, .inr rfl⟩)
  have e1 := (ring_idx hu hd i1.1 i1.2).1
  have e2 := (ring_idx hu hd i2.1 i2.2).1
  have e3 := (ring_idx hu hd i3.1 i3.2).1
  have e4 := (ring_idx hu hd i4.1 i4.2).1
  have h := nc p hp q hq
  rw [← e1, ← e2, ← e3, ← e4] at h
  unfold Sep SepP Btw
  generalize (ringI u d).idxOf p.1 = a at *
  generalize (ringI u d).idxOf p.2 = b at *
  generalize (ringI u d).idxOf q.1 = c at *
  generalize (ringI u d).idxOf q.2 = d' at *
  omega
theorem Match.sg {u d : Int} {prs : List (Int × Int)} (hu : 0 ≤ u) (hd : 0 ≤ d) (M : Match (ringI u d) prs) {p q : Int × Int} (hp : p ∈ prs) (hq : q ∈ prs) :
    (min (sg u d p.1) (MM.sg u d p.2) < MM.sg u d q.1 ∧ MM.sg u d q.1 < max (MM.sg u d p.1) (MM.sg u d p.2)) ↔ (min (MM.sg u d p.1) (MM.sg u d p.2) < MM.sg u d q.2 ∧ MM.sg u d q.2 < max (MM.sg u d p.1) (MM.sg u d p.2)) := by
  have i1 := (ringI_mem hu hd).mp (M.in hp).1
  have i2 := (ringI_mem hu hd).mp (M.in hp).2
  have i3 := (ringI_mem hu hd).mp (M.in hq).1
  have i4 := (ringI_mem hu hd).mp (M.in hq).2
  have h := M.nc p hp q hq
  unfold Sep SepP Btw at h
  rw [← (ring_idx hu hd i1.1 i1.2).1, ← (ring_idx hu hd i2.1 i2.2).1, ← (ring_idx hu hd i3.1 i3.2).1, ← (ring_idx hu hd i4.1 i4.2).1]
  generalize (ringI u d).idxOf p.1 = a at *
  generalize (ringI u d).idxOf p.2 = b at *
  generalize (ringI u d).idxOf q.1 = c at *
  generalize (ringI u d).idxOf q.2 = d' at *
  omega
theorem match_in {u d : Int} {prs : List (Int × Int)} (hu : 0 ≤ u) (hd : 0 ≤ d) (M : Match (ringI u d) prs) : ∀ x ∈ ends prs, 0 ≤ x ∧ x < u + d := fun x hx => (ringI_mem hu hd).mp ((M.mem x).mp hx)
theorem ends_app {P Q : List (Int × Int)} : ends (P ++ Q) = ends P ++ ends Q := by
  unfold ends
  rw [List.flatMap_append]
def lfP (u a x : Int) : Int := if x < u then x else x + a
def rtP (u d a y : Int) : Int := if y < a then u + y else u + d + y
def besP (u d a : Int) (P Q : List (Int × Int)) : List (Int × Int) := mapP (lfP u a) P ++ mapP (rtP u d a) Q
theorem sep_no {a b c d : Nat} (ab : a ≠ b) (ca : c ≠ a) (cb : c ≠ b) (da : d ≠ a) (db : d ≠ b) (h1 : ¬ (a < c ∧ c < b ∧ b < d)) (h2 : ¬ (a < d ∧ d < b ∧ b < c)) (h3 : ¬ (b < c ∧ c < a ∧ a < d)) (h4 : ¬ (b < d ∧ d < a ∧ a < c))
    (h5 : ¬ (c < a ∧ a < d ∧ d < b)) (h6 : ¬ (c < b ∧ b < d ∧ d < a)) (h7 : ¬ (d < a ∧ a < c ∧ c < b)) (h8 : ¬ (d < b ∧ b < c ∧ c < a)) : ¬ SepP a b c d := by
  unfold SepP Btw
  intro hs
  apply hs
  have mm : ∀ x : Nat, (min a b < x ∧ x < max a b) ↔ (a < x ∧ x < b) ∨ (b < x ∧ x < a) := fun x => by clear h1 h2 h3 h4 h5 h6 h7 h8 hs; omega
  rw [mm, mm]
  constructor
  · rintro (⟨x, y⟩ | ⟨x, y⟩)
    · rcases Nat.lt_or_gt_of_ne da with z | z
      · exact absurd ⟨z, x, y⟩ h7
      · rcases Nat.lt_or_gt_of_ne db with t | t
        · exact .inl ⟨z, t⟩
        · exact absurd ⟨x, y, t⟩ h1
    · rcases Nat.lt_or_gt_of_ne db with z | z
      · exact absurd ⟨z, x, y⟩ h8
      · rcases Nat.lt_or_gt_of_ne da with t | t
        · exact .inr ⟨z, t⟩
        · exact absurd ⟨x, y, t⟩ h3
  · rintro (⟨x, y⟩ | ⟨x, y⟩)
    · rcases Nat.lt_or_gt_of_ne ca with z | z
      · exact absurd ⟨z, x, y⟩ h5
      · rcases Nat.lt_or_gt_of_ne cb with t | t
        · exact .inl ⟨z, t⟩
        · exact absurd ⟨x, y, t⟩ h2
    · rcases Nat.lt_or_gt_of_ne cb with z | z
      · exact absurd ⟨z, x, y⟩ h6
      · rcases Nat.lt_or_gt_of_ne ca with t | t
        · exact .inr ⟨z, t⟩
        · exact absurd ⟨x, y, t⟩ h4
theorem Is.own {u d : Int} {ns : List Int} (h : isMatB u d ns = true) : Is u d (strI ns ns.length) ns := by
  obtain ⟨hu, hd, h0, hl, hok, hs⟩ := isMat_parts h
  have I := inv_of hu hd hl hok
  obtain ⟨e1, e2⟩ := str_ends h
  refine ⟨hu, hd, h0, hl, ⟨e1, fun x => by rw [e2, ringI_mem hu hd], fun p hp q hq hsep => ?_⟩, str_row h⟩
  have nc := (pile_empty I).mp hs
  have ip : p.1 ∈ ringI u d ∧ p.2 ∈ ringI u d := ⟨(ringI_mem hu hd).mpr ((e2 _).mp (mem_ends.mpr ⟨p, hp, .inl rfl⟩)), (ringI_mem hu hd).mpr ((e2 _).mp (mem_ends.mpr ⟨p, hp, .inr rfl⟩))⟩
  have iq : q.1 ∈ ringI u d ∧ q.2 ∈ ringI u d := ⟨(ringI_mem hu hd).mpr ((e2 _).mp (mem_ends.mpr ⟨q, hq, .inl rfl⟩)), (ringI_mem hu hd).mpr ((e2 _).mp (mem_ends.mpr ⟨q, hq, .inr rfl⟩))⟩
  obtain ⟨w1, w2⟩ := str_row h p hp
  obtain ⟨v1, v2⟩ := str_row h q hq
  have ne1 : (ringI u d).idxOf p.1 ≠ (ringI u d).idxOf p.2 := fun z => I.ne p.1 ip.1 (by rw [w1]; exact (idx_inj ip.1 ip.2 z).symm)
  have ne2 : (ringI u d).idxOf q.1 ≠ (ringI u d).idxOf q.2 := fun z => I.ne q.1 iq.1 (by rw [v1]; exact (idx_inj iq.1 iq.2 z).symm)
  have ap := ends_apart e1 hp hq
  rcases ap with rfl | ⟨n1, n2, n3, n4⟩
  · exact sep_self hsep
  have m1 : (ringI u d).idxOf q.1 ≠ (ringI u d).idxOf p.1 := fun z => n1 (idx_inj iq.1 ip.1 z)
  have m2 : (ringI u d).idxOf q.1 ≠ (ringI u d).idxOf p.2 := fun z => n2 (idx_inj iq.1 ip.2 z)
  have m3 : (ringI u d).idxOf q.2 ≠ (ringI u d).idxOf p.1 := fun z => n3 (idx_inj iq.2 ip.1 z)
  have m4 : (ringI u d).idxOf q.2 ≠ (ringI u d).idxOf p.2 := fun z => n4 (idx_inj iq.2 ip.2 z)
  have c1 := nc p.1 ip.1 q.1 iq.1
  have c2 := nc p.1 ip.1 q.2 iq.2
  have c3 := nc p.2 ip.2 q.1 iq.1
  have c4 := nc p.2 ip.2 q.2 iq.2
  have d1 := nc q.1 iq.1 p.1 ip.1
  have d2 := nc q.1 iq.1 p.2 ip.2
  have d3 := nc q.2 iq.2 p.1 ip.1
  have d4 := nc q.2 iq.2 p.2 ip.2
  unfold Crs at c1 c2 c3 c4 d1 d2 d3 d4
  rw [w1] at c1 c2 d1 d3
  rw [w2] at c3 c4 d2 d4
  rw [v1] at c1 c3 d1 d2
  rw [v2] at c2 c4 d3 d4
  exact sep_no ne1 m1 m2 m3 m4 c1 c2 c3 c4 d1 d2 d3 d4 hsep
end MM
namespace MM
open PySem PP L2
def crs (u : Int) (prs : List (Int × Int)) : Int := (prs.countP fun p => !decide ((decide (p.1 < u)) = (decide (p.2 < u))) : Nat)
def strP (n : Int) : List (Int × Int) := (List.range n.toNat).map fun i : Nat => ((i : Int), n + (i : Int))
def keepP (n i : Int) : List (Int × Int) := (strP n).filter fun p => !decide (p.1 ∈ [i, i + 1])
def hookP (n i : Int) : List (Int × Int) := keepP n i ++ [(i, i + 1), (n + i, n + i + 1)]
structure Mt (u d : Int) (P : List (Int × Int)) : Prop where
  hu : 0 ≤ u
  hd : 0 ≤ d
  h0 : 0 < u + d
  M : Match (ringI u d) P
theorem Mt.in {u d : Int} {P : List (Int × Int)} (h : Mt u d P) : ∀ x ∈ ends P, 0 ≤ x ∧ x < u + d := match_in h.hu h.hd h.M
theorem Mt.is {u d : Int} {P : List (Int × Int)} {ns : List Int} (h : Mt u d P) (hl : (ns.length : Int) = u + d) (W : Row P ns) : Is u d P ns := ⟨h.hu, h.hd, h.h0, hl, h.M, W⟩
end MM
namespace JJ
open PySem PP L2 MM
def cs (n m : Int) (ns ks : List Int) (x : Int) : Int := if x < n + m then mu ns x else n + m + mu ks (x - (n + m))
structure Rw (N : Int) (ns : List Int) : Prop where
  len : (ns.length : Int) = N
  sg : Sg N (mu ns)
theorem cs_sg {n m k : Int} {ns ks : List Int} (hn : 0 ≤ n) (hm : 0 ≤ m) (hk : 0 ≤ k) (A : Rw (n + m) ns) (B : Rw (m + k) ks) : Sg (n + m + (m + k)) (cs n m ns ks) := by
  refine ⟨fun x h0 h1 => ?_, fun x h0 h1 => ?_, fun x h0 h1 => ?_⟩
  · unfold cs
    by_cases c : x < n + m
    · rw [if_pos c]; have := A.sg.into x h0 c; omega
    · rw [if_neg c]; have := B.sg.into (x - (n + m)) (by omega) (by omega); omega
  · unfold cs
    by_cases c : x < n + m
    · rw [if_pos c]; exact A.sg.ne x h0 c
    · rw [if_neg c]; have := B.sg.ne (x - (n + m)) (by omega) (by omega); omega
  · unfold cs
    by_cases c : x < n + m
    · rw [if_pos c, if_pos (A.sg.into x h0 c).2]; exact A.sg.inv x h0 c
    · rw [if_neg c]
      have a := B.sg.into (x - (n + m)) (by omega) (by omega)
      have b := B.sg.inv (x - (n + m)) (by omega) (by omega)
      rw [if_neg (by omega), show n + m + mu ks (x - (n + m)) - (n + m) = mu ks (x - (n + m)) by omega, b]; omega
structure Ends (n m : Int) (s : Int → Int) (x : Int) (J : Nat) : Prop where
  go : ∀ j < J, ¬ outer n m (wlk n m s x j) ∧ ps n m (wlk n m s x j) ≠ ps n m x
  stop : outer n m (wlk n m s x J) ∨ ps n m (wlk n m s x J) = ps n m x
theorem Ends.at {n m : Int} {s : Int → Int} {x : Int} {J j : Nat} (E : Ends n m s x J) (hj : j ≤ J) (h : outer n m (wlk n m s x j) ∨ ps n m (wlk n m s x j) = ps n m x) : j = J := by
  rcases Nat.lt_or_eq_of_le hj with c | c
  · have := E.go j c
    rcases h with z | z
    · exact absurd z this.1
    · exact absurd z this.2
  · exact c
structure Two (n m k : Int) (ns ks : List Int) : Prop where
  n0 : 0 ≤ n
  m0 : 0 ≤ m
  k0 : 0 ≤ k
  n1 : n ≤ 1000
  m1 : m ≤ 16
  k1 : k ≤ 1000
  A : Rw (n + m) ns
  B : Rw (m + k) ks
end JJ
namespace JJ
open PySem PP L2 MM
section
variable {n m k : Int} {ns ks : List Int} (W : Two n m k ns ks)
include W
theorem Two.sg : Sg (n + m + (m + k)) (cs n m ns ks) := cs_sg W.n0 W.m0 W.k0 W.A W.B
end
def outs (n m k : Int) : List Int := ((List.range n.toNat).map fun i => 0 + ((i : Nat) : Int)) ++ (List.range k.toNat).map fun i => n + 2 * m + ((i : Nat) : Int)
theorem outs_len {n m k : Int} (hn : 0 ≤ n) (hk : 0 ≤ k) : ((outs n m k).length : Int) = n + k := by
  unfold outs
  rw [List.length_append, List.length_map, List.length_map, List.length_range, List.length_range]; omega
def bk (n m z : Int) : Int := if z < n then z else z - 2 * m
def jn (n m k : Int) (ns ks : List Int) : List Int := (outs n m k).map fun x => bk n m (El n m (cs n m ns ks) (down m.toNat) x)
def Has (kvs : List (Key × PyData)) (P : Int → Prop) : Prop := ∀ z, (valD kvs (.inl z)).isSome = true ↔ P z
theorem Has.put {kvs : List (Key × PyData)} {P P' : Int → Prop} {x : Int} {v : PyData} (h : Has kvs P) (e : ∀ z, P' z ↔ P z ∨ z = x) : Has (putD kvs (.inl x) v) P' := fun z => by
  rw [valD_put, e]
  by_cases c : x = z
  · subst c; simp
  · rw [if_neg (fun q => c (by cases q; rfl)), h z]
    constructor
    · exact .inl
    · rintro (q | q)
      · exact q
      · exact absurd q.symm c
theorem map_at {α β : Type} {f : α → β} {l : List α} {i : Nat} {y : β} (h : (l.map f)[i]? = some y) : ∃ x, l[i]? = some x ∧ y = f x := by
  rw [List.getElem?_map] at h
  cases e : l[i]? with
  | none => rw [e] at h; cases h
  | some x => rw [e] at h; cases h; exact ⟨x, rfl, rfl⟩
end JJ
namespace JJ
open PySem PP L2 MM
structure M3 where
  n : Int
  m : Int
  ns : List Int
def matT (a : M3) : PyData := matD a.n a.m a.ns
structure Sm (a : M3) : Prop where
  n0 : 0 ≤ a.n
  m0 : 0 ≤ a.m
  n1 : a.n ≤ 16
  m1 : a.m ≤ 16
  R : Rw (a.n + a.m) a.ns
theorem rw_of {u d : Int} {ns : List Int} (h : isMatB u d ns = true) : Rw (u + d) ns ∧ 0 ≤ u ∧ 0 ≤ d := by
  unfold isMatB at h
  simp only [Bool.and_eq_true, Bool.not_eq_true', Bool.or_eq_false_iff, decide_eq_false_iff_not, Bool.not_eq_false', decide_eq_true_eq] at h
  obtain ⟨⟨h1, h2, h3, h4⟩, h5, _⟩ := h
  have g := matesOk_iff.mp h5
  have at_ : ∀ x, 0 ≤ x → x < u + d → 0 ≤ mu ns x ∧ mu ns x < u + d ∧ mu ns x ≠ x ∧ mu ns (mu ns x) = x := fun x a b => by
    have z := matesAt_iff.mp (g x.toNat (by omega))
    rw [show ((x.toNat : Nat) : Int) = x by omega, h4] at z
    exact ⟨z.1, z.2.1, z.2.2.1, z.2.2.2⟩
  exact ⟨⟨h4, ⟨fun x a b => ⟨(at_ x a b).1, (at_ x a b).2.1⟩, fun x a b => (at_ x a b).2.2.1, fun x a b => (at_ x a b).2.2.2⟩⟩, by omega, by omega⟩
theorem Sm.two {a b : M3} (A : Sm a) (B : Sm b) (e : a.m = b.n) : Two a.n a.m b.m a.ns b.ns := ⟨A.n0, A.m0, B.m0, by have := A.n1; omega, A.m1, by have := B.m1; omega, A.R, by rw [e]; exact B.R⟩
def rg2 (a b : M3) : Int := rgs a.n a.m (cs a.n a.m a.ns b.ns) a.m.toNat
def jn2 (a b : M3) : M3 := ⟨a.n, b.m, jn a.n a.m b.m a.ns b.ns⟩
theorem bk_in {n m k z : Int} (hn : 0 ≤ n) (hk : 0 ≤ k) (h0 : 0 ≤ z) (h1 : z < n + m + (m + k)) (hm : 0 ≤ m) (ho : outer n m z) : 0 ≤ bk n m z ∧ bk n m z < n + k := by
  unfold outer at ho
  unfold bk
  split <;> omega
theorem outs_at {n m k y : Int} (hn : 0 ≤ n) (hk : 0 ≤ k) (h0 : 0 ≤ y) (h1 : y < n + k) : (outs n m k).getD y.toNat 0 = if y < n then y else y + 2 * m := by
  unfold outs
  rw [List.getD_eq_getElem?_getD]
  by_cases c : y < n
  · rw [if_pos c, List.getElem?_append_left (by rw [List.length_map, List.length_range]; omega), List.getElem?_map, List.getElem?_range (by omega)]
    simp; omega
  · rw [if_neg c, List.getElem?_append_right (by rw [List.length_map, List.length_range]; omega), List.length_map, List.length_range, List.getElem?_map, List.getElem?_range (by omega)]
    simp; omega
theorem jn_at {n m k : Int} {ns ks : List Int} (hn : 0 ≤ n) (hk : 0 ≤ k) {y : Int} (h0 : 0 ≤ y) (h1 : y < n + k) : mu (jn n m k ns ks) y = bk n m (El n m (cs n m ns ks) (down m.toNat) (if y < n then y else y + 2 * m)) := by
  have l := outs_len (n := n) (m := m) (k := k) hn hk
  rw [← outs_at (m := m) hn hk h0 h1]
  unfold mu jn
  rw [List.getD_eq_getElem?_getD, List.getElem?_map, List.getElem?_eq_getElem (by omega), Option.map_some, Option.getD_some, List.getD_eq_getElem?_getD, List.getElem?_eq_getElem (by omega), Option.getD_some]
theorem jn_rw {n m k : Int} {ns ks : List Int} (W : Two n m k ns ks) : Rw (n + k) (jn n m k ns ks) := by
  have n0 := W.n0
  have m0 := W.m0
  have k0 := W.k0
  have l := outs_len (n := n) (m := m) (k := k) n0 k0
  have ll : ((jn n m k ns ks).length : Int) = n + k := by unfold jn; rw [List.length_map]; exact l
  have pt : ∀ y, 0 ≤ y → y < n + k → 0 ≤ (if y < n then y else y + 2 * m) ∧ (if y < n then y else y + 2 * m) < n + m + (m + k) ∧ outer n m (if y < n then y else y + 2 * m) := fun y a b => by
    unfold outer; split <;> omega
  have el : ∀ x, 0 ≤ x → x < n + m + (m + k) → outer n m x → 0 ≤ El n m (cs n m ns ks) (down m.toNat) x ∧ El n m (cs n m ns ks) (down m.toNat) x < n + m + (m + k) ∧ outer n m (El n m (cs n m ns ks) (down m.toNat) x) ∧ El n m (cs n m ns ks) (down m.toNat) x ≠ x ∧ El n m (cs n m ns ks) (down m.toNat) (El n m (cs n m ns ks) (down m.toNat) x) = x := fun x a b c => by
    have r := El_all n0 m0 (by omega) W.sg a b c
    obtain ⟨z1, z2, z3⟩ := El_inv n0 m0 (by omega) W.sg (down_ls (by omega)) x r
    exact ⟨z1.lo, z1.hi, rm_outer n0 m0 (by omega) z1, z2, z3⟩
  have px : ∀ y, (y < n ∧ (if y < n then y else y + 2 * m) = y) ∨ (n ≤ y ∧ (if y < n then y else y + 2 * m) = y + 2 * m) := fun y => by split <;> omega
  refine ⟨ll, ⟨fun y a b => ?_, fun y a b => ?_, fun y a b => ?_⟩⟩
  · rw [jn_at n0 k0 a b]
    obtain ⟨p1, p2, p3⟩ := pt y a b
    obtain ⟨q1, q2, q3, _⟩ := el _ p1 p2 p3
    exact bk_in n0 k0 q1 q2 m0 q3
  · rw [jn_at n0 k0 a b]
    obtain ⟨p1, p2, p3⟩ := pt y a b
    obtain ⟨q1, q2, q3, q4, _⟩ := el _ p1 p2 p3
    have hx := px y
    generalize (if y < n then y else y + 2 * m) = x at *
    generalize El n m (cs n m ns ks) (down m.toNat) x = z at *
    intro e
    apply q4
    unfold bk at e
    unfold outer at q3
    split at e <;> omega
  · obtain ⟨p1, p2, p3⟩ := pt y a b
    obtain ⟨q1, q2, q3, q4, q5⟩ := el _ p1 p2 p3
    have i := bk_in (k := k) n0 k0 q1 q2 m0 q3
    rw [jn_at n0 k0 a b, jn_at n0 k0 i.1 i.2]
    have hx := px y
    have hw := px (bk n m (El n m (cs n m ns ks) (down m.toNat) (if y < n then y else y + 2 * m)))
    generalize (if y < n then y else y + 2 * m) = x at *
    generalize hz : El n m (cs n m ns ks) (down m.toNat) x = z at *
    have e : (if bk n m z < n then bk n m z else bk n m z + 2 * m) = z := by
      generalize (if bk n m z < n then bk n m z else bk n m z + 2 * m) = v at *
      unfold bk at hw
      unfold outer at q3
      split at hw <;> omega
    rw [e, q5]
    unfold bk
    unfold outer at p3
    split <;> omega
theorem Sm.jn {a b : M3} (A : Sm a) (B : Sm b) (e : a.m = b.n) : Sm (jn2 a b) := ⟨A.n0, B.m0, A.n1, B.m1, jn_rw (A.two B e)⟩
structure Chain (l : List M3) : Prop where
  sm : ∀ a ∈ l, Sm a
  go : ∀ (i : Nat) (a b : M3), l[i]? = some a → l[i + 1]? = some b → a.m = b.n
theorem cut_one {a : M3} {l : List M3} : cutD ((a :: l).map matT) (some 1) none = l.map matT := by
  rw [List.map_cons]
  generalize l.map matT = t
  unfold cutD HT.sIx
  simp
end JJ
namespace JJ
open PySem PP L2 MM
theorem inl_ne {x y : Int} (h : x ≠ y) : (Sum.inl x : Key) ≠ .inl y := fun z => h (by cases z; rfl)
theorem rm_next {n m N : Int} {i : Nat} {x : Int} (h : Rm n m N (down (i + 1)) x) : Rm n m N (down i) x ∧ x ≠ n + i ∧ x ≠ n + m + i :=
  ⟨⟨h.lo, h.hi, fun j hj => h.far j (List.mem_cons_of_mem _ hj)⟩, h.far _ List.mem_cons_self⟩
def Told (n m N : Int) (s : Int → Int) (i : Nat) (kvs : List (Key × PyData)) : Prop := ∀ x, Rm n m N (down i) x → valD kvs (.inl x) = some (.int (El n m s (down i) x))
theorem Told.drop {n m N : Int} {s : Int → Int} {i : Nat} {kvs : List (Key × PyData)} (h : Told n m N s i kvs) {x : Int} (r : Rm n m N (down (i + 1)) x) : valD (dropD (dropD kvs (.inl (n + i))) (.inl (n + m + i))) (.inl x) = some (.int (El n m s (down i) x)) := by
  obtain ⟨r1, r2, r3⟩ := rm_next r
  rw [valD_drop, if_neg (inl_ne (Ne.symm r3)), valD_drop, if_neg (inl_ne (Ne.symm r2))]
  exact h x r1
theorem rgs_yes {n m : Int} {s : Int → Int} {i : Nat} (h : El n m s (down i) (n + (i : Int)) = n + m + (i : Int)) : rgs n m s (i + 1) = rgs n m s i + 1 := by
  show rgs n m s i + (if _ then 1 else 0) = _
  rw [if_pos h]
theorem rgs_no {n m : Int} {s : Int → Int} {i : Nat} (h : El n m s (down i) (n + (i : Int)) ≠ n + m + (i : Int)) : rgs n m s (i + 1) = rgs n m s i := by
  show rgs n m s i + (if _ then 1 else 0) = _
  rw [if_neg h, Int.add_zero]
theorem rm_mid {n m N : Int} (hn : 0 ≤ n) (hm : 0 ≤ m) (hN : n + 2 * m ≤ N) {i : Nat} (h : (i : Int) < m) : Rm n m N (down i) (n + i) ∧ Rm n m N (down i) (n + m + i) :=
  ⟨⟨by omega, by omega, fun j hj => by have := down_mem.mp hj; omega⟩, ⟨by omega, by omega, fun j hj => by have := down_mem.mp hj; omega⟩⟩
end JJ
namespace JJ
open PySem PP L2 MM
structure Dr (u d : Int) (i : Nat) (ws : List Int) (fs : List (Int × Int)) (ns : List Int) : Prop where
  go : ∀ more, Match (ws ++ (ringI u d).drop i) more → Match (ringI u d) (fs ++ more)
  nd : (ws ++ (ringI u d).drop i).Nodup
  rg : ∀ x ∈ ws, 0 ≤ x ∧ x < u + d
  far : ∀ p ∈ fs, 0 ≤ p.1 ∧ 0 ≤ p.2 ∧ p.1 ∉ ws ++ (ringI u d).drop i ∧ p.2 ∉ ws ++ (ringI u d).drop i
  row : Row fs ns
  len : (ns.length : Int) = u + d
  sm : (ws.length : Int) ≤ u + d - i
  par : ((ws.length : Int) + (u + d - i)) % 2 = 0
theorem drop_at {R : List Int} {i : Nat} {p : Int} (h : R[i]? = some p) : R.drop i = p :: R.drop (i + 1) := by
  obtain ⟨h1, h2⟩ := List.getElem?_eq_some_iff.mp h
  rw [List.drop_eq_getElem_cons h1, h2]
section
variable {u d : Int} {i : Nat} {ws : List Int} {fs : List (Int × Int)} {ns : List Int} (hu : 0 ≤ u) (hd : 0 ≤ d)
include hu hd
theorem Dr.start (he : (u + d) % 2 = 0) : Dr u d 0 [] [] (List.replicate (u + d).toNat 0) :=
  ⟨fun more h => h, ringI_nodup hu hd, fun x hx => (by cases hx), fun p hp => (by cases hp), row_nil, by rw [List.length_replicate]; omega, by simp; omega, by simpa using he⟩
theorem Dr.op {p : Int} (h : Dr u d i ws fs ns) (hp : (ringI u d)[i]? = some p) (hl : (ws.length : Int) < u + d - i) : Dr u d (i + 1) (ws ++ [p]) fs ns := by
  have e : (ws ++ [p]) ++ (ringI u d).drop (i + 1) = ws ++ (ringI u d).drop i := by rw [drop_at hp, List.append_assoc]; rfl
  have hpm := (ringI_mem hu hd).mp (List.mem_of_getElem? hp)
  have par := h.par
  refine ⟨by rw [e]; exact h.go, by rw [e]; exact h.nd, fun x hx => ?_, by rw [e]; exact h.far, h.row, h.len, ?_, ?_⟩
  · rcases List.mem_append.mp hx with c | c
    · exact h.rg x c
    · rw [List.mem_singleton.mp c]; exact hpm
  · rw [List.length_append, List.length_singleton]; omega
  · rw [List.length_append, List.length_singleton]; omega
theorem Dr.sh {p a : Int} (h : Dr u d i (ws ++ [a]) fs ns) (hp : (ringI u d)[i]? = some p) : Dr u d (i + 1) ws (fs ++ [(a, p)]) ((ns.set a.toNat p).set p.toNat a) := by
  have e : (ws ++ [a]) ++ (ringI u d).drop i = ws ++ a :: p :: (ringI u d).drop (i + 1) := by rw [drop_at hp, List.append_assoc]; rfl
  have hpm := (ringI_mem hu hd).mp (List.mem_of_getElem? hp)
  have ham := h.rg a (List.mem_append_right _ List.mem_cons_self)
  have par := h.par
  have sm := h.sm
  have len := h.len
  rw [List.length_append, List.length_singleton] at par sm
  have nd := h.nd
  rw [e] at nd
  have nd2 : (a :: p :: (ws ++ (ringI u d).drop (i + 1))).Nodup := by
    have pm : List.Perm (ws ++ a :: p :: (ringI u d).drop (i + 1)) (a :: p :: (ws ++ (ringI u d).drop (i + 1))) :=
      List.perm_middle.trans (List.Perm.cons _ List.perm_middle)
    exact pm.nodup_iff.mp nd
  rw [List.nodup_cons, List.nodup_cons] at nd2
  obtain ⟨n1, n2, n3⟩ := nd2
  have nap : a ≠ p := fun z => n1 (by rw [z]; exact List.mem_cons_self)
  have na : a ∉ ws ++ (ringI u d).drop (i + 1) := fun z => n1 (List.mem_cons_of_mem _ z)
  have sub : ∀ x, x ∈ ws ++ (ringI u d).drop (i + 1) → x ∈ (ws ++ [a]) ++ (ringI u d).drop i := fun x hx => by
    rw [e]
    rcases List.mem_append.mp hx with c | c
    · exact List.mem_append_left _ c
    · exact List.mem_append_right _ (List.mem_cons_of_mem _ (List.mem_cons_of_mem _ c))
  have am : a ∈ (ws ++ [a]) ++ (ringI u d).drop i := by rw [e]; exact List.mem_append_right _ List.mem_cons_self
  have pm2 : p ∈ (ws ++ [a]) ++ (ringI u d).drop i := by rw [e]; exact List.mem_append_right _ (List.mem_cons_of_mem _ List.mem_cons_self)
  refine ⟨fun more hm => ?_, n3, fun x hx => h.rg x (List.mem_append_left _ hx), fun q hq => ?_, ?_, by rw [List.length_set, List.length_set]; exact len, by omega, by omega⟩
  · rw [List.append_assoc]
    refine h.go _ ?_
    rw [e]
    exact Match.put nd hm
  · rcases List.mem_append.mp hq with c | c
    · obtain ⟨f1, f2, f3, f4⟩ := h.far q c
      exact ⟨f1, f2, fun z => f3 (sub _ z), fun z => f4 (sub _ z)⟩
    · rw [List.mem_singleton.mp c]; exact ⟨ham.1, hpm.1, na, n2⟩
  · refine row_put ham.1 (by omega) hpm.1 (by omega) nap (fun q hq => ?_) h.row
    obtain ⟨f1, f2, f3, f4⟩ := h.far q hq
    exact ⟨f1, f2, fun z => f3 (by rw [z]; exact am), fun z => f3 (by rw [z]; exact pm2), fun z => f4 (by rw [z]; exact am), fun z => f4 (by rw [z]; exact pm2)⟩
theorem Dr.done (h : Dr u d (u + d).toNat ws fs ns) (h0 : 0 < u + d) : isMatB u d ns = true := by
  have sm := h.sm
  have e : ws = [] := List.length_eq_zero_iff.mp (by omega)
  subst e
  have l := ringI_len hu hd
  have e2 : (ringI u d).drop (u + d).toNat = [] := List.drop_eq_nil_of_le (by omega)
  have M := h.go [] (by rw [e2]; exact match_nil)
  rw [List.append_nil] at M
  exact match_isMat hu hd h0 h.len M h.row
end
theorem eqv_nil {xs : List PyData} : PyData.eqv (.list xs) (.list []) = xs.isEmpty := by
  cases xs <;> rfl
end JJ
namespace JJ
open PySem PySem.Spec PyProof.Rows PP L2 MM
inductive Dl : Nat → PyData → Prop
  | sc {n : Nat} {d : PyData} : isSc d = true → d.canLay0 = true → d.depth ≤ 64 → Dl n d
  | lst {n : Nat} {xs : List PyData} : xs.length ≤ 100000 → (∀ x ∈ xs, Dl n x) → Dl (n + 1) (.list xs)
  | tup {n : Nat} {xs : List PyData} : xs.length ≤ 100000 → (∀ x ∈ xs, Dl n x) → Dl (n + 1) (.tuple xs)
theorem Dl.dq {n : Nat} {d : PyData} (h : Dl n d) : Dq n d := by
  induction h with
  | sc a b c => exact .sc a b c
  | lst _ _ ih => exact .lst ih
  | tup _ _ ih => exact .tup ih
theorem dl_seq {n : Nat} {d : PyData} (h : Dl n d) (g : (isT "list" d || isT "tuple" d) = true) : ∃ j xs, n = j + 1 ∧ (d = .list xs ∨ d = .tuple xs) ∧ xs.length ≤ 100000 ∧ ∀ x ∈ xs, Dl j x := by
  cases h with
  | sc h _ _ => cases d <;> first | (cases h; done) | (exfalso; simp only [isT, tyD] at g; revert g; decide +kernel)
  | lst l h => exact ⟨_, _, rfl, .inl rfl, l, h⟩
  | tup l h => exact ⟨_, _, rfl, .inr rfl, l, h⟩
theorem dl_int {n : Nat} {i : Int} : Dl n (.int i) := .sc rfl rfl (Nat.zero_le _)
theorem dq_refl {n : Nat} {d : PyData} (h0 : Dl n d) (g : (isT "list" d || isT "tuple" d) = false) : shp d ∧ PyData.eqv d d = true := by
  obtain ⟨h1, h2, h3⟩ := dq_sc h0.dq g
  exact ⟨Sd.shp (n := 64) ⟨h2, h3⟩, SeqAt.eqv_refl d h2⟩
theorem eqvB {b : Bool} : PyData.eqv (.bool b) (.bool b) = true := by cases b <;> rfl
theorem fnok_up {P : Program} {w : World} {K : PySem.W.Frag} {mg : Str → Option Value} {base : Heap} {CX : CXT} {k k' : Nat} {f : Addr} {fd : FuncData} {ps : List Str} {sp : Sp} (A : FnOk P w K mg base CX k f fd ps sp) (h : k ≤ k') : FnOk P w K mg base CX k' f fd ps sp :=
  ⟨A.len, fun Ar outer s H args us vs Q E hr he hb hv hs => A.run Ar outer s H args us vs Q E (hr.mono h) he hb hv hs⟩
theorem dl_mat {n : Nat} {a : M3} (h : a.ns.length ≤ 100000) : Dl (n + 2) (matT a) := .tup (by simp) (fun x hx => by
  rcases List.mem_cons.mp hx with rfl | hx
  · exact dl_int
  rcases List.mem_cons.mp hx with rfl | hx
  · exact dl_int
  rcases List.mem_cons.mp hx with rfl | hx
  · exact .tup (by rw [List.length_map]; exact h) fun y hy => by
      obtain ⟨z, _, rfl⟩ := List.mem_map.mp hy
      exact dl_int
  · cases hx)
theorem Sm.ln {a : M3} (h : Sm a) : a.ns.length ≤ 100000 := by
  have := h.R.len
  have := h.n1
  have := h.m1
  omega
end JJ
namespace JJ
open PySem PySem.Spec PP L2 MM
structure Md (a : M3) : Prop where
  S : Sm a
  B : isMatB a.n a.m a.ns = true
structure Sz (odd : Int) (ss : List Int) : Prop where
  in_ : ∀ s ∈ ss, 0 ≤ s ∧ s ≤ 14 + odd ∧ s % 2 = odd
  go : ∀ (j : Nat) (s t : Int), ss[j]? = some s → ss[j + 1]? = some t → 0 < s + t
theorem Sz.nil {odd : Int} : Sz odd [] := ⟨fun s h => (by cases h), fun j s t h => (by simp at h)⟩
theorem Sz.add {odd z : Int} {ss : List Int} (h : Sz odd ss) (h0 : 0 ≤ z) (h1 : z ≤ 14 + odd) (h2 : z % 2 = odd) (hl : ∀ s, ss[ss.length - 1]? = some s → 0 < s + z) : Sz odd (ss ++ [z]) := by
  refine ⟨fun s hs => ?_, fun j s t a b => ?_⟩
  · rcases List.mem_append.mp hs with c | c
    · exact h.in_ s c
    · rw [List.mem_singleton.mp c]; exact ⟨h0, h1, h2⟩
  · have lt := (List.getElem?_eq_some_iff.mp b).1
    rw [List.length_append, List.length_singleton] at lt
    rw [List.getElem?_append_left (by omega)] at a
    by_cases c : j + 1 < ss.length
    · rw [List.getElem?_append_left c] at b
      exact h.go j s t a b
    · rw [List.getElem?_append_right (by omega)] at b
      have e : j + 1 - ss.length = 0 := by omega
      rw [e] at b
      cases b
      exact hl s (by rw [show ss.length - 1 = j by omega]; exact a)
theorem Chain.init {a z : M3} {l : List M3} (h : Chain (a :: (l ++ [z]))) : Chain (a :: l) := by
  have e : a :: (l ++ [z]) = (a :: l) ++ [z] := rfl
  rw [e] at h
  refine ⟨fun x hx => h.sm x (List.mem_append_left _ hx), fun i x y hx hy => h.go i x y ?_ ?_⟩
  · rw [List.getElem?_append_left (List.getElem?_eq_some_iff.mp hx).1]; exact hx
  · rw [List.getElem?_append_left (List.getElem?_eq_some_iff.mp hy).1]; exact hy
structure Sq (z : Int) (l : List M3) : Prop where
  md : ∀ x ∈ l, Md x
  n : ∀ x ∈ l, x.n = z ∧ x.m = z
theorem Sq.rev {z : Int} {l : List M3} (h : Sq z l) : Sq z l.reverse := ⟨fun x hx => h.md x (List.mem_reverse.mp hx), fun x hx => h.n x (List.mem_reverse.mp hx)⟩
end JJ
namespace JJ
open PySem PP L2 MM
def E1 (s : Int → Int) (p q x : Int) : Int := if s p = q then s x else if x = s p then s q else if x = s q then s p else s x
def r1 (s : Int → Int) (p q : Int) : Int := if s p = q then 1 else 0
structure Iv (D : Int → Prop) (s : Int → Int) : Prop where
  into : ∀ x, D x → D (s x)
  ne : ∀ x, D x → s x ≠ x
  inv : ∀ x, D x → s (s x) = x
def Off (D : Int → Prop) (l : List (Int × Int)) (x : Int) : Prop := D x ∧ x ∉ ends l
theorem ends_cons {p : Int × Int} {l : List (Int × Int)} : ends (p :: l) = p.1 :: p.2 :: ends l := by
  unfold ends; rw [List.flatMap_cons]; rfl
structure Ap (D : Int → Prop) (l : List (Int × Int)) : Prop where
  nd : (ends l).Nodup
  in_ : ∀ x ∈ ends l, D x
theorem Ap.tl {D : Int → Prop} {p : Int × Int} {l : List (Int × Int)} (h : Ap D (p :: l)) : Ap D l ∧ Off D l p.1 ∧ Off D l p.2 ∧ p.1 ≠ p.2 := by
  obtain ⟨nd, i⟩ := h
  rw [ends_cons, List.nodup_cons, List.nodup_cons] at nd
  rw [ends_cons] at i
  refine ⟨⟨nd.2.2, fun x hx => i x (List.mem_cons_of_mem _ (List.mem_cons_of_mem _ hx))⟩, ⟨i _ List.mem_cons_self, fun z => nd.1 (List.mem_cons_of_mem _ z)⟩, ⟨i _ (List.mem_cons_of_mem _ List.mem_cons_self), nd.2.1⟩, fun z => nd.1 (by rw [z]; exact List.mem_cons_self)⟩
section
variable {n m k : Int} {ns ks : List Int} (n0 : 0 ≤ n) (m0 : 0 ≤ m) (k0 : 0 ≤ k) (A : Rw (n + m) ns) (B : Rw (m + k) ks)
include n0 m0 k0 A B
theorem El_out {x : Int} (a : 0 ≤ x) (b : x < n + m + (m + k)) (c : outer n m x) : 0 ≤ El n m (cs n m ns ks) (down m.toNat) x ∧ El n m (cs n m ns ks) (down m.toNat) x < n + m + (m + k) ∧ El n m (cs n m ns ks) (down m.toNat) x ≠ x ∧ outer n m (El n m (cs n m ns ks) (down m.toNat) x) := by
  have S := cs_sg n0 m0 k0 A B
  have r := El_all n0 m0 (by omega) S a b c
  obtain ⟨z1, z2, z3⟩ := El_inv n0 m0 (by omega) S (down_ls (by omega)) x r
  exact ⟨z1.lo, z1.hi, z2, rm_outer n0 m0 (by omega) z1⟩
end
end JJ
namespace JJ
open PySem PP L2 MM
section
variable {n m k r : Int} {ns ks rs : List Int} (n0 : 0 ≤ n) (m0 : 0 ≤ m) (k0 : 0 ≤ k) (r0 : 0 ≤ r) (A : Rw (n + m) ns) (B : Rw (m + k) ks) (C : Rw (k + r) rs)
def big (n m k : Int) (ns ks rs : List Int) (x : Int) : Int := if x < n + m then mu ns x else if x < n + m + (m + k) then n + m + mu ks (x - (n + m)) else n + m + (m + k) + mu rs (x - (n + m + (m + k)))
include n0 m0 k0 r0 A B C
end
end JJ
namespace JJ
open PySem PP L2 MM
section
variable {n i : Int} {ns hs : List Int} (i0 : 0 ≤ i) (i1 : i < n - 1) (A : Rw (n + n) ns) (H : Rw (n + n) hs) (Q : Row (hookP n i) hs)
include i0 i1 A H Q
abbrev hN (n : Int) : Int := n + n + (n + n)
end
end JJ
namespace JJ
open PySem PP L2 MM
theorem row_ext {N : Int} {a b : List Int} (ha : (a.length : Int) = N) (hb : (b.length : Int) = N) (h : ∀ y, 0 ≤ y → y < N → mu a y = mu b y) : a = b := by
  apply List.ext_getElem?
  intro i
  by_cases hi : i < a.length
  · have key := h (i : Int) (by omega) (by omega)
    unfold mu at key
    rw [Int.toNat_natCast, List.getD_eq_getElem?_getD, List.getD_eq_getElem?_getD, List.getElem?_eq_getElem hi, List.getElem?_eq_getElem (by omega), Option.getD_some, Option.getD_some] at key
    rw [List.getElem?_eq_getElem hi, List.getElem?_eq_getElem (by omega), key]
  · rw [List.getElem?_eq_none (by omega), List.getElem?_eq_none (by omega)]
theorem mu_set {l : List Int} {j v y : Int} (j0 : 0 ≤ j) (j1 : j < l.length) (y0 : 0 ≤ y) : mu (l.set j.toNat v) y = if y = j then v else mu l y := by
  unfold mu
  rw [List.getD_eq_getElem?_getD, List.getD_eq_getElem?_getD]
  by_cases c : y = j
  · subst c; rw [if_pos rfl, List.getElem?_set_self (by omega)]; rfl
  · rw [if_neg c, List.getElem?_set_ne (by omega)]
end JJ
namespace JJ
open PySem PP L2 MM
theorem cut_to {ws : List Int} {k : Int} (h0 : 0 ≤ k) (h1 : k ≤ ws.length) : PP.cutD (ws.map .int) none (some k) = (ws.take k.toNat).map .int := by
  unfold PP.cutD HT.sIx
  dsimp only
  rw [List.length_map, if_neg (by omega), List.drop_zero, Nat.sub_zero, ← List.map_take, Nat.min_eq_left (by omega)]
theorem atI_last {ws : List Int} {z : Int} : atI ((ws ++ [z]).map PyData.int) (-1) = some (.int z) := by
  rw [atI_gdn (by omega) (by simp; omega)]
  congr 1
  rw [List.length_map, List.length_append, List.length_singleton, show (-1 + (((ws.length + 1 : Nat) : Int))).toNat = ws.length by omega, List.map_append, List.getD_eq_getElem?_getD, List.getElem?_append_right (by rw [List.length_map]; omega), List.length_map]
  simp
theorem Dl.up {n : Nat} {d : PyData} (h : Dl n d) : Dl (n + 1) d := by
  induction h with
  | sc a b c => exact .sc a b c
  | lst l _ ih => exact .lst l ih
  | tup l _ ih => exact .tup l ih
end JJ
namespace JJ
open PySem PP L2 MM
def Bw (a b y : Int) : Prop := (a < y ∧ y < b) ∨ (b < y ∧ y < a)
def Np (D : Int → Prop) (pos s : Int → Int) : Prop := ∀ x y, D x → D y → (Bw (pos x) (pos (s x)) (pos y) ↔ Bw (pos x) (pos (s x)) (pos (s y)))
theorem e1_np {D : Int → Prop} {pos s : Int → Int} (S : Iv D s) (inj : ∀ x y, D x → D y → pos x = pos y → x = y) (N : Np D pos s) {p q : Int} (dp : D p) (dq : D q) (pq : p ≠ q) (adj : ∀ z, D z → z ≠ p → z ≠ q → (pos z < pos p ↔ pos z < pos q)) : Np (fun x => D x ∧ x ≠ p ∧ x ≠ q) pos (E1 s p q) := by
  rintro x y ⟨dx, xp, xq⟩ ⟨dy, yp, yq⟩
  by_cases c : s p = q
  · have e : ∀ z, E1 s p q z = s z := fun z => by unfold E1; rw [if_pos c]
    rw [e, e]
    exact N x y dx dy
  · have da := S.into p dp
    have db := S.into q dq
    have ia := S.inv p dp
    have ib := S.inv q dq
    have nap := S.ne p dp
    have nbq := S.ne q dq
    have cb : s q ≠ p := fun z => c (by rw [← z, ib])
    have nab : s p ≠ s q := fun z => pq (by rw [← ia, z, ib])
    have val : ∀ z, D z → z ≠ p → z ≠ q → (z = s p ∧ E1 s p q z = s q) ∨ (z = s q ∧ E1 s p q z = s p) ∨ (z ≠ s p ∧ z ≠ s q ∧ E1 s p q z = s z ∧ s z ≠ p ∧ s z ≠ q ∧ s z ≠ s p ∧ s z ≠ s q) := fun z dz zp zq => by
      unfold E1
      rw [if_neg c]
      by_cases h1 : z = s p
      · rw [if_pos h1]; exact .inl ⟨h1, rfl⟩
      · rw [if_neg h1]
        by_cases h2 : z = s q
        · rw [if_pos h2]; exact .inr (.inl ⟨h2, rfl⟩)
        · rw [if_neg h2]
          have iz := S.inv z dz
          exact .inr (.inr ⟨h1, h2, rfl, fun w => h1 (by rw [← iz, w]), fun w => h2 (by rw [← iz, w]), fun w => zp (by rw [← iz, w, ia]), fun w => zq (by rw [← iz, w, ib])⟩)
    have pne : ∀ u v, D u → D v → u ≠ v → pos u ≠ pos v := fun u v du dv h w => h (inj u v du dv w)
    have ada := adj _ da nap c
    have adb := adj _ db cb nbq
    have np := pne p q dp dq pq
    have n1 := pne _ _ da dp nap
    have n2 := pne _ _ da dq c
    have n3 := pne _ _ db dp cb
    have n4 := pne _ _ db dq nbq
    have n5 := pne _ _ da db nab
    rcases val x dx xp xq with ⟨ex, e1⟩ | ⟨ex, e1⟩ | ⟨x1, x2, e1, x3, x4, x5, x6⟩ <;> rcases val y dy yp yq with ⟨ey, e2⟩ | ⟨ey, e2⟩ | ⟨y1, y2, e2, y3, y4, y5, y6⟩ <;> rw [e1, e2]
    · subst ex; subst ey; unfold Bw; omega
    · subst ex; subst ey; unfold Bw; omega
    · subst ex
      have h1 := N p y dp dy
      have h2 := N q y dq dy
      have a1 := adj y dy yp yq
      have a2 := adj (s y) (S.into y dy) y3 y4
      have m1 := pne _ _ dy da y1
      have m2 := pne _ _ dy db y2
      have m3 := pne _ _ (S.into y dy) da y5
      have m4 := pne _ _ (S.into y dy) db y6
      have m5 := pne _ _ dy dp yp
      have m6 := pne _ _ dy dq yq
      have m7 := pne _ _ (S.into y dy) dp y3
      have m8 := pne _ _ (S.into y dy) dq y4
      unfold Bw at *
      omega
    · subst ex; subst ey; unfold Bw; omega
    · subst ex; subst ey; unfold Bw; omega
    · subst ex
      have h1 := N p y dp dy
      have h2 := N q y dq dy
      have a1 := adj y dy yp yq
      have a2 := adj (s y) (S.into y dy) y3 y4
      have m1 := pne _ _ dy da y1
      have m2 := pne _ _ dy db y2
      have m3 := pne _ _ (S.into y dy) da y5
      have m4 := pne _ _ (S.into y dy) db y6
      have m5 := pne _ _ dy dp yp
      have m6 := pne _ _ dy dq yq
      have m7 := pne _ _ (S.into y dy) dp y3
      have m8 := pne _ _ (S.into y dy) dq y4
      unfold Bw at *
      omega
    · subst ey
      have h1 := N x p dx dp
      have h2 := N x q dx dq
      have a1 := adj x dx xp xq
      have a2 := adj (s x) (S.into x dx) x3 x4
      have m1 := pne _ _ dx dp xp
      have m2 := pne _ _ dx dq xq
      have m3 := pne _ _ (S.into x dx) dp x3
      have m4 := pne _ _ (S.into x dx) dq x4
      unfold Bw at *
      omega
    · subst ey
      have h1 := N x p dx dp
      have h2 := N x q dx dq
      have a1 := adj x dx xp xq
      have a2 := adj (s x) (S.into x dx) x3 x4
      have m1 := pne _ _ dx dp xp
      have m2 := pne _ _ dx dq xq
      have m3 := pne _ _ (S.into x dx) dp x3
      have m4 := pne _ _ (S.into x dx) dq x4
      unfold Bw at *
      omega
    · exact N x y dx dy
end JJ
namespace JJ
open PySem PP L2 MM
def Nr (u d : Int) (ns : List Int) : Prop := Np (fun x => 0 ≤ x ∧ x < u + d) (MM.sg u d) (mu ns)
def pos2 (n m k x : Int) : Int := if x < n + m then MM.sg n m x else n + m + MM.sg m k (x - (n + m))
section
variable {n m k : Int} {ns ks : List Int} (n0 : 0 ≤ n) (m0 : 0 ≤ m) (k0 : 0 ≤ k) (A : Rw (n + m) ns) (B : Rw (m + k) ks) (NA : Nr n m ns) (NB : Nr m k ks)
include n0 m0 k0 A B NA NB
theorem np_cs : Np (fun x => 0 ≤ x ∧ x < n + m + (m + k)) (pos2 n m k) (cs n m ns ks) := by
  rintro x y ⟨x0, x1⟩ ⟨y0, y1⟩
  have sgA : ∀ z, 0 ≤ z → z < n + m → 0 ≤ MM.sg n m z ∧ MM.sg n m z < n + m := fun z a b => by unfold MM.sg; split <;> omega
  have sgB : ∀ z, 0 ≤ z → z < m + k → 0 ≤ MM.sg m k z ∧ MM.sg m k z < m + k := fun z a b => by unfold MM.sg; split <;> omega
  have vA : ∀ z, 0 ≤ z → z < n + m → pos2 n m k z = MM.sg n m z ∧ cs n m ns ks z = mu ns z ∧ pos2 n m k (mu ns z) = MM.sg n m (mu ns z) ∧ 0 ≤ mu ns z ∧ mu ns z < n + m := fun z a b => by
    have i := A.sg.into z a b
    unfold pos2 cs
    rw [if_pos b, if_pos b, if_pos i.2]
    exact ⟨rfl, rfl, rfl, i.1, i.2⟩
  have vB : ∀ z, n + m ≤ z → z < n + m + (m + k) → pos2 n m k z = n + m + MM.sg m k (z - (n + m)) ∧ pos2 n m k (cs n m ns ks z) = n + m + MM.sg m k (mu ks (z - (n + m))) ∧ 0 ≤ mu ks (z - (n + m)) ∧ mu ks (z - (n + m)) < m + k := fun z a b => by
    have i := B.sg.into (z - (n + m)) (by omega) (by omega)
    unfold pos2 cs
    rw [if_neg (by omega), if_neg (by omega), if_neg (by omega), show n + m + mu ks (z - (n + m)) - (n + m) = mu ks (z - (n + m)) by omega]
    exact ⟨rfl, rfl, i.1, i.2⟩
  by_cases cx : x < n + m <;> by_cases cy : y < n + m
  · obtain ⟨a1, a2, a3, a4, a5⟩ := vA x x0 cx
    obtain ⟨b1, b2, b3, b4, b5⟩ := vA y y0 cy
    rw [a1, a2, a3, b1, b2, b3]
    exact NA x y ⟨x0, cx⟩ ⟨y0, cy⟩
  · obtain ⟨a1, a2, a3, a4, a5⟩ := vA x x0 cx
    obtain ⟨b1, b2, b3, b4⟩ := vB y (by omega) y1
    have p1 := sgA x x0 cx
    have p2 := sgA _ a4 a5
    have p3 := sgB (y - (n + m)) (by omega) (by omega)
    have p4 := sgB _ b3 b4
    rw [a1, a2, a3, b1, b2]
    unfold Bw
    omega
  · obtain ⟨a1, a2, a3, a4⟩ := vB x (by omega) x1
    obtain ⟨b1, b2, b3, b4, b5⟩ := vA y y0 cy
    have p1 := sgB (x - (n + m)) (by omega) (by omega)
    have p2 := sgB _ a3 a4
    have p3 := sgA y y0 cy
    have p4 := sgA _ b4 b5
    rw [a1, a2, b1, b2, b3]
    unfold Bw
    omega
  · obtain ⟨a1, a2, a3, a4⟩ := vB x (by omega) x1
    obtain ⟨b1, b2, b3, b4⟩ := vB y (by omega) y1
    rw [a1, a2, b1, b2]
    have h := NB (x - (n + m)) (y - (n + m)) ⟨by omega, by omega⟩ ⟨by omega, by omega⟩
    unfold Bw at *
    omega
theorem pos2_inj {x y : Int} (x0 : 0 ≤ x) (x1 : x < n + m + (m + k)) (y0 : 0 ≤ y) (y1 : y < n + m + (m + k)) (h : pos2 n m k x = pos2 n m k y) : x = y := by
  unfold pos2 MM.sg at h
  split at h <;> split at h <;> (repeat' split at h) <;> omega
theorem np_down : ∀ i : Nat, (i : Int) ≤ m → Np (Rm n m (n + m + (m + k)) (down i)) (pos2 n m k) (El n m (cs n m ns ks) (down i))
  | 0, _ => fun x y hx hy => np_cs n0 m0 k0 A B NA NB x y ⟨hx.lo, hx.hi⟩ ⟨hy.lo, hy.hi⟩
  | i + 1, h => by
    have S := cs_sg n0 m0 k0 A B
    have ih := np_down i (by omega)
    have iv : Iv (Rm n m (n + m + (m + k)) (down i)) (El n m (cs n m ns ks) (down i)) := ⟨fun x hx => (El_inv n0 m0 (by omega) S (down_ls (by omega)) x hx).1, fun x hx => (El_inv n0 m0 (by omega) S (down_ls (by omega)) x hx).2.1, fun x hx => (El_inv n0 m0 (by omega) S (down_ls (by omega)) x hx).2.2⟩
    obtain ⟨r1, r2⟩ := rm_mid (n := n) (m := m) (N := n + m + (m + k)) n0 m0 (by omega) (i := i) (by omega)
    have e := e1_np (pos := pos2 n m k) iv (fun x y hx hy z => pos2_inj n0 m0 k0 A B NA NB hx.lo hx.hi hy.lo hy.hi z) ih r1 r2 (by omega) (fun z hz zp zq => by
      have f1 : ¬ (n ≤ z ∧ z < n + i) := fun w => (hz.far (z - n) (down_mem.mpr ⟨by omega, by omega⟩)).1 (by omega)
      have f2 : ¬ (n + m ≤ z ∧ z < n + m + i) := fun w => (hz.far (z - (n + m)) (down_mem.mpr ⟨by omega, by omega⟩)).2 (by omega)
      have lo := hz.lo
      have hi := hz.hi
      unfold pos2 MM.sg
      rw [if_pos (show n + (i : Int) < n + m by omega), if_neg (show ¬ n + (i : Int) < n by omega), if_neg (show ¬ n + m + (i : Int) < n + m by omega), if_pos (show n + m + (i : Int) - (n + m) < m by omega)]
      (repeat' split) <;> omega)
    have ef : El n m (cs n m ns ks) (down (i + 1)) = E1 (El n m (cs n m ns ks) (down i)) (n + i) (n + m + i) := rfl
    rw [ef]
    exact fun x y hx hy => e x y (rm_next hx) (rm_next hy)
theorem jn_nr : Nr n k (jn n m k ns ks) := by
  have S := cs_sg n0 m0 k0 A B
  have nd := np_down n0 m0 k0 A B NA NB m.toNat (by omega)
  rintro x y ⟨x0, x1⟩ ⟨y0, y1⟩
  have pt : ∀ z, 0 ≤ z → z < n + k → Rm n m (n + m + (m + k)) (down m.toNat) (if z < n then z else z + 2 * m) ∧ outer n m (if z < n then z else z + 2 * m) ∧ 0 ≤ (if z < n then z else z + 2 * m) ∧ (if z < n then z else z + 2 * m) < n + m + (m + k) := fun z a b => by
    have o : outer n m (if z < n then z else z + 2 * m) := by unfold outer; split <;> omega
    have c : 0 ≤ (if z < n then z else z + 2 * m) ∧ (if z < n then z else z + 2 * m) < n + m + (m + k) := by split <;> omega
    exact ⟨El_all n0 m0 (by omega) S c.1 c.2 o, o, c.1, c.2⟩
  have ps_ : ∀ z, 0 ≤ z → z < n + k → (MM.sg n k z < n ∧ pos2 n m k (if z < n then z else z + 2 * m) = MM.sg n k z) ∨ (n ≤ MM.sg n k z ∧ pos2 n m k (if z < n then z else z + 2 * m) = MM.sg n k z + 2 * m) := fun z a b => by
    unfold pos2 MM.sg
    by_cases c : z < n
    · rw [if_pos c, if_pos c, if_pos (by omega), if_pos c]; omega
    · rw [if_neg c, if_neg c, if_neg (by omega), if_neg (by omega)]; omega
  have im : ∀ z, 0 ≤ z → z < n + k → 0 ≤ mu (jn n m k ns ks) z ∧ mu (jn n m k ns ks) z < n + k ∧ El n m (cs n m ns ks) (down m.toNat) (if z < n then z else z + 2 * m) = (if mu (jn n m k ns ks) z < n then mu (jn n m k ns ks) z else mu (jn n m k ns ks) z + 2 * m) := fun z a b => by
    obtain ⟨_, o, c1, c2⟩ := pt z a b
    rw [jn_at n0 k0 a b]
    obtain ⟨q1, q2, _, q4⟩ := El_out n0 m0 k0 A B c1 c2 o
    have i := bk_in (k := k) n0 k0 q1 q2 m0 q4
    refine ⟨i.1, i.2, ?_⟩
    generalize El n m (cs n m ns ks) (down m.toNat) (if z < n then z else z + 2 * m) = w at *
    unfold outer at q4
    unfold bk
    (repeat' split) <;> omega
  obtain ⟨px, _⟩ := pt x x0 x1
  obtain ⟨py, _⟩ := pt y y0 y1
  have h := nd _ _ px py
  obtain ⟨ix0, ix1, ex⟩ := im x x0 x1
  obtain ⟨iy0, iy1, ey⟩ := im y y0 y1
  rw [ex, ey] at h
  have a1 := ps_ x x0 x1
  have a2 := ps_ _ ix0 ix1
  have a3 := ps_ y y0 y1
  have a4 := ps_ _ iy0 iy1
  generalize pos2 n m k (if x < n then x else x + 2 * m) = X1 at *
  generalize pos2 n m k (if mu (jn n m k ns ks) x < n then mu (jn n m k ns ks) x else mu (jn n m k ns ks) x + 2 * m) = X2 at *
  generalize pos2 n m k (if y < n then y else y + 2 * m) = Y1 at *
  generalize pos2 n m k (if mu (jn n m k ns ks) y < n then mu (jn n m k ns ks) y else mu (jn n m k ns ks) y + 2 * m) = Y2 at *
  unfold Bw at *
  omega
end
theorem nr_match {u d : Int} {prs : List (Int × Int)} {ns : List Int} (hu : 0 ≤ u) (hd : 0 ≤ d) (M : Match (ringI u d) prs) (W : Row prs ns) : Nr u d ns := by
  rintro x y ⟨x0, x1⟩ ⟨y0, y1⟩
  obtain ⟨p, hp, ep⟩ := mem_ends.mp ((M.mem x).mpr ((ringI_mem hu hd).mpr ⟨x0, x1⟩))
  obtain ⟨q, hq, eq⟩ := mem_ends.mp ((M.mem y).mpr ((ringI_mem hu hd).mpr ⟨y0, y1⟩))
  obtain ⟨w1, w2⟩ := W p hp
  obtain ⟨v1, v2⟩ := W q hq
  have h := M.sg hu hd hp hq
  have g : ∀ a b c : Int, Bw a b c ↔ (min a b < c ∧ c < max a b) := fun a b c => by unfold Bw; omega
  rw [g, g]
  rcases ep with rfl | rfl <;> rcases eq with rfl | rfl
  · rw [w1, v1]; exact h
  · rw [w1, v2]; exact h.symm
  · rw [w2, v1, Int.min_comm, Int.max_comm]; exact h
  · rw [w2, v2, Int.min_comm, Int.max_comm]; exact h.symm
end JJ
namespace JJ
open PySem PP L2 MM
def nrP (ns : List Int) (N : Nat) : List (Int × Int) := ((List.range N).filter fun x : Nat => decide ((x : Int) < mu ns x)).map fun x : Nat => ((x : Int), mu ns x)
theorem nrP_mem {ns : List Int} {N : Nat} {p : Int × Int} : p ∈ nrP ns N ↔ ∃ x : Nat, x < N ∧ (x : Int) < mu ns x ∧ p = ((x : Int), mu ns x) := by
  unfold nrP
  rw [List.mem_map]
  constructor
  · rintro ⟨x, hx, rfl⟩
    obtain ⟨h1, h2⟩ := List.mem_filter.mp hx
    exact ⟨x, List.mem_range.mp h1, of_decide_eq_true h2, rfl⟩
  · rintro ⟨x, h1, h2, rfl⟩
    exact ⟨x, List.mem_filter.mpr ⟨List.mem_range.mpr h1, decide_eq_true h2⟩, rfl⟩
theorem mat_of_nr {u d : Int} {ns : List Int} (hu : 0 ≤ u) (hd : 0 ≤ d) (h0 : 0 < u + d) (R : Rw (u + d) ns) (Nn : Nr u d ns) : isMatB u d ns = true ∧ ∃ prs, Is u d prs ns := by
  have sg := R.sg
  have W : Row (nrP ns (u + d).toNat) ns := fun p hp => by
    obtain ⟨x, hx, h, rfl⟩ := nrP_mem.mp hp
    exact ⟨rfl, sg.inv x (by omega) (by omega)⟩
  have mem : ∀ x, x ∈ ends (nrP ns (u + d).toNat) ↔ 0 ≤ x ∧ x < u + d := fun x => by
    rw [mem_ends]
    constructor
    · rintro ⟨p, hp, e⟩
      obtain ⟨y, hy, h, rfl⟩ := nrP_mem.mp hp
      have i := sg.into y (by omega) (by omega)
      rcases e with rfl | rfl
      · exact ⟨by dsimp only; omega, by dsimp only; omega⟩
      · exact i
    · rintro ⟨a, b⟩
      have i := sg.into x a b
      have ne := sg.ne x a b
      by_cases c : x < mu ns x
      · exact ⟨(x, mu ns x), nrP_mem.mpr ⟨x.toNat, by omega, by rw [show ((x.toNat : Nat) : Int) = x by omega]; exact c, by rw [show ((x.toNat : Nat) : Int) = x by omega]⟩, .inl rfl⟩
      · refine ⟨(mu ns x, x), nrP_mem.mpr ⟨(mu ns x).toNat, by omega, ?_, ?_⟩, .inr rfl⟩
        · rw [show (((mu ns x).toNat : Nat) : Int) = mu ns x by omega, sg.inv x a b]; omega
        · rw [show (((mu ns x).toNat : Nat) : Int) = mu ns x by omega, sg.inv x a b]
  have nd : (ends (nrP ns (u + d).toNat)).Nodup := by
    unfold ends List.Nodup
    rw [List.pairwise_flatMap]
    refine ⟨fun p hp => ?_, ?_⟩
    · obtain ⟨y, hy, h, rfl⟩ := nrP_mem.mp hp
      simp
      omega
    · unfold nrP
      rw [List.pairwise_map]
      have base : ((List.range (u + d).toNat).filter fun x : Nat => decide ((x : Int) < mu ns x)).Nodup := List.nodup_range.filter _
      refine List.Pairwise.imp_of_mem (fun {a b} ha hb hab => ?_) base
      obtain ⟨a1, a2⟩ := List.mem_filter.mp ha
      obtain ⟨b1, b2⟩ := List.mem_filter.mp hb
      have a1 := List.mem_range.mp a1
      have b1 := List.mem_range.mp b1
      have a2 := of_decide_eq_true a2
      have b2 := of_decide_eq_true b2
      have va := sg.inv a (by omega) (by omega)
      have vb := sg.inv b (by omega) (by omega)
      intro z h1 w h2 hzw
      subst hzw
      simp only [List.mem_cons, List.not_mem_nil, or_false] at h1 h2
      rcases h1 with h1 | h1 <;> rcases h2 with h2 | h2
      · omega
      · rw [← h2, h1] at vb; omega
      · rw [← h1, h2] at va; omega
      · rw [← h1, h2] at va; omega
  have M : Match (ringI u d) (nrP ns (u + d).toNat) := match_sg hu hd nd mem fun p hp q hq => by
    obtain ⟨x, hx, h, rfl⟩ := nrP_mem.mp hp
    obtain ⟨y, hy, h', rfl⟩ := nrP_mem.mp hq
    have e := Nn x y ⟨by omega, by omega⟩ ⟨by omega, by omega⟩
    have g : ∀ a b c : Int, Bw a b c ↔ (min a b < c ∧ c < max a b) := fun a b c => by unfold Bw; omega
    rw [g, g] at e
    exact e
  exact ⟨match_isMat hu hd h0 R.len M W, _, ⟨hu, hd, h0, R.len, M, W⟩⟩
theorem is_nr {u d : Int} {prs : List (Int × Int)} {ns : List Int} (h : Is u d prs ns) : Nr u d ns := nr_match h.hu h.hd h.M h.W
end JJ
namespace JJ
open PySem PySem.Spec PP L2 MM
theorem Md.nr {a : M3} (h : Md a) : Nr a.n a.m a.ns := is_nr (Is.own h.B)
theorem md_jn {a b : M3} (A : Md a) (B : Md b) (e : a.m = b.n) (h0 : 0 < a.n + b.m) : Md (jn2 a b) := by
  have S := A.S.jn B.S e
  have RB : Rw (a.m + b.m) b.ns := by rw [e]; exact B.S.R
  have NB : Nr a.m b.m b.ns := by rw [e]; exact B.nr
  exact ⟨S, (mat_of_nr A.S.n0 B.S.m0 h0 S.R (jn_nr A.S.n0 A.S.m0 B.S.m0 A.S.R RB A.nr NB)).1⟩
end JJ
namespace JJ
open PySem PySem.Spec PP L2 MM
abbrev sTwo : Str := "two"
abbrev sFar : Str := "far"
abbrev sNb : Str := "neighbours"
def absI (x : Int) : Int := if x < 0 then -x else x
def apt (ws : List Int) (i : Nat) : Int := absI (ws.getD i 0 - ws.getD (i + 1) 0)
structure Stp (ws : List Int) (k : Str) (i : Nat) : Prop where
  lt : i + 1 < ws.length
  h : (k = sTwo ∧ apt ws i = 0) ∨ (k = sFar ∧ 1 < apt ws i) ∨ (k = sNb ∧ apt ws i = 1 ∧ i + 2 < ws.length ∧ ws.getD (i + 2) 0 = ws.getD i 0)
theorem shp_str {k : Str} (h : (PyData.str k).canLay0 = true) : shp (.str k) := Sd.shp (n := 0) ⟨h, by simp [PyData.depth]⟩
theorem okTwo : (PyData.str sTwo).canLay0 = true := by decide +kernel
theorem okFar : (PyData.str sFar).canLay0 = true := by decide +kernel
theorem okNb : (PyData.str sNb).canLay0 = true := by decide +kernel
theorem Stp.ok {ws : List Int} {k : Str} {i : Nat} (S : Stp ws k i) : (PyData.str k).canLay0 = true := by
  rcases S.h with ⟨rfl, _⟩ | ⟨rfl, _⟩ | ⟨rfl, _⟩
  · exact okTwo
  · exact okFar
  · exact okNb
theorem Stp.shp {ws : List Int} {k : Str} {i : Nat} (S : Stp ws k i) : PP.shp (.str k) := shp_str S.ok
end JJ
namespace JJ
open PySem PySem.Spec PP L2 MM
open PySem.W (AllAlike Sortable dataLe dataLt alike)
theorem cut_toZ {ws : List Int} {k : Int} (h0 : 0 ≤ k) : PP.cutD (ws.map .int) none (some k) = (ws.take k.toNat).map .int := by
  by_cases h1 : k ≤ ws.length
  · exact cut_to h0 h1
  · unfold PP.cutD HT.sIx
    dsimp only
    rw [List.length_map, if_neg (by omega), List.drop_zero, Nat.sub_zero, ← List.map_take, Nat.min_eq_right (by omega), List.take_of_length_le (Nat.le_refl _), List.take_of_length_le (by omega)]
theorem dl_wordT {n : Nat} {ws : List Int} (h : ws.length ≤ 1000) : Dl (n + 1) (.tuple (ws.map .int)) := .tup (by rw [List.length_map]; omega) fun x hx => by
  obtain ⟨i, _, rfl⟩ := List.mem_map.mp hx
  exact dl_int
end JJ
namespace JJ
open PySem PySem.Spec PP L2 MM
theorem chain_app {u v : List M3} : Chain (u ++ v) ↔ Chain u ∧ Chain v ∧ ∀ x y, u[u.length - 1]? = some x → v[0]? = some y → x.m = y.n := by
  constructor
  · intro h
    refine ⟨⟨fun a ha => h.sm a (List.mem_append_left _ ha), fun i a b ha hb => h.go i a b ?_ ?_⟩, ⟨fun a ha => h.sm a (List.mem_append_right _ ha), fun i a b ha hb => h.go (u.length + i) a b ?_ ?_⟩, fun x y hx hy => h.go (u.length - 1) x y ?_ ?_⟩
    · rw [List.getElem?_append_left (List.getElem?_eq_some_iff.mp ha).1]; exact ha
    · rw [List.getElem?_append_left (List.getElem?_eq_some_iff.mp hb).1]; exact hb
    · rw [List.getElem?_append_right (by omega), Nat.add_sub_cancel_left]; exact ha
    · rw [Nat.add_assoc, List.getElem?_append_right (by omega), Nat.add_sub_cancel_left]; exact hb
    · rw [List.getElem?_append_left (List.getElem?_eq_some_iff.mp hx).1]; exact hx
    · have := (List.getElem?_eq_some_iff.mp hx).1
      rw [List.getElem?_append_right (by omega), show u.length - 1 + 1 - u.length = 0 by omega]; exact hy
  · rintro ⟨h1, h2, h3⟩
    refine ⟨fun a ha => (List.mem_append.mp ha).elim (h1.sm a) (h2.sm a), fun i a b ha hb => ?_⟩
    by_cases c1 : i + 1 < u.length
    · rw [List.getElem?_append_left (by omega)] at ha hb
      exact h1.go i a b ha hb
    · rw [List.getElem?_append_right (by omega)] at hb
      by_cases c2 : i < u.length
      · rw [List.getElem?_append_left c2] at ha
        rw [show i + 1 - u.length = 0 by omega] at hb
        exact h3 a b (by rw [show u.length - 1 = i by omega]; exact ha) hb
      · rw [List.getElem?_append_right (by omega)] at ha
        rw [show i + 1 - u.length = i - u.length + 1 by omega] at hb
        exact h2.go _ a b ha hb
structure Rg (l : List M3) : Prop where
  md : ∀ x ∈ l, Md x
  ch : Chain l
  ps : l.Pairwise fun x y => 0 < x.n + y.m
theorem Rg.app {u v : List M3} (h : Rg (u ++ v)) : Rg u ∧ Rg v := by
  obtain ⟨c1, c2, _⟩ := chain_app.mp h.ch
  obtain ⟨p1, p2, _⟩ := List.pairwise_append.mp h.ps
  exact ⟨⟨fun x hx => h.md x (List.mem_append_left _ hx), c1, p1⟩, ⟨fun x hx => h.md x (List.mem_append_right _ hx), c2, p2⟩⟩
theorem Rg.join {u v : List M3} {a b : M3} (h : Rg (u ++ a :: b :: v)) : Md a ∧ Md b ∧ a.m = b.n ∧ Md (jn2 a b) ∧ Rg (u ++ jn2 a b :: v) := by
  obtain ⟨c1, c2, c3⟩ := chain_app.mp h.ch
  have A := h.md a (List.mem_append_right _ List.mem_cons_self)
  have B := h.md b (List.mem_append_right _ (List.mem_cons_of_mem _ List.mem_cons_self))
  have e := c2.go 0 a b rfl rfl
  obtain ⟨p1, p2, p3⟩ := List.pairwise_append.mp h.ps
  obtain ⟨q1, q2⟩ := List.pairwise_cons.mp p2
  obtain ⟨q3, q4⟩ := List.pairwise_cons.mp q2
  have C := md_jn A B e (q1 b List.mem_cons_self)
  refine ⟨A, B, e, C, ⟨fun x hx => ?_, chain_app.mpr ⟨c1, ?_, fun x y hx hy => ?_⟩, List.pairwise_append.mpr ⟨p1, List.pairwise_cons.mpr ⟨fun y hy => q1 y (List.mem_cons_of_mem _ hy), q4⟩, fun x hx y hy => ?_⟩⟩⟩
  · rcases List.mem_append.mp hx with c | c
    · exact h.md x (List.mem_append_left _ c)
    · rcases List.mem_cons.mp c with rfl | c
      · exact C
      · exact h.md x (List.mem_append_right _ (List.mem_cons_of_mem _ (List.mem_cons_of_mem _ c)))
  · have e9 : a :: b :: v = [a, b] ++ v := rfl
    rw [e9] at c2
    obtain ⟨_, d2, d3⟩ := chain_app.mp c2
    have e8 : jn2 a b :: v = [jn2 a b] ++ v := rfl
    rw [e8]
    refine chain_app.mpr ⟨⟨fun x hx => by rw [List.mem_singleton.mp hx]; exact C.S, fun i x y _ hy => by simp at hy⟩, d2, fun x y hx hy => ?_⟩
    have e7 : some (jn2 a b) = some x := hx
    cases e7
    exact d3 b y rfl hy
  · have e7 : some (jn2 a b) = some y := hy
    cases e7
    exact c3 x a hx rfl
  · rcases List.mem_cons.mp hy with rfl | c
    · exact p3 x hx b (List.mem_cons_of_mem _ List.mem_cons_self)
    · exact p3 x hx y (List.mem_cons_of_mem _ (List.mem_cons_of_mem _ c))
structure Sz3 (odd : Int) (ss : List Int) : Prop where
  in_ : ∀ s ∈ ss, 0 ≤ s ∧ s ≤ 9 ∧ s % 2 = odd
  ps : ss.Pairwise fun s t => 0 < s + t
theorem Sz3.nil {odd : Int} : Sz3 odd [] := ⟨fun s h => (by cases h), List.Pairwise.nil⟩
theorem Sz3.add {odd z : Int} {ss : List Int} (h : Sz3 odd ss) (h0 : 0 ≤ z) (h1 : z ≤ 9) (h2 : z % 2 = odd) (hl : ∀ s ∈ ss, 0 < s + z) : Sz3 odd (ss ++ [z]) := by
  refine ⟨fun s hs => ?_, List.pairwise_append.mpr ⟨h.ps, List.pairwise_singleton .., fun x hx y hy => by rw [List.mem_singleton.mp hy]; exact hl x hx⟩⟩
  rcases List.mem_append.mp hs with c | c
  · exact h.in_ s c
  · rw [List.mem_singleton.mp c]; exact ⟨h0, h1, h2⟩
theorem Sz3.go {odd : Int} {ss : List Int} (h : Sz3 odd ss) {i : Nat} {s t : Int} (a : ss[i]? = some s) (b : ss[i + 1]? = some t) : 0 < s + t := by
  obtain ⟨ha, rfl⟩ := List.getElem?_eq_some_iff.mp a
  obtain ⟨hb, rfl⟩ := List.getElem?_eq_some_iff.mp b
  exact List.pairwise_iff_getElem.mp h.ps i (i + 1) ha hb (by omega)
end JJ
namespace JJ
open PySem PySem.Spec PP L2 MM
theorem sg_sg {u d x : Int} (h0 : 0 ≤ x) (h1 : x < u + d) : MM.sg u d (MM.sg u d x) = x := by unfold MM.sg; (repeat' split) <;> omega
theorem sg_in {u d x : Int} (hu : 0 ≤ u) (hd : 0 ≤ d) (h0 : 0 ≤ x) (h1 : x < u + d) : 0 ≤ MM.sg u d x ∧ MM.sg u d x < u + d := by unfold MM.sg; split <;> omega
def bd (u d a x : Int) : Int := MM.sg a (u + d - a) (MM.sg u d x)
section
variable {u d a : Int} (hu : 0 ≤ u) (hd : 0 ≤ d) (ha : 0 ≤ a) (hb : a ≤ u + d)
include hu hd ha hb
theorem bd_in {x : Int} (h0 : 0 ≤ x) (h1 : x < u + d) : 0 ≤ bd u d a x ∧ bd u d a x < u + d := by
  obtain ⟨b0, b1⟩ := sg_in hu hd h0 h1
  have := sg_in (u := a) (d := u + d - a) ha (by omega) b0 (by omega)
  unfold bd
  omega
theorem bd_back {x : Int} (h0 : 0 ≤ x) (h1 : x < u + d) : bd a (u + d - a) u (bd u d a x) = x := by
  obtain ⟨b0, b1⟩ := sg_in hu hd h0 h1
  unfold bd
  rw [sg_sg b0 (by omega), show a + (u + d - a) - u = d by omega, sg_sg h0 h1]
end
def bR (u d a : Int) (ns : List Int) : List Int := (List.range (u + d).toNat).map fun y : Nat => bd u d a (mu ns (bd a (u + d - a) u y))
theorem bR_len {u d a : Int} {ns : List Int} (h : 0 ≤ u + d) : ((bR u d a ns).length : Int) = u + d := by unfold bR; rw [List.length_map, List.length_range]; omega
theorem bR_at {u d a y : Int} {ns : List Int} (h0 : 0 ≤ y) (h1 : y < u + d) : mu (bR u d a ns) y = bd u d a (mu ns (bd a (u + d - a) u y)) := by
  unfold mu bR
  rw [List.getD_eq_getElem?_getD, List.getElem?_map, List.getElem?_range (by omega)]
  show bd u d a (ns.getD (bd a (u + d - a) u ((y.toNat : Nat) : Int)).toNat 0) = _
  rw [show ((y.toNat : Nat) : Int) = y by omega]
section
variable {u d a : Int} {ns ks : List Int} (hu : 0 ≤ u) (hd : 0 ≤ d) (ha : 0 ≤ a) (hb : a ≤ u + d)
include hu hd ha hb
theorem bR_uniq (hl : (ks.length : Int) = u + d) (h : ∀ x, 0 ≤ x → x < u + d → mu ks (bd u d a x) = bd u d a (mu ns x)) : ks = bR u d a ns := by
  refine row_ext hl (bR_len (by omega)) fun y y0 y1 => ?_
  have b := bd_in (u := a) (d := u + d - a) (a := u) ha (by omega) hu (by omega) y0 (by omega)
  have e := bd_back (u := a) (d := u + d - a) (a := u) ha (by omega) hu (by omega) y0 (by omega)
  rw [show a + (u + d - a) - u = d by omega] at e
  rw [bR_at y0 y1, ← h _ b.1 (by omega), e]
end
def plc (u d : Int) (ns : List Int) : List Int := (List.range (u + d).toNat).map fun i : Nat => MM.sg u d (mu ns (MM.sg u d i))
theorem plc_at {u d : Int} {ns : List Int} {i : Nat} (h : (i : Int) < u + d) : (plc u d ns).getD i 0 = MM.sg u d (mu ns (MM.sg u d i)) := by
  unfold plc
  rw [List.getD_eq_getElem?_getD, List.getElem?_map, List.getElem?_range (by omega)]
  rfl
def Ptd (u d a : Int) (ns ks : List Int) (i : Nat) : Prop := (ks.length : Int) = u + d ∧ ∀ j : Nat, j < i → mu ks (MM.sg a (u + d - a) j) = MM.sg a (u + d - a) ((plc u d ns).getD j 0)
section
variable {u d a : Int} {ns ks : List Int} (hu : 0 ≤ u) (hd : 0 ≤ d) (ha : 0 ≤ a) (hb : a ≤ u + d)
include hu hd ha hb
theorem Ptd.next {i : Nat} (h : Ptd u d a ns ks i) (hi : (i : Int) < u + d) : Ptd u d a ns (ks.set (MM.sg a (u + d - a) i).toNat (MM.sg a (u + d - a) ((plc u d ns).getD i 0))) (i + 1) := by
  obtain ⟨hl, hp⟩ := h
  have si := sg_in (u := a) (d := u + d - a) ha (by omega) (x := (i : Int)) (by omega) (by omega)
  refine ⟨by rw [List.length_set]; exact hl, fun j hj => ?_⟩
  have sj := sg_in (u := a) (d := u + d - a) ha (by omega) (x := (j : Int)) (by omega) (by omega)
  rw [mu_set si.1 (by omega) sj.1]
  by_cases c : j = i
  · subst c
    rw [if_pos rfl]
  · rw [if_neg (fun z => c ?_), hp j (by omega)]
    have e := congrArg (MM.sg a (u + d - a)) z
    rw [sg_sg (by omega) (by omega), sg_sg (by omega) (by omega)] at e
    omega
theorem Ptd.done (h : Ptd u d a ns ks (u + d).toNat) : ks = bR u d a ns := by
  obtain ⟨hl, hp⟩ := h
  refine bR_uniq hu hd ha hb hl fun x x0 x1 => ?_
  obtain ⟨b0, b1⟩ := sg_in hu hd x0 x1
  have e := hp (MM.sg u d x).toNat (by omega)
  rw [plc_at (by omega), show (((MM.sg u d x).toNat : Nat) : Int) = MM.sg u d x by omega, sg_sg x0 x1] at e
  exact e
end
end JJ
namespace JJ
open PySem PySem.Spec PP L2 MM
def WS (n : Nat) (xs : List PyData) : Prop := ∃ a b c : Int, xs = [.int a, .int b, .int c] ∧ 0 ≤ a ∧ Bd 2000000 a ∧ 0 ≤ b ∧ b < 2 ^ 130 ∧ 0 ≤ c ∧ c ≤ n
theorem WS.mono {n k : Nat} {xs : List PyData} (h : WS n xs) (l : n ≤ k) : WS k xs := by
  obtain ⟨a, b, c, e, h1, h2, h3, h4, h5, h6⟩ := h
  exact ⟨a, b, c, e, h1, h2, h3, h4, h5, by omega⟩
def spNext : FSp := fun pvs m q => ∃ (xs : List PyData) (n : Nat) (lim : Int), pvs = [.ref 0, .d (.int lim)] ∧ m = [some (.lst xs)] ∧ WS n xs ∧ n < 1000000000 ∧ 0 < lim ∧ lim < 2 ^ 140 ∧
  ∀ r xs', 0 ≤ r → r < lim → WS (n + 1) xs' → q (.d (.int r)) [some (.lst xs')]
theorem dlMat {u d : Int} {ns : List Int} (h : ns.length ≤ 100000) : Dl 3 (matD u d ns) := dl_mat (n := 1) (a := ⟨u, d, ns⟩) h
end JJ
namespace JJ
open PySem PySem.Spec PP L2
structure WO (n : Nat) (g : List Int) (a b c : Int) : Prop where
  gl : g.length ≤ 63
  g0 : ∀ z ∈ g, 0 ≤ z ∧ Bd 2000000 z
  a0 : 0 ≤ a
  a1 : Bd 2000000 a
  b0 : 0 ≤ b
  b1 : b < 2 ^ 62
  c0 : 0 ≤ c
  c1 : c ≤ n
theorem WO.mono {n k : Nat} {g : List Int} {a b c : Int} (h : WO n g a b c) (l : n ≤ k) : WO k g a b c := ⟨h.gl, h.g0, h.a0, h.a1, h.b0, h.b1, h.c0, by have := h.c1; omega⟩
end JJ
namespace JJ
open PySem PySem.Spec PP L2
def Pol (p : List Int) : Prop := p = [] ∨ p.getD (p.length - 1) 0 ≠ 0
def subAt (row : List Int) (f : Int) (p : List Int) (w : Nat) : Nat → List Int
  | 0 => row
  | i + 1 => (subAt row f p w i).set (w + i) ((subAt row f p w i).getD (w + i) 0 - f * p.getD i 0)
abbrev takeA (row : List Int) (f : Int) (p : List Int) (w : Nat) : List Int := subAt row f p w p.length
def mulFr (a b : List Int) : Nat → List Int
  | 0 => List.replicate (a.length + b.length) 0
  | i + 1 => takeA (mulFr a b i) (-(a.getD i 0)) b i
theorem getD_rep {n j : Nat} : (List.replicate n (0 : Int)).getD j 0 = 0 := by
  rw [List.getD_eq_getElem?_getD, List.getElem?_replicate]
  split <;> rfl
end JJ
namespace JJ
open PySem PySem.Spec PP L2
def ev : List Int → Int → Int
  | [], _ => 0
  | c :: cs, x => c + x * ev cs x
theorem Bd.le {j k : Nat} {a b : Int} (h : Bd j a) (g : Bd k b) (B : Nat) (hj : j ≤ B) (hk : k ≤ B) : Bd (B + 1) (a + b) := by
  have := (h.mono hj).add (g.mono hk)
  rwa [Nat.max_self] at this
theorem ev_bd {B : Nat} {x : Int} (hx : Bd B x) : ∀ {ws : List Int}, (∀ c ∈ ws, Bd B c) → Bd ((B + 1) * (ws.length + 1)) (ev ws x)
  | [], _ => by
    show Bd _ 0
    exact Nat.two_pow_pos _
  | c :: cs, h => by
    have ih := ev_bd hx (ws := cs) fun z hz => h z (List.mem_cons_of_mem _ hz)
    have a := hx.mul ih
    have b := h c List.mem_cons_self
    have e : (B + 1) * ((c :: cs).length + 1) = (B + (B + 1) * (cs.length + 1)) + 1 := by
      rw [List.length_cons, Nat.mul_succ (B + 1) (cs.length + 1)]; omega
    rw [e]
    exact Bd.le b a _ (by have := Nat.le_mul_of_pos_right (B + 1) (Nat.succ_pos cs.length); omega) (Nat.le_refl _)
def PB (ws : List Int) : Prop := ws.length ≤ 60 ∧ ∀ c ∈ ws, Bd 600 c
theorem PB.take {ws : List Int} (h : PB ws) (i : Nat) : PB (ws.take i) := ⟨by have := h.1; rw [List.length_take]; omega, fun c hc => h.2 c (List.mem_of_mem_take hc)⟩
theorem PB.drop {ws : List Int} (h : PB ws) (i : Nat) : PB (ws.drop i) := ⟨by have := h.1; rw [List.length_drop]; omega, fun c hc => h.2 c (List.mem_of_mem_drop hc)⟩
theorem PB.ev {ws : List Int} {x : Int} (h : PB ws) (hx : Bd 600 x) : Bd 40000 (ev ws x) := (ev_bd hx h.2).mono (by have := h.1; have := Nat.mul_le_mul_left 601 (show ws.length + 1 ≤ 61 by omega); omega)
def RB (M : Nat) (ws : List Int) : Prop := ∀ j, (ws.getD j 0).natAbs ≤ M
theorem RB.mem {M : Nat} {ws : List Int} (h : RB M ws) {c : Int} (hc : c ∈ ws) : c.natAbs ≤ M := by
  obtain ⟨i, hi, rfl⟩ := List.getElem_of_mem hc
  have := h i
  rwa [List.getD_eq_getElem?_getD, List.getElem?_eq_getElem hi] at this
theorem RB.of {M : Nat} {ws : List Int} (h : ∀ c ∈ ws, c.natAbs ≤ M) : RB M ws := fun j => by
  rw [List.getD_eq_getElem?_getD]
  cases e : ws[j]? with
  | none => exact Nat.zero_le _
  | some c => exact h c (List.mem_of_getElem? e)
theorem RB.mono {M N : Nat} {ws : List Int} (h : RB M ws) (l : M ≤ N) : RB N ws := fun j => Nat.le_trans (h j) l
end JJ
namespace JJ
def ch : Nat → Nat → Nat
  | _, 0 => 1
  | 0, _ + 1 => 0
  | n + 1, k + 1 => ch n k + ch n (k + 1)
def ret : Nat → Nat → Nat → Nat
  | 0, 0, 0 => 1
  | 0, _, _ => 0
  | _ + 1, 0, 0 => 0
  | t + 1, 0, r + 1 => ret t 1 r
  | t + 1, e + 1, r => ret t e r + ret t (e + 2) r
open PySem
end JJ
namespace JJ
open PySem PySem.Spec PP L2 MM
def spCask : FSp := fun pvs m q => ∃ (ns : List Int) (i : Nat), pvs = [.raw (ns.map .int), .d (.int i)] ∧ m = [] ∧ ns.length ≤ 63 ∧ (∀ z ∈ ns, Builtin.Int.intBits z ≤ 1048576) ∧ i < 1000 ∧
  ∀ xs', WS 0 xs' → q (.ref 0) [some (.lst xs')]
theorem cask_new {x : Int} {i : Nat} (h : Bd 1048577 x) (hi : i < 1000) : WS 0 [.int (if x - 10 ^ (18 : Int).toNat > 0 then x - 10 ^ (18 : Int).toNat else 0), .int (x % (10 ^ (31 : Int).toNat + 33) + 49979687 * (i : Int) + 32452843), .int 0] := by
  have e1 : (10 : Int) ^ (31 : Int).toNat + 33 = 10000000000000000000000000000033 := by decide +kernel
  have e2 : (10 : Int) ^ (18 : Int).toNat = 1000000000000000000 := by decide +kernel
  rw [e1, e2]
  have h1 := Int.emod_nonneg x (b := 10000000000000000000000000000033) (by decide)
  have h2 := Int.emod_lt_of_pos x (b := 10000000000000000000000000000033) (by decide)
  refine ⟨_, _, _, rfl, ?_, ?_, by omega, by omega, by omega, by omega⟩
  · split <;> omega
  · split
    · exact (h.add (Bd.lit (k := 60) (i := -1000000000000000000))).mono (by decide)
    · exact Bd.lit
def spAk (n : Nat) : FSp := fun pvs m q => ∃ d : PyData, pvs = [.d d, .d d] ∧ m = [] ∧ Dl n d ∧ q (.d (.bool true)) []
def WkS (ws : List Int) : Prop := ∀ x ∈ ws, x = 1 ∨ x = -1
def Wlk (ws : List Int) : Prop := WkS ws ∧ ∀ i, i ≤ ws.length → 0 ≤ (ws.take i).sum
instance (ws : List Int) : Decidable (WkS ws) := by unfold WkS; infer_instance
structure WkI (n k : Int) (ws : List Int) : Prop where
  wk : Wlk ws
  ln : (ws.length : Int) ≤ n
  b1 : ws.sum - k ≤ n - ws.length
  b2 : k - ws.sum ≤ n - ws.length
  ev : (n - ws.length - (ws.sum - k)) % 2 = 0
theorem WkI.zero {n k : Int} (h0 : 0 ≤ k) (h1 : k ≤ n) (h2 : (n - k) % 2 = 0) : WkI n k [] := ⟨⟨fun x h => (List.not_mem_nil h).elim, fun i hi => by simp⟩, by simp; omega, by simp; omega, by simp; omega, by simp; omega⟩
theorem sum_one (ws : List Int) (x : Int) : (ws ++ [x]).sum = ws.sum + x := by rw [List.sum_append]; simp
theorem WkI.next {n k x : Int} {ws : List Int} (h : WkI n k ws) (hn : (ws.length : Int) < n) (hx : (x = 1 ∧ (ws.sum + 1 - k ≤ n - ws.length - 1) ∧ (k - (ws.sum + 1) ≤ n - ws.length - 1)) ∨ (x = -1 ∧ 1 ≤ ws.sum ∧ (ws.sum - 1 - k ≤ n - ws.length - 1) ∧ (k - (ws.sum - 1) ≤ n - ws.length - 1))) : WkI n k (ws ++ [x]) := by
  obtain ⟨⟨a1, a2⟩, b, c, d, e⟩ := h
  have hl : (ws ++ [x]).length = ws.length + 1 := by simp
  have hs := sum_one ws x
  refine ⟨⟨fun y hy => ?_, fun i hi => ?_⟩, by omega, by omega, by omega, by omega⟩
  · rcases List.mem_append.mp hy with h | h
    · exact a1 y h
    · rw [List.mem_singleton.mp h]; omega
  · by_cases q : i ≤ ws.length
    · rw [List.take_append_of_le_length q]; exact a2 i q
    · rw [List.take_of_length_le (by omega), hs]
      have := a2 ws.length (Nat.le_refl _)
      rw [List.take_length] at this
      omega
theorem WkI.up {n k : Int} {ws : List Int} (h : WkI n k ws) (hk : 0 ≤ k) (hn : (ws.length : Int) < n) (hu : ¬ (-(n - ws.length - 1) ≤ ws.sum + 1 - k ∧ ws.sum + 1 - k ≤ n - ws.length - 1)) : 1 ≤ ws.sum ∧ (ws.sum - 1 - k ≤ n - ws.length - 1) ∧ (k - (ws.sum - 1) ≤ n - ws.length - 1) := by
  obtain ⟨_, b, c, d, e⟩ := h
  omega
def spAkC : FSp := fun pvs m q => ∃ xs : List PyData, pvs = [.ref 0, .d (.list xs)] ∧ m = [some (.lst xs)] ∧ xs.length ≤ 100000 ∧ (∀ x ∈ xs, Dl 3 x) ∧ q (.d (.bool true)) [some (.lst xs)]
def spAkE : FSp := fun pvs m q => spAk 4 pvs m q ∨ spAkC pvs m q
end JJ
namespace JJ
open PySem PySem.Spec PP L2
def Wn (g : Int) (ws : List Int) : Prop := ∀ c ∈ ws, -g < c ∧ c < g
theorem Wn.pb {g : Int} {ws : List Int} (h : Wn g ws) (hg : g ≤ 10 ^ 31) (hl : ws.length ≤ 60) : PB ws := ⟨hl, fun c hc => by
  obtain ⟨h1, h2⟩ := h c hc
  have : Bd 110 c := by
    show c.natAbs < 2 ^ 110
    have e : (10 : Int) ^ 31 = 10000000000000000000000000000000 := by decide
    rw [e] at hg
    omega
  exact this.mono (by decide)⟩
theorem Bd.sub {j k : Nat} {a b : Int} (h : Bd j a) (g : Bd k b) : Bd (max j k + 1) (a - b) := by
  rw [Int.sub_eq_add_neg]
  have g2 : Bd k (-b) := by show (-b).natAbs < 2 ^ k; rw [Int.natAbs_neg]; exact g
  exact h.add g2
theorem Wn.app {g : Int} {a b : List Int} (h : Wn g a) (k : Wn g b) : Wn g (a ++ b) := fun c hc => (List.mem_append.mp hc).elim (h c) (k c)
theorem Wn.set {g v : Int} {a : List Int} {i : Nat} (h : Wn g a) (hv : -g < v ∧ v < g) : Wn g (a.set i v) := fun c hc => by
  rcases List.mem_or_eq_of_mem_set hc with h1 | h1
  · exact h c h1
  · rw [h1]; exact hv
theorem Wn.mono {g k : Int} {a : List Int} (h : Wn g a) (l : g ≤ k) : Wn k a := fun c hc => by have := h c hc; omega
end JJ
namespace JJ
open PySem PySem.Spec PP L2
def RowP (R b r : List Int) (n : Nat) (row : List Int) (p : Nat) : Prop := row.length = n ∧ ∀ j, row.getD j 0 = (mulFr R b p).getD j 0 + r.getD j 0
instance (R : List Int) (s : Int) : Decidable (∀ x ∈ R, s ∣ x) := inferInstance
theorem RowP.any {R b r row : List Int} {n : Nat} (h : RowP R b r n row 0) (hr : r.length ≤ n) : (row.any fun x => x != 0) = !decide (∀ c ∈ r, c = 0) := by
  have g : ∀ j, row.getD j 0 = r.getD j 0 := fun j => by
    rw [h.2]; unfold mulFr; rw [getD_rep]; omega
  rw [Bool.eq_iff_iff, List.any_eq_true, Bool.not_eq_true', decide_eq_false_iff_not]
  constructor
  · rintro ⟨x, hx, hn⟩ z
    obtain ⟨i, hi, rfl⟩ := List.getElem_of_mem hx
    have e := g i
    rw [List.getD_eq_getElem?_getD, List.getElem?_eq_getElem hi, Option.getD_some] at e
    refine bne_iff_ne.mp hn ?_
    rw [e, List.getD_eq_getElem?_getD]
    cases q : r[i]? with
    | none => rfl
    | some c => exact z c (List.mem_of_getElem? q)
  · intro hz
    by_cases c : ∃ x, x ∈ r ∧ x ≠ 0
    · obtain ⟨x, hx, hn⟩ := c
      obtain ⟨i, hi, rfl⟩ := List.getElem_of_mem hx
      have e := g i
      rw [List.getD_eq_getElem?_getD, List.getElem?_eq_getElem (show i < row.length by rw [h.1]; omega), List.getD_eq_getElem?_getD, List.getElem?_eq_getElem hi] at e
      refine ⟨row[i]'(by rw [h.1]; omega), List.getElem_mem _, bne_iff_ne.mpr fun z => hn ?_⟩
      have e2 : row[i]'(by rw [h.1]; omega) = r[i] := e
      rw [← e2, z]
    · refine absurd (fun x hx => ?_) hz
      by_cases d : x = 0
      · exact d
      · exact absurd ⟨x, hx, d⟩ c
end JJ
namespace JJ
open PySem PySem.Spec PP L2
theorem dl_none {n : Nat} : Dl n .none := .sc rfl rfl (Nat.zero_le _)
end JJ
namespace JJ
open PySem PySem.Spec PP L2
def nd1 (s : List (Int × Int) × List Int) (p : Int × Int) : List (Int × Int) × List Int :=
  if p.1 = 1 then (s.1, s.2 ++ [p.2]) else (s.1 ++ [(s.2.getD (s.2.length - 1) 0, p.2)], s.2.dropLast)
def nd (k : Int) (ws : List Int) : List (Int × Int) × List Int := (ws.zipIdx.map fun p => (p.1, k + (p.2 : Int))).foldl nd1 ([], [])
theorem nd_nil (k : Int) : nd k [] = ([], []) := rfl
theorem nd_app (k : Int) (ws : List Int) (c : Int) : nd k (ws ++ [c]) = nd1 (nd k ws) (c, k + ws.length) := by
  unfold nd
  rw [List.zipIdx_append, List.map_append, List.foldl_append]
  simp
theorem Wlk.init {ws : List Int} {c : Int} (h : Wlk (ws ++ [c])) : Wlk ws := ⟨fun x hx => h.1 x (List.mem_append_left _ hx), fun i hi => by
  have := h.2 i (by rw [List.length_append]; omega)
  rwa [List.take_append_of_le_length hi] at this⟩
theorem Wlk.take {ws : List Int} (h : Wlk ws) (i : Nat) : Wlk (ws.take i) := ⟨fun x hx => h.1 x (List.mem_of_mem_take hx), fun j hj => by
  rw [List.take_take]
  rw [List.length_take] at hj
  exact h.2 _ (by omega)⟩
theorem snoc_ind {α : Type} {P : List α → Prop} (h0 : P []) (h1 : ∀ xs x, P xs → P (xs ++ [x])) (xs : List α) : P xs := by
  rw [← List.reverse_reverse xs]
  induction xs.reverse with
  | nil => exact h0
  | cons x t ih => rw [List.reverse_cons]; exact h1 _ _ ih
theorem nd_len (k : Int) (ws : List Int) : Wlk ws → ((nd k ws).2.length : Int) = ws.sum := by
  refine snoc_ind (P := fun ws => Wlk ws → ((nd k ws).2.length : Int) = ws.sum) (fun _ => rfl) (fun us c ih h => ?_) ws
  have hu := ih h.init
  have hs := sum_one us c
  have h2 := h.2 (us ++ [c]).length (Nat.le_refl _)
  rw [List.take_length, hs] at h2
  rw [nd_app, hs]
  unfold nd1
  rcases h.1 c (by simp) with rfl | rfl
  · rw [if_pos rfl]
    simp
    omega
  · rw [if_neg (show ¬ ((-1 : Int) = 1) by decide)]
    show (((nd k us).2.dropLast).length : Int) = us.sum + -1
    rw [List.length_dropLast]
    omega
theorem nd_cnt (k : Int) (ws : List Int) : (nd k ws).1.length ≤ ws.length ∧ (nd k ws).2.length ≤ ws.length := by
  refine snoc_ind (P := fun ws => (nd k ws).1.length ≤ ws.length ∧ (nd k ws).2.length ≤ ws.length) ⟨Nat.le_refl _, Nat.le_refl _⟩ (fun us c ih => ?_) ws
  rw [nd_app, List.length_append, List.length_singleton]
  unfold nd1
  split
  · exact ⟨by show (nd k us).1.length ≤ _; omega, by rw [List.length_append, List.length_singleton]; omega⟩
  · refine ⟨by rw [List.length_append, List.length_singleton]; omega, ?_⟩
    show ((nd k us).2.dropLast).length ≤ _
    rw [List.length_dropLast]; omega
end JJ
namespace JJ
open PySem PySem.Spec PP L2 MM
theorem match_perm {R : List Int} {P Q : List (Int × Int)} (M : Match R P) (p : P.Perm Q) : Match R Q := by
  have e : (ends P).Perm (ends Q) := p.flatMap_right _
  exact ⟨e.nodup_iff.mp M.nd, fun x => by rw [← e.mem_iff]; exact M.mem x, fun a ha b hb => M.nc a (p.mem_iff.mpr ha) b (p.mem_iff.mpr hb)⟩
def pgs (k : Int) (n : Nat) : List Int := (List.range n).map fun i : Nat => k + (i : Int)
theorem pgs_succ (k : Int) (n : Nat) : pgs k (n + 1) = pgs k n ++ [k + n] := by unfold pgs; rw [List.range_succ, List.map_append]; rfl
theorem pgs_mem {k x : Int} {n : Nat} : x ∈ pgs k n ↔ k ≤ x ∧ x < k + n := by
  unfold pgs
  rw [List.mem_map]
  constructor
  · rintro ⟨i, hi, rfl⟩
    have := List.mem_range.mp hi
    omega
  · rintro ⟨h1, h2⟩
    exact ⟨(x - k).toNat, List.mem_range.mpr (by omega), by omega⟩
theorem last_snoc {S : List Int} (h : S.length ≠ 0) : S = S.dropLast ++ [S.getD (S.length - 1) 0] := by
  have hne : S ≠ [] := fun e => h (by rw [e]; rfl)
  rw [List.getD_eq_getElem?_getD, List.getElem?_eq_getElem (by omega)]
  show S = S.dropLast ++ [S[S.length - 1]]
  rw [← List.getLast_eq_getElem hne]
  exact (List.dropLast_concat_getLast hne).symm
theorem nd_sub (k : Int) (ws : List Int) : ((nd k ws).2).Sublist (pgs k ws.length) := by
  refine snoc_ind (P := fun ws => ((nd k ws).2).Sublist (pgs k ws.length)) (List.nil_sublist _) (fun us c ih => ?_) ws
  rw [nd_app, List.length_append, List.length_singleton, pgs_succ]
  unfold nd1
  split
  · exact ih.append (List.Sublist.refl _)
  · exact ((List.dropLast_sublist _).trans ih).trans (List.sublist_append_left _ _)
theorem nd_match (k : Int) (ws : List Int) : Wlk ws → ∀ (l r : List Int) (more : List (Int × Int)), (l ++ (pgs k ws.length ++ r)).Nodup → Match (l ++ ((nd k ws).2 ++ r)) more → Match (l ++ (pgs k ws.length ++ r)) ((nd k ws).1 ++ more) := by
  refine snoc_ind (P := fun ws => Wlk ws → ∀ (l r : List Int) (more : List (Int × Int)), (l ++ (pgs k ws.length ++ r)).Nodup → Match (l ++ ((nd k ws).2 ++ r)) more → Match (l ++ (pgs k ws.length ++ r)) ((nd k ws).1 ++ more)) (fun _ l r more _ M => by simpa [nd_nil, pgs] using M) (fun us c ih h l r more hn M => ?_) ws
  rw [List.length_append, List.length_singleton, pgs_succ, List.append_assoc] at hn ⊢
  have h2 := nd_len k _ h
  have h1 := nd_len k _ h.init
  have hs := sum_one us c
  have h3 := h.2 (us ++ [c]).length (Nat.le_refl _)
  rw [List.take_length, hs] at h3
  rw [nd_app] at M ⊢
  rcases h.1 c (by simp) with rfl | rfl
  · have e : nd1 (nd k us) (1, k + us.length) = ((nd k us).1, (nd k us).2 ++ [k + us.length]) := by unfold nd1; rw [if_pos rfl]
    rw [e] at M ⊢
    have M' : Match (l ++ ((nd k us).2 ++ ([k + us.length] ++ r))) more := by rw [← List.append_assoc (nd k us).2]; exact M
    exact ih h.init l ([k + us.length] ++ r) more hn M'
  · have e : nd1 (nd k us) (-1, k + us.length) = ((nd k us).1 ++ [((nd k us).2.getD ((nd k us).2.length - 1) 0, k + us.length)], (nd k us).2.dropLast) := by
      unfold nd1; rw [if_neg (show ¬ ((-1 : Int) = 1) by decide)]
    rw [e] at M ⊢
    have hlast := last_snoc (S := (nd k us).2) (by omega)
    show Match _ (((nd k us).1 ++ [_]) ++ more)
    rw [List.append_assoc]
    refine ih h.init l ([k + us.length] ++ r) _ hn ?_
    have hsub : (l ++ ((nd k us).2 ++ ([k + us.length] ++ r))).Nodup := hn.sublist ((List.Sublist.refl l).append ((nd_sub k us).append (List.Sublist.refl _)))
    generalize (nd k us).2.getD ((nd k us).2.length - 1) 0 = a at hlast ⊢
    generalize hdl : (nd k us).2.dropLast = dl at hlast M ⊢
    rw [hlast] at hsub ⊢
    have e2 : l ++ (dl ++ [a] ++ ([k + (us.length : Int)] ++ r)) = (l ++ dl) ++ a :: (k + (us.length : Int)) :: r := by simp
    rw [e2] at hsub ⊢
    exact Match.put hsub (by rw [List.append_assoc]; exact M)
theorem nd_matchR (k : Int) (ws : List Int) (h : Wlk ws) (l r : List Int) (more : List (Int × Int)) (hn : (l ++ ((pgs k ws.length).reverse ++ r)).Nodup) (M : Match (l ++ ((nd k ws).2.reverse ++ r)) more) : Match (l ++ ((pgs k ws.length).reverse ++ r)) ((nd k ws).1 ++ more) := by
  have hn' : (r.reverse ++ (pgs k ws.length ++ l.reverse)).Nodup := by
    have := (List.reverse_perm _).nodup_iff.mpr hn
    simpa using this
  have sub : (l ++ ((nd k ws).2.reverse ++ r)).Nodup := hn.sublist ((List.Sublist.refl l).append ((nd_sub k ws).reverse.append (List.Sublist.refl _)))
  have M1 : Match (r.reverse ++ ((nd k ws).2 ++ l.reverse)) more := by
    have := M.rev sub
    simpa using this
  have M2 := (nd_match k ws h _ _ _ hn' M1).rev hn'
  simpa using M2
theorem zip_match {S : List Int} : ∀ {T : List Int}, S.length = T.length → (S ++ T.reverse).Nodup → Match (S ++ T.reverse) (S.zip T) := by
  refine snoc_ind (P := fun S => ∀ {T : List Int}, S.length = T.length → (S ++ T.reverse).Nodup → Match (S ++ T.reverse) (S.zip T)) (fun {T} e _ => ?_) (fun S a ih => ?_) S
  · have : T = [] := List.eq_nil_of_length_eq_zero e.symm
    subst this
    exact ⟨List.nodup_nil, fun x => Iff.rfl, fun p hp => (List.not_mem_nil hp).elim⟩
  · intro T
    refine snoc_ind (P := fun T => (S ++ [a]).length = T.length → ((S ++ [a]) ++ T.reverse).Nodup → Match ((S ++ [a]) ++ T.reverse) ((S ++ [a]).zip T)) (fun e _ => ?_) (fun T b _ e hn => ?_) T
    · rw [List.length_append] at e
      simp at e
    · have e1 : S.length = T.length := by simpa using e
      have e2 : (S ++ [a]) ++ (T ++ [b]).reverse = S ++ a :: b :: T.reverse := by simp
      rw [e2] at hn ⊢
      rw [List.zip_append e1]
      have sub : (S ++ T.reverse).Nodup := hn.sublist ((List.Sublist.refl S).append ((List.sublist_cons_self b _).trans (List.sublist_cons_self a _)))
      exact match_perm (Match.put hn (ih e1 sub)) (List.perm_append_singleton _ _).symm
def wkP (n : Int) (us ds : List Int) : List (Int × Int) := (nd 0 us).1 ++ (nd n ds).1 ++ (nd 0 us).2.zip (nd n ds).2
theorem ringI_pgs {n m : Nat} : ringI n m = pgs 0 n ++ (pgs n m).reverse := by
  unfold ringI pgs
  rw [show ((n : Int) - 0).toNat = n by omega, show ((n : Int) + m - 1 - (n - 1)).toNat = m by omega]
  refine congrArg _ (List.ext_getElem (by simp) fun i h1 h2 => ?_)
  rw [List.getElem_map, List.getElem_range, List.getElem_reverse, List.getElem_map, List.getElem_range, List.length_map, List.length_range]
  rw [List.length_map, List.length_range] at h1
  omega
theorem wk_match {us ds : List Int} (hu : Wlk us) (hd : Wlk ds) (e : us.sum = ds.sum) : Match (ringI us.length ds.length) (wkP us.length us ds) := by
  have hn : (pgs 0 us.length ++ (pgs us.length ds.length).reverse).Nodup := ringI_pgs ▸ ringI_nodup (n := us.length) (m := ds.length) (by omega) (by omega)
  have l1 := nd_len 0 us hu
  have l2 := nd_len us.length ds hd
  have n1 : ((nd 0 us).2 ++ (nd us.length ds).2.reverse).Nodup := hn.sublist ((nd_sub 0 us).append (nd_sub us.length ds).reverse)
  have M0 := zip_match (by omega) n1
  have n2 : ([] ++ (pgs 0 us.length ++ (nd us.length ds).2.reverse)).Nodup := hn.sublist ((List.Sublist.refl (pgs 0 us.length)).append (nd_sub us.length ds).reverse)
  have M1 := nd_match 0 us hu [] _ _ n2 M0
  have M2 := nd_matchR us.length ds hd (pgs 0 us.length) [] _ (by rw [List.append_nil]; exact hn) (by rw [List.append_nil]; exact M1)
  rw [List.append_nil] at M2
  rw [ringI_pgs]
  refine match_perm M2 ?_
  unfold wkP
  rw [← List.append_assoc]
  exact List.Perm.append_right _ List.perm_append_comm
end JJ
namespace JJ
open PySem PySem.Spec PP L2 MM
theorem wk_is {us ds ns : List Int} (hu : Wlk us) (hd : Wlk ds) (e : us.sum = ds.sum) (h0 : 0 < us.length + ds.length) (hl : (ns.length : Int) = us.length + ds.length) (W : Row (wkP us.length us ds) ns) : Is us.length ds.length (wkP us.length us ds) ns :=
  ⟨by omega, by omega, by omega, hl, wk_match hu hd e, W⟩
theorem sum_rep (n : Nat) : (List.replicate n (1 : Int)).sum = n := by
  induction n with
  | zero => rfl
  | succ n ih => rw [List.replicate_succ, List.sum_cons, ih]; omega
theorem wlk_rep (n : Nat) : Wlk (List.replicate n 1) := ⟨fun x hx => .inl (List.eq_of_mem_replicate hx), fun i hi => by rw [List.take_replicate, sum_rep]; omega⟩
theorem wlk_sum {ws : List Int} (h : Wlk ws) : 0 ≤ ws.sum ∧ ws.sum ≤ ws.length := by
  have a := nd_len 0 ws h
  have b := (nd_cnt 0 ws).2
  omega
end JJ
namespace JJ
open PySem PySem.Spec PP L2 MM
def upWk (u : Int) (ns : List Int) : List Int := (List.range u.toNat).map fun i : Nat => if ns.getD i 0 > (i : Int) then 1 else -1
end JJ
namespace JJ
open PySem PySem.Spec PP L2 MM
theorem nd_in (k : Int) (ws : List Int) : Wlk ws → ∀ p ∈ (nd k ws).1, p.1 ∈ pgs k ws.length ∧ p.2 ∈ pgs k ws.length := by
  refine snoc_ind (P := fun ws => Wlk ws → ∀ p ∈ (nd k ws).1, p.1 ∈ pgs k ws.length ∧ p.2 ∈ pgs k ws.length) (fun _ p hp => (List.not_mem_nil hp).elim) (fun us c ih h => ?_) ws
  have h1 := nd_len k _ h.init
  have hs := sum_one us c
  have h3 := h.2 (us ++ [c]).length (Nat.le_refl _)
  rw [List.take_length, hs] at h3
  rw [nd_app, List.length_append, List.length_singleton, pgs_succ]
  have up : ∀ x, x ∈ pgs k us.length → x ∈ pgs k us.length ++ [k + (us.length : Int)] := fun x hx => List.mem_append_left _ hx
  unfold nd1
  rcases h.1 c (by simp) with rfl | rfl
  · rw [if_pos rfl]
    exact fun p hp => ⟨up _ (ih h.init p hp).1, up _ (ih h.init p hp).2⟩
  · rw [if_neg (show ¬ ((-1 : Int) = 1) by decide)]
    intro p hp
    rcases List.mem_append.mp hp with hp | hp
    · exact ⟨up _ (ih h.init p hp).1, up _ (ih h.init p hp).2⟩
    · rw [List.mem_singleton.mp hp]
      refine ⟨up _ ?_, List.mem_append_right _ (List.mem_singleton.mpr rfl)⟩
      show (nd k us).2.getD ((nd k us).2.length - 1) 0 ∈ _
      rw [List.getD_eq_getElem?_getD, List.getElem?_eq_getElem (by omega)]
      exact (nd_sub k us).subset (List.getElem_mem _)
end JJ
namespace MM
open PySem PP L2
abbrev Asc (l : List Int) : Prop := l.Pairwise (· < ·)
theorem Asc.nd {l : List Int} (h : Asc l) : l.Nodup := List.Pairwise.imp (fun h => by omega) h
def thrP (u : Int) (P : List (Int × Int)) : List Int := P.filterMap fun p => if p.1 < u ∧ u ≤ p.2 then some p.1 else if p.2 < u ∧ u ≤ p.1 then some p.2 else none
def thr (u : Int) (P : List (Int × Int)) : List Int := ((List.range u.toNat).map fun j : Nat => (j : Int)).filter fun x => decide (x ∈ thrP u P)
theorem Is.at {u d x : Int} {P : List (Int × Int)} {ns : List Int} (h : Is u d P ns) (h0 : 0 ≤ x) (h1 : x < u + d) : ((x, mu ns x) ∈ P ∨ (mu ns x, x) ∈ P) ∧ 0 ≤ mu ns x ∧ mu ns x < u + d ∧ mu ns x ≠ x ∧ mu ns (mu ns x) = x := by
  obtain ⟨p, hp, e⟩ := mem_ends.mp ((h.M.mem x).mpr ((ringI_mem h.hu h.hd).mpr ⟨h0, h1⟩))
  obtain ⟨w1, w2⟩ := h.W p hp
  obtain ⟨i1, i2⟩ := h.inP hp
  have ne : p.1 ≠ p.2 := fun z => by
    obtain ⟨hu, hd, _, hl, hok, _⟩ := isMat_parts h.mat
    have := (matesAt_iff.mp (hok p.1.toNat (by omega))).2.2.1
    have e2 : ns.getD p.1.toNat 0 = mu ns p.1 := rfl
    rw [e2, w1, ← z] at this
    omega
  rcases e with rfl | rfl
  · rw [w1]; exact ⟨.inl hp, i2.1, i2.2, fun z => ne z.symm, w2⟩
  · rw [w2]; exact ⟨.inr hp, i1.1, i1.2, ne, w1⟩
def zipT (u : Int) (G : List Int) : List (Int × Int) := (List.range G.length).map fun j => (G.getD j 0, u + (j : Int))
def keepU (u : Int) (P : List (Int × Int)) : List (Int × Int) := P.filter fun p => decide (p.1 < u) && decide (p.2 < u)
def upP (u : Int) (P : List (Int × Int)) : List (Int × Int) := keepU u P ++ zipT u (thr u P)
def thN (u : Int) (P : List (Int × Int)) : Int := ((thr u P).length : Nat)
end MM
namespace JJ
open PySem PySem.Spec PP L2 MM
def zs (ws : List Int) (n i : Nat) : List Int := ((List.range i).filter fun j => decide (((ws.take (n + 1)).drop j).sum = 0)).map fun j : Nat => (j : Int)
end JJ
namespace JJ
open PySem PySem.Spec PP L2 MM
theorem nd_perm (k : Int) (ws : List Int) : Wlk ws → (ends (nd k ws).1 ++ (nd k ws).2).Perm (pgs k ws.length) := by
  refine snoc_ind (P := fun ws => Wlk ws → (ends (nd k ws).1 ++ (nd k ws).2).Perm (pgs k ws.length)) (fun _ => List.Perm.refl _) (fun us c ih h => ?_) ws
  have h1 := nd_len k _ h.init
  have hs := sum_one us c
  have h3 := h.2 (us ++ [c]).length (Nat.le_refl _)
  rw [List.take_length, hs] at h3
  have ih := ih h.init
  rw [nd_app, List.length_append, List.length_singleton, pgs_succ]
  unfold nd1
  rcases h.1 c (by simp) with rfl | rfl
  · rw [if_pos rfl]
    show (ends (nd k us).1 ++ ((nd k us).2 ++ [_])).Perm _
    rw [← List.append_assoc]
    exact ih.append_right _
  · rw [if_neg (show ¬ ((-1 : Int) = 1) by decide)]
    have hl := last_snoc (S := (nd k us).2) (by omega)
    generalize (nd k us).2.getD ((nd k us).2.length - 1) 0 = a at hl ⊢
    show (ends ((nd k us).1 ++ [(a, k + (us.length : Int))]) ++ (nd k us).2.dropLast).Perm _
    generalize (nd k us).2.dropLast = dl at hl ⊢
    rw [hl] at ih
    rw [ends_app]
    have e : ends [(a, k + (us.length : Int))] = [a] ++ [k + (us.length : Int)] := rfl
    rw [e]
    refine List.Perm.trans ?_ (ih.append_right [k + (us.length : Int)])
    simp only [List.append_assoc]
    refine List.Perm.append_left _ ?_
    have q := List.perm_append_comm (l₁ := [a] ++ [k + (us.length : Int)]) (l₂ := dl)
    simpa using q
end JJ
namespace JJ
open PySem PySem.Spec PP L2 MM
def opn (ws : List Int) (i : Nat) : List Int := ((List.range i).filter fun j : Nat => !decide ((j : Int) ∈ ends (nd 0 ws).1)).map fun j : Nat => (j : Int)
end JJ
namespace JJ
open PySem PySem.Spec PP L2 MM
def IntL (zs : List PyData) : Prop := ∀ z ∈ zs, ∃ i : Int, z = .int i
theorem IntL.sub {zs ys : List PyData} (h : IntL zs) (s : ∀ z ∈ ys, z ∈ zs) : IntL ys := fun z hz => h z (s z hz)
theorem IntL.cut {zs : List PyData} {lo hi : Option Int} (h : IntL zs) : IntL (PP.cutD zs lo hi) := h.sub fun _ => mem_cutD
theorem IntL.app {zs ys : List PyData} (h : IntL zs) (g : IntL ys) : IntL (zs ++ ys) := fun z hz => (List.mem_append.mp hz).elim (h z) (g z)
theorem IntL.one (i : Int) : IntL [.int i] := fun z hz => ⟨i, by simpa using hz⟩
theorem IntL.set {zs : List PyData} {k : Nat} {v : Int} (h : IntL zs) : IntL (zs.set k (.int v)) := fun z hz => (List.mem_or_eq_of_mem_set hz).elim (h z) fun e => ⟨v, e⟩
theorem IntL.rev {zs : List PyData} (h : IntL zs) : IntL zs.reverse := h.sub fun _ => List.mem_reverse.mp
end JJ
namespace JJ
open PySem PP L2 MM
open PySem.W (AllAlike Sortable dataLe dataLt)
theorem dq_pairs {P : List (Int × Int)} : Dq 3 (.list (P.map nPair)) := .lst fun x hx => by
  obtain ⟨p, _, rfl⟩ := List.mem_map.mp hx
  refine .tup fun y hy => ?_
  simp only [List.mem_cons, List.not_mem_nil, or_false] at hy
  rcases hy with rfl | rfl <;> exact dq_int
def spStrings : FSp := fun pvs m q => ∃ (u d : Int) (ns : List Int), pvs = [.d (matD u d ns)] ∧ m = [] ∧ u ≤ 100000 ∧ d ≤ 100000 ∧ ns.length ≤ 200000 ∧ isMatB u d ns = true ∧ q (.ref 0) [some (.lst ((strI ns ns.length).map nPair))]
end JJ
namespace JJ
open PySem PySem.Spec PP L2 MM
def ltL : List Int → List Int → Prop
  | x :: xs, y :: ys => x < y ∨ (x = y ∧ ltL xs ys)
  | _, _ => False
end JJ
namespace JJ
open PySem PySem.Spec PP L2 MM
open PySem.W (AllAlike Sortable dataLe dataLt)
def tupI (ws : List Int) : PyData := .tuple (ws.map .int)
theorem lt_tupI : ∀ (a b : List Int), a.length = b.length → (dataLt (tupI a) (tupI b) = true ↔ ltL a b)
  | [], [], _ => by
    have : dataLt (tupI []) (tupI []) = false := by decide +kernel
    rw [this]
    exact ⟨fun h => (by cases h), fun h => h.elim⟩
  | x :: a, y :: b, e => by
    have ih := lt_tupI a b (by simpa using e)
    unfold tupI at *
    rw [PySem.W.dataLt_tuple] at *
    rw [List.map_cons, List.map_cons]
    by_cases c : x = y
    · subst c
      rw [PySem.W.dataLt_all_yes (by rfl) (by exact beq_iff_eq.mpr rfl), ih]
      exact ⟨fun h => .inr ⟨rfl, h⟩, fun h => h.elim (fun z => absurd z (Int.lt_irrefl _)) (·.2)⟩
    · rw [PySem.W.dataLt_all_no (by rfl) (by exact Bool.eq_false_iff.mpr fun z => c (beq_iff_eq.mp z)), PySem.W.dataLt_int, decide_eq_true_eq]
      exact ⟨.inl, fun h => h.elim id fun z => absurd z.1 c⟩
theorem ltL_asym : ∀ {a b : List Int}, ltL a b → ¬ ltL b a
  | x :: a, y :: b, h, g => by
    rcases h with h | ⟨rfl, h⟩
    · rcases g with g | ⟨rfl, g⟩ <;> omega
    · rcases g with g | ⟨_, g⟩
      · omega
      · exact ltL_asym h g
theorem alike_tupI (a b : List Int) : PySem.W.alike (tupI a) (tupI b) = true := by
  show PySem.W.alike (.tuple _) (.tuple _) = true
  rw [PySem.W.alike]
  exact PySem.W.alike_ints a b
end JJ
namespace JJ
open PySem PySem.Spec PP L2 MM
def srtI (R : List Int) : List Int := R.mergeSort fun a b => decide (a ≤ b)
theorem srtI_perm (R : List Int) : (srtI R).Perm R := List.mergeSort_perm _ _
def ptd (R : List Int) (a b : Nat) : List (List Int) := [(R.drop (min a b + 1)).take (max a b - (min a b + 1)), R.take (min a b) ++ R.drop (max a b + 1)].filter fun S => !S.isEmpty
def regM (Rs : List (List Int)) : List Int := (Rs.find? fun R => Rs.all fun S => decide (mnL R ≤ mnL S)).getD []
structure RgsOk (Rs : List (List Int)) : Prop where
  pos : ∀ R ∈ Rs, 0 < R.length
  len : ∀ R ∈ Rs, R.length < 64
  nd : ∀ R ∈ Rs, R.Nodup
  one : ∀ R ∈ Rs, ∀ S ∈ Rs, mnL R = mnL S → R = S
def chL (Rs : List (List Int)) : List (Int × Int × List (List Int)) :=
  ((srtI (regM Rs)).filter fun q => (((regM Rs).idxOf q : Int) - ((regM Rs).idxOf (mnL (regM Rs)) : Int)) % 2 != 0).map fun q =>
    (mnL (regM Rs), q, (Rs.filter fun S => !decide (S = regM Rs)) ++ ptd (regM Rs) ((regM Rs).idxOf (mnL (regM Rs))) ((regM Rs).idxOf q))
theorem ix_nd {R : List Int} {x : Int} {m : Mem} {p : PV} {y : PyData} {Q : Nat → Prop} (e1 : lstP m p = some (R.map .int)) (e2 : y = .int x) (hx : x ∈ R) (q : Q (R.idxOf x)) :
    ∃ xs j z, lstP m p = some xs ∧ shp y ∧ shp (.list xs) ∧ xs[j]? = some z ∧ PyData.eqv z y = true ∧ (∀ i z', i < j → xs[i]? = some z' → PyData.eqv z' y = false) ∧ Q j := by
  subst e2
  refine ⟨_, R.idxOf x, .int x, e1, Sd.shp (n := 0) sd_int, shp_ints, by rw [List.getElem?_map, at_idx hx]; rfl, beq_self_eq_true x, fun i z' hi hz => ?_, q⟩
  obtain ⟨c, hc, rfl⟩ := map_at hz
  have hne : c ≠ x := fun z => by
    subst z
    have h1 := List.idxOf_lt_length_of_mem hx
    have h2 := (List.getElem?_eq_some_iff.mp hc).2
    have h3 : (R.take (i + 1)).contains c = true := by
      rw [List.contains_iff_mem]
      exact List.mem_of_getElem? (i := i) (by rw [List.getElem?_take_of_lt (by omega), hc])
    have h4 : R.idxOf c < i + 1 := by
      have := List.idxOf_lt_length_of_mem (List.contains_iff_mem.mp h3)
      have e : R.idxOf c = (R.take (i + 1)).idxOf c := by
        conv => lhs; rw [← List.take_append_drop (i + 1) R]
        rw [List.idxOf_append, if_pos (List.contains_iff_mem.mp h3)]
      rw [e]
      have hl : (R.take (i + 1)).length ≤ i + 1 := by rw [List.length_take]; exact Nat.min_le_left ..
      omega
    omega
  exact beq_false_of_ne hne
def chO (Rs : List (List Int)) (R : List Int) : List (List Int) := Rs.filter fun S => !decide (S = R)
end JJ
namespace JJ
open PySem PySem.Spec PP L2 MM
def joinL : Nat → List (List Int) → List (List (Int × Int))
  | 0, _ => [[]]
  | n + 1, Rs => (chL Rs).flatMap fun c => (joinL n c.2.2).map fun P => (c.1, c.2.1) :: P
structure RgI (n : Nat) (Rs : List (List Int)) : Prop where
  ne : ∀ R ∈ Rs, R ≠ []
  ev : ∀ R ∈ Rs, R.length % 2 = 0
  nd : Rs.flatten.Nodup
  len : Rs.flatten.length = 2 * n
theorem mem_flat {Rs : List (List Int)} {R : List Int} (h : R ∈ Rs) : R.Sublist Rs.flatten := by
  induction Rs with
  | nil => cases h
  | cons S Rs ih =>
    rw [List.flatten_cons]
    rcases List.mem_cons.mp h with rfl | h
    · exact List.sublist_append_left ..
    · exact (ih h).trans (List.sublist_append_right ..)
theorem flat_one {Rs : List (List Int)} (nd : Rs.flatten.Nodup) {x : Int} : ∀ {R S : List Int}, R ∈ Rs → S ∈ Rs → x ∈ R → x ∈ S → R = S := by
  induction Rs with
  | nil => intro R S h; cases h
  | cons T Rs ih =>
    intro R S hR hS xR xS
    rw [List.flatten_cons, List.nodup_append] at nd
    rcases List.mem_cons.mp hR with rfl | hR3
    · rcases List.mem_cons.mp hS with rfl | hS
      · rfl
      · exact absurd rfl (nd.2.2 x xR x ((mem_flat hS).subset xS))
    · have hR2 := hR3
      rcases List.mem_cons.mp hS with hS | hS
      · subst hS
        exact absurd rfl (nd.2.2 x xS x ((mem_flat hR2).subset xR))
      · exact ih nd.2.1 hR2 hS xR xS
theorem RgI.ok {n : Nat} {Rs : List (List Int)} (h : RgI n Rs) (hn : n ≤ 30) : RgsOk Rs where
  pos := fun R hR => List.length_pos_iff.mpr (h.ne R hR)
  len := fun R hR => by have := (mem_flat hR).length_le; have := h.len; omega
  nd := fun R hR => h.nd.sublist (mem_flat hR)
  one := fun R hR S hS e => by
    have h1 := (mnL_ok (List.length_pos_iff.mpr (h.ne R hR))).1
    have h2 := (mnL_ok (List.length_pos_iff.mpr (h.ne S hS))).1
    rw [← e] at h2
    exact flat_one h.nd hR hS h1 h2
theorem flat_num {Rs : List (List Int)} (h : ∀ R ∈ Rs, R ≠ []) : Rs.length ≤ Rs.flatten.length := by
  induction Rs with
  | nil => exact Nat.le_refl _
  | cons R Rs ih =>
    rw [List.flatten_cons, List.length_append, List.length_cons]
    have h1 := List.length_pos_iff.mpr (h R List.mem_cons_self)
    have h2 := ih fun S hS => h S (List.mem_cons_of_mem _ hS)
    omega
theorem RgI.num {n : Nat} {Rs : List (List Int)} (h : RgI n Rs) : Rs.length ≤ 2 * n := by rw [← h.len]; exact flat_num h.ne
theorem RgI.zero {Rs : List (List Int)} (h : RgI 0 Rs) : Rs = [] := List.length_eq_zero_iff.mp (by have := h.num; omega)
theorem RgI.succ {n : Nat} {Rs : List (List Int)} (h : RgI (n + 1) Rs) : Rs ≠ [] := fun e => by
  have := h.len
  rw [e] at this
  simp at this
theorem flat_ne (Ss : List (List Int)) : (Ss.filter fun S => !S.isEmpty).flatten = Ss.flatten := by
  induction Ss with
  | nil => rfl
  | cons S Ss ih =>
    rw [List.filter_cons, List.flatten_cons]
    cases S with
    | nil => exact ih
    | cons x xs => rw [if_pos (show (!(x :: xs).isEmpty) = true from rfl), List.flatten_cons, ih]
theorem flat_take {Rs : List (List Int)} {R : List Int} (nd : Rs.flatten.Nodup) (ne : R ≠ []) (h : R ∈ Rs) : (R ++ (chO Rs R).flatten).Perm Rs.flatten := by
  induction Rs with
  | nil => cases h
  | cons T Rs ih =>
    rw [List.flatten_cons, List.nodup_append] at nd
    unfold chO
    rw [List.filter_cons]
    by_cases e : T = R
    · subst e
      rw [if_neg (by simp), List.flatten_cons]
      have hn : ∀ S ∈ Rs, S ≠ T := fun S hS z => by
        subst z
        obtain ⟨x, hx⟩ := List.exists_mem_of_ne_nil S ne
        exact nd.2.2 x hx x ((mem_flat hS).subset hx) rfl
      rw [List.filter_eq_self.mpr fun S hS => by rw [decide_eq_false (hn S hS)]; rfl]
    · rw [if_pos (by rw [decide_eq_false e]; rfl), List.flatten_cons, List.flatten_cons]
      have := ih nd.2.1 ((List.mem_cons.mp h).resolve_left fun z => e z.symm)
      exact (List.perm_append_comm_assoc R T _).trans (this.append_left T)
theorem cut_two {R : List Int} {a b : Nat} (h : a < b) (hb : b < R.length) : R = R.take a ++ R[a] :: ((R.drop (a + 1)).take (b - (a + 1)) ++ R[b] :: R.drop (b + 1)) := by
  have e1 : R = R.take a ++ R.drop a := (List.take_append_drop a R).symm
  have e2 : R.drop a = R[a] :: R.drop (a + 1) := List.drop_eq_getElem_cons (by omega)
  have e3 : R.drop (a + 1) = (R.drop (a + 1)).take (b - (a + 1)) ++ (R.drop (a + 1)).drop (b - (a + 1)) := (List.take_append_drop _ _).symm
  have e4 : (R.drop (a + 1)).drop (b - (a + 1)) = R[b] :: R.drop (b + 1) := by
    rw [List.drop_drop, show a + 1 + (b - (a + 1)) = b by omega]
    exact List.drop_eq_getElem_cons hb
  conv => lhs; rw [e1, e2, e3, e4]
theorem ptd_perm {R : List Int} {a b : Nat} (h : a ≠ b) (ha : a < R.length) (hb : b < R.length) : (R[a] :: R[b] :: (ptd R a b).flatten).Perm R := by
  unfold ptd
  rw [flat_ne]
  show (R[a] :: R[b] :: (_ ++ (_ ++ []))).Perm R
  rw [List.append_nil]
  rcases Nat.lt_or_gt_of_ne h with c | c
  · rw [Nat.min_eq_left (by omega), Nat.max_eq_right (by omega)]
    conv => rhs; rw [cut_two c hb]
    generalize (R.drop (a + 1)).take (b - (a + 1)) = M
    generalize R.take a = A
    generalize R.drop (b + 1) = Z
    refine List.Perm.symm ?_
    refine List.perm_middle.trans (List.Perm.cons _ ?_)
    rw [← List.append_assoc]
    refine List.perm_middle.trans (List.Perm.cons _ ?_)
    rw [← List.append_assoc]
    exact List.Perm.append_right Z List.perm_append_comm
  · rw [Nat.min_eq_right (by omega), Nat.max_eq_left (by omega)]
    conv => rhs; rw [cut_two c ha]
    generalize (R.drop (b + 1)).take (a - (b + 1)) = M
    generalize R.take b = A
    generalize R.drop (a + 1) = Z
    refine List.Perm.symm ?_
    refine List.perm_middle.trans ?_
    refine (List.Perm.cons _ ?_).trans (List.Perm.swap _ _ _)
    rw [← List.append_assoc]
    refine List.perm_middle.trans (List.Perm.cons _ ?_)
    rw [← List.append_assoc]
    exact List.Perm.append_right Z List.perm_append_comm
theorem ptd_mem {R S : List Int} {a b : Nat} (h : S ∈ ptd R a b) : S ≠ [] ∧ (S = (R.drop (min a b + 1)).take (max a b - (min a b + 1)) ∨ S = R.take (min a b) ++ R.drop (max a b + 1)) := by
  obtain ⟨h1, h2⟩ := List.mem_filter.mp h
  refine ⟨fun z => by subst z; simp at h2, ?_⟩
  simpa using h1
theorem chL_step {n : Nat} {Rs : List (List Int)} (h : RgI (n + 1) Rs) {c : Int × Int × List (List Int)} (hc : c ∈ chL Rs) : RgI n c.2.2 ∧ (c.1 :: c.2.1 :: c.2.2.flatten).Perm Rs.flatten := by
  obtain ⟨R, eR⟩ : ∃ R, R = regM Rs := ⟨_, rfl⟩
  have hR : R ∈ Rs := by
    rw [eR]
    unfold regM
    obtain ⟨T, hT, hm⟩ : ∃ T ∈ Rs, ∀ S ∈ Rs, mnL T ≤ mnL S := by
      have hne := h.succ
      clear h hc eR
      induction Rs with
      | nil => exact absurd rfl hne
      | cons T Rs ih =>
        cases Rs with
        | nil => exact ⟨T, List.mem_cons_self, fun S hS => by rw [List.mem_singleton.mp hS]; exact Int.le_refl _⟩
        | cons U Us =>
          obtain ⟨V, hV, hm⟩ := ih (by simp)
          by_cases q : mnL T ≤ mnL V
          · exact ⟨T, List.mem_cons_self, fun S hS => by
              rcases List.mem_cons.mp hS with rfl | hS
              · exact Int.le_refl _
              · exact Int.le_trans q (hm S hS)⟩
          · exact ⟨V, List.mem_cons_of_mem _ hV, fun S hS => by
              rcases List.mem_cons.mp hS with rfl | hS
              · omega
              · exact hm S hS⟩
    cases e : Rs.find? fun R => Rs.all fun S => decide (mnL R ≤ mnL S) with
    | none => exact absurd (List.all_eq_true.mpr fun S hS => decide_eq_true (hm S hS)) (List.find?_eq_none.mp e T hT)
    | some T2 => exact List.mem_of_find?_eq_some e
  unfold chL at hc
  rw [← eR] at hc
  obtain ⟨q, hq, rfl⟩ := List.mem_map.mp hc
  obtain ⟨hq1, hq2⟩ := List.mem_filter.mp hq
  have hqm : q ∈ R := (srtI_perm R).mem_iff.mp hq1
  have hpm := (mnL_ok (List.length_pos_iff.mpr (h.ne R hR))).1
  have ha := List.idxOf_lt_length_of_mem hpm
  have hb := List.idxOf_lt_length_of_mem hqm
  have ea : R[R.idxOf (mnL R)] = mnL R := List.getElem_idxOf ha
  have eb : R[R.idxOf q] = q := List.getElem_idxOf hb
  have par : ((R.idxOf q : Int) - (R.idxOf (mnL R) : Int)) % 2 = 1 := by
    have : ((R.idxOf q : Int) - (R.idxOf (mnL R) : Int)) % 2 ≠ 0 := by simpa using hq2
    omega
  have hab : R.idxOf (mnL R) ≠ R.idxOf q := fun z => by rw [z] at par; omega
  have P1 := ptd_perm hab ha hb
  rw [ea, eb] at P1
  have P2 : (mnL R :: q :: ((chO Rs R) ++ ptd R (R.idxOf (mnL R)) (R.idxOf q)).flatten).Perm Rs.flatten := by
    refine List.Perm.trans ?_ (flat_take h.nd (h.ne R hR) hR)
    rw [List.flatten_append]
    have : (mnL R :: q :: ((chO Rs R).flatten ++ (ptd R (R.idxOf (mnL R)) (R.idxOf q)).flatten)).Perm ((mnL R :: q :: (ptd R (R.idxOf (mnL R)) (R.idxOf q)).flatten) ++ (chO Rs R).flatten) := .cons _ (.cons _ List.perm_append_comm)
    exact this.trans (P1.append_right _)
  have ev := h.ev R hR
  refine ⟨⟨fun S hS => ?_, fun S hS => ?_, ?_, ?_⟩, P2⟩
  · rcases List.mem_append.mp hS with z | z
    · exact h.ne S (List.mem_filter.mp z).1
    · exact (ptd_mem z).1
  · rcases List.mem_append.mp hS with z | z
    · exact h.ev S (List.mem_filter.mp z).1
    · generalize R.idxOf (mnL R) = a at *
      generalize R.idxOf q = b at *
      rcases (ptd_mem z).2 with rfl | rfl
      · rw [List.length_take, List.length_drop]; omega
      · rw [List.length_append, List.length_take, List.length_drop]; omega
  · have := P2.nodup_iff.mpr h.nd
    rw [List.nodup_cons, List.nodup_cons] at this
    exact this.2.2
  · have := P2.length_eq
    rw [List.length_cons, List.length_cons, h.len] at this
    show ((chO Rs R ++ ptd R (R.idxOf (mnL R)) (R.idxOf q)).flatten).length = 2 * n
    omega
end JJ
namespace JJ
open PySem PySem.Spec PP L2 MM
theorem chL_dec {n : Nat} {Rs : List (List Int)} (h : RgI (n + 1) Rs) {c : Int × Int × List (List Int)} (hc : c ∈ chL Rs) :
    ∃ (R : List Int) (a b : Nat) (ha : a < R.length) (hb : b < R.length), R ∈ Rs ∧ a ≠ b ∧ c.1 = R[a] ∧ c.2.1 = R[b] ∧ c.2.2 = chO Rs R ++ ptd R a b ∧ (∀ x ∈ Rs.flatten, c.1 ≤ x) ∧ (b + a) % 2 = 1 := by
  obtain ⟨R, eR⟩ : ∃ R, R = regM Rs := ⟨_, rfl⟩
  have hR : R ∈ Rs ∧ ∀ S ∈ Rs, mnL R ≤ mnL S := by
    rw [eR]
    unfold regM
    obtain ⟨T, hT, hm⟩ : ∃ T ∈ Rs, ∀ S ∈ Rs, mnL T ≤ mnL S := by
      have hne := h.succ
      clear h hc eR
      induction Rs with
      | nil => exact absurd rfl hne
      | cons T Rs ih =>
        cases Rs with
        | nil => exact ⟨T, List.mem_cons_self, fun S hS => by rw [List.mem_singleton.mp hS]; exact Int.le_refl _⟩
        | cons U Us =>
          obtain ⟨V, hV, hm⟩ := ih (by simp)
          by_cases q : mnL T ≤ mnL V
          · exact ⟨T, List.mem_cons_self, fun S hS => by
              rcases List.mem_cons.mp hS with rfl | hS
              · exact Int.le_refl _
              · exact Int.le_trans q (hm S hS)⟩
          · exact ⟨V, List.mem_cons_of_mem _ hV, fun S hS => by
              rcases List.mem_cons.mp hS with rfl | hS
              · omega
              · exact hm S hS⟩
    cases e : Rs.find? fun R => Rs.all fun S => decide (mnL R ≤ mnL S) with
    | none => exact absurd (List.all_eq_true.mpr fun S hS => decide_eq_true (hm S hS)) (List.find?_eq_none.mp e T hT)
    | some T2 =>
      have h2 : (Rs.all fun S => decide (mnL T2 ≤ mnL S)) = true := List.find?_some (p := fun R => Rs.all fun S => decide (mnL R ≤ mnL S)) e
      exact ⟨List.mem_of_find?_eq_some e, fun S hS => of_decide_eq_true (List.all_eq_true.mp h2 S hS)⟩
  obtain ⟨hR, hmin⟩ := hR
  unfold chL at hc
  rw [← eR] at hc
  obtain ⟨q, hq, rfl⟩ := List.mem_map.mp hc
  obtain ⟨hq1, hq2⟩ := List.mem_filter.mp hq
  have hqm : q ∈ R := (srtI_perm R).mem_iff.mp hq1
  have hpm := (mnL_ok (List.length_pos_iff.mpr (h.ne R hR))).1
  have ha := List.idxOf_lt_length_of_mem hpm
  have hb := List.idxOf_lt_length_of_mem hqm
  have par : ((R.idxOf q : Int) - (R.idxOf (mnL R) : Int)) % 2 = 1 := by
    have : ((R.idxOf q : Int) - (R.idxOf (mnL R) : Int)) % 2 ≠ 0 := by simpa using hq2
    omega
  refine ⟨R, R.idxOf (mnL R), R.idxOf q, ha, hb, hR, fun z => by rw [z] at par; omega, (List.getElem_idxOf ha).symm, (List.getElem_idxOf hb).symm, rfl, fun x hx => ?_, by omega⟩
  obtain ⟨S, hS, hxS⟩ := List.mem_flatten.mp hx
  exact Int.le_trans (hmin S hS) ((mnL_ok (List.length_pos_iff.mpr (h.ne S hS))).2 x hxS)
theorem seg {f : Int → Nat} {R : List Int} (hp : R.Pairwise fun x y => f x < f y) {a b : Nat} (h : a < b) (hb : b < R.length) :
    (∀ x ∈ (R.drop (a + 1)).take (b - (a + 1)), f R[a] < f x ∧ f x < f R[b]) ∧ (∀ x ∈ R.take a ++ R.drop (b + 1), f x < f R[a] ∨ f R[b] < f x) ∧ f R[a] < f R[b] := by
  rw [cut_two h hb, List.pairwise_append, List.pairwise_cons, List.pairwise_append, List.pairwise_cons] at hp
  obtain ⟨_, ⟨h1, _, ⟨h2, _⟩, h3⟩, h4⟩ := hp
  refine ⟨fun x hx => ⟨h1 x (List.mem_append_left _ hx), h3 x hx _ List.mem_cons_self⟩, fun x hx => ?_, h1 _ (List.mem_append_right _ List.mem_cons_self)⟩
  rcases List.mem_append.mp hx with z | z
  · exact .inl (h4 x z _ List.mem_cons_self)
  · exact .inr (h2 x z)
structure RAp (f : Int → Nat) (Rs : List (List Int)) : Prop where
  srt : ∀ S ∈ Rs, S.Pairwise fun x y => f x < f y
  ap : ∀ S ∈ Rs, ∀ T ∈ Rs, S ≠ T → ∀ a ∈ S, ∀ b ∈ S, ∀ c ∈ T, ∀ d ∈ T, ¬ SepP (f a) (f b) (f c) (f d)
theorem ptd_sub {R S : List Int} {a b : Nat} (h : S ∈ ptd R a b) : S.Sublist R := by
  rcases (ptd_mem h).2 with rfl | rfl
  · exact (List.take_sublist _ _).trans (List.drop_sublist _ _)
  · have e : R.take (min a b) ++ R.drop (min a b) = R := List.take_append_drop _ _
    conv => rhs; rw [← e]
    exact List.Sublist.append (List.Sublist.refl _) (List.drop_sublist_drop_left R (by omega))
theorem ptd_side {f : Int → Nat} {R : List Int} (hp : R.Pairwise fun x y => f x < f y) {a b : Nat} (ha : a < R.length) (hb : b < R.length) (h : a ≠ b) {S : List Int} (hS : S ∈ ptd R a b) :
    ∃ lo hi : Nat, lo < hi ∧ ((lo = f R[a] ∧ hi = f R[b]) ∨ (lo = f R[b] ∧ hi = f R[a])) ∧ ((S = (R.drop (min a b + 1)).take (max a b - (min a b + 1)) ∧ ∀ x ∈ S, lo < f x ∧ f x < hi) ∨ (S = R.take (min a b) ++ R.drop (max a b + 1) ∧ ∀ x ∈ S, f x < lo ∨ hi < f x)) := by
  rcases Nat.lt_or_gt_of_ne h with c | c
  · obtain ⟨s1, s2, s3⟩ := seg hp c hb
    rw [Nat.min_eq_left (by omega), Nat.max_eq_right (by omega)]
    refine ⟨_, _, s3, .inl ⟨rfl, rfl⟩, ?_⟩
    rcases (ptd_mem hS).2 with e | e
    · rw [Nat.min_eq_left (by omega), Nat.max_eq_right (by omega)] at e
      exact .inl ⟨e, fun x hx => s1 x (e ▸ hx)⟩
    · rw [Nat.min_eq_left (by omega), Nat.max_eq_right (by omega)] at e
      exact .inr ⟨e, fun x hx => s2 x (e ▸ hx)⟩
  · obtain ⟨s1, s2, s3⟩ := seg hp c ha
    rw [Nat.min_eq_right (by omega), Nat.max_eq_left (by omega)]
    refine ⟨_, _, s3, .inr ⟨rfl, rfl⟩, ?_⟩
    rcases (ptd_mem hS).2 with e | e
    · rw [Nat.min_eq_right (by omega), Nat.max_eq_left (by omega)] at e
      exact .inl ⟨e, fun x hx => s1 x (e ▸ hx)⟩
    · rw [Nat.min_eq_right (by omega), Nat.max_eq_left (by omega)] at e
      exact .inr ⟨e, fun x hx => s2 x (e ▸ hx)⟩
theorem sep_in {lo hi x y : Nat} (h : lo < hi) (hx : lo < x ∧ x < hi) (hy : lo < y ∧ y < hi) : ¬ SepP lo hi x y ∧ ¬ SepP hi lo x y ∧ ¬ SepP x y lo hi ∧ ¬ SepP x y hi lo := by
  unfold SepP Btw
  omega
theorem sep_out {lo hi x y : Nat} (h : lo < hi) (hx : x < lo ∨ hi < x) (hy : y < lo ∨ hi < y) : ¬ SepP lo hi x y ∧ ¬ SepP hi lo x y ∧ ¬ SepP x y lo hi ∧ ¬ SepP x y hi lo := by
  unfold SepP Btw
  omega
theorem sep_io {lo hi a b c d : Nat} (h : lo < hi) (ha : lo < a ∧ a < hi) (hb : lo < b ∧ b < hi) (hc : c < lo ∨ hi < c) (hd : d < lo ∨ hi < d) : ¬ SepP a b c d ∧ ¬ SepP c d a b := by
  unfold SepP Btw
  omega
theorem chL_ap {f : Int → Nat} {n : Nat} {Rs : List (List Int)} (h : RgI (n + 1) Rs) (A : RAp f Rs) {c : Int × Int × List (List Int)} (hc : c ∈ chL Rs) :
    RAp f c.2.2 ∧ ∀ S ∈ c.2.2, ∀ x ∈ S, ∀ y ∈ S, ¬ SepP (f c.1) (f c.2.1) (f x) (f y) ∧ ¬ SepP (f x) (f y) (f c.1) (f c.2.1) := by
  obtain ⟨R, a, b, ha, hb, hR, hab, e1, e2, e3, _, _⟩ := chL_dec h hc
  have hs := A.srt R hR
  have inO : ∀ S ∈ chO Rs R, S ∈ Rs ∧ S ≠ R := fun S hS => by
    obtain ⟨h1, h2⟩ := List.mem_filter.mp hS
    exact ⟨h1, fun z => by subst z; simp at h2⟩
  rw [e1, e2, e3]
  refine ⟨⟨fun S hS => ?_, fun S hS T hT hne x hx y hy z hz w hw => ?_⟩, fun S hS x hx y hy => ?_⟩
  · rcases List.mem_append.mp hS with z | z
    · exact A.srt S (inO S z).1
    · exact hs.sublist (ptd_sub z)
  · rcases List.mem_append.mp hS with s | s <;> rcases List.mem_append.mp hT with t | t
    · exact A.ap S (inO S s).1 T (inO T t).1 hne x hx y hy z hz w hw
    · exact A.ap S (inO S s).1 R hR (inO S s).2 x hx y hy z ((ptd_sub t).subset hz) w ((ptd_sub t).subset hw)
    · exact A.ap R hR T (inO T t).1 (Ne.symm (inO T t).2) x ((ptd_sub s).subset hx) y ((ptd_sub s).subset hy) z hz w hw
    · obtain ⟨l1, u1, k1, o1, p1⟩ := ptd_side hs ha hb hab s
      obtain ⟨l2, u2, k2, o2, p2⟩ := ptd_side hs ha hb hab t
      have el : l1 = l2 ∧ u1 = u2 := by omega
      obtain ⟨rfl, rfl⟩ := el
      rcases p1 with ⟨q1, p1⟩ | ⟨q1, p1⟩ <;> rcases p2 with ⟨q2, p2⟩ | ⟨q2, p2⟩
      · exact absurd (q1.trans q2.symm) hne
      · exact (sep_io k1 (p1 x hx) (p1 y hy) (p2 z hz) (p2 w hw)).1
      · exact (sep_io k1 (p2 z hz) (p2 w hw) (p1 x hx) (p1 y hy)).2
      · exact absurd (q1.trans q2.symm) hne
  · rcases List.mem_append.mp hS with s | s
    · exact ⟨A.ap R hR S (inO S s).1 (Ne.symm (inO S s).2) _ (List.getElem_mem _) _ (List.getElem_mem _) x hx y hy, A.ap S (inO S s).1 R hR (inO S s).2 x hx y hy _ (List.getElem_mem _) _ (List.getElem_mem _)⟩
    · obtain ⟨l1, u1, k1, o1, p1⟩ := ptd_side hs ha hb hab s
      rcases p1 with ⟨_, p1⟩ | ⟨_, p1⟩
      · obtain ⟨g1, g2, g3, g4⟩ := sep_in k1 (p1 x hx) (p1 y hy)
        rcases o1 with ⟨rfl, rfl⟩ | ⟨rfl, rfl⟩
        · exact ⟨g1, g3⟩
        · exact ⟨g2, g4⟩
      · obtain ⟨g1, g2, g3, g4⟩ := sep_out k1 (p1 x hx) (p1 y hy)
        rcases o1 with ⟨rfl, rfl⟩ | ⟨rfl, rfl⟩
        · exact ⟨g1, g3⟩
        · exact ⟨g2, g4⟩
theorem joinL_in : ∀ (n : Nat) {Rs : List (List Int)} {P : List (Int × Int)}, RgI n Rs → P ∈ joinL n Rs → ∀ p ∈ P, ∃ S ∈ Rs, p.1 ∈ S ∧ p.2 ∈ S
  | 0, _, P, _, h => by rw [joinL, List.mem_singleton] at h; subst h; intro p hp; cases hp
  | n + 1, Rs, P, hI, h => by
    rw [joinL, List.mem_flatMap] at h
    obtain ⟨c, hc, h⟩ := h
    obtain ⟨Q, hQ, rfl⟩ := List.mem_map.mp h
    obtain ⟨R, a, b, ha, hb, hR, hab, e1, e2, e3, _, _⟩ := chL_dec hI hc
    intro p hp
    rcases List.mem_cons.mp hp with rfl | hp
    · exact ⟨R, hR, by rw [e1]; exact List.getElem_mem _, by rw [e2]; exact List.getElem_mem _⟩
    · obtain ⟨S, hS, h1, h2⟩ := joinL_in n (chL_step hI hc).1 hQ p hp
      rw [e3] at hS
      rcases List.mem_append.mp hS with s | s
      · exact ⟨S, (List.mem_filter.mp s).1, h1, h2⟩
      · exact ⟨R, hR, (ptd_sub s).subset h1, (ptd_sub s).subset h2⟩
theorem joinL_ends : ∀ (n : Nat) {Rs : List (List Int)} {P : List (Int × Int)}, RgI n Rs → P ∈ joinL n Rs → (ends P).Perm Rs.flatten
  | 0, Rs, P, hI, h => by
    rw [joinL, List.mem_singleton] at h
    subst h
    rw [hI.zero]
    exact List.Perm.refl _
  | n + 1, Rs, P, hI, h => by
    rw [joinL, List.mem_flatMap] at h
    obtain ⟨c, hc, h⟩ := h
    obtain ⟨Q, hQ, rfl⟩ := List.mem_map.mp h
    obtain ⟨s1, s2⟩ := chL_step hI hc
    exact ((joinL_ends n s1 hQ).cons c.2.1 |>.cons c.1).trans s2
theorem joinL_nc {f : Int → Nat} : ∀ (n : Nat) {Rs : List (List Int)} {P : List (Int × Int)}, RgI n Rs → RAp f Rs → P ∈ joinL n Rs → ∀ p ∈ P, ∀ q ∈ P, ¬ SepP (f p.1) (f p.2) (f q.1) (f q.2)
  | 0, _, P, _, _, h => by rw [joinL, List.mem_singleton] at h; subst h; intro p hp; cases hp
  | n + 1, Rs, P, hI, A, h => by
    rw [joinL, List.mem_flatMap] at h
    obtain ⟨c, hc, h⟩ := h
    obtain ⟨Q, hQ, rfl⟩ := List.mem_map.mp h
    obtain ⟨A2, hS⟩ := chL_ap hI A hc
    have hI2 := (chL_step hI hc).1
    intro p hp q hq
    rcases List.mem_cons.mp hp with rfl | hp <;> rcases List.mem_cons.mp hq with rfl | hq
    · exact sep_self
    · obtain ⟨S, s1, s2, s3⟩ := joinL_in n hI2 hQ q hq
      exact (hS S s1 _ s2 _ s3).1
    · obtain ⟨S, s1, s2, s3⟩ := joinL_in n hI2 hQ p hp
      exact (hS S s1 _ s2 _ s3).2
    · exact joinL_nc n hI2 A2 hQ p hp q hq
theorem idx_asc {R : List Int} (nd : R.Nodup) : R.Pairwise fun x y => R.idxOf x < R.idxOf y := by
  rw [List.pairwise_iff_getElem]
  intro i j hi hj hij
  rw [idx_at nd (List.getElem?_eq_getElem hi), idx_at nd (List.getElem?_eq_getElem hj)]
  exact hij
theorem joinL_match {n : Nat} {R : List Int} (nd : R.Nodup) (hl : R.length = 2 * n) (hn : 0 < n) {P : List (Int × Int)} (h : P ∈ joinL n [R]) : Match R P := by
  have hI : RgI n [R] := ⟨fun S hS => by rw [List.mem_singleton.mp hS]; exact List.length_pos_iff.mp (by omega), fun S hS => by rw [List.mem_singleton.mp hS]; omega, by simpa using nd, by simpa using hl⟩
  have A : RAp (fun x => R.idxOf x) [R] := ⟨fun S hS => by rw [List.mem_singleton.mp hS]; exact idx_asc nd, fun S hS T hT hne => by rw [List.mem_singleton.mp hS, List.mem_singleton.mp hT] at hne; exact absurd rfl hne⟩
  have E := joinL_ends n hI h
  have ef : [R].flatten = R := by simp
  rw [ef] at E
  exact ⟨E.nodup_iff.mpr nd, fun x => E.mem_iff, joinL_nc n hI A h⟩
end JJ
namespace JJ
open PySem PySem.Spec PP L2 MM
structure RMu (f : Int → Nat) (μ : Int → Int) (Rs : List (List Int)) : Prop where
  cl : ∀ S ∈ Rs, ∀ x ∈ S, μ x ∈ S
  inv : ∀ x ∈ Rs.flatten, μ (μ x) = x
  ne : ∀ x ∈ Rs.flatten, μ x ≠ x
  nc : ∀ x ∈ Rs.flatten, ∀ y ∈ Rs.flatten, ¬ SepP (f x) (f (μ x)) (f y) (f (μ y))
def prt : List (Int × Int) → Int → Int
  | [], x => x
  | (p, q) :: Q, x => if x = p then q else if x = q then p else prt Q x
end JJ
namespace JJ
open PySem PySem.Spec PP L2 MM
abbrev LRow := List Int × List (Int × Int)
structure Sk (R : List Int) (i : Nat) (r : LRow) : Prop where
  pm : (ends r.2 ++ r.1).Perm (R.take i)
  srt : r.1.Pairwise fun x y => R.idxOf x < R.idxOf y
  nc : ∀ p ∈ r.2, ∀ q ∈ r.2, ¬ Sep R p q
  out : ∀ p ∈ r.2, ∀ w ∈ r.1, ¬ Btw (R.idxOf w) (min (R.idxOf p.1) (R.idxOf p.2)) (max (R.idxOf p.1) (R.idxOf p.2))
theorem Sk.lt {R : List Int} (nd : R.Nodup) {i : Nat} {r : LRow} (h : Sk R i r) {x : Int} (hx : x ∈ ends r.2 ∨ x ∈ r.1) : R.idxOf x < i ∧ x ∈ R := by
  have h1 : x ∈ R.take i := h.pm.mem_iff.mp (List.mem_append.mpr hx)
  obtain ⟨j, hj, e⟩ := List.getElem_of_mem h1
  rw [List.length_take] at hj
  rw [List.getElem_take] at e
  have h2 := idx_at nd (List.getElem?_eq_getElem (show j < R.length by omega))
  rw [e] at h2
  exact ⟨by omega, List.mem_of_mem_take h1⟩
end JJ
namespace JJ
open PySem PySem.Spec PP L2 MM
theorem prt_ok : ∀ {P : List (Int × Int)}, (ends P).Nodup → ∀ p ∈ P, prt P p.1 = p.2 ∧ prt P p.2 = p.1
  | (a, b) :: P, nd, p, hp => by
    have e : ends ((a, b) :: P) = a :: b :: ends P := rfl
    rw [e, List.nodup_cons, List.nodup_cons, List.mem_cons, not_or] at nd
    rcases List.mem_cons.mp hp with rfl | hp
    · refine ⟨by rw [prt, if_pos rfl], ?_⟩
      rw [prt, if_neg (Ne.symm nd.1.1), if_pos rfl]
    · obtain ⟨h1, h2⟩ := prt_ok nd.2.2 p hp
      have m1 := mem_ends.mpr ⟨p, hp, Or.inl rfl⟩
      have m2 := mem_ends.mpr ⟨p, hp, Or.inr rfl⟩
      have n1 : p.1 ≠ a := fun z => nd.1.2 (z ▸ m1)
      have n2 : p.1 ≠ b := fun z => nd.2.1 (z ▸ m1)
      have n3 : p.2 ≠ a := fun z => nd.1.2 (z ▸ m2)
      have n4 : p.2 ≠ b := fun z => nd.2.1 (z ▸ m2)
      exact ⟨by rw [prt, if_neg n1, if_neg n2, h1], by rw [prt, if_neg n3, if_neg n4, h2]⟩
theorem prt_by {P : List (Int × Int)} {μ : Int → Int} (nd : (ends P).Nodup) (h : ∀ p ∈ P, μ p.1 = p.2 ∧ μ p.2 = p.1) {x : Int} (hx : x ∈ ends P) : prt P x = μ x := by
  obtain ⟨p, hp, e⟩ := mem_ends.mp hx
  obtain ⟨h1, h2⟩ := prt_ok nd p hp
  obtain ⟨g1, g2⟩ := h p hp
  rcases e with rfl | rfl
  · rw [h1, g1]
  · rw [h2, g2]
theorem match_mu {R : List Int} {P : List (Int × Int)} (M : Match R P) : RMu (fun x => R.idxOf x) (prt P) [R] := by
  have key : ∀ x ∈ R, ∃ p ∈ P, (x = p.1 ∧ prt P x = p.2) ∨ (x = p.2 ∧ prt P x = p.1) := fun x hx => by
    obtain ⟨p, hp, e⟩ := mem_ends.mp ((M.mem x).mpr hx)
    obtain ⟨h1, h2⟩ := prt_ok M.nd p hp
    rcases e with rfl | rfl
    · exact ⟨p, hp, .inl ⟨rfl, h1⟩⟩
    · exact ⟨p, hp, .inr ⟨rfl, h2⟩⟩
  have ne : ∀ p ∈ P, p.1 ≠ p.2 := fun p hp z => by
    have nd := M.nd
    obtain ⟨s, t, e⟩ := List.append_of_mem hp
    rw [e, ends_app] at nd
    have nd2 := (List.nodup_append.mp nd).2.1
    have e2 : ends (p :: t) = p.1 :: p.2 :: ends t := rfl
    rw [e2, List.nodup_cons] at nd2
    exact nd2.1 (by rw [z]; exact List.mem_cons_self)
  have fl : ∀ x, x ∈ [R].flatten ↔ x ∈ R := fun x => by simp
  refine ⟨fun S hS x hx => ?_, fun x hx => ?_, fun x hx => ?_, fun x hx y hy => ?_⟩
  · rw [List.mem_singleton.mp hS] at hx ⊢
    obtain ⟨p, hp, ⟨e1, e2⟩ | ⟨e1, e2⟩⟩ := key x hx
    · rw [e2]; exact (M.mem _).mp (mem_ends.mpr ⟨p, hp, .inr rfl⟩)
    · rw [e2]; exact (M.mem _).mp (mem_ends.mpr ⟨p, hp, .inl rfl⟩)
  · obtain ⟨p, hp, ⟨e1, e2⟩ | ⟨e1, e2⟩⟩ := key x ((fl x).mp hx)
    · rw [e2, (prt_ok M.nd p hp).2, e1]
    · rw [e2, (prt_ok M.nd p hp).1, e1]
  · obtain ⟨p, hp, ⟨e1, e2⟩ | ⟨e1, e2⟩⟩ := key x ((fl x).mp hx)
    · rw [e2, e1]; exact (ne p hp).symm
    · rw [e2, e1]; exact ne p hp
  · obtain ⟨p, hp, hp2⟩ := key x ((fl x).mp hx)
    obtain ⟨q, hq, hq2⟩ := key y ((fl y).mp hy)
    have h := M.nc p hp q hq
    unfold MM.Sep at h
    show ¬ SepP (R.idxOf x) (R.idxOf (prt P x)) (R.idxOf y) (R.idxOf (prt P y))
    rcases hp2 with ⟨e1, e2⟩ | ⟨e1, e2⟩ <;> rcases hq2 with ⟨g1, g2⟩ | ⟨g1, g2⟩ <;> rw [e2, g2, e1, g1] <;> (unfold SepP Btw at *; omega)
end JJ
namespace JJ
open PySem PySem.Spec PP L2 MM
open PySem.W (AllAlike Sortable dataLe dataLt)
def trip (u d : Int) (a : List Int) : PyData := .tuple [.int u, .int d, tupI a]
def mtI (N : Nat) (P : List (Int × Int)) : List Int := (List.range N).map fun i : Nat => prt P (i : Int)
theorem mtI_len (N : Nat) (P : List (Int × Int)) : (mtI N P).length = N := by unfold mtI; rw [List.length_map, List.length_range]
theorem ltL_irr : ∀ a : List Int, ¬ ltL a a := fun a h => ltL_asym h h
theorem lt_trip {u d : Int} {a b : List Int} (e : a.length = b.length) : dataLt (trip u d a) (trip u d b) = true ↔ ltL a b := by
  unfold trip
  rw [PySem.W.dataLt_tuple, PySem.W.dataLt_all_yes (by rfl) (by exact beq_iff_eq.mpr rfl), PySem.W.dataLt_all_yes (by rfl) (by exact beq_iff_eq.mpr rfl)]
  by_cases c : a = b
  · subst c
    rw [PySem.W.dataLt_all_yes (alike_tupI a a) (show PyData.eqv (tupI a) (tupI a) = true from (eqvAll_ints (ns := a) (ks := a)).trans (by simp))]
    have z : PyProof.Rows.lexLt PyProof.Rows.itemOrd (PySem.W.keyToksAll []) (PySem.W.keyToksAll []) = false := by decide +kernel
    rw [z]
    exact ⟨fun h => (by cases h), fun h => absurd h (ltL_irr a)⟩
  · rw [PySem.W.dataLt_all_no (alike_tupI a b) (show PyData.eqv (tupI a) (tupI b) = false from (eqvAll_ints (ns := a) (ks := b)).trans (by simp [c]))]
    exact lt_tupI a b e
end JJ
namespace JJ
open PySem PySem.Spec PP L2 MM
def allL (u d : Int) : List PyData := if (u + d).toNat = 0 ∨ (u + d).toNat % 2 = 1 then [] else ((joinL ((u + d).toNat / 2) [ringI u d]).map (mtI (u + d).toNat)).map (trip u d)
theorem allL_nil {u d : Int} (h : (u + d).toNat = 0 ∨ (u + d).toNat % 2 = 1) : allL u d = [] := if_pos h
theorem allL_some {u d : Int} {n : Nat} (h : (u + d).toNat = 2 * n) (hn : 0 < n) : allL u d = (joinL n [ringI u d]).map fun P => trip u d (mtI (2 * n) P) := by
  unfold allL
  rw [if_neg (by omega), h, show 2 * n / 2 = n by omega, List.map_map]
  rfl
theorem ring_rg {u d : Int} {n : Nat} (hu : 0 ≤ u) (hd : 0 ≤ d) (h : u + d = (2 * n : Nat)) (hn : 0 < n) : RgI n [ringI u d] ∧ (ringI u d).Nodup ∧ (ringI u d).length = 2 * n ∧ ∀ x, x ∈ ringI u d ↔ 0 ≤ x ∧ x < (2 * n : Nat) := by
  have hl : (ringI u d).length = 2 * n := by have := ringI_len hu hd; omega
  have nd := ringI_nodup hu hd
  exact ⟨⟨fun S hS => by rw [List.mem_singleton.mp hS]; exact List.length_pos_iff.mp (by omega), fun S hS => by rw [List.mem_singleton.mp hS]; omega, by simpa using nd, by simpa using hl⟩, nd, hl, fun x => by rw [ringI_mem hu hd, h]⟩
end JJ
namespace JJ
open PySem PySem.Spec PP L2 MM
theorem dq_all {u d : Int} : Dq 3 (.list (allL u d)) := .lst fun x hx => by
  have key : ∀ a : List Int, Dq 2 (trip u d a) := fun a => .tup fun y hy => by
    simp only [List.mem_cons, List.not_mem_nil, or_false] at hy
    rcases hy with rfl | rfl | rfl
    · exact .sc rfl rfl (Nat.zero_le _)
    · exact .sc rfl rfl (Nat.zero_le _)
    · exact .tup fun z hz => by
        obtain ⟨i, _, rfl⟩ := List.mem_map.mp hz
        exact .sc rfl rfl (Nat.zero_le _)
  unfold allL at hx
  split at hx
  · cases hx
  · obtain ⟨a, _, rfl⟩ := List.mem_map.mp hx
    exact key a
theorem dq_i {i : Int} : Dq 3 (.int i) := .sc rfl rfl (Nat.zero_le _)
end JJ
namespace JJ
open PySem PySem.Spec PP L2 MM
theorem mtI_get {N i : Nat} (h : i < N) (P : List (Int × Int)) : (mtI N P)[i]? = some (prt P (i : Int)) := by
  unfold mtI
  rw [List.getElem?_map, List.getElem?_range h]
  rfl
theorem mtI_mu {N : Nat} {x : Int} (h0 : 0 ≤ x) (h1 : x < N) (P : List (Int × Int)) : mu (mtI N P) x = prt P x := by
  unfold mu
  rw [List.getD_eq_getElem?_getD, mtI_get (by omega), Option.getD_some, Int.toNat_of_nonneg h0]
theorem mtI_row {N : Nat} {F : List Int} {P : List (Int × Int)} (hF : ∀ x, x ∈ F ↔ 0 ≤ x ∧ x < N) (M : Match F P) : Row P (mtI N P) := fun p hp => by
  have h1 := (hF _).mp ((M.mem _).mp (mem_ends.mpr ⟨p, hp, .inl rfl⟩))
  have h2 := (hF _).mp ((M.mem _).mp (mem_ends.mpr ⟨p, hp, .inr rfl⟩))
  obtain ⟨e1, e2⟩ := prt_ok M.nd p hp
  rw [mtI_mu h1.1 h1.2, mtI_mu h2.1 h2.2]
  exact ⟨e1, e2⟩
theorem joinF_is {u d : Int} {N : Nat} (hu : 0 ≤ u) (hd : 0 ≤ d) (hN : u + d = (2 * N : Nat)) (hNp : 0 < N) {P : List (Int × Int)} (h : P ∈ joinL N [ringI u d]) : Is u d P (mtI (2 * N) P) := by
  obtain ⟨RI, nd, hRl, hF⟩ := ring_rg hu hd hN hNp
  have M := joinL_match nd hRl hNp h
  exact ⟨hu, hd, by omega, by rw [mtI_len]; omega, M, mtI_row hF M⟩
theorem allL_is {u d : Int} (hu : 0 ≤ u) (hd : 0 ≤ d) {x : PyData} (h : x ∈ allL u d) : ∃ P ns, x = matD u d ns ∧ Is u d P ns := by
  by_cases c : (u + d).toNat = 0 ∨ (u + d).toNat % 2 = 1
  · rw [allL_nil c] at h
    cases h
  · obtain ⟨N, hN⟩ : ∃ N : Nat, u + d = (2 * N : Nat) := ⟨((u + d) / 2).toNat, by omega⟩
    rw [allL_some (n := N) (by omega) (by omega)] at h
    obtain ⟨P, hP, rfl⟩ := List.mem_map.mp h
    exact ⟨P, _, rfl, joinF_is hu hd hN (by omega) hP⟩
end JJ
namespace JJ
open PySem PySem.Spec PP L2 MM
theorem dq_item {u d : Int} (hu : 0 ≤ u) (hd : 0 ≤ d) {k : Nat} {x : PyData} (h : (allL u d)[k]? = some x) : Dq 3 x := by
  obtain ⟨P, ns, rfl, _⟩ := allL_is hu hd (List.mem_of_getElem? h)
  exact dq_mat
end JJ
namespace JJ
open PySem PySem.Spec PP L2 MM
def lst (f g : Int → Int) (s : Int) : Nat → Int
  | 0 => s
  | j + 1 => g (f (lst f g s j))
section
variable {N : Int} {f g : Int → Int} (F : Sg N f) (G : Sg N g)
theorem Sg.inj {N : Int} {f : Int → Int} (F : Sg N f) {x y : Int} (x0 : 0 ≤ x) (x1 : x < N) (y0 : 0 ≤ y) (y1 : y < N) (e : f x = f y) : x = y := by rw [← F.inv x x0 x1, e, F.inv y y0 y1]
include F G
end
end JJ
namespace PP
open PySem PySem.Spec PyProof.Rows L2
end PP
namespace JJ
open PySem PySem.Spec PP L2 MM
def segW (k : Int) (μ : Int → Int) (n : Nat) : List Int := (List.range n).map fun i : Nat => if k ≤ μ (k + i) ∧ μ (k + i) < k + i then -1 else 1
def segO (k : Int) (μ : Int → Int) (n : Nat) : List Int := (pgs k n).filter fun p => !(decide (k ≤ μ p) && decide (μ p < k + n))
theorem segW_len (k : Int) (μ : Int → Int) (n : Nat) : (segW k μ n).length = n := by unfold segW; rw [List.length_map, List.length_range]
theorem segW_succ (k : Int) (μ : Int → Int) (n : Nat) : segW k μ (n + 1) = segW k μ n ++ [if k ≤ μ (k + n) ∧ μ (k + n) < k + n then -1 else 1] := by
  unfold segW
  rw [List.range_succ, List.map_append]
  rfl
theorem segW_take (k : Int) (μ : Int → Int) {n i : Nat} (h : i ≤ n) : (segW k μ n).take i = segW k μ i := by
  unfold segW
  rw [← List.map_take, List.take_range, Nat.min_eq_left h]
structure Seg (k : Int) (μ : Int → Int) (n : Nat) : Prop where
  ne : ∀ p, k ≤ p → p < k + n → μ p ≠ p
  inv : ∀ p, k ≤ p → p < k + n → k ≤ μ p → μ p < k + n → μ (μ p) = p
  nc : ∀ a b, k ≤ a → a < b → b < μ a → μ a < k + n → a < μ b ∧ μ b < μ a
theorem Seg.less {k : Int} {μ : Int → Int} {n i : Nat} (S : Seg k μ n) (h : i ≤ n) : Seg k μ i := ⟨fun p h1 h2 => S.ne p h1 (by omega), fun p h1 h2 h3 h4 => S.inv p h1 (by omega) h3 (by omega), fun a b h1 h2 h3 h4 => S.nc a b h1 h2 h3 (by omega)⟩
theorem segO_mem {k : Int} {μ : Int → Int} {n : Nat} {p : Int} : p ∈ segO k μ n ↔ (k ≤ p ∧ p < k + n) ∧ ¬ (k ≤ μ p ∧ μ p < k + n) := by
  unfold segO
  rw [List.mem_filter, pgs_mem, Bool.not_eq_true', Bool.and_eq_false_iff, decide_eq_false_iff_not, decide_eq_false_iff_not, ← Classical.not_and_iff_not_or_not]
theorem pgs_pw (k : Int) (n : Nat) : (pgs k n).Pairwise fun x y => x < y := by
  unfold pgs
  exact List.pairwise_map.mpr (List.pairwise_lt_range.imp fun {a b} h => by omega)
theorem segO_pw (k : Int) (μ : Int → Int) (n : Nat) : (segO k μ n).Pairwise fun x y => x < y := (pgs_pw k n).filter _
theorem asc_ext {A B : List Int} (ha : A.Pairwise fun x y => x < y) (hb : B.Pairwise fun x y => x < y) (h : ∀ x, x ∈ A ↔ x ∈ B) : A = B := by
  have na : A.Nodup := ha.imp fun h e => by omega
  have nb : B.Nodup := hb.imp fun h e => by omega
  exact ((List.perm_ext_iff_of_nodup na nb).mpr h).eq_of_pairwise (fun a b _ _ h1 h2 => by omega) ha hb
theorem seg_nd {k : Int} {μ : Int → Int} : ∀ {n : Nat}, Seg k μ n → ∃ prs, nd k (segW k μ n) = (prs, segO k μ n) ∧ (∀ p ∈ prs, μ p.1 = p.2 ∧ μ p.2 = p.1) ∧ (segW k μ n).sum = ((segO k μ n).length : Int)
  | 0, _ => ⟨[], rfl, fun p hp => by (cases hp), rfl⟩
  | n + 1, S => by
    obtain ⟨prs, e, hp, hs⟩ := seg_nd (S.less (Nat.le_succ n))
    have hne := S.ne (k + n) (by omega) (by omega)
    rw [segW_succ, nd_app, segW_len, e, List.sum_append]
    by_cases c : k ≤ μ (k + n) ∧ μ (k + n) < k + n
    · rw [if_pos c]
      have ia := S.inv (k + n) (by omega) (by omega) c.1 (by omega)
      obtain ⟨a, ha⟩ : ∃ a, μ (k + n) = a := ⟨_, rfl⟩
      rw [ha] at c ia hne
      have am : a ∈ segO k μ n := segO_mem.mpr ⟨c, fun z => by omega⟩
      have top : ∀ p ∈ segO k μ n, p ≤ a := fun p hpm => by
        obtain ⟨p1, p2⟩ := segO_mem.mp hpm
        refine Classical.byContradiction fun z => p2 ?_
        have := S.nc a p c.1 (by omega) (by omega) (by omega)
        omega
      have hl : segO k μ n = (segO k μ n).filter (fun p => decide (p ≠ a)) ++ [a] := by
        refine asc_ext (segO_pw k μ n) ?_ fun x => ?_
        · refine List.pairwise_append.mpr ⟨(segO_pw k μ n).filter _, List.pairwise_singleton _ _, fun x hx y hy => ?_⟩
          rw [List.mem_singleton.mp hy]
          obtain ⟨h1, h2⟩ := List.mem_filter.mp hx
          have := top x h1
          have := of_decide_eq_true h2
          omega
        · rw [List.mem_append, List.mem_filter, List.mem_singleton]
          by_cases z : x = a
          · subst z; exact ⟨fun _ => .inr rfl, fun _ => am⟩
          · exact ⟨fun h => .inl ⟨h, decide_eq_true z⟩, fun h => h.elim (fun h => h.1) fun h => absurd h z⟩
      have hO : segO k μ (n + 1) = (segO k μ n).filter (fun p => decide (p ≠ a)) := by
        refine asc_ext (segO_pw k μ (n + 1)) ((segO_pw k μ n).filter _) fun x => ?_
        rw [List.mem_filter, segO_mem, segO_mem, decide_eq_true_eq]
        constructor
        · rintro ⟨h1, h2⟩
          have hxn : x ≠ k + n := fun z => h2 (by rw [z, ha]; omega)
          refine ⟨⟨by omega, fun z => h2 (by omega)⟩, fun z => h2 (by rw [z, ia]; omega)⟩
        · rintro ⟨⟨h1, h2⟩, h3⟩
          refine ⟨by omega, fun z => ?_⟩
          have hx : μ x = k + n := by omega
          have := S.inv x (by omega) (by omega) (by omega) (by omega)
          rw [hx, ha] at this
          exact h3 this.symm
      have hlast : (segO k μ n).getD ((segO k μ n).length - 1) 0 = a ∧ (segO k μ n).dropLast = (segO k μ n).filter (fun p => decide (p ≠ a)) := by
        generalize (segO k μ n).filter (fun p => decide (p ≠ a)) = l at hl
        rw [hl]
        refine ⟨?_, by simp⟩
        rw [List.length_append, List.length_singleton, Nat.add_sub_cancel, List.getD_eq_getElem?_getD, List.getElem?_append_right (Nat.le_refl _), Nat.sub_self]
        rfl
      refine ⟨prs ++ [(a, k + n)], ?_, fun p hpm => ?_, ?_⟩
      · unfold nd1
        rw [if_neg (show ¬ ((-1 : Int) = 1) by decide), hO, hlast.1, hlast.2]
      · rcases List.mem_append.mp hpm with h | h
        · exact hp p h
        · rw [List.mem_singleton.mp h]
          exact ⟨ia, ha⟩
      · have := congrArg List.length hl
        rw [List.length_append, List.length_singleton] at this
        rw [hs, hO]
        simp only [List.sum_cons, List.sum_nil]
        omega
    · rw [if_neg c]
      have hO : segO k μ (n + 1) = segO k μ n ++ [k + n] := by
        refine asc_ext (segO_pw k μ (n + 1)) ?_ fun x => ?_
        · refine List.pairwise_append.mpr ⟨segO_pw k μ n, List.pairwise_singleton _ _, fun x hx y hy => ?_⟩
          rw [List.mem_singleton.mp hy]
          exact (segO_mem.mp hx).1.2
        · rw [List.mem_append, segO_mem, segO_mem, List.mem_singleton]
          constructor
          · rintro ⟨h1, h2⟩
            by_cases z : x = k + n
            · exact .inr z
            · exact .inl ⟨by omega, fun y => h2 (by omega)⟩
          · rintro (⟨h1, h2⟩ | z)
            · refine ⟨by omega, fun y => ?_⟩
              have hx : μ x = k + n := by omega
              have := S.inv x (by omega) (by omega) (by omega) (by omega)
              rw [hx] at this
              exact c (by rw [this]; exact h1)
            · subst z
              exact ⟨by omega, fun y => c (by omega)⟩
      refine ⟨prs, ?_, hp, ?_⟩
      · unfold nd1
        rw [if_pos rfl, hO]
      · rw [hs, hO, List.length_append, List.length_singleton]
        simp only [List.sum_cons, List.sum_nil]
        omega
theorem seg_wlk {k : Int} {μ : Int → Int} {n : Nat} (S : Seg k μ n) : Wlk (segW k μ n) := by
  refine ⟨fun x hx => ?_, fun i hi => ?_⟩
  · unfold segW at hx
    obtain ⟨i, _, rfl⟩ := List.mem_map.mp hx
    split
    · exact .inr rfl
    · exact .inl rfl
  · rw [segW_len] at hi
    rw [segW_take k μ hi]
    obtain ⟨_, _, _, hs⟩ := seg_nd (S.less hi)
    rw [hs]
    omega
theorem zip_map_self (μ : Int → Int) : ∀ S : List Int, S.zip (S.map μ) = S.map fun x => (x, μ x)
  | [] => rfl
  | x :: S => by rw [List.map_cons, List.zip_cons_cons, zip_map_self μ S, List.map_cons]
section
variable {u d : Int} {P : List (Int × Int)} {ns : List Int} (I : Is u d P ns)
include I
theorem ring_nc {x y : Int} (hx : 0 ≤ x ∧ x < u + d) (hy : 0 ≤ y ∧ y < u + d) : ¬ SepP ((ringI u d).idxOf x) ((ringI u d).idxOf (mu ns x)) ((ringI u d).idxOf y) ((ringI u d).idxOf (mu ns y)) := by
  have R := match_mu I.M
  have hx2 := (ringI_mem I.hu I.hd).mpr hx
  have hy2 := (ringI_mem I.hu I.hd).mpr hy
  have e : ∀ x ∈ ringI u d, prt P x = mu ns x := fun x hx => prt_by I.M.nd I.W ((I.M.mem x).mpr hx)
  have h := R.nc x (by simpa using hx2) y (by simpa using hy2)
  rw [e x hx2, e y hy2] at h
  exact h
theorem idx_up {x : Int} (h0 : 0 ≤ x) (h1 : x < u) : ((ringI u d).idxOf x : Int) = x := by
  have hd := I.hd
  rw [(ring_idx I.hu I.hd h0 (by omega)).1]
  exact if_pos h1
theorem idx_lo {x : Int} (h0 : u ≤ x) (h1 : x < u + d) : ((ringI u d).idxOf x : Int) = 2 * u + d - 1 - x := by
  have hu := I.hu
  rw [(ring_idx I.hu I.hd (by omega) h1).1]
  exact if_neg (by omega)
theorem seg_up : Seg 0 (mu ns) u.toNat := by
  have hu := I.hu
  have hd := I.hd
  refine ⟨fun p h1 h2 => (I.at h1 (by omega)).2.2.2.1, fun p h1 h2 _ _ => (I.at h1 (by omega)).2.2.2.2, fun a b h1 h2 h3 h4 => ?_⟩
  obtain ⟨_, c0, c1, c2, c3⟩ := I.at (show 0 ≤ b by omega) (show b < u + d by omega)
  have n := ring_nc I (x := a) (y := b) ⟨h1, by omega⟩ ⟨by omega, by omega⟩
  have e1 := idx_up I h1 (show a < u by omega)
  have e2 := idx_up I (show 0 ≤ mu ns a by omega) (show mu ns a < u by omega)
  have e3 := idx_up I (show 0 ≤ b by omega) (show b < u by omega)
  unfold SepP Btw at n
  by_cases c : mu ns b < u
  · have e4 := idx_up I c0 c
    omega
  · have e4 := idx_lo I (show u ≤ mu ns b by omega) c1
    omega
theorem seg_lo : Seg u (mu ns) d.toNat := by
  have hu := I.hu
  have hd := I.hd
  refine ⟨fun p h1 h2 => (I.at (by omega) (by omega)).2.2.2.1, fun p h1 h2 _ _ => (I.at (by omega) (by omega)).2.2.2.2, fun a b h1 h2 h3 h4 => ?_⟩
  obtain ⟨_, c0, c1, c2, c3⟩ := I.at (show 0 ≤ b by omega) (show b < u + d by omega)
  have n := ring_nc I (x := a) (y := b) ⟨by omega, by omega⟩ ⟨by omega, by omega⟩
  have e1 := idx_lo I h1 (show a < u + d by omega)
  have e2 := idx_lo I (show u ≤ mu ns a by omega) (show mu ns a < u + d by omega)
  have e3 := idx_lo I (show u ≤ b by omega) (show b < u + d by omega)
  unfold SepP Btw at n
  by_cases c : mu ns b < u
  · have e4 := idx_up I c0 c
    omega
  · have e4 := idx_lo I (show u ≤ mu ns b by omega) c1
    omega
theorem thru_map : (segO 0 (mu ns) u.toNat).map (mu ns) = segO u (mu ns) d.toNat := by
  have hu := I.hu
  have hd := I.hd
  have out : ∀ p, p ∈ segO 0 (mu ns) u.toNat → 0 ≤ p ∧ p < u ∧ u ≤ mu ns p ∧ mu ns p < u + d ∧ mu ns (mu ns p) = p := fun p hp => by
    obtain ⟨h1, h2⟩ := segO_mem.mp hp
    obtain ⟨_, c0, c1, c2, c3⟩ := I.at (show 0 ≤ p by omega) (show p < u + d by omega)
    exact ⟨h1.1, by omega, Classical.byContradiction fun z => h2 ⟨c0, by omega⟩, c1, c3⟩
  refine asc_ext ?_ (segO_pw u (mu ns) d.toNat) fun x => ?_
  · refine List.pairwise_map.mpr ((segO_pw 0 (mu ns) u.toNat).imp_of_mem ?_)
    intro a b ha hb hlt
    obtain ⟨a0, a1, a2, a3, a4⟩ := out a ha
    obtain ⟨b0, b1, b2, b3, b4⟩ := out b hb
    have n := ring_nc I (x := a) (y := b) ⟨a0, by omega⟩ ⟨b0, by omega⟩
    have e1 := idx_up I a0 a1
    have e2 := idx_lo I a2 a3
    have e3 := idx_up I b0 b1
    have e4 := idx_lo I b2 b3
    have ne : mu ns a ≠ mu ns b := fun z => by rw [z, b4] at a4; omega
    unfold SepP Btw at n
    omega
  · rw [List.mem_map, segO_mem]
    constructor
    · rintro ⟨p, hp, rfl⟩
      obtain ⟨a0, a1, a2, a3, a4⟩ := out p hp
      exact ⟨⟨a2, by omega⟩, fun z => by rw [a4] at z; omega⟩
    · rintro ⟨h1, h2⟩
      obtain ⟨_, c0, c1, c2, c3⟩ := I.at (show 0 ≤ x by omega) (show x < u + d by omega)
      refine ⟨mu ns x, segO_mem.mpr ⟨⟨c0, ?_⟩, fun z => ?_⟩, c3⟩
      · exact Classical.byContradiction fun z => h2 ⟨by omega, by omega⟩
      · rw [c3] at z; omega
theorem mat_wk : Wlk (segW 0 (mu ns) u.toNat) ∧ Wlk (segW u (mu ns) d.toNat) ∧ (segW 0 (mu ns) u.toNat).sum = (segW u (mu ns) d.toNat).sum ∧ Row (wkP u (segW 0 (mu ns) u.toNat) (segW u (mu ns) d.toNat)) ns := by
  have hu := I.hu
  have hd := I.hd
  obtain ⟨ps, e1, p1, s1⟩ := seg_nd (seg_up I)
  obtain ⟨qs, e2, p2, s2⟩ := seg_nd (seg_lo I)
  refine ⟨seg_wlk (seg_up I), seg_wlk (seg_lo I), ?_, fun p hp => ?_⟩
  · rw [s1, s2, ← thru_map I, List.length_map]
  · unfold wkP at hp
    rw [e1, e2] at hp
    rcases List.mem_append.mp hp with h | h
    · rcases List.mem_append.mp h with h | h
      · exact p1 p h
      · exact p2 p h
    · rw [← thru_map I, zip_map_self] at h
      obtain ⟨x, hx, rfl⟩ := List.mem_map.mp h
      obtain ⟨h1, h2⟩ := segO_mem.mp hx
      exact ⟨rfl, (I.at (show 0 ≤ x by omega) (show x < u + d by omega)).2.2.2.2⟩
theorem upWk_seg : upWk u ns = segW 0 (mu ns) u.toNat := by
  have hu := I.hu
  have hd := I.hd
  unfold upWk segW
  refine List.map_congr_left fun i hi => ?_
  have hi := List.mem_range.mp hi
  obtain ⟨_, c0, c1, c2, c3⟩ := I.at (show (0 : Int) ≤ i by omega) (show (i : Int) < u + d by omega)
  have e : ns.getD i 0 = mu ns (i : Int) := by unfold mu; rw [Int.toNat_natCast]
  rw [e, Int.zero_add]
  by_cases c : mu ns (i : Int) > i
  · rw [if_pos c, if_neg (by omega)]
  · rw [if_neg c, if_pos (by omega)]
end
def loWk (u d : Int) (ns : List Int) : List Int := segW u (mu ns) d.toNat
def rowWk (us ds : List Int) : List Int := mtI (us.length + ds.length) (wkP us.length us ds)
theorem rowWk_is {us ds : List Int} (hu : Wlk us) (hd : Wlk ds) (e : us.sum = ds.sum) (h0 : 0 < us.length + ds.length) : Is us.length ds.length (wkP us.length us ds) (rowWk us ds) := by
  have M := wk_match hu hd e
  refine wk_is hu hd e h0 (by unfold rowWk; rw [mtI_len]; omega) (mtI_row (F := ringI us.length ds.length) (fun x => ?_) M)
  rw [ringI_mem (by omega) (by omega)]
  omega
end JJ
namespace JJ
open PySem PySem.Spec PP L2 MM
theorem upWk_len {u : Int} {ns : List Int} : (upWk u ns).length = u.toNat := by unfold upWk; rw [List.length_map, List.length_range]
theorem loWk_len {u d : Int} {ns : List Int} : (loWk u d ns).length = d.toNat := segW_len ..
theorem mat_pair {u d : Int} {P : List (Int × Int)} {ns : List Int} (I : Is u d P ns) : Wlk (upWk u ns) ∧ Wlk (loWk u d ns) ∧ (upWk u ns).sum = (loWk u d ns).sum ∧ ((upWk u ns).length : Int) = u ∧ ((loWk u d ns).length : Int) = d ∧
    ∀ k, Is (upWk u ns).length (loWk u d ns).length (wkP (upWk u ns).length (upWk u ns) (loWk u d ns)) k → k = ns := by
  have hu := I.hu
  have hd := I.hd
  obtain ⟨h1, h2, h3, h4⟩ := mat_wk I
  rw [← upWk_seg I] at h1 h3 h4
  have l1 : ((upWk u ns).length : Int) = u := by rw [upWk_len]; omega
  have l2 : ((loWk u d ns).length : Int) = d := by rw [loWk_len]; omega
  refine ⟨h1, h2, h3, l1, l2, fun k J => ?_⟩
  rw [l1, l2] at J
  exact J.one ⟨hu, hd, I.h0, I.len, J.M, h4⟩
def spMatC : FSp := fun pvs m q => ∃ (xs : List PyData) (c : Nat) (u d : Int), pvs = [.ref 0, .d (.int u), .d (.int d)] ∧ m = [some (.lst xs)] ∧ WS c xs ∧ c < 900000000 ∧ 0 ≤ u ∧ u ≤ 1000 ∧ 0 ≤ d ∧ d ≤ 1000 ∧ 0 < u + d ∧ (u + d) % 2 = 0 ∧
  ∀ xs' ns, WS (c + 3000) xs' → isMatB u d ns = true → q (.d (matD u d ns)) [some (.lst xs')]
def spSzC : FSp := fun pvs m q => ∃ (xs : List PyData) (c : Nat) (most : Int), pvs = [.ref 0, .d (.int most)] ∧ m = [some (.lst xs)] ∧ WS c xs ∧ c < 900000000 ∧ 2 ≤ most ∧ most ≤ 1000 ∧
  ∀ xs' u d, WS (c + 3) xs' → 0 ≤ u → 0 ≤ d → 0 < u + d → u + d ≤ most → (u + d) % 2 = 0 → q (.d (.tuple [.int u, .int d])) [some (.lst xs')]
theorem lean_at {r : Int} (h0 : 0 ≤ r) (h1 : r < 5) : ∃ a b : Int, atI [PyData.tuple [.int 2, .int 2], .tuple [.int 3, .int 1], .tuple [.int 1, .int 1], .tuple [.int 3, .int 3], .tuple [.int 1, .int 3]] r = some (.tuple [.int a, .int b]) := by
  have h : r = 0 ∨ r = 1 ∨ r = 2 ∨ r = 3 ∨ r = 4 := by omega
  rcases h with rfl | rfl | rfl | rfl | rfl <;> exact ⟨_, _, rfl⟩
theorem bool_at {a b : Int} (k : Bool) : ∃ c : Int, atI [PyData.int a, .int b] (if k = true then 1 else 0) = some (.int c) := by
  cases k
  · exact ⟨a, rfl⟩
  · exact ⟨b, rfl⟩
theorem half_at {r h : Int} (h0 : 0 ≤ r) (h1 : r < 2) : ∃ a b : Int, atI [PyData.tuple [.int (2 * h), .int 0], .tuple [.int 0, .int (2 * h)]] r = some (.tuple [.int a, .int b]) ∧ ((a = 2 * h ∧ b = 0) ∨ (a = 0 ∧ b = 2 * h)) := by
  have h : r = 0 ∨ r = 1 := by omega
  rcases h with rfl | rfl
  · exact ⟨_, _, rfl, .inl ⟨rfl, rfl⟩⟩
  · exact ⟨_, _, rfl, .inr ⟨rfl, rfl⟩⟩
theorem dr_ne {u d : Int} {i : Nat} {ws : List Int} {a p : Int} {fs : List (Int × Int)} {ns : List Int} (D : Dr u d i (ws ++ [a]) fs ns) (hu : 0 ≤ u) (hd : 0 ≤ d) (hp : (ringI u d)[i]? = some p) : p.toNat ≠ a.toNat := fun e => by
  have hpm := (ringI_mem hu hd).mp (List.mem_of_getElem? hp)
  have ham := D.rg a (List.mem_append_right _ List.mem_cons_self)
  have nd := D.nd
  rw [drop_at hp] at nd
  exact (List.nodup_append.mp nd).2.2 a (List.mem_append_right _ List.mem_cons_self) p List.mem_cons_self (by omega)
end JJ
namespace JJ
open PySem PySem.Spec PP L2 MM
theorem Is.of_made {u d : Int} {P : List (Int × Int)} {ns k : List Int} (I : Is u d P ns) (hl : (k.length : Int) = u + d) (W : Row P k) : k = ns := (show Is u d P k from ⟨I.hu, I.hd, I.h0, hl, I.M, W⟩).one I
end JJ
namespace PP
open PySem PySem.Spec PyProof.Rows L2
end PP
namespace PP
open PySem PySem.Spec PyProof.Rows L2
end PP
namespace PP
open PySem PySem.Spec PyProof.Rows L2
end PP
namespace JJ
open PySem PySem.Spec PP L2 MM
def AnsP (k u d : Int) (P : List (Int × Int)) (ns : List Int) (A : PyData) : Prop :=
  (k = 0 → A = .int (((allL u d).findIdx (fun z => PyData.eqv z (matD u d ns)) : Nat) : Int)) ∧
  (k = 1 → ∃ ks, A = matD d u ks ∧ Is d u (mapP (flipP u d) P) ks) ∧
  (k = 2 → ∃ ks, A = matD u d ks ∧ Is u d (mapP (sideP u d) P) ks) ∧
  (k = 3 → ∃ ks, A = matD u d ks ∧ Is u d (mapP (tnP u d) P) ks) ∧
  (k = 4 → A = .int (crs u P)) ∧
  (k = 5 → ∃ ks, A = matD u (thN u P) ks ∧ Is u (thN u P) (upP u P) ks) ∧
  (k = 6 → ∃ ks, A = matD d (thN d (mapP (flipP u d) P)) ks ∧ Is d (thN d (mapP (flipP u d) P)) (upP d (mapP (flipP u d) P)) ks) ∧
  (7 ≤ k → A = .list ((strI ns ns.length).map nPair))
section
variable {k u d : Int} {P : List (Int × Int)} {ns ks : List Int} {A B : PyData}
theorem AnsP.one (h0 : 0 ≤ k) (a : AnsP k u d P ns A) (b : AnsP k u d P ns B) : A = B := by
  obtain ⟨a0, a1, a2, a3, a4, a5, a6, a7⟩ := a
  obtain ⟨b0, b1, b2, b3, b4, b5, b6, b7⟩ := b
  by_cases h : 7 ≤ k
  · rw [a7 h, b7 h]
  have h9 : k = 0 ∨ k = 1 ∨ k = 2 ∨ k = 3 ∨ k = 4 ∨ k = 5 ∨ k = 6 := by omega
  rcases h9 with e | e | e | e | e | e | e
  · rw [a0 e, b0 e]
  · obtain ⟨x, rfl, I⟩ := a1 e; obtain ⟨y, rfl, J⟩ := b1 e; rw [I.one J]
  · obtain ⟨x, rfl, I⟩ := a2 e; obtain ⟨y, rfl, J⟩ := b2 e; rw [I.one J]
  · obtain ⟨x, rfl, I⟩ := a3 e; obtain ⟨y, rfl, J⟩ := b3 e; rw [I.one J]
  · rw [a4 e, b4 e]
  · obtain ⟨x, rfl, I⟩ := a5 e; obtain ⟨y, rfl, J⟩ := b5 e; rw [I.one J]
  · obtain ⟨x, rfl, I⟩ := a6 e; obtain ⟨y, rfl, J⟩ := b6 e; rw [I.one J]
end
end JJ
namespace JJ
open PySem PySem.Spec PP L2 MM
theorem dq_pr {a b : PyData} (ha : Dq 3 a) (hb : Dq 3 b) : Dq 4 (.tuple [a, b]) := .tup fun x hx => by
  rcases List.mem_cons.mp hx with rfl | hx
  · exact ha
  · rcases List.mem_cons.mp hx with rfl | hx
    · exact hb
    · cases hx
theorem dq_tr {a b c : PyData} (ha : Dq 3 a) (hb : Dq 3 b) (hc : Dq 3 c) : Dq 4 (.tuple [a, b, c]) := .tup fun x hx => by
  rcases List.mem_cons.mp hx with rfl | hx
  · exact ha
  · rcases List.mem_cons.mp hx with rfl | hx
    · exact hb
    · rcases List.mem_cons.mp hx with rfl | hx
      · exact hc
      · cases hx
theorem dq_s {k : Str} (hk : (PyData.str k).canLay0 = true := by decide +kernel) : Dq 3 (.str k) := .sc rfl hk (Nat.zero_le _)
theorem AnsP.dq {k u d : Int} {P : List (Int × Int)} {ns : List Int} {A : PyData} (h0 : 0 ≤ k) (a : AnsP k u d P ns A) : Dq 3 A := by
  obtain ⟨a0, a1, a2, a3, a4, a5, a6, a7⟩ := a
  by_cases h : 7 ≤ k
  · rw [a7 h]; exact dq_pairs
  have h9 : k = 0 ∨ k = 1 ∨ k = 2 ∨ k = 3 ∨ k = 4 ∨ k = 5 ∨ k = 6 := by omega
  rcases h9 with e | e | e | e | e | e | e
  · rw [a0 e]; exact dq_i
  · obtain ⟨x, rfl, I⟩ := a1 e; exact dq_mat
  · obtain ⟨x, rfl, I⟩ := a2 e; exact dq_mat
  · obtain ⟨x, rfl, I⟩ := a3 e; exact dq_mat
  · rw [a4 e]; exact dq_i
  · obtain ⟨x, rfl, I⟩ := a5 e; exact dq_mat
  · obtain ⟨x, rfl, I⟩ := a6 e; exact dq_mat
def R9 (k u d : Int) (ns : List Int) (X : PyData) : Prop := (isMatB u d ns = true ∧ ∃ A, AnsP k u d (strI ns ns.length) ns A ∧ X = .tuple [.str "told", A]) ∨ (isMatB u d ns = false ∧ X = .tuple [.str "error", .str "mat", matD u d ns])
theorem R9.one {k u d : Int} {ns : List Int} {X Y : PyData} (h0 : 0 ≤ k) (a : R9 k u d ns X) (b : R9 k u d ns Y) : X = Y := by
  rcases a with ⟨h1, A, hA, rfl⟩ | ⟨h1, rfl⟩ <;> rcases b with ⟨h2, B, hB, rfl⟩ | ⟨h2, rfl⟩
  · rw [hA.one h0 hB]
  · rw [h1] at h2; cases h2
  · rw [h1] at h2; cases h2
  · rfl
theorem R9.dq {k u d : Int} {ns : List Int} {X : PyData} (h0 : 0 ≤ k) (a : R9 k u d ns X) : Dq 4 X := by
  rcases a with ⟨h1, A, hA, rfl⟩ | ⟨h1, rfl⟩
  · exact dq_pr dq_s (hA.dq h0)
  · exact dq_tr dq_s dq_s dq_mat
def R29 (u d a b : Int) (ns ks : List Int) (X : PyData) : Prop := (isMatB u d ns = true ∧ isMatB a b ks = true ∧ ∃ rs, Is (u + a) (d + b) (besP u d a (strI ns ns.length) (strI ks ks.length)) rs ∧ X = .tuple [.str "told", matD (u + a) (d + b) rs]) ∨
  (isMatB u d ns = false ∧ X = .tuple [.str "error", .str "mat", matD u d ns]) ∨ (isMatB u d ns = true ∧ isMatB a b ks = false ∧ X = .tuple [.str "error", .str "mat", matD a b ks])
theorem R29.one {u d a b : Int} {ns ks : List Int} {X Y : PyData} (p : R29 u d a b ns ks X) (q : R29 u d a b ns ks Y) : X = Y := by
  rcases p with ⟨h1, h2, r, I, rfl⟩ | ⟨h1, rfl⟩ | ⟨h1, h2, rfl⟩ <;> rcases q with ⟨g1, g2, s, J, rfl⟩ | ⟨g1, rfl⟩ | ⟨g1, g2, rfl⟩
  · rw [I.one J]
  · rw [h1] at g1; cases g1
  · rw [h2] at g2; cases g2
  · rw [h1] at g1; cases g1
  · rfl
  · rw [h1] at g1; cases g1
  · rw [h2] at g2; cases g2
  · rw [h1] at g1; cases g1
  · rfl
theorem R29.dq {u d a b : Int} {ns ks : List Int} {X : PyData} (p : R29 u d a b ns ks X) : Dq 4 X := by
  rcases p with ⟨h1, h2, r, I, rfl⟩ | ⟨h1, rfl⟩ | ⟨h1, h2, rfl⟩
  · exact dq_pr dq_s dq_mat
  · exact dq_tr dq_s dq_s dq_mat
  · exact dq_tr dq_s dq_s dq_mat
def CntT (k u d i : Int) (A : PyData) : Prop := (k = 0 → ∃ ks, A = matD u u ks ∧ Is u u (strP u) ks) ∧ (k = 1 ∨ k = 5 → ∃ ks, A = matD u u ks ∧ Is u u (hookP u i) ks) ∧
  (k = 2 ∨ k = 8 → A = .int ((allL u d).length : Nat)) ∧ (k = 3 ∨ k = 7 → A = .list (allL u d)) ∧ (k = 4 ∨ k = 6 → ∃ j : Nat, i = j ∧ (allL u d)[j]? = some A)
def CntOk (k u d i : Int) : Prop := 0 ≤ k ∧ k ≤ 8 ∧ u ≤ 9 ∧ d ≤ 4 ∧ (k = 0 ∨ k = 1 ∨ k = 5 → 1 ≤ u) ∧ (k = 1 ∨ k = 5 → 0 ≤ i ∧ i < u - 1) ∧ (¬ (k = 0 ∨ k = 1 ∨ k = 5) → 0 ≤ u ∧ 0 ≤ d) ∧ (k = 4 ∨ k = 6 → 0 ≤ i ∧ i < (allL u d).length)
def Neg (u d v : Int) : Prop := (u < 0 ∧ v = u) ∨ (0 ≤ u ∧ d < 0 ∧ v = d)
def CntN (k u d i v : Int) : Prop := 0 ≤ k ∧ k ≤ 8 ∧ u ≤ 9 ∧ d ≤ 4 ∧ (k = 0 ∨ k = 1 ∨ k = 5 → u < 1 ∧ v = u) ∧ (k = 2 ∨ k = 8 ∨ k = 3 ∨ k = 7 → Neg u d v) ∧ (k = 4 ∨ k = 6 → Neg u d v ∨ (0 ≤ u ∧ 0 ≤ d ∧ ¬ (0 ≤ i ∧ i < (allL u d).length) ∧ v = i))
def CntH (k u d i : Int) : Prop := (k = 1 ∨ k = 5) ∧ 1 ≤ u ∧ u ≤ 9 ∧ ¬ (0 ≤ i ∧ i < u - 1)
theorem CntT.one {k u d i : Int} {A B : PyData} (h0 : 0 ≤ k) (h8 : k ≤ 8) (a : CntT k u d i A) (b : CntT k u d i B) : A = B := by
  obtain ⟨a0, a1, a2, a3, a4⟩ := a
  obtain ⟨b0, b1, b2, b3, b4⟩ := b
  have h9 : k = 0 ∨ (k = 1 ∨ k = 5) ∨ (k = 2 ∨ k = 8) ∨ (k = 3 ∨ k = 7) ∨ (k = 4 ∨ k = 6) := by omega
  rcases h9 with e | e | e | e | e
  · obtain ⟨x, rfl, I⟩ := a0 e; obtain ⟨y, rfl, J⟩ := b0 e; rw [I.one J]
  · obtain ⟨x, rfl, I⟩ := a1 e; obtain ⟨y, rfl, J⟩ := b1 e; rw [I.one J]
  · rw [a2 e, b2 e]
  · rw [a3 e, b3 e]
  · obtain ⟨x, h1, h2⟩ := a4 e
    obtain ⟨y, g1, g2⟩ := b4 e
    obtain rfl : x = y := by omega
    exact Option.some.inj (h2.symm.trans g2)
theorem CntT.dq {k u d i : Int} {A : PyData} (o : CntOk k u d i) (a : CntT k u d i A) : Dq 3 A := by
  obtain ⟨a0, a1, a2, a3, a4⟩ := a
  have h9 : k = 0 ∨ (k = 1 ∨ k = 5) ∨ (k = 2 ∨ k = 8) ∨ (k = 3 ∨ k = 7) ∨ (k = 4 ∨ k = 6) := by have := o.1; have := o.2.1; omega
  rcases h9 with e | e | e | e | e
  · obtain ⟨x, rfl, I⟩ := a0 e; exact dq_mat
  · obtain ⟨x, rfl, I⟩ := a1 e; exact dq_mat
  · rw [a2 e]; exact dq_i
  · rw [a3 e]; exact dq_all
  · obtain ⟨x, h1, h2⟩ := a4 e
    have := o.2.2.2.2.2.2.1 (by omega)
    exact dq_item this.1 this.2 h2
def C9 (k u d i : Int) (X : PyData) : Prop := (CntOk k u d i ∧ ∃ A, CntT k u d i A ∧ X = .tuple [.str "told", A]) ∨ (∃ v, CntN k u d i v ∧ X = .tuple [.str "error", .str "number", .int v]) ∨ (CntH k u d i ∧ X = .tuple [.str "error", .str "hook", .int i])
theorem CntN.one {k u d i v w : Int} (a : CntN k u d i v) (b : CntN k u d i w) : v = w := by
  obtain ⟨a0, a1, a2, a3, a4, a5, a6⟩ := a
  obtain ⟨b0, b1, b2, b3, b4, b5, b6⟩ := b
  have ng : ∀ {x y : Int}, Neg u d x → Neg u d y → x = y := fun p q => by
    rcases p with ⟨p1, p2⟩ | ⟨p1, p2, p3⟩ <;> rcases q with ⟨q1, q2⟩ | ⟨q1, q2, q3⟩ <;> omega
  by_cases h : k = 0 ∨ k = 1 ∨ k = 5
  · have := a4 h; have := b4 h; omega
  · by_cases e : k = 4 ∨ k = 6
    · rcases a6 e with p | ⟨p1, p2, p3, p4⟩ <;> rcases b6 e with q | ⟨q1, q2, q3, q4⟩
      · exact ng p q
      · rcases p with ⟨p1, _⟩ | ⟨_, p1, _⟩ <;> omega
      · rcases q with ⟨q1, _⟩ | ⟨_, q1, _⟩ <;> omega
      · omega
    · exact ng (a5 (by omega)) (b5 (by omega))
theorem cnt_no {k u d i v : Int} (a : CntOk k u d i) (b : CntN k u d i v) : False := by
  obtain ⟨a0, a1, a2, a3, a4, a5, a6, a7⟩ := a
  obtain ⟨b0, b1, b2, b3, b4, b5, b6⟩ := b
  by_cases h : k = 0 ∨ k = 1 ∨ k = 5
  · have := a4 h; have := b4 h; omega
  · have h6 := a6 h
    have nn : ¬ Neg u d v := fun z => by rcases z with ⟨z, _⟩ | ⟨_, z, _⟩ <;> omega
    by_cases e : k = 4 ∨ k = 6
    · rcases b6 e with p | ⟨_, _, p, _⟩
      · exact nn p
      · exact p (a7 e)
    · exact nn (b5 (by omega))
theorem cnt_no2 {k u d i : Int} (a : CntOk k u d i) (b : CntH k u d i) : False := b.2.2.2 (a.2.2.2.2.2.1 b.1)
theorem cnt_no3 {k u d i v : Int} (a : CntN k u d i v) (b : CntH k u d i) : False := by
  have h1 := b.1
  have h2 := b.2.1
  have := a.2.2.2.2.1 (by omega)
  omega
theorem C9.one {k u d i : Int} {X Y : PyData} (p : C9 k u d i X) (q : C9 k u d i Y) : X = Y := by
  rcases p with ⟨o, A, hA, rfl⟩ | ⟨v, n, rfl⟩ | ⟨h, rfl⟩ <;> rcases q with ⟨o2, B, hB, rfl⟩ | ⟨w, n2, rfl⟩ | ⟨h2, rfl⟩
  · rw [hA.one o.1 o.2.1 hB]
  · exact (cnt_no o n2).elim
  · exact (cnt_no2 o h2).elim
  · exact (cnt_no o2 n).elim
  · rw [n.one n2]
  · exact (cnt_no3 n h2).elim
  · exact (cnt_no2 o2 h).elim
  · exact (cnt_no3 n2 h).elim
  · rfl
theorem C9.dq {k u d i : Int} {X : PyData} (p : C9 k u d i X) : Dq 4 X := by
  rcases p with ⟨o, A, hA, rfl⟩ | ⟨v, n, rfl⟩ | ⟨h, rfl⟩
  · exact dq_pr dq_s (hA.dq o)
  · exact dq_tr dq_s dq_s dq_i
  · exact dq_tr dq_s dq_s dq_i
end JJ
namespace PP
open PySem PySem.Spec PyProof.Rows L2
end PP
namespace PP
open PySem PySem.Spec PyProof.Rows L2
end PP
namespace PP
open PySem PySem.Spec PyProof.Rows L2
end PP
namespace PP
open PySem PySem.Spec PyProof.Rows L2
end PP
namespace PP
open PySem PySem.Spec PyProof.Rows L2
end PP
namespace PP
open PySem PySem.Spec PyProof.Rows L2
section
variable {X : Cx} {pins : List (Addr × Obj)} {σ : L2.St} {H : Hp} {s : Shared}
mutual
theorem dp_nest (I : Inv X pins σ H s) : ∀ (d : PyData) (k : NestedKey) (v : V) (u : Value), Dp X.K H v d → keyN d = some k → RelV v u → NestedIs s.heap k u
  | .int i, k, v, u, h, e, r => by
    cases e
    cases h
    obtain ⟨t, rfl⟩ := r
    exact .int i t
  | .tuple ds, k, v, u, h, e, r => by
    unfold keyN at e
    cases e1 : keysN ds with
    | none => rw [e1] at e; cases e
    | some ks =>
      rw [e1] at e
      cases e
      cases h with
      | tup hs ha =>
        cases r
        obtain ⟨its, rv, ⟨o, ho, hc, n, hd⟩, _⟩ := I.tuple hs
        exact .tup ho hc hd (by simpa using dpa_nest I ds ks _ its ha e1 rv)
  | .none, _, _, _, _, e, _ => by cases e
  | .bool _, _, _, _, _, e, _ => by cases e
  | .str _, _, _, _, _, e, _ => by cases e
  | .list _, _, _, _, _, e, _ => by cases e
  | .dict _, _, _, _, _, e, _ => by cases e
theorem dpa_nest (I : Inv X pins σ H s) : ∀ (ds : List PyData) (ks : List NestedKey) (vs : List V) (us : List Value), DpAll X.K H vs ds → keysN ds = some ks → Vals vs us → NestedAll s.heap ks us
  | [], ks, _, _, h, e, r => by
    cases e; cases h; cases r
    exact .nil
  | d :: ds, ks, _, _, h, e, r => by
    unfold keysN at e
    cases e1 : keyN d with
    | none => rw [e1] at e; cases e
    | some k =>
      cases e2 : keysN ds with
      | none => rw [e1, e2] at e; cases e
      | some ks2 =>
        rw [e1, e2] at e
        cases e
        cases h with
        | cons h1 h2 =>
          cases r with
          | cons r1 r2 => exact .cons (dp_nest I d k _ _ h1 e1 r1) (dpa_nest I ds ks2 _ _ h2 e2 r2)
end
end
def entV (us : List Ent) (k : NestedKey) : Option V := (us.find? fun p => decide (p.1 = k)).map (·.2.2)
def putE (us : List Ent) (k : NestedKey) (b : Addr) (v : V) : List Ent := if (us.any fun p => decide (p.1 = k)) then us.map (fun p => if p.1 = k then (p.1, p.2.1, v) else p) else us ++ [(k, b, v)]
abbrev RE : List Ent → List (NestedKey × Addr × Value) → Prop := Paired (fun (p : Ent) (q : NestedKey × Addr × Value) => p.1 = q.1 ∧ p.2.1 = q.2.1 ∧ RelV p.2.2 q.2.2)
theorem RE.at {k : NestedKey} : ∀ {us : List Ent} {xs : List (NestedKey × Addr × Value)}, RE us xs → (entV us k = none ∧ atKey xs k = none) ∨ ∃ v p, entV us k = some v ∧ atKey xs k = some p ∧ RelV v p.2
  | _, _, .nil => .inl ⟨rfl, rfl⟩
  | (k1, b1, v1) :: us, (k2, b2, w2) :: xs, .cons ⟨e, e2, r⟩ t => by
    have e : k1 = k2 := e
    subst e
    by_cases hk : k1 = k
    · exact .inr ⟨v1, (b2, w2), by simp [entV, hk], by simp [atKey, hk], r⟩
    · rcases RE.at (k := k) t with ⟨h1, h2⟩ | ⟨v, p, h1, h2, h3⟩
      · exact .inl ⟨by simpa [entV, hk] using h1, by simpa [atKey, hk] using h2⟩
      · exact .inr ⟨v, p, by simpa [entV, hk] using h1, by simpa [atKey, hk] using h2, h3⟩
theorem ent_any {us : List Ent} {k : NestedKey} : (us.any fun p => decide (p.1 = k)) = (entV us k).isSome := by
  induction us with
  | nil => rfl
  | cons p us ih =>
    by_cases hk : p.1 = k
    · simp [entV, hk]
    · simpa [entV, hk] using ih
theorem RE.map {k : NestedKey} {v : V} {w : Value} (r : RelV v w) : ∀ {us : List Ent} {xs : List (NestedKey × Addr × Value)}, RE us xs → RE (us.map fun p => if p.1 = k then (p.1, p.2.1, v) else p) (xs.map (putAt k w))
  | _, _, .nil => .nil
  | (k1, b1, v1) :: us, (k2, b2, w2) :: xs, .cons ⟨e, e2, r0⟩ t => by
    have e : k1 = k2 := e
    subst e
    refine .cons ?_ (RE.map r t)
    by_cases hk : k1 = k
    · simp only [putAt, hk, if_true]; exact ⟨trivial, e2, r⟩
    · simp only [putAt, hk, if_false]; exact ⟨trivial, e2, r0⟩
theorem RE.app : ∀ {us us2 : List Ent} {xs xs2 : List (NestedKey × Addr × Value)}, RE us xs → RE us2 xs2 → RE (us ++ us2) (xs ++ xs2)
  | _, _, _, _, .nil, s => s
  | _, _, _, _, .cons r t, s => .cons r (RE.app t s)
theorem RE.put {k : NestedKey} {b : Addr} {v : V} {w : Value} (r : RelV v w) {us : List Ent} {xs : List (NestedKey × Addr × Value)} (h : RE us xs) : RE (putE us k b v) (storedH xs k b w) := by
  unfold putE storedH
  rw [ent_any]
  rcases h.at (k := k) with ⟨h1, h2⟩ | ⟨v', p, h1, h2, _⟩
  · rw [h1, h2]; exact h.app (.cons ⟨rfl, rfl, r⟩ .nil)
  · rw [h1, h2]; exact RE.map r h
theorem putE_len {us : List Ent} {k : NestedKey} {b : Addr} {v : V} : (putE us k b v).length ≤ us.length + 1 := by
  unfold putE
  split
  · rw [List.length_map]; omega
  · rw [List.length_append]; exact Nat.le_refl _
theorem putE_bare {us : List Ent} {k : NestedKey} {b : Addr} {v : V} (h : ∀ p ∈ us, bareK p.1 = true ∧ p.1.depth ≤ 8) (hk : bareK k = true) (hd : k.depth ≤ 8) : ∀ p ∈ putE us k b v, bareK p.1 = true ∧ p.1.depth ≤ 8 := by
  intro p hp
  unfold putE at hp
  split at hp
  · obtain ⟨q, hq, rfl⟩ := List.mem_map.mp hp
    split <;> exact h q hq
  · rcases List.mem_append.mp hp with hp | hp
    · exact h p hp
    · rw [List.mem_singleton.mp hp]; exact ⟨hk, hd⟩
theorem RE.bare {us : List Ent} {xs : List (NestedKey × Addr × Value)} (r : RE us xs) : (∀ p ∈ us, bareK p.1 = true ∧ p.1.depth ≤ 8) → ∀ x ∈ xs, bareK x.1 = true := by
  intro h
  induction r with
  | nil => intro x hx; cases hx
  | @cons p q ps qs hq t ih =>
    intro x hx
    rcases List.mem_cons.mp hx with e | hx
    · rw [e, ← hq.1]; exact (h p List.mem_cons_self).1
    · exact ih (fun p hp => h p (List.mem_cons_of_mem _ hp)) x hx
theorem RE.len {us : List Ent} {xs : List (NestedKey × Addr × Value)} (r : RE us xs) : us.length = xs.length := Paired.length r
theorem dko_ok {P : Program} {w : World} {H : Hp} {h : Heap} {a : Addr} {us : List Ent} {xs : List (NestedKey × Addr × Value)} (z : us.length ≤ sizeLine) (hd : (a == sysModules) = false) (hb : ∀ p ∈ us, bareK p.1 = true ∧ p.1.depth ≤ 8) (r : RE us xs) (dd : h.DictOfH (nestedKind P w) a xs) : ObjOk P w H h a (dkO a us) := by
  obtain ⟨o, es, ep, ho, hx, hdat, he, _, hn⟩ := dd
  refine ⟨⟨z, hd, hb, xs, r, o, es, ep, ho, hx, hdat, fun P2 w2 => ?_, hn⟩, ⟨o, ho⟩, ?_⟩
  · rw [he]
    refine List.map_congr_left fun x hx => ?_
    show DictEntry.mk _ _ _ = DictEntry.mk _ _ _
    rw [show (nestedKind P w).hash x.1 = (nestedKind P2 w2).hash x.1 from bareK_hash w w2 x.1 (r.bare hb x hx)]
  · rintro h1 h2 ⟨z1, z2, z3, xs1, z4, o1, es1, ep1, z5, z6⟩ k
    exact ⟨z1, z2, z3, xs1, z4, o1, es1, ep1, k _ z5, z6⟩
section
variable {X : Cx} {pins : List (Addr × Obj)} {σ : L2.St} {H : Hp} {s : Shared} {a : Addr} {us : List Ent}
def KeysIn (K : PySem.W.Frag) (H : Hp) (us : List Ent) : Prop := ∀ p ∈ us, ∃ e, Dp K H (.ref p.2.1) e ∧ keyN e = some p.1
theorem dko_at (I : Inv X pins σ H s) (e : H a = some (dkO a us)) (f : KeysIn X.K H us) : us.length ≤ sizeLine ∧ (a == sysModules) = false ∧ (∀ p ∈ us, bareK p.1 = true ∧ p.1.depth ≤ 8) ∧ ∃ xs, RE us xs ∧ s.heap.DictOfH (nestedKind X.prog X.w) a xs := by
  obtain ⟨⟨z, hd, hb, xs, r, o, es, ep, ho, hx, hdat, he, hn⟩, _, _⟩ := (show ObjOk X.prog X.w H s.heap a (dkO a us) from I.hok a _ e)
  refine ⟨z, hd, hb, xs, r, o, es, ep, ho, hx, hdat, he X.prog X.w, ?_, hn⟩
  have go : ∀ {us : List Ent} {xs : List (NestedKey × Addr × Value)}, RE us xs → KeysIn X.K H us → (∀ p ∈ us, bareK p.1 = true ∧ p.1.depth ≤ 8) → ∀ x ∈ xs, NestedIs s.heap x.1 (.ref x.2.1) ∧ x.1.depth ≤ 8 := by
    intro us xs r
    induction r with
    | nil => intro _ _ x hx; cases hx
    | @cons p q ps qs hq t ih =>
      intro f b x hx
      rcases List.mem_cons.mp hx with e | hx
      · obtain ⟨d, h1, h2⟩ := f p List.mem_cons_self
        rw [e, ← hq.1, ← hq.2.1]
        exact ⟨dp_nest I d _ _ _ h1 h2 rfl, (b p List.mem_cons_self).2⟩
      · exact ih (fun p hp => f p (List.mem_cons_of_mem _ hp)) (fun p hp => b p (List.mem_cons_of_mem _ hp)) x hx
  exact go r f hb
structure NGet (K : PySem.W.Frag) (H : Hp) (a : Addr) (y : V) (us : List Ent) (k : NestedKey) (b : Addr) : Prop where
  obj : H a = some (dkO a us)
  keys : KeysIn K H us
  ref : y = .ref b
  key : ∃ d, Dp K H (.ref b) d ∧ keyN d = some k
  dep : k.depth ≤ 8
variable {A : Around} {E : Value → Shared → Prop} {y v : V} {u r : Value} {k : NestedKey} {b : Addr}
theorem NGet.is (I : Inv X pins σ H s) (g : NGet X.K H a y us k b) : (nestedKind X.prog X.w).is s.heap k b := by
  obtain ⟨d, h1, h2⟩ := g.key
  exact ⟨dp_nest I d k _ _ h1 h2 rfl, g.dep⟩
theorem dko_typeIs (I : Inv X pins σ H s) (e : H a = some (dkO a us)) : s.TypeIs (.ref a) "dict" ∧ (∀ b, Value.ref a = .ref b → ∃ ob, s.heap.get? b = some ob ∧ ob.dict = none) ∧ (a == sysModules) = false := by
  obtain ⟨⟨z, hd, hb, xs, r, o, es, ep, ho, hx, _⟩, _, _⟩ := (show ObjOk X.prog X.w H s.heap a (dkO a us) from I.hok a _ e)
  refine ⟨⟨o, ho, hx.1⟩, fun b q => ?_, hd⟩
  cases q
  exact ⟨o, ho, hx.2.1⟩
end
end PP
namespace PP
open PySem PySem.Spec PyProof.Rows L2
def KeyD (d : PyData) : Prop := ∃ k ds, keyN d = some k ∧ k.depth ≤ 8 ∧ d = .tuple ds
abbrev NDs (K : PySem.W.Frag) (F : Hp) : List Ent → List (PyData × PyData) → Prop := Paired fun (p : Ent) (q : PyData × PyData) => keyN q.1 = some p.1 ∧ DP K F (.ref p.2.1) q.1 ∧ DP K F p.2.2 q.2
section
variable {K : PySem.W.Frag} {F : Hp}
theorem nds_len {us : List Ent} {kvs : List (PyData × PyData)} (h : NDs K F us kvs) : us.length = kvs.length := Paired.length h
theorem nds_mono {F' : Hp} (e : Sub F F') {us : List Ent} {kvs : List (PyData × PyData)} (h : NDs K F us kvs) : NDs K F' us kvs := L2.Paired.mapP h fun a b z => ⟨z.1, dp_mono e _ _ z.2.1, dp_mono e _ _ z.2.2⟩
end
def tDNewN : TE := fun _ H Q => ∀ p, H p = none → Q (.ref p) (upd H p (dkO p []))
section
variable {X : Cx} {o i e f : Expr} {pos apos cpos : Pos} {td ty tx : TE}
theorem pe_dnewN : PE X (.Dict [] [] pos) tDNewN := ⟨fun pins s σ H Q I h =>
  wpAny_Dict_empty ⟨.ref s.heap.objs.size, _, I.laid (a := s.heap.objs.size) (o := dkO s.heap.objs.size []) (t' := s.toks) (fun _ _ q => Heap.get?_push_of_some _ q) (Nat.le_refl _) (dko_ok (P := X.prog) (w := X.w) (Nat.zero_le _) (beq_eq_false_iff_ne.mpr (Ne.symm (Nat.ne_of_lt I.big))) (fun p hp => by cases hp) .nil (Heap.DictOfH.new s.heap)), rfl, h _ (I.hok.fresh (Nat.le_refl _))⟩⟩
end
section
variable {X : Cx} {L : PP.Loc} {m : Mem} {a b c : Expr} {pos : Pos} {Q : QE} {QT : Bool → Mem → Prop} {D : PEnds}
theorem ncell_at {w : Wd} {H : Hp} {v : V} {k : Nat} {kvs : List (PyData × PyData)} (hr : HR X.K w m H) (r : RV X.K w v (.ref k)) (hm : m[k]? = some (some (.dD kvs))) : ∃ a us, v = .ref a ∧ w.A[k]? = some a ∧ H a = some (dkO a us) ∧ NDs X.K w.F us kvs := by
  obtain ⟨a, o, ea, eo, us, rfl, d⟩ := hr.cell k _ hm
  obtain ⟨a', ea', rfl⟩ := r
  rw [ea] at ea'; cases ea'
  exact ⟨a, us, rfl, ea, eo, d⟩
end
end PP
namespace JJ
open PySem PySem.Spec PP L2 MM
structure Sqm (n : Int) (a : M3) : Prop where
  M : Md a
  n0 : 0 < n
  n1 : n ≤ 8
  en : a.n = n
  em : a.m = n
section
variable {n : Int} {a b c : M3}
theorem Sqm.jn (A : Sqm n a) (B : Sqm n b) : Sqm n (jn2 a b) := ⟨md_jn A.M B.M (A.em.trans B.en.symm) (by rw [A.en, B.em]; have := A.n0; omega), A.n0, A.n1, A.en, B.em⟩
theorem Sqm.rw (A : Sqm n a) : Rw (n + n) a.ns := by
  have := A.M.S.R
  rw [A.en, A.em] at this; exact this
end
end JJ
namespace JJ
open PySem PySem.Spec PP L2 MM
section
variable {n : Int} {a b : M3} {t i : Nat}
theorem keysN_ints : ∀ ns : List Int, keysN (ns.map PyData.int) = some (ns.map .num)
  | [] => rfl
  | z :: ns => by
    show (match keyN (.int z), keysN (ns.map PyData.int) with | some k, some ks => some (k :: ks) | _, _ => none) = _
    rw [keysN_ints ns]; rfl
theorem depth_nums : ∀ ns : List Int, NestedKey.depthAll (ns.map .num) = 0
  | [] => rfl
  | z :: ns => by
    show max 0 (NestedKey.depthAll (ns.map .num)) = 0
    rw [depth_nums ns]; rfl
theorem rgs_bd {n m : Int} {s : Int → Int} : ∀ i : Nat, 0 ≤ rgs n m s i ∧ rgs n m s i ≤ i
  | 0 => ⟨by show (0 : Int) ≤ 0; omega, by show (0 : Int) ≤ 0; omega⟩
  | i + 1 => by
    obtain ⟨h1, h2⟩ := rgs_bd (n := n) (m := m) (s := s) i
    by_cases c : El n m s (down i) (n + (i : Int)) = n + m + (i : Int)
    · rw [rgs_yes c]; omega
    · rw [rgs_no c]; omega
end
end JJ
namespace PP
open PySem PySem.Spec PyProof.Rows L2 HT
end PP
namespace PP
open PySem PySem.Spec PyProof.Rows L2
theorem re_get {us : List Ent} {xs : List (NestedKey × Addr × Value)} (r : RE us xs) : ∀ {i : Nat} {k : NestedKey} {b : Addr} {v : V}, us[i]? = some (k, b, v) → ∃ u, xs[i]? = some (k, b, u) ∧ RelV v u := by
  induction r with
  | nil => intro i k b v e; simp at e
  | @cons p q ps qs hq t ih =>
    intro i k b v e
    cases i with
    | zero =>
      simp only [List.getElem?_cons_zero, Option.some.injEq] at e
      subst e
      obtain ⟨k2, b2, u⟩ := q
      obtain ⟨e1, e2, e3⟩ := hq
      dsimp only at e1 e2 e3
      subst e1; subst e2
      exact ⟨u, rfl, e3⟩
    | succ j =>
      simp only [List.getElem?_cons_succ] at e ⊢
      exact ih e
section
variable {X : Cx} {pins : List (Addr × Obj)} {σ : L2.St} {H : Hp} {s : Shared} {d : Addr} {o : Obj} {us : List Ent}
theorem Inv.frzN (I : Inv X pins σ H s) (h : H d = some (.frz o (dkO d us))) :
    (d == sysModules) = false ∧ ∃ (es : Array DictEntry) (ep : Nat), o.data = .dict es ep ∧ DT.Raw s.heap d es ep ∧ es.size = us.length ∧
      ∀ (i : Nat) (k : NestedKey) (b : Addr) (v : V), us[i]? = some (k, b, v) → ∃ en : DictEntry, es[i]? = some en ∧ en.key = .ref b ∧ RelV v en.val := by
  obtain ⟨hd, ⟨z, hs, hb, xs, r, o', es, ep, ho, hx, hdt, he, hn⟩, _, _⟩ := I.hok d _ h
  rw [hd] at ho
  cases ho
  have he := he X.prog X.w
  have l1 := size_of_entries he
  refine ⟨hs, es, ep, hdt, ⟨o, hd, hx, hdt⟩, by rw [l1]; exact (RE.len r).symm, fun i k b v e => ?_⟩
  obtain ⟨u, hu, ru⟩ := re_get r e
  have q := entry_at he i
  rw [hu] at q
  exact ⟨_, q, rfl, ru⟩
end
theorem dictEp {o : Obj} {es es' : Array DictEntry} {ep ep' : Nat} (h : o.data = .dict es ep) (h' : o.data = .dict es' ep') : es' = es ∧ ep' = ep := by
  rw [h] at h'
  cases h'
  exact ⟨rfl, rfl⟩
section
variable {K : PySem.W.Frag} {w : Wd} {m : Mem} {H : Hp}
theorem HR.lose (h : HR K w m H) {k : Nat} {a : Addr} {c : Cell} (ea : w.A[k]? = some a) (ec : m[k]? = some (some c)) (o : HO) : w.le (w.fz a o) ∧ HR K (w.fz a o) (m.set k none) (upd H a o) := by
  have hF := h.sep k a c ea ec
  have hs : Sub w.F (upd w.F a o) := Sub.upd hF
  have hk : k < m.length := (List.getElem?_eq_some_iff.mp ec).1
  refine ⟨⟨⟨⟨[], by simp [Wd.fz]⟩, hs⟩, rfl⟩, ?_, by rw [List.length_set]; exact h.len, h.nd, fun j b c2 e1 e2 => ?_, fun b hb => ?_, fun q hq => ?_, h.tnd, fun j c2 e' => ?_⟩
  · intro b x eb
    by_cases hb : b = a
    · subst hb
      rw [show (w.fz b o).F b = some o from upd_same] at eb
      rw [← eb, upd_same]
    · rw [show (w.fz a o).F b = w.F b from upd_ne hb] at eb
      rw [upd_ne hb]; exact h.fz b x eb
  · by_cases hj : j = k
    · subst hj; rw [List.getElem?_set_self hk] at e2; cases e2
    · rw [List.getElem?_set_ne (Ne.symm hj)] at e2
      have hne : b ≠ a := fun z => hj (nodup_at h.nd (z ▸ e1) ea)
      show upd w.F a o b = none
      rw [upd_ne hne]; exact h.sep j b c2 e1 e2
  · by_cases hne : b = a
    · subst hne; rw [upd_same]; exact fun z => by cases z
    · rw [upd_ne hne]; exact h.occ b hb
  · obtain ⟨e1, e2, e3⟩ := h.tp q hq
    have hne : q.1 ≠ a := fun z => e3 (z ▸ List.mem_of_getElem? ea)
    refine ⟨by rw [upd_ne hne]; exact e1, ?_, e3⟩
    show upd w.F a o q.1 = none
    rw [upd_ne hne]; exact e2
  · by_cases hj : j = k
    · subst hj; rw [List.getElem?_set_self hk] at e'; cases e'
    · rw [List.getElem?_set_ne (Ne.symm hj)] at e'
      obtain ⟨b, x, e1, e2, r⟩ := h.cell j c2 e'
      have hne : b ≠ a := fun z => hj (nodup_at h.nd (z ▸ e1) ea)
      exact ⟨b, x, e1, by rw [upd_ne hne]; exact e2, r.mono hs⟩
end
theorem nds_get {K : PySem.W.Frag} {F : Hp} {us : List Ent} {kvs : List (PyData × PyData)} (r : NDs K F us kvs) : ∀ {i : Nat} {k : NestedKey} {b : Addr} {v : V}, us[i]? = some (k, b, v) → ∃ p, kvs[i]? = some p ∧ DP K F (.ref b) p.1 ∧ DP K F v p.2 := by
  induction r with
  | nil => intro i k b v e; simp at e
  | @cons p q ps qs hq t ih =>
    intro i k b v e
    cases i with
    | zero =>
      simp only [List.getElem?_cons_zero, Option.some.injEq] at e
      subst e
      exact ⟨q, rfl, hq.2.1, hq.2.2⟩
    | succ j =>
      simp only [List.getElem?_cons_succ] at e ⊢
      exact ih e
end PP
namespace PP
open PySem PySem.Spec PyProof.Rows L2
end PP
namespace PP
open PySem PySem.Spec PyProof.Rows L2
end PP
namespace PP
open PySem PySem.Spec PyProof.Rows L2
end PP
namespace PP
open PySem PySem.Spec PyProof.Rows L2
open PySem.W (alike dataLt rcLt_alike)
end PP
namespace PP
open PySem PySem.Spec PyProof.Rows L2
section
variable {X : Cx} {L : PP.Loc} {m : Mem} {a : Expr} {pos p : Pos} {Q : QE}
theorem we_maxL (hc : X.calm = true) (hm : X.mg "max" = none) (h : WV X a L m fun p m1 => ∃ ns : List Int, lstP m1 p = some (ns.map .int) ∧ 0 < ns.length ∧ ∀ i, i ∈ ns → (∀ y ∈ ns, y ≤ i) → Q (.int i) m1) (hg : Gl X "max" := by rfl) (he : starEach [a] X.env = (false, eval a X.env) :: starEach [] X.env := by rfl)
    (hpl : (backTo pos (starEach [] X.env)).any (·.1) = false := by rfl) : WE X (.Call (.Name "max" p) [a] [] pos) L m Q :=
  we_of (pe_callB (cr_max hc) hg hm (by decide +kernel) (paU [a]) (he := he) (hpl := hpl)) fun w σ H r => WA.go (wa1 h he) r fun w1 vs ps m1 H1 l1 r1 d1 ⟨p, e1, ns, e2, hz, q⟩ => by
    subst e1
    obtain ⟨v, rfl, d2⟩ := rvs1 d1
    obtain ⟨ad, vs, rfl, hh, d⟩ := lstP_ok r1.toHR d2 e2
    have e3 := dpa_ints_inv d
    subst e3
    exact ⟨ad, ns, rfl, .of hh, hz, fun i hi hy => ⟨w1, _, m1, l1, r1.toHR, .int _, q i hi hy⟩⟩
end
end PP
namespace PP
open PySem PySem.Spec PyProof.Rows L2
end PP
namespace PySem
def ZSt (h : Heap) (z TI TO i1 i2 l1 l2 : Addr) (xs ys : Array Value) (i : Nat) : Prop := IsPair h TI (.ref i1) (.ref i2) ∧ h.IsListIter i1 l1 i ∧ h.IsListIter i2 l2 i ∧ h.IsList l1 xs ∧ h.IsList l2 ys ∧
  ((IsZip h z TI TO .none ∧ ∃ a b, IsPair h TO a b) ∨ ∃ T f oT, IsZipHeld h z TI TO T f ∧ h.get? T = some oT ∧ T ≠ z ∧ T ≠ i1 ∧ T ≠ i2 ∧ ∃ o, h.get? TO = some o)
section
variable {prog : Program} {w : World} {A : Around} {R : Result → Shared → Prop} {z TI TO i1 i2 l1 l2 S : Addr} {xs ys : Array Value}
theorem ZSt.keep {h h' : Heap} {i : Nat} (st : ZSt h z TI TO i1 i2 l1 l2 xs ys i) (nS : S ∉ [z, TI, TO, i1, i2, l1, l2]) (hk : ∀ b o, b ≠ S → h.get? b = some o → h'.get? b = some o) (hT : ∀ T, h.get? T ≠ none → T ≠ S → h'.get? T ≠ none) (live : ∃ o, h'.get? S = some o) : ZSt h' z TI TO i1 i2 l1 l2 xs ys i := by
  simp only [List.mem_cons, List.not_mem_nil, or_false, not_or] at nS
  obtain ⟨a1, a2, a3, a4, a5, a6, a7⟩ := nS
  obtain ⟨h1, h2, h3, h4, h5, h6⟩ := st
  refine ⟨hk _ _ (Ne.symm a2) h1, h2.at fun o e => hk _ o (Ne.symm a4) e, h3.at fun o e => hk _ o (Ne.symm a5) e, h4.at fun o e => hk _ o (Ne.symm a6) e, h5.at fun o e => hk _ o (Ne.symm a7) e, ?_⟩
  rcases h6 with ⟨q, a, b, r⟩ | ⟨T, f, oT, q, r, n⟩
  · exact .inl ⟨hk _ _ (Ne.symm a1) q, a, b, hk _ _ (Ne.symm a3) r⟩
  · obtain ⟨n1, n2, n3, o', n4⟩ := n
    by_cases e : T = S
    · obtain ⟨o, ho⟩ := live
      exact .inr ⟨T, f, o, hk _ _ (Ne.symm a1) q, e ▸ ho, n1, n2, n3, o', hk _ _ (Ne.symm a3) n4⟩
    · exact .inr ⟨T, f, oT, hk _ _ (Ne.symm a1) q, hk _ _ e r, n1, n2, n3, o', hk _ _ (Ne.symm a3) n4⟩
end
end PySem
namespace L2
open PySem PySem.Spec PyProof.Rows
end L2
namespace PP
open PySem PySem.Spec PyProof.Rows L2
end PP
namespace PySem
end PySem
namespace L2
open PySem PySem.Spec PyProof.Rows
end L2
namespace PP
open PySem PySem.Spec PyProof.Rows L2
end PP
namespace PySem
end PySem
namespace L2
open PySem PySem.Spec PyProof.Rows
end L2
namespace PP
open PySem PySem.Spec PyProof.Rows L2
end PP
namespace PP
open PySem PySem.Spec PyProof.Rows L2
open PySem.W (AllAlike Sortable dataLe dataLt EachIs)
end PP
namespace PP
open PySem PySem.Spec PyProof.Rows L2
section
variable {X : Cx} {pins : List (Addr × Obj)} {σ : L2.St} {H : Hp} {s : Shared} {a : Addr} {us : List Ent} {ob : Obj}
structure NGetL (K : PySem.W.Frag) (H : Hp) (a : Addr) (y : V) (ob : Obj) (us : List Ent) (k : NestedKey) (b : Addr) : Prop where
  obj : H a = some (.frz ob (dkO a us))
  keys : KeysIn K H us
  ref : y = .ref b
  key : ∃ d, Dp K H (.ref b) d ∧ keyN d = some k
  dep : k.depth ≤ 8
variable {A : Around} {E : Value → Shared → Prop} {y v : V} {u r : Value} {k : NestedKey} {b : Addr}
theorem NGetL.is (I : Inv X pins σ H s) (g : NGetL X.K H a y ob us k b) : (nestedKind X.prog X.w).is s.heap k b := by
  obtain ⟨d, h1, h2⟩ := g.key
  exact ⟨dp_nest I d k _ _ h1 h2 rfl, g.dep⟩
end
end PP
namespace PP
open PySem PySem.Spec PyProof.Rows L2
end PP
namespace PP
open PySem PySem.W PySem.Calls PyProof.Rows PyProof.V PySem.Spec
end PP
namespace PP
open PySem PySem.Spec PyProof.Rows L2
open PySem.W (AllAlike Sortable dataLe dataLt EachIs)
end PP
namespace PP
open PySem PySem.Spec PyProof.Rows L2
open PySem.W (AllAlike Sortable dataLe dataLt EachIs)
end PP
namespace PP
open PySem PySem.W PySem.Calls PyProof.Rows PyProof.V PySem.Spec L2
end PP
namespace PP
open PySem PySem.Spec PyProof.Rows L2
end PP
namespace PP
open PySem PySem.W PySem.Calls PyProof.Rows PyProof.V PySem.Spec L2
end PP
namespace PP
open PySem PySem.Spec PyProof.Rows L2
end PP
namespace PP
open PySem PySem.Spec PyProof.Rows L2
end PP
namespace PP
open PySem PySem.Spec PyProof.Rows L2
section
variable {K : PySem.W.Frag} {w : Wd} {m : Mem} {H : Hp}
theorem lstA_at {v : V} {k : Nat} {b : Addr} {xs : List PyData} (hr : HR K w m H) (r : RV K w v (.ref k)) (hm : m[k]? = some (some (.lstA b xs))) : ∃ vs, v = .ref b ∧ w.A[k]? = some b ∧ H b = some (.lst vs) ∧ DPs K w.F vs xs := by
  obtain ⟨a, o, ea, eo, rfl, vs, rfl, d⟩ := hr.cell k _ hm
  obtain ⟨a', ea', rfl⟩ := r
  rw [ea] at ea'; cases ea'
  exact ⟨vs, rfl, ea, eo, d⟩
end
section
variable {X : Cx} {L : PP.Loc} {m : Mem} {a b e : Expr} {pos : Pos}
theorem we_appendA {apos : Pos} {Q : QE} (h : WV X a L m fun p m1 => ∃ k b0 xs0, p = .ref k ∧ m1[k]? = some (some (.lstA b0 xs0)) ∧ WE X e L m1 fun y m2 => ∃ b1 xs, m2[k]? = some (some (.lstA b1 xs)) ∧ xs.length < sizeLine ∧ Q .none (m2.set k (some (.lstA b1 (xs ++ [y])))))
    (hb : attributeBase a "append" X.env (eval a X.env) = eval a X.env := by rfl)
    (hfew : ((backTo pos (starEach [e] X.env)).all (fun x => !x.1) && (backToKw pos (keywordEach [] X.env)).all (fun x => x.1.isSome)
      && decide ([e].length + ([] : List Keyword).length + (if ([] : List Keyword).isEmpty then 0 else 1) < 30)) = true := by rfl)
    (hline : (apos.endLine == pos.line) = true := by rfl) (he : starEach [e] X.env = (false, eval e X.env) :: starEach [] X.env := by rfl) (hpl : (backTo pos (starEach [] X.env)).any (·.1) = false := by rfl) : WE X (.Call (.Attribute a "append" apos) [e] [] pos) L m Q :=
  we_of (pe_bm PySem.F.plainAttrs_list PySem.F.slot_list_append PySem.F.type_list_append mt_append (peU a) (paU [e]) hb hfew hline he hpl) fun w σ H r => h.go r fun w1 v p m1 H1 l1 r1 d1 ⟨k, b0, xs0, e1, e2, q1⟩ => by
    subst e1
    obtain ⟨vs0, rfl, ea0, eo0, dd0⟩ := lstA_at r1.toHR d1 e2
    refine ⟨.inl ⟨rfl, _, .inl (.inl eo0)⟩, WA.go (wd1 q1 he) r1 fun w2 us ps m2 H2 l2 r2 d2 ⟨y, e3, b1, xs, e4, hz, q⟩ => ?_⟩
    subst e3
    obtain ⟨u, rfl, d3⟩ := rvs1 d2
    obtain ⟨vs, e5, ea, eo, dd⟩ := lstA_at r2.toHR (d1.mono l2.toLe0) e4
    cases e5
    have hr3 := r2.toHR.write (c' := .lstA b0 (xs ++ [y])) (o := .lst (vs ++ [u])) ea e4 ⟨rfl, _, rfl, dpa_app dd (.cons d3 .nil)⟩
    exact ⟨_, vs, u, rfl, rfl, eo, by rw [dpa_len dd]; exact hz, w2, _, _, l1.trans l2, hr3, .non, q⟩
end
end PP
namespace PP
open PySem PySem.Spec PyProof.Rows L2
def RowsOk (K : PySem.W.Frag) (w : Wd) (ps : List (Addr × List V)) (rows : List (List PyData)) : Prop := ∀ (i : Nat) (p : Addr × List V) (r : List PyData), ps.reverse[i]? = some p → rows[i]? = some r → DPs K w.F p.2 r
theorem RowsOk.mono {K : PySem.W.Frag} {w w' : Wd} {ps : List (Addr × List V)} {rows : List (List PyData)} (h : RowsOk K w ps rows) (l : Sub w.F w'.F) : RowsOk K w' ps rows := fun i p r h1 h2 => dpa_mono l _ _ (h i p r h1 h2)
end PP
namespace PP
open PySem PySem.Spec PyProof.Rows L2
end PP
namespace PP
open PySem PySem.Spec PyProof.Rows L2
end PP
namespace PP
open PySem PySem.Spec PyProof.Rows L2
end PP
namespace PP
open PySem PySem.Spec PyProof.Rows L2
end PP
namespace PP
open PySem PySem.Spec PyProof.Rows L2
end PP
namespace PP
open PySem PySem.Spec PyProof.Rows L2
section
variable {X : Cx} {pins : List (Addr × Obj)} {σ : L2.St} {H : Hp} {s : Shared} {a : Addr} {us : List Ent} {A : Around} {E : Value → Shared → Prop} {y v : V} {u r : Value} {k : NestedKey} {b : Addr}
theorem n_setDef {Q : Value → Shared → Prop} (hu : A.units + 65 < cLine) (I : Inv X pins σ H s) (g : NGet X.K H a y us k b) (hl : us.length < sizeLine) (ry : RelV y u) (rv : RelV v r)
    (h1 : ∀ v' w' s', entV us k = some v' → Inv X pins σ H s' → RelV v' w' → Q w' s') (h2 : ∀ s', entV us k = none → Inv X pins σ (upd H a (dkO a (putE us k b v))) s' → Q r s') :
    wpAny (model X.prog X.w) A (call (.builtin "dict.setdefault") [.ref a, u, r]) Q E s := by
  obtain rfl := g.ref
  cases (show u = Value.ref b from ry)
  obtain ⟨z, hd, hb, xs, rel, dd⟩ := dko_at I g.obj g.keys
  obtain ⟨dk, hk1, hk2⟩ := g.key
  refine call_setdefault_heap (hsz := by rw [← rel.len]; exact z) (show A.units + 1 + 8 < cLine by omega) (g.is I) hd dd (fun p hp => ?_) fun hn h' dd' hs => ?_
  · rcases rel.at (k := k) with ⟨_, q2⟩ | ⟨v', p', q1, q2, q3⟩
    · rw [q2] at hp; cases hp
    · rw [q2] at hp; cases hp
      exact h1 v' _ _ q1 (I.tok _) q3
  · have he : ∃ q, h'.get? a = some q := let ⟨q, _, _, hq, _⟩ := dd'; ⟨q, hq⟩
    have hlen := putE_len (us := us) (k := k) (b := b) (v := v)
    have hno : entV us k = none := by
      rcases rel.at (k := k) with ⟨q1, _⟩ | ⟨v', p', q1, q2, q3⟩
      · exact q1
      · rw [q2] at hn; cases hn
    exact h2 _ hno (d_write I (by rw [g.obj]; exact True.intro) hs he (dko_ok (by omega) hd (putE_bare hb (keyN_bare dk k hk2) g.dep) (rel.put rv) dd'))
end
def tNSetDef (K : PySem.W.Frag) (td ty tx : TE) : TE := fun σ H Q => td σ H fun x H1 => ∃ a us0, x = .ref a ∧ H1 a = some (dkO a us0) ∧ ty σ H1 fun y H2 => tx σ H2 fun z H3 => ∃ us k b, NGet K H3 a y us k b ∧ us.length < sizeLine ∧ (∀ v, entV us k = some v → Q v H3) ∧ (entV us k = none → Q z (upd H3 a (dkO a (putE us k b z))))
theorem pe_nsetdef {X : Cx} {o e f : Expr} {apos cpos : Pos} {td ty tx : TE} (hu : X.A.units + 65 < cLine) (ho : PE X o td) (he : PE X e ty) (hf : PE X f tx) (m : M2 X o "setdefault" apos e f cpos) : PE X (.Call (.Attribute o "setdefault" apos) [e, f] [] cpos) (tNSetDef X.K td ty tx) := by
  refine ⟨fun pins s σ H Q I h => ?_⟩
  refine wpAny_Call_method m.base m.few m.line PySem.F.plainAttrs_dict PySem.F.slot_dict_setdefault PySem.F.type_dict_setdefault (thn (ho.run pins s σ H _ I h) fun u s1 ⟨x, H1, I1, rx, a, us0, ex, d, q1⟩ => ?_)
  subst ex
  obtain rfl : u = Value.ref a := rx
  obtain ⟨t1, t2, _⟩ := dko_typeIs I1 d
  refine ⟨t1, t2, ?_⟩
  rw [m.trees]
  refine Calls.callWith_builtin rfl (Calls.evalArgs_plain (Calls.spliced_cons (thn (he.run pins s1 σ H1 _ I1 q1) fun iv s2 ⟨y, H2, I2, ry, q2⟩ =>
    Calls.spliced_cons (thn (hf.run pins s2 σ H2 _ I2 q2) fun fv s3 ⟨z, H3, I3, rz, us, k, b, g, hl, c1, c2⟩ => Calls.spliced_nil ?_))))
  exact n_setDef hu I3 g hl ry rz (fun v' w' s4 hv I4 rw' => ⟨_, H3, I4, rw', c1 v' hv⟩) fun s4 hv I4 => ⟨_, _, I4, rz, c2 hv⟩
def adrN (kvs : List (PyData × Addr)) (d : PyData) : Option Addr := (kvs.find? fun p => decide (keyN p.1 = keyN d)).map (·.2)
abbrev NRs (K : PySem.W.Frag) (F : Hp) : List Ent → List (PyData × Addr) → Prop := Paired fun (p : Ent) (q : PyData × Addr) => keyN q.1 = some p.1 ∧ DP K F (.ref p.2.1) q.1 ∧ p.2.2 = .ref q.2
section
variable {K : PySem.W.Frag} {F : Hp}
theorem nrs_val {d : PyData} {k : NestedKey} (hd : keyN d = some k) : ∀ {us : List Ent} {kvs : List (PyData × Addr)}, NRs K F us kvs → (entV us k = none ∧ adrN kvs d = none) ∨ ∃ b, entV us k = some (.ref b) ∧ adrN kvs d = some b
  | _, _, .nil => .inl ⟨rfl, rfl⟩
  | (k1, b1, v1) :: us, (d1, x1) :: kvs, .cons ⟨e, dk, dx⟩ t => by
    have e : keyN d1 = some k1 := e
    have dx : v1 = .ref x1 := dx
    subst dx
    by_cases hk : k1 = k
    · exact .inr ⟨x1, by simp [entV, hk], by simp [adrN, e, hd, hk]⟩
    · have hne : ¬ some k1 = some k := fun z => hk (Option.some.inj z)
      rcases nrs_val hd t with ⟨h1, h2⟩ | ⟨b, h1, h2⟩
      · exact .inl ⟨by simpa [entV, hk] using h1, by simpa [adrN, e, hd, hne, hk] using h2⟩
      · exact .inr ⟨b, by simpa [entV, hk] using h1, by simpa [adrN, e, hd, hne, hk] using h2⟩
theorem nrs_app : ∀ {us us2 : List Ent} {kvs kvs2 : List (PyData × Addr)}, NRs K F us kvs → NRs K F us2 kvs2 → NRs K F (us ++ us2) (kvs ++ kvs2)
  | _, _, _, _, .nil, s => s
  | _, _, _, _, .cons r t, s => .cons r (nrs_app t s)
theorem nrs_put {d : PyData} {k : NestedKey} {b p : Addr} (hd : keyN d = some k) (dk : DP K F (.ref b) d) {us : List Ent} {kvs : List (PyData × Addr)} (h : NRs K F us kvs) (hn : entV us k = none) : NRs K F (putE us k b (.ref p)) (kvs ++ [(d, p)]) := by
  unfold putE
  rw [ent_any, hn]
  exact nrs_app h (.cons ⟨hd, dk, rfl⟩ .nil)
theorem nrs_keys {H : Hp} (e : Sub F H) {us : List Ent} {kvs : List (PyData × Addr)} (h : NRs K F us kvs) : KeysIn K H us := by
  induction h with
  | nil => intro p hp; cases hp
  | @cons p q ps qs hq t ih =>
    intro r hr
    rcases List.mem_cons.mp hr with e2 | hr
    · rw [e2]; exact ⟨q.1, DP.toDp _ _ (dp_mono e _ _ hq.2.1), hq.1⟩
    · exact ih r hr
end
section
variable {X : Cx} {L : PP.Loc} {m : Mem} {a b c : Expr} {pos : Pos} {D : PEnds}
theorem rcell_at {w : Wd} {H : Hp} {v : V} {k : Nat} {kvs : List (PyData × Addr)} (hr : HR X.K w m H) (r : RV X.K w v (.ref k)) (hm : m[k]? = some (some (.dR kvs))) : ∃ a us, v = .ref a ∧ w.A[k]? = some a ∧ H a = some (dkO a us) ∧ NRs X.K w.F us kvs := by
  obtain ⟨a, o, ea, eo, us, rfl, d⟩ := hr.cell k _ hm
  obtain ⟨a', ea', rfl⟩ := r
  rw [ea] at ea'; cases ea'
  exact ⟨a, us, rfl, ea, eo, d⟩
theorem rget_of {w : Wd} {H : Hp} {ad : Addr} {v : V} {us : List Ent} {kvs : List (PyData × Addr)} {d : PyData} (hr : HR X.K w m H) (eo : H ad = some (dkO ad us)) (dv : NRs X.K w.F us kvs) (kd : KeyD d) (dk : DP X.K w.F v d) : ∃ k b, keyN d = some k ∧ v = .ref b ∧ NGet X.K H ad v us k b := by
  obtain ⟨k, ds, h1, h2, rfl⟩ := kd
  obtain ⟨b, rfl⟩ : ∃ b, v = .ref b := by cases dk with | tup _ _ => exact ⟨_, rfl⟩
  exact ⟨k, b, h1, rfl, eo, nrs_keys hr.fz dv, rfl, ⟨_, DP.toDp _ _ (dp_mono hr.fz _ _ dk), h1⟩, h2⟩
theorem wv_dictR {Q : PV → Mem → Prop} (q : Q (.ref m.length) (m ++ [some (.dR [])])) : WV X (.Dict [] [] pos) L m Q :=
  wv_of pe_dnewN fun w σ H r => fun p hp => by
    obtain ⟨hr, u⟩ := r.toHR.un (o := dkO p []) hp
    obtain ⟨l2, hr2⟩ := hr.adopt (c := .dR []) u upd_same ⟨[], rfl, .nil⟩
    refine ⟨_, .ref m.length, _, l2, hr2, ⟨p, ?_, rfl⟩, q⟩
    show (w.A ++ [p])[m.length]? = some p
    rw [← r.toHR.len, List.getElem?_append_right (Nat.le_refl _)]; simp
theorem wv_setdef {apos : Pos} {Q : PV → Mem → Prop} (hu : X.A.units + 65 < cLine) (h : WV X a L m fun p m1 => ∃ k kvs0, p = .ref k ∧ m1[k]? = some (some (.dR kvs0)) ∧ WE X b L m1 fun y m2 => WF X c L m2 fun xs m3 => ∃ kvs, m3[k]? = some (some (.dR kvs)) ∧ KeyD y ∧ kvs.length < sizeLine ∧
      (∀ b0, adrN kvs y = some b0 → ∃ j rr, m3[j]? = some (some (.lstA b0 rr)) ∧ Q (.ref j) m3) ∧
      (adrN kvs y = none → ∀ b0, Q (.ref m3.length) (m3.set k (some (.dR (kvs ++ [(y, b0)]))) ++ [some (.lstA b0 xs)])))
    (mm : M2 X a "setdefault" apos b c pos := by exact ⟨rfl, rfl, rfl, rfl⟩) : WV X (.Call (.Attribute a "setdefault" apos) [b, c] [] pos) L m Q :=
  wv_of (pe_nsetdef hu (peU a) (peU b) (peU c) mm) fun w σ H r => h.go r fun w1 v p m1 H1 l1 r1 d1 ⟨k, kvs0, e1, e2, q1⟩ => by
    subst e1
    obtain ⟨ad, us, rfl, ea, eo, dv⟩ := rcell_at r1.toHR d1 e2
    refine ⟨ad, us, rfl, eo, q1.go r1 fun w2 u x m2 H2 l2 r2 d2 q2 => q2.go r2 fun w3 t vs xs m3 H3 l3 r3 hp un dvs ⟨kvs, e3, kd, hz, c1, c2⟩ => ?_⟩
    obtain ⟨ad', us', ev, ea', eo', dv'⟩ := rcell_at r3.toHR (d1.mono (l2.trans l3).toLe0) e3
    cases ev
    have d3 := dp_mono l3.sub _ _ d2
    obtain ⟨kk, bb, hk, ev, g⟩ := rget_of r3.toHR eo' dv' kd d3
    subst ev
    refine ⟨us', kk, bb, g, by rw [Paired.length dv']; exact hz, fun v' hv' => ?_, fun hv' => ?_⟩
    · rcases nrs_val hk dv' with ⟨h1, _⟩ | ⟨b0, h1, h2⟩
      · rw [h1] at hv'; cases hv'
      · rw [h1] at hv'; cases hv'
        obtain ⟨j, rr, ej, q⟩ := c1 b0 h2
        obtain ⟨a5, o5, ea5, eo5, e5, _⟩ := r3.toHR.cell j _ ej
        subst e5
        exact ⟨w3, .ref j, m3, (l1.trans l2).trans l3, r3.toHR, ⟨_, ea5, rfl⟩, q⟩
    · rcases nrs_val hk dv' with ⟨_, h2⟩ | ⟨b0, h1, _⟩
      · have hr4 := r3.toHR.write (c' := .dR (kvs ++ [(x, t)])) (o := dkO ad (putE us' kk bb (.ref t))) ea' e3 ⟨_, rfl, nrs_put hk d3 dv' hv'⟩
        have hne : t ≠ ad := fun z => un.a (z ▸ List.mem_of_getElem? ea')
        obtain ⟨l5, hr5⟩ := hr4.adopt (c := .lstA t xs) un (by rw [upd_ne hne]; exact hp) ⟨rfl, vs, rfl, dvs⟩
        refine ⟨_, .ref m3.length, _, ((l1.trans l2).trans l3).trans l5, hr5, ⟨t, ?_, rfl⟩, c2 h2 t⟩
        show (w3.A ++ [t])[m3.length]? = some t
        rw [← r3.toHR.len, List.getElem?_append_right (Nat.le_refl _)]; simp
      · rw [h1] at hv'; cases hv'
end
def frzKv (kvs : List (PyData × Addr)) (rows : List (List PyData)) : List (PyData × PyData) := (kvs.zip rows).map fun p => (p.1.1, .list p.2)
def killAll (m : Mem) (js : List Nat) : Mem := js.foldl (fun m j => m.set j none) m
section
variable {K : PySem.W.Frag} {w : Wd} {m : Mem} {H : Hp}
theorem killAll_out : ∀ {js : List Nat} {m : Mem} {k : Nat}, k ∉ js → (killAll m js)[k]? = m[k]?
  | [], _, _, _ => rfl
  | j :: js, m, k, h => by
    show (killAll (m.set j none) js)[k]? = m[k]?
    rw [killAll_out (fun z => h (List.mem_cons_of_mem _ z)), List.getElem?_set_ne (fun z : j = k => h (by rw [← z]; exact List.mem_cons_self))]
theorem HR.recell (h : HR K w m H) {k : Nat} {c c' : Cell} (hm : m[k]? = some (some c)) (q : ∀ a o, w.A[k]? = some a → H a = some o → CR K w k a c o → CR K w k a c' o) : HR K w (m.set k (some c')) H := by
  have hk : k < m.length := (List.getElem?_eq_some_iff.mp hm).1
  refine ⟨h.fz, by rw [List.length_set]; exact h.len, h.nd, fun j b c2 e1 e2 => ?_, h.occ, h.tp, h.tnd, fun j c2 e => ?_⟩
  · by_cases hj : j = k
    · subst hj; exact h.sep j b _ e1 hm
    · rw [List.getElem?_set_ne (Ne.symm hj)] at e2; exact h.sep j b c2 e1 e2
  · by_cases hj : j = k
    · subst hj
      rw [List.getElem?_set_self hk] at e
      cases e
      obtain ⟨a, o, ea, eo, r⟩ := h.cell j _ hm
      exact ⟨a, o, ea, eo, q a o ea eo r⟩
    · rw [List.getElem?_set_ne (Ne.symm hj)] at e
      exact h.cell j c2 e
theorem HR.killRows : ∀ (js : List Nat) (bs : List Addr) (rows : List (List PyData)) {w : Wd} {m : Mem}, HR K w m H → js.Nodup → js.length = bs.length → rows.length = bs.length → (∀ (i j : Nat) (b : Addr) (r : List PyData), js[i]? = some j → bs[i]? = some b → rows[i]? = some r → m[j]? = some (some (.lstA b r))) →
    ∃ w', w.le w' ∧ HR K w' (killAll m js) H ∧ ∀ (i : Nat) (b : Addr) (r : List PyData), bs[i]? = some b → rows[i]? = some r → DP K w'.F (.ref b) (.list r)
  | [], bs, rows, w, m, h, _, hl, _, _ => by
    cases bs with
    | nil => exact ⟨w, .refl w, h, fun i b r e => by simp at e⟩
    | cons _ _ => cases hl
  | j :: js, bs, rows, w, m, h, nd, hl, hr, at_ => by
    cases bs with
    | nil => cases hl
    | cons b bs =>
      cases rows with
      | nil => cases hr
      | cons r rows =>
        obtain ⟨nj, nd⟩ := List.nodup_cons.mp nd
        have e0 := at_ 0 j b r rfl rfl rfl
        obtain ⟨a, o, ea, eo, rfl, vs, rfl, d⟩ := h.cell j _ e0
        obtain ⟨l1, h1⟩ := h.kill ea e0 eo
        obtain ⟨w', l2, h2, dp⟩ := HR.killRows js bs rows h1 nd (by simpa using hl) (by simpa using hr) fun i j' b' r' e1 e2 e3 => by
          rw [List.getElem?_set_ne (fun z : j = j' => nj (by rw [z]; exact List.mem_of_getElem? e1))]
          exact at_ (i + 1) j' b' r' e1 e2 e3
        refine ⟨w', l1.trans l2, h2, fun i b' r' e2 e3 => ?_⟩
        cases i with
        | zero =>
          cases e2; cases e3
          exact dp_mono l2.sub _ _ (.lst upd_same (dpa_mono l1.sub _ _ d))
        | succ i => exact dp i b' r' e2 e3
theorem nrs_frz {F : Hp} : ∀ {us : List Ent} {kvs : List (PyData × Addr)} {rows : List (List PyData)}, NRs K F us kvs → rows.length = kvs.length → (∀ (i : Nat) (p : PyData × Addr) (r : List PyData), kvs[i]? = some p → rows[i]? = some r → DP K F (.ref p.2) (.list r)) → NDs K F us (frzKv kvs rows)
  | _, _, [], .nil, _, _ => .nil
  | _, _, _ :: _, .nil, h, _ => by cases h
  | _, _, [], .cons _ _, h, _ => by cases h
  | (k1, b1, v1) :: us, (d1, x1) :: kvs, r :: rows, .cons ⟨e, dk, dx⟩ t, h, f => by
    have dx : v1 = .ref x1 := dx
    subst dx
    exact .cons ⟨e, dk, f 0 _ _ rfl rfl⟩ (nrs_frz t (by simpa using h) fun i p r' e1 e2 => f (i + 1) p r' e1 e2)
end
section
variable {X : Cx} {L : PP.Loc} {m : Mem} {st : Stmt} {D : PEnds}
theorem ws_frzR (k : Nat) (kvs : List (PyData × Addr)) (js : List Nat) (rows : List (List PyData)) (hm : m[k]? = some (some (.dR kvs))) (hk : k ∉ js) (nd : js.Nodup) (hl : js.length = kvs.length) (hr : rows.length = kvs.length)
    (at_ : ∀ (i j : Nat) (b : Addr) (r : List PyData), js[i]? = some j → (kvs.map (·.2))[i]? = some b → rows[i]? = some r → m[j]? = some (some (.lstA b r))) (q : WS X st L ((killAll m js).set k (some (.dD (frzKv kvs rows)))) D) : WS X st L m D := fun w σ H r => by
  obtain ⟨w', l, h2, dp⟩ := HR.killRows js (kvs.map (·.2)) rows r.toHR nd (by rw [List.length_map]; exact hl) (by rw [List.length_map]; exact hr) at_
  have h3 := h2.recell (c := .dR kvs) (c' := .dD (frzKv kvs rows)) (by rw [killAll_out hk]; exact hm) fun a o _ _ ⟨us, e, nr⟩ => ⟨us, e, nrs_frz nr hr fun i p r' e1 e2 => dp i p.2 r' (by rw [List.getElem?_map, e1]; rfl) e2⟩
  exact tUS_mono (q w' σ H (r.go l h3)) (fun _ _ q => POS.back l q) (fun _ _ q => POV.back l q) (fun _ _ q => POS.back l q) (fun _ _ q => POS.back l q)
end
def ItvN (d : Addr) (o : Obj) (us : List Ent) : It :=
  ⟨fun i H => H d = some (.frz o (dkO d us)) ∧ i < us.length, fun i H x H' => H' = H ∧ ∃ k b, us[i]? = some (k, b, x), fun i H => H d = some (.frz o (dkO d us)) ∧ us.length ≤ i⟩
section
variable {P : Program} {w : World} {K : PySem.W.Frag} {tg : Expr} {d : Addr} {o : Obj} {es : Array DictEntry} {ep : Nat}
theorem turn_valsN {us : List Ent} (it : Addr) (hod : o.data = .dict es ep) : Turn P w K tg (ItvN d o us) [it] it (fun i h => h.IsValIter it d i us.length ep) where
  mem := by simp
  obj := fun i h st b hb => by
    have e : b = it := by simpa using hb
    subst e
    obtain ⟨oi, e, c, dd⟩ := st
    exact ⟨oi, e, fun v z => by rw [dd] at z; cases z⟩
  keep := fun i h h' st k => by
    obtain ⟨oi, e, c, dd⟩ := st
    exact ⟨oi, k it (by simp) oi e, c, dd⟩
  item := by
    intro X hP hw hK hc i pins s σ H E I hf st hg
    subst hP hw hK
    obtain ⟨hd, hi⟩ := hg
    obtain ⟨f0, f1, f2, f3, f4, f5⟩ := hf it (by simp)
    obtain ⟨hs, es', ep', hdt, hm, hsz, ent⟩ := Inv.frzN I hd
    obtain ⟨rfl, rfl⟩ := dictEp hod hdt
    obtain ⟨⟨k, b, v⟩, hkv⟩ : ∃ p, us[i]? = some p := ⟨us[i], List.getElem?_eq_getElem hi⟩
    obtain ⟨en, hen, hkey, ru⟩ := ent i k b v hkv
    rw [← hsz] at st
    have hi' : i < es'.size := by omega
    have een : es'[i] = en := by
      rw [Array.getElem?_eq_getElem hi'] at hen
      exact Option.some.inj hen
    refine wpAny_pyNext_values_item_raw st hm hi' fun h' st' sb => ?_
    have I1 : Inv X pins σ H { s with heap := h' } := I.turned (t' := s.toks) (fun b ob hb e => (sb.2 b hb).trans e) f0 f1 f3 f4 f5
    rw [hsz] at st'
    obtain ⟨oi, e, c, dd⟩ := id st'
    exact ⟨es'[i].val, rfl, go_of (s := { s with heap := h' }) e c dd (by decide) ⟨v, H, I1, by rw [een]; exact ru, ⟨rfl, k, b, hkv⟩, st', fun b hb => (hf b hb).1⟩⟩
  done := by
    intro X hP hw hK hc i pins s σ H E I hf st hg
    subst hP hw hK
    obtain ⟨hd, hi⟩ := hg
    obtain ⟨f0, f1, f2, f3, f4, f5⟩ := hf it (by simp)
    obtain ⟨hs, es', ep', hdt, hm, hsz, ent⟩ := Inv.frzN I hd
    obtain ⟨rfl, rfl⟩ := dictEp hod hdt
    rw [← hsz] at st
    exact wpAny_pyNext_values_end_raw (I.ok.hd hc) st hm (by omega) fun h' eb => ⟨rfl, I.turned (t' := s.toks) (fun b ob hb e => eb b ob hb e) f0 f1 f3 f4 f5⟩
  self := fun A i s Q E st h => wpAny_pyIter_valiter st h
end
def iValsN (td : TE) : TI := fun σ H R => td σ H fun x H1 => ∃ d us, x = .ref d ∧ H1 d = some (dkO d us) ∧ ∀ od, R (ItvN d od us) (upd H1 d (.frz od (dkO d us)))
section
variable {X : Cx} {tg e : Expr} {td : TE} {apos cpos : Pos}
theorem pi_valsN (he : PE X e td) (hbase : attributeBase e "values" X.env (eval e X.env) = eval e X.env := by rfl) (hline : (apos.endLine == cpos.line) = true := by rfl) :
    PI X tg (.Call (.Attribute e "values" apos) [] [] cpos) (iValsN td) := by
  refine ⟨fun pins s σ H R I h => ?_⟩
  refine wpAny_Call_method (T := "dict") (id := "dict.values") hbase rfl hline F.plainAttrs_dict F.slot_dict_values F.type_dict_values (thn (he.run pins s σ H _ I h) fun u s1 ⟨x, H0, I0, rx, d, us, ex, hd0, q⟩ => ?_)
  subst ex
  obtain rfl : u = Value.ref d := rx
  obtain ⟨od, I1⟩ := I0.lock hd0 trivial
  have q := q od
  have hd : upd H0 d (.frz od (dkO d us)) d = some (.frz od (dkO d us)) := upd_same
  generalize upd H0 d (.frz od (dkO d us)) = H1 at I1 q hd
  obtain ⟨hs, es, ep, hdt, hm, hsz, ent⟩ := Inv.frzN I1 hd
  have hmr : s1.heap.DictRaw d es ep := hm
  refine ⟨hm.typeIs, fun b q => ?_, ?_⟩
  · cases q
    obtain ⟨ob, h1, h2, _⟩ := hm
    exact ⟨ob, h1, h2.2.1⟩
  have I2 : Inv X pins σ H1 { s1 with heap := s1.heap.push { cls := .type "dict_values", data := .fields #[.ref d] } } := I1.kept (t' := s1.toks) fun b ob q => Heap.get?_push_of_some _ q
  have fin : wpAny (model X.prog X.w) X.A (pyIter (.ref s1.heap.objs.size)) (PIE X pins σ tg R) X.xe { s1 with heap := s1.heap.push { cls := .type "dict_values", data := .fields #[.ref d] } } := by
    refine wpAny_pyIter_values_raw (d := d) ⟨_, Heap.get?_push_size _ rfl, rfl, rfl⟩ (hmr.push _) (pi_one (tk := s1.toks) I2 _ (turn_valsN _ hdt) ⟨_, Heap.get?_push_size _ rfl, rfl, ?_⟩ q)
    rw [← hsz] <;> rfl
  show wpAny _ _ (callWith cpos (.builtin "dict.values") [.ref d] [] []) _ X.xe s1
  exact method_meetsIn F.slot_dict_values F.entry_dict_values rfl (PySem.evalArgs_none ⟨rfl, hm.typeIs, F.args_dict_values_1 _, _, meets_dict_values_raw d hs, ⟨⟨es, ep, hmr⟩, fin⟩⟩)
end
theorem jok_valsN {K : PySem.W.Frag} {w : Wd} {d : Addr} {o : Obj} {us : List Ent} {kvs : List (PyData × PyData)} (hF : w.F d = some (.frz o (dkO d us))) (r : NDs K w.F us kvs) : JOk K w (ItvN d o us) (kvs.map (·.2)) fun _ => True where
  go := fun w' m' H' i x l hr g hx => by
    have hd : H' d = some (.frz o (dkO d us)) := hr.fz _ _ (l.sub _ _ hF)
    have hi : i < kvs.length := by have := (List.getElem?_eq_some_iff.mp hx).1; rwa [List.length_map] at this
    refine ⟨⟨hd, by rw [nds_len r]; exact hi⟩, fun t H'' ⟨eh, k, b, hu⟩ => ?_⟩
    subst eh
    obtain ⟨p, hp, d1, d2⟩ := nds_get r hu
    rw [List.getElem?_map, hp] at hx
    cases hx
    exact ⟨w', .refl _, hr, dp_mono l.sub _ _ d2⟩
  stop := fun w' m' H' i l hr g hi => by
    have hd : H' d = some (.frz o (dkO d us)) := hr.fz _ _ (l.sub _ _ hF)
    rw [List.length_map] at hi
    exact ⟨hd, by rw [nds_len r]; exact hi⟩
section
variable {X : Cx} {L : PP.Loc} {m : Mem} {e tg : Expr} {QI : List PyData → (Mem → Prop) → Mem → Prop}
theorem wi_valsN {apos cpos : Pos} (h : WV X e L m fun p m1 => ∃ k kvs, p = .ref k ∧ m1[k]? = some (some (.dD kvs)) ∧ QI (kvs.map (·.2)) (fun _ => True) (m1.set k none))
    (hbase : attributeBase e "values" X.env (eval e X.env) = eval e X.env := by rfl) (hline : (apos.endLine == cpos.line) = true := by rfl) : WI X tg (.Call (.Attribute e "values" apos) [] [] cpos) L m QI :=
  wi_of (pi_valsN (peU e) hbase hline) fun w σ H r => h.go r fun w1 v p m1 H1 l1 r1 d1 ⟨k, kvs, e1, e2, q⟩ => by
    subst e1
    obtain ⟨ad, us, rfl, ea, eo, dv⟩ := ncell_at r1.toHR d1 e2
    refine ⟨ad, us, rfl, eo, fun od => ?_⟩
    obtain ⟨l2, hr2⟩ := HR.lose r1.toHR ea e2 (.frz od (dkO ad us))
    exact ⟨_, _, _, _, l1.trans l2, hr2, jok_valsN (show upd w1.F ad _ ad = _ from upd_same) (nds_mono l2.sub dv), q⟩
end
end PP
namespace PP
open PySem PySem.Spec PyProof.Rows L2
section
variable {P : Program} {w : World} {A : Around} {E : Value → Shared → Prop} {s : Shared}
abbrev ledSet (w : World) : Obj := { cls := .type "set", dict := none, data := .set #[] 0 (.fresh 0 0 (!w.params.followText "set-order")) }
theorem set_of_list {xs : Addr} {vals : Array Value} (is : List Int) {R : Value → Shared → Prop} (nh : A.handled = none) (isl : s.heap.IsList xs vals) (hin : IntsAre vals.toList is) (few : is.length + 1 < scanBound)
    (go : ∀ (g : Heap) (tk n : Nat), SetR w g s.heap.objs.size (fun j => decide (j ∈ is)) n → n ≤ is.length → (∀ b o, s.heap.get? b = some o → g.get? b = some o) → R (.ref s.heap.objs.size) { s with heap := g, toks := tk }) :
    wpAny (model P w) A (call (.type "set") [.ref xs]) R E s := by
  have szv : vals.size = is.length := by
    have := IntsAre.length hin
    rwa [Array.length_toList] at this
  obtain ⟨cc, tt, mm⟩ := F.called_set.mro
  have f1 := F.called_set.made
  have f2 := F.called_set.sub
  refine wpAny_call (codeAny_of_tree ?_)
  show wpAny _ _ (callAny (.type "set") _) _ _ _
  refine wpAny_pure ⟨Code.quiet_builtin _ (by decide +kernel), codeAny_builtin F.entry_type_call ?_⟩
  rw [Around.under_plain (weight_type_call_type "set" [.ref xs] []) rfl]
  have f3 := F.called_set.notType
  have f4 := F.called_set.canCreate
  have f5 := F.typeCall_set_1 (.ref xs)
  repeat (any_goals (first | assumption | wp_step))
  refine codeAny_mono (code_set_led1 (.ref xs) (E := E) (Q₁ := fun ob s₁ => ob = .ref s.heap.objs.size ∧ s₁ = { s with heap := s.heap.push (ledSet w) }) ⟨rfl, rfl⟩) fun rr s₁ hrr => ?_
  cases rr with
  | error e => exact hrr
  | ok fl =>
    cases fl with
    | ret ob =>
      obtain ⟨rfl, rfl⟩ := hrr
      have at0 : (s.heap.push (ledSet w)).get? s.heap.objs.size = some (ledSet w) := Heap.get?_push_size _ rfl
      have ty0 : Shared.TypeIs { s with heap := s.heap.push (ledSet w) } (.ref s.heap.objs.size) "set" := ⟨_, at0, rfl⟩
      have f6 := F.called_set.init.lookup
      have f7 := F.called_set.init.bind (.ref s.heap.objs.size)
      repeat (any_goals (first | assumption | wp_step))
      refine codeAny_mono (codeAny_call_builtin (R := wants (fun v2 s₂ => v2 = .none ∧ ∃ g tk n, s₂ = { s with heap := g, toks := tk } ∧ SetR w g s.heap.objs.size (fun j => decide (j ∈ is)) n ∧ n ≤ is.length ∧ (∀ b o, s.heap.get? b = some o → g.get? b = some o)) E) F.called_set.init.plain F.entry_set_init (check_set_init_1 ty0 ?_)) fun r₂ s₂ hr₂ => ?_
      · obtain ⟨ol, got, cl, nl, dl⟩ := isl
        obtain ⟨c1, c2, c3, c4⟩ := ol
        simp only at cl dl
        subst cl; subst dl
        have got' : (s.heap.push (ledSet w)).get? xs = some { cls := .type "list", dict := c2, data := .seq vals nl, slots := c4 } := Heap.get?_push_of_some _ got
        have f8 := F.sub_list_set
        have f9 := F.sub_list_frozenset
        have fA : (Value.type "list" == Value.type "dict") = false := by decide
        have isl1 : (s.heap.push (ledSet w)).IsList xs vals := ⟨_, got', rfl, nl, rfl⟩
        unfold Builtin.«set.__init__» noKeywords Builtin.Frozenset.updateFrom
        generalize eIt : pyIter = IT
        wp_walk
        subst eIt
        refine wpAny_pyIter_list isl1 ?_
        refine wpAny_bind (wpAny_runValue ?_)
        have lxs : xs < s.heap.objs.size := Heap.lt_size got
        have nh3 : A.in1.in1.in1.handled = none := by simp [nh]
        have szp : (s.heap.push (ledSet w)).objs.size = s.heap.objs.size + 1 := Heap.size_push ..
        have nxs : xs ≠ (s.heap.push (ledSet w)).objs.size := by rw [szp]; exact Nat.ne_of_lt (Nat.lt_succ_of_lt lxs)
        have out : s.heap.objs.size ∉ [(s.heap.push (ledSet w)).objs.size, xs] := by
          rw [szp]
          simp only [List.mem_cons, List.not_mem_nil, or_false, not_or]
          exact ⟨fun z => absurd z (Nat.ne_of_lt (Nat.lt_succ_self _)), fun z => absurd z (Nat.ne_of_gt lxs)⟩
        have each : ∀ (i : Nat) (v : Value), vals[i]? = some v → ∃ k t, is[i]? = some k ∧ v = .int k t := fun i v hv => by
          have li : i < is.length := by rw [← szv]; exact (Array.getElem?_eq_some_iff.mp hv).1
          obtain ⟨t, e⟩ := PyProof.Rows.IntsAre.int_at hin i v (by rw [Array.getElem?_toList]; exact hv)
          exact ⟨is[i], t, List.getElem?_eq_getElem li, by rw [e, List.getD_eq_getElem?_getD, List.getElem?_eq_getElem li]; rfl⟩
        refine set_update_ints ((Walks.list nh3 _ xs nxs vals).toS) s.heap.objs.size out is szv few each (vals.size - 0) 0 _ (by omega) (Nat.zero_le _) ⟨⟨_, Heap.get?_push_size _ rfl, rfl, rfl⟩, isl1.push _⟩ ?start ?rest
        case start => exact ⟨0, Nat.le_refl 0, setR_new_at (Heap.get?_push_of_some _ at0)⟩
        case rest =>
          intro s' n mv ln st'
          obtain ⟨g, gg, dd, tk, os⟩ := s'
          have eg : gg = s.gens := mv.gens
          have ed : dd = s.drawn := mv.drawn
          have eo : os = s.os := mv.os
          subst eg; subst ed; subst eo
          show wpAny _ _ _ _ _ _
          refine wpAny_pure ?_
          show wpAny _ _ (ret Value.none) _ _ _
          refine wpAny_pure ⟨rfl, g, tk, n, rfl, st', by omega, fun b o e => ?_⟩
          have lb : b < s.heap.objs.size := Heap.lt_size e
          refine mv.heap b o (fun z => ?_) (Heap.get?_push_of_some _ (Heap.get?_push_of_some _ e))
          rcases List.mem_cons.mp z with z | z
          · exact absurd z (Nat.ne_of_lt lb)
          · have z := List.mem_singleton.mp z
            rw [z, szp] at lb
            exact absurd lb (Nat.not_lt_of_le (Nat.le_succ _))
      · cases r₂ with
        | error e => exact hr₂
        | ok fl2 =>
          cases fl2 with
          | ret v2 =>
            obtain ⟨rfl, g, tk, n, rfl, S2, ln, kp⟩ := hr₂
            repeat (any_goals (first | assumption | wp_step))
            exact go g tk n S2 ln kp
          | _ => exact hr₂
    | _ => exact hrr
end
section
variable {X : Cx} {L : PP.Loc} {m : Mem} {a : Expr} {p p2 pq pos : Pos}
theorem wf_sortSetI {Q : List PyData → Mem → Prop} (hc : X.calm = true) (hm : X.mg "sorted" = none) (hm2 : X.mg "set" = none) (h : WV X a L m fun p m1 => ∃ ns : List Int, lstP m1 p = some (ns.map .int) ∧ ns.length < 60 ∧ ∀ ks : List Int, ks.Pairwise (· < ·) → (∀ k, k ∈ ks ↔ k ∈ ns) → Q (ks.map .int) m1) (hg : Gl X "sorted" := by rfl) (hg2 : Gl X "set" := by rfl)
    (na : starEach [a] X.env = (false, eval a X.env) :: starEach [] X.env := by rfl) : WF X (.Call (.Name "sorted" p) [.Call (.Name "set" p2) [a] [] pq] [] pos) L m Q := fun w σ H r pins s I => by
  refine Call_ (ld_blt I hg hm PyProof.Rows.boot_sorted (PyProof.Rows.callWith_builtin1 (PyProof.Rows.args_cons ?_ rfl) rfl rfl))
  refine Call_ (ld_blt I hg2 hm2 PyProof.Rows.boot_set (PyProof.Rows.callWith_type1 (PyProof.Rows.args_cons (thn (h.go r (R := fun v H1 => ∃ (ad : Addr) (ns : List Int), v = .ref ad ∧ SqL X.K H1 ad (ns.map V.int) ∧ ns.length < 60 ∧ ∀ ks : List Int, ks.Pairwise (· < ·) → (∀ k, k ∈ ks ↔ k ∈ ns) → ∀ q, H1 q = none → PF X.K w Q (.ref q) (upd H1 q (.lst (ks.map V.int)))) (fun w1 v q m1 H1 l1 r1 d1 ⟨ns, e1, e2, qq⟩ => ?_) pins s I) fun u s1 ⟨v, H1, I1, ru, ad, ns, ev, hsq, hl, qq⟩ => PyProof.Rows.args_nil ?_) na) na rfl))
  · obtain ⟨ad, vs, rfl, hh, d⟩ := lstP_ok r1.toHR d1 e1
    rw [dpa_ints_inv d] at hh
    refine ⟨ad, ns, rfl, .of hh, e2, fun ks k1 k2 q hq => ?_⟩
    obtain ⟨hr2, un⟩ := r1.toHR.un (o := .lst (ks.map V.int)) hq
    exact ⟨w1, _, m1, q, _, rfl, l1, hr2, upd_same, un, dpa_ints ks, qq ks k1 k2⟩
  · subst ev
    cases ru
    obtain ⟨its, ri, pl, _⟩ := I1.list hsq
    refine set_of_list ns (I1.ok.hd hc) pl.isList (by simpa using ri.ints) (by unfold scanBound; omega) fun h2 tk n hS hn hk => PyProof.Rows.args_nil ?_
    have I2 : Inv X pins σ H1 { s1 with heap := h2, toks := tk } := I1.kept fun b o e => hk b o e
    have hS' : SetR X.w ({ s1 with heap := h2, toks := tk } : Shared).heap s1.heap.objs.size (fun j => decide (j ∈ ns)) n := hS
    generalize ({ s1 with heap := h2, toks := tk } : Shared) = s2 at I2 hS' ⊢
    refine sorted_set hS' (I2.ok.hd hc) (by omega) fun s3 q arr c ks kp g o hp hg hi hs hmm hl2 => ?_
    have len3 : (ks.map V.int).length ≤ sizeLine := by rw [List.length_map, hl2, sizeLine_eq]; omega
    have free3 : H1 q = none := I2.hok.fresh hp
    have e : s3 = { s2 with heap := s3.heap, gens := s3.gens, drawn := s3.drawn, toks := s3.toks } := by
      cases s3
      cases s2
      cases o
      rfl
    rw [e]
    exact ⟨.ref q, upd H1 q (.lst (ks.map V.int)), I2.call (ch := []) (Un.laid kp hp free3) (I2.hok.laid kp hp ⟨len3, arr.toList, c, vals_of_ints hi, hg⟩) (by rw [g]; exact I2.bare) (fun _ z => nomatch z), rfl, qq ks hs (fun j => by rw [hmm j, decide_eq_true_eq]) q free3⟩
end
end PP
namespace JJ
open PySem PySem.Spec PP L2 MM
section
variable {mu : Int → Int} {R : List Int}
def opG (mu : Int → Int) (R : List Int) (p : Int) : Bool := decide (R.idxOf p < R.idxOf (mu p))
def OA (mu : Int → Int) (R : List Int) (i : Nat) : List Int := (R.take i).filter (opG mu R)
def numT (mu : Int → Int) (R : List Int) : List Int → Nat
  | [] => 0
  | t :: _ => (OA mu R R.length).idxOf t + 1
def numG (mu : Int → Int) (R : List Int) (i : Nat) : Nat := numT mu R (stkR mu R i)
theorem OA_succ {i : Nat} {p : Int} (h : R[i]? = some p) : OA mu R (i + 1) = OA mu R i ++ if opG mu R p = true then [p] else [] := by
  unfold OA
  rw [List.take_add_one, h, List.filter_append]
  congr 1
  show List.filter _ [p] = _
  rw [List.filter_cons, List.filter_nil]
theorem OA_pre {i : Nat} : OA mu R i <+: OA mu R R.length := by
  unfold OA
  rw [List.take_length]
  exact (List.take_prefix i R).filter _
theorem idx_pre {A B : List Int} (h : A <+: B) {t : Int} (ht : t ∈ A) : B.idxOf t = A.idxOf t := by
  obtain ⟨C, rfl⟩ := h
  rw [List.idxOf_append, if_pos ht]
theorem OA_mem {i : Nat} {p : Int} : p ∈ OA mu R i ↔ p ∈ R.take i ∧ R.idxOf p < R.idxOf (mu p) := by
  unfold OA opG
  rw [List.mem_filter, decide_eq_true_eq]
variable (I : MM.Inv mu R) (nc : ∀ a ∈ R, ∀ b ∈ R, ¬ Crs mu R a b)
include I
theorem take_mem {i : Nat} {p : Int} : p ∈ R.take i ↔ p ∈ R ∧ R.idxOf p < i := by
  constructor
  · intro h
    obtain ⟨j, hj⟩ := List.getElem?_of_mem h
    rw [List.getElem?_take] at hj
    split at hj
    · rename_i hji
      have := idx_at I.nd hj
      exact ⟨List.mem_of_getElem? hj, by omega⟩
    · cases hj
  · rintro ⟨h, hi⟩
    have := at_idx h
    exact List.mem_of_getElem? (i := R.idxOf p) (by rw [List.getElem?_take, if_pos hi]; exact this)
theorem OA_nd : (OA mu R R.length).Nodup := by
  unfold OA
  rw [List.take_length]
  exact I.nd.sublist (List.filter_sublist ..)
include nc
theorem stk_mem {i : Nat} (hi : i ≤ R.length) {p : Int} : p ∈ stkR mu R i ↔ p ∈ R ∧ R.idxOf p < i ∧ i ≤ R.idxOf (mu p) :=
  ⟨fun h => ⟨((stk_sorted I hi).1 p h).1, ((stk_sorted I hi).1 p h).2, stk_only I nc hi p h⟩, fun ⟨h1, h2, h3⟩ => stk_open I hi p h1 h2 h3⟩
omit nc in
theorem desc_ext {A B : List Int} (ha : A.Pairwise fun a b => R.idxOf b < R.idxOf a) (hb : B.Pairwise fun a b => R.idxOf b < R.idxOf a) (h : ∀ x, x ∈ A ↔ x ∈ B) : A = B := by
  have na : A.Nodup := ha.imp fun h e => by rw [e] at h; omega
  have nb : B.Nodup := hb.imp fun h e => by rw [e] at h; omega
  exact ((List.perm_ext_iff_of_nodup na nb).mpr h).eq_of_pairwise (fun a b _ _ h1 h2 => by omega) ha hb
theorem stk_tail {i : Nat} (hi : i ≤ R.length) {t : Int} {r : List Int} (e : stkR mu R i = t :: r) : stkR mu R (R.idxOf t) = r := by
  have ht : t ∈ stkR mu R i := by rw [e]; exact List.mem_cons_self
  obtain ⟨t1, t2, t3⟩ := (stk_mem I nc hi).mp ht
  have so := (stk_sorted I hi).2
  rw [e] at so
  obtain ⟨s1, s2⟩ := List.pairwise_cons.mp so
  refine desc_ext I (stk_sorted I (by omega)).2 s2 fun x => ?_
  rw [stk_mem I nc (by omega)]
  constructor
  · rintro ⟨h1, h2, h3⟩
    have hx : x ∈ stkR mu R i := (stk_mem I nc hi).mpr ⟨h1, by omega, Classical.byContradiction fun c => by
      by_cases z : R.idxOf (mu x) = R.idxOf t
      · have : mu x = t := idx_inj (I.mem x h1) t1 z
        have : x = mu t := by rw [← this, I.inv x h1]
        rw [this] at h2
        omega
      · exact nc x h1 t t1 ⟨h2, by omega, by omega⟩⟩
    rw [e] at hx
    rcases List.mem_cons.mp hx with rfl | hx
    · omega
    · exact hx
  · intro hx
    have hx2 : x ∈ stkR mu R i := by rw [e]; exact List.mem_cons_of_mem _ hx
    obtain ⟨h1, h2, h3⟩ := (stk_mem I nc hi).mp hx2
    have := s1 x hx
    exact ⟨h1, this, by omega⟩
theorem stk_step {i : Nat} {p : Int} (h : R[i]? = some p) : (∃ t r, stkR mu R i = t :: r ∧ p = mu t ∧ stkR mu R (i + 1) = r ∧ opG mu R p = false ∧ numG mu R (i + 1) = numG mu R (R.idxOf t)) ∨ ((∀ t r, stkR mu R i = t :: r → p ≠ mu t ∧ p ≠ t) ∧ stkR mu R (i + 1) = p :: stkR mu R i ∧ opG mu R p = true) := by
  have hil := (List.getElem?_eq_some_iff.mp h).1
  have hp := List.mem_of_getElem? h
  have hip := idx_at I.nd h
  have hs := stkR_succ (mu := mu) h
  cases e : stkR mu R i with
  | nil =>
    right
    rw [e] at hs
    refine ⟨fun t r z => (by cases z), hs, ?_⟩
    have : p ∈ stkR mu R (i + 1) := by rw [hs]; exact List.mem_singleton.mpr rfl
    have := (stk_mem I nc (by omega)).mp this
    unfold opG
    exact decide_eq_true (by omega)
  | cons t r =>
    have ht : t ∈ stkR mu R i := by rw [e]; exact List.mem_cons_self
    obtain ⟨t1, t2, t3⟩ := (stk_mem I nc (by omega)).mp ht
    rw [e] at hs
    unfold stepR at hs
    dsimp only at hs
    by_cases c : t = mu p
    · left
      rw [if_pos c] at hs
      refine ⟨t, r, rfl, by rw [c, I.inv p hp], hs, ?_, ?_⟩
      · unfold opG
        rw [← c]
        exact decide_eq_false (by omega)
      · unfold numG
        rw [hs, stk_tail I nc (by omega) e]
    · right
      rw [if_neg c] at hs
      refine ⟨fun t' r' z => ?_, hs, ?_⟩
      · cases z
        exact ⟨fun z => c (by rw [z, I.inv t t1]), fun z => by rw [z] at hip; omega⟩
      · have : p ∈ stkR mu R (i + 1) := by rw [hs]; exact List.mem_cons_self
        have := (stk_mem I nc (by omega)).mp this
        unfold opG
        exact decide_eq_true (by omega)
theorem num_top {i : Nat} (hi : i ≤ R.length) {t : Int} {r : List Int} (e : stkR mu R i = t :: r) : numG mu R i = (OA mu R i).idxOf t + 1 ∧ t ∈ OA mu R i := by
  have ht : t ∈ stkR mu R i := by rw [e]; exact List.mem_cons_self
  obtain ⟨t1, t2, t3⟩ := (stk_mem I nc hi).mp ht
  have hm : t ∈ OA mu R i := OA_mem.mpr ⟨(take_mem I).mpr ⟨t1, t2⟩, by omega⟩
  refine ⟨?_, hm⟩
  unfold numG
  rw [e]
  show (OA mu R R.length).idxOf t + 1 = _
  rw [idx_pre OA_pre hm]
theorem num_open {i : Nat} {p : Int} (h : R[i]? = some p) (ho : opG mu R p = true) : numG mu R (i + 1) = (OA mu R i).length + 1 := by
  have hil := (List.getElem?_eq_some_iff.mp h).1
  rcases stk_step I nc h with ⟨t, r, _, _, _, z, _⟩ | ⟨_, hs, _⟩
  · rw [ho] at z; cases z
  · have := (num_top I nc (i := i + 1) (by omega) hs).1
    rw [this, OA_succ h, if_pos ho, List.idxOf_append, if_neg]
    · simp
    · intro z
      have := (OA_mem.mp z).1
      have := ((take_mem I).mp this).2
      have := idx_at I.nd h
      omega
theorem num_le {i : Nat} (hi : i ≤ R.length) : numG mu R i ≤ (OA mu R i).length := by
  cases e : stkR mu R i with
  | nil => unfold numG; rw [e]; exact Nat.zero_le _
  | cons t r =>
    obtain ⟨h1, h2⟩ := num_top I nc hi e
    rw [h1]
    exact List.idxOf_lt_length_of_mem h2
theorem num_inj {i j : Nat} (hi : i ≤ R.length) (hj : j ≤ R.length) : numG mu R i = numG mu R j ↔ stkR mu R i = stkR mu R j := by
  constructor
  · intro h
    cases ei : stkR mu R i with
    | nil =>
      cases ej : stkR mu R j with
      | nil => rfl
      | cons t r =>
        have := (num_top I nc hj ej).1
        unfold numG at h
        rw [ei, show numT mu R (stkR mu R j) = numG mu R j from rfl, this] at h
        have h : 0 = _ := h
        omega
    | cons t r =>
      cases ej : stkR mu R j with
      | nil =>
        have := (num_top I nc hi ei).1
        unfold numG at h
        rw [ej, show numT mu R (stkR mu R i) = numG mu R i from rfl, this] at h
        have h : _ = 0 := h
        omega
      | cons t' r' =>
        obtain ⟨a1, a2⟩ := num_top I nc hi ei
        obtain ⟨b1, b2⟩ := num_top I nc hj ej
        rw [a1, b1, ← idx_pre OA_pre a2, ← idx_pre OA_pre b2] at h
        have a3 := OA_pre.subset a2
        have b3 := OA_pre.subset b2
        have et : t = t' := idx_inj a3 b3 (by omega)
        subst et
        rw [← stk_tail I nc hi ei, ← stk_tail I nc hj ej]
  · intro h
    unfold numG
    rw [h]
theorem num_met {j : Nat} (hj : j ≤ (OA mu R R.length).length) : ∃ g, g ≤ R.length ∧ numG mu R g = j ∧ (∀ g', g' < g → numG mu R g' < j) ∧ (j = 0 → g = 0) ∧ (0 < R.length → g < R.length) := by
  cases j with
  | zero => exact ⟨0, Nat.zero_le _, by unfold numG; rw [stkR_zero]; rfl, fun g h => by omega, fun _ => rfl, fun h => h⟩
  | succ j =>
    have hjl : j < (OA mu R R.length).length := by omega
    obtain ⟨o, ho⟩ : ∃ o, (OA mu R R.length)[j]? = some o := ⟨_, List.getElem?_eq_getElem hjl⟩
    have hom := List.mem_of_getElem? ho
    obtain ⟨h1, h2⟩ := OA_mem.mp hom
    have hoR := ((take_mem I).mp h1).1
    have hat := at_idx hoR
    have hil := (List.getElem?_eq_some_iff.mp hat).1
    have hop : opG mu R o = true := decide_eq_true h2
    have hlen : (OA mu R (R.idxOf o)).length = j := by
      have e := idx_at (OA_nd I) ho
      have pr : OA mu R (R.idxOf o + 1) <+: OA mu R R.length := OA_pre
      have hm : o ∈ OA mu R (R.idxOf o + 1) := OA_mem.mpr ⟨(take_mem I).mpr ⟨hoR, by omega⟩, h2⟩
      rw [idx_pre pr hm, OA_succ hat, if_pos hop, List.idxOf_append, if_neg] at e
      · simpa using e
      · intro z
        have := ((take_mem I).mp (OA_mem.mp z).1).2
        omega
    have hmu := List.idxOf_lt_length_of_mem (I.mem o hoR)
    refine ⟨R.idxOf o + 1, by omega, by rw [num_open I nc hat hop, hlen], fun g' hg => ?_, fun z => by omega, fun _ => by omega⟩
    have := num_le I nc (i := g') (by omega)
    have pr : (OA mu R g').length ≤ (OA mu R (R.idxOf o)).length := by
      have : OA mu R g' <+: OA mu R (R.idxOf o) := by
        unfold OA
        exact (List.take_prefix_take_left (by omega)).filter _
      exact this.length_le
    omega
theorem num_end : numG mu R R.length = 0 := by
  unfold numG
  rw [(pile_empty I).mpr nc]; rfl
theorem OA_half : 2 * (OA mu R R.length).length = R.length := by
  have h1 : ((OA mu R R.length) ++ (OA mu R R.length).map mu).Nodup := by
    refine List.nodup_append.mpr ⟨OA_nd I, ?_, ?_⟩
    · refine nodup_map_inj (OA_nd I) fun a ha b hb e => ?_
      have ha := ((take_mem I).mp (OA_mem.mp ha).1).1
      have hb := ((take_mem I).mp (OA_mem.mp hb).1).1
      rw [← I.inv a ha, e, I.inv b hb]
    · intro a ha b hb e
      subst e
      obtain ⟨c, hc, e⟩ := List.mem_map.mp hb
      obtain ⟨c1, c2⟩ := OA_mem.mp hc
      have hcR := ((take_mem I).mp c1).1
      have := (OA_mem.mp ha).2
      rw [← e, I.inv c hcR] at this
      omega
  have h2 : ∀ x, x ∈ ((OA mu R R.length) ++ (OA mu R R.length).map mu) ↔ x ∈ R := fun x => by
    rw [List.mem_append, OA_mem, List.take_length, List.mem_map]
    constructor
    · rintro (⟨h, _⟩ | ⟨c, hc, rfl⟩)
      · exact h
      · exact I.mem c ((take_mem I).mp (OA_mem.mp hc).1).1
    · intro h
      have ne := I.ne x h
      by_cases z : R.idxOf x < R.idxOf (mu x)
      · exact .inl ⟨h, z⟩
      · refine .inr ⟨mu x, OA_mem.mpr ⟨by rw [List.take_length]; exact I.mem x h, ?_⟩, I.inv x h⟩
        have : R.idxOf (mu x) ≠ R.idxOf x := fun q => ne (idx_inj (I.mem x h) h q)
        rw [I.inv x h]
        omega
  have := ((List.perm_ext_iff_of_nodup h1 I.nd).mpr h2).length_eq
  rw [List.length_append, List.length_map] at this
  omega
end
end JJ
namespace JJ
open PySem PySem.Spec PP L2 MM
open PySem.W (AllAlike Sortable dataLe dataLt alike alikeAll)
section
variable (u d : Int) (ns : List Int)
def nmF (g : Nat) : Nat := numG (mu ns) (ringI u d) g
def fN : Nat := (u + d).toNat
def fK : Nat := (OA (mu ns) (ringI u d) (ringI u d).length).length
def strDF (p : Int) : PyData := .tuple [.int (if mu ns p < p then mu ns p else p), .int (if p < mu ns p then mu ns p else p)]
def doorP (p : Int) : PyData := .tuple [strDF ns p, .int (nmF u d ns ((ringI u d).idxOf p))]
def doorsF (i : Nat) : List PyData := .tuple [.tuple [], .int 0] :: (OA (mu ns) (ringI u d) i).map (doorP u d ns)
def natT (l : List Nat) : PyData := .tuple (l.map fun g : Nat => .int g)
def upFc (j : Nat) : List Nat := (List.range (u.toNat + 1)).filter fun g => decide (nmF u d ns g = j)
def dnF (j : Nat) : List Nat := (List.range (d.toNat + 1)).filter fun g => decide (nmF u d ns (fN u d - g) = j)
def rmD (j : Nat) : PyData := .tuple [natT (upFc u d ns j), natT (dnF u d ns j)]
def rmsL : List PyData := (List.range (fK u d ns + 1)).map (rmD u d ns)
end
structure Fc (u d : Int) (ns : List Int) : Prop where
  I : MM.Inv (mu ns) (ringI u d)
  nc : ∀ a ∈ ringI u d, ∀ b ∈ ringI u d, ¬ Crs (mu ns) (ringI u d) a b
  u0 : 0 ≤ u
  d0 : 0 ≤ d
  h0 : 0 < u + d
  len : (ns.length : Int) = u + d
  rl : (ringI u d).length = fN u d
section
variable {u d : Int} {ns : List Int}
theorem fc_of (h : isMatB u d ns = true) : Fc u d ns := by
  obtain ⟨h1, h2, h3, h4, h5, h6⟩ := isMat_parts h
  have I := inv_of h1 h2 h4 h5
  exact ⟨I, (pile_empty I).mp h6, h1, h2, h3, h4, by have := ringI_len h1 h2; unfold fN; omega⟩
theorem Fc.in_ (F : Fc u d ns) {p : Int} : p ∈ ringI u d ↔ 0 ≤ p ∧ p < u + d := ringI_mem F.u0 F.d0
theorem Fc.half (F : Fc u d ns) : 2 * fK u d ns = fN u d := by
  have := OA_half F.I F.nc
  have e := F.rl
  unfold fK
  omega
theorem Fc.door (F : Fc u d ns) {i : Nat} {p : Int} (h : (ringI u d)[i]? = some p) : ∃ (S : List Int) (o : Int), (doorsF u d ns i)[nmF u d ns i]? = some (.tuple [.tuple (S.map .int), .int o]) ∧
    (p ∈ S → o = nmF u d ns (i + 1) ∧ opG (mu ns) (ringI u d) p = false) ∧ (p ∉ S → opG (mu ns) (ringI u d) p = true) := by
  have hil := (List.getElem?_eq_some_iff.mp h).1
  cases e : stkR (mu ns) (ringI u d) i with
  | nil =>
    refine ⟨[], 0, ?_, fun z => (List.not_mem_nil z).elim, fun _ => ?_⟩
    · unfold nmF numG
      rw [e]; rfl
    · rcases stk_step F.I F.nc h with ⟨t, r, q, _⟩ | ⟨_, _, q⟩
      · rw [e] at q; cases q
      · exact q
  | cons t r =>
    obtain ⟨n1, n2⟩ := num_top F.I F.nc (by omega) e
    refine ⟨[if mu ns t < t then mu ns t else t, if t < mu ns t then mu ns t else t], nmF u d ns ((ringI u d).idxOf t), ?_, fun z => ?_, fun z => ?_⟩
    · unfold nmF
      rw [n1]
      unfold doorsF
      rw [List.getElem?_cons_succ, List.getElem?_map, at_idx n2]; rfl
    · rcases stk_step F.I F.nc h with ⟨t', r', q, q1, q2, q3, q4⟩ | ⟨q, _, _⟩
      · rw [e] at q
        cases q
        exact ⟨congrArg Int.ofNat q4.symm, q3⟩
      · obtain ⟨z1, z2⟩ := q t r e
        exfalso
        simp only [List.mem_cons, List.not_mem_nil, or_false] at z
        rcases z with z | z <;> · split at z <;> omega
    · rcases stk_step F.I F.nc h with ⟨t', r', q, q1, _⟩ | ⟨_, _, q⟩
      · rw [e] at q
        cases q
        exfalso
        refine z ?_
        rw [q1]
        simp only [List.mem_cons, List.not_mem_nil, or_false]
        by_cases c : mu ns t < t
        · exact .inl (by rw [if_pos c])
        · right
          by_cases c2 : t < mu ns t
          · rw [if_pos c2]
          · rw [if_neg c2]; omega
      · exact q
theorem Fc.shut (F : Fc u d ns) {i : Nat} {p : Int} (h : (ringI u d)[i]? = some p) (ho : opG (mu ns) (ringI u d) p = false) : doorsF u d ns (i + 1) = doorsF u d ns i := by
  unfold doorsF
  rw [OA_succ h, ho]; simp
theorem Fc.open_ (F : Fc u d ns) {i : Nat} {p : Int} (h : (ringI u d)[i]? = some p) (ho : opG (mu ns) (ringI u d) p = true) : doorsF u d ns (i + 1) = doorsF u d ns i ++ [.tuple [strDF ns p, .int (nmF u d ns i)]] ∧ (nmF u d ns (i + 1) : Int) = ((doorsF u d ns i ++ [PyData.tuple [strDF ns p, .int (nmF u d ns i)]]).length : Int) - 1 := by
  constructor
  · unfold doorsF
    rw [OA_succ h, if_pos ho, List.map_append, ← List.cons_append]
    congr 1
    show [PyData.tuple [strDF ns p, .int (nmF u d ns ((ringI u d).idxOf p))]] = _
    rw [idx_at F.I.nd h]
  · have := num_open F.I F.nc h ho
    unfold nmF
    rw [this]
    unfold doorsF
    rw [List.length_append, List.length_cons, List.length_map]
    simp
theorem Fc.num_le (F : Fc u d ns) {g : Nat} (hg : g ≤ fN u d) : nmF u d ns g ≤ fK u d ns := by
  have h1 := JJ.num_le F.I F.nc (i := g) (by rw [F.rl]; exact hg)
  have h2 := (OA_pre (mu := mu ns) (R := ringI u d) (i := g)).length_le
  unfold nmF fK
  omega
theorem Fc.met (F : Fc u d ns) {j : Nat} (hj : j ≤ fK u d ns) : ∃ g, g < fN u d ∧ nmF u d ns g = j ∧ (∀ g', g' < g → nmF u d ns g' < j) ∧ (j = 0 → g = 0) := by
  obtain ⟨g, h1, h2, h3, h4, h5⟩ := num_met F.I F.nc hj
  have := F.h0
  rw [F.rl] at h5
  exact ⟨g, h5 (by unfold fN; omega), h2, h3, h4⟩
theorem Fc.end_ (F : Fc u d ns) : nmF u d ns (fN u d) = 0 := by
  have := num_end F.I F.nc
  rw [F.rl] at this
  exact this
theorem upFc_mem {j g : Nat} : g ∈ upFc u d ns j ↔ g < u.toNat + 1 ∧ nmF u d ns g = j := by
  unfold upFc
  rw [List.mem_filter, List.mem_range, decide_eq_true_eq]
theorem dnF_mem {j g : Nat} : g ∈ dnF u d ns j ↔ g < d.toNat + 1 ∧ nmF u d ns (fN u d - g) = j := by
  unfold dnF
  rw [List.mem_filter, List.mem_range, decide_eq_true_eq]
theorem Fc.rm_inj (F : Fc u d ns) {i j : Nat} (hi : i ≤ fK u d ns) (h : upFc u d ns i = upFc u d ns j) (h2 : dnF u d ns i = dnF u d ns j) : i = j := by
  obtain ⟨g, g1, g2, _⟩ := F.met hi
  have u0 := F.u0
  have d0 := F.d0
  unfold fN at g1
  by_cases c : g < u.toNat + 1
  · have : g ∈ upFc u d ns i := upFc_mem.mpr ⟨c, g2⟩
    rw [h] at this
    rw [← g2, (upFc_mem.mp this).2]
  · have : fN u d - g ∈ dnF u d ns i := dnF_mem.mpr ⟨by unfold fN; omega, by rw [show fN u d - (fN u d - g) = g by unfold fN; omega]; exact g2⟩
    rw [h2] at this
    have := (dnF_mem.mp this).2
    rw [show fN u d - (fN u d - g) = g by unfold fN; omega] at this
    rw [← g2, this]
theorem natT_len {j : Nat} : (upFc u d ns j).length ≤ u.toNat + 1 ∧ (dnF u d ns j).length ≤ d.toNat + 1 := by
  unfold upFc dnF
  constructor
  · exact Nat.le_trans (List.length_filter_le ..) (by rw [List.length_range]; exact Nat.le_refl _)
  · exact Nat.le_trans (List.length_filter_le ..) (by rw [List.length_range]; exact Nat.le_refl _)
theorem sd_nat {l : List Nat} : Sd 1 (natT l) := sd_tuple (n := 0) fun x hx => by
  obtain ⟨g, _, rfl⟩ := List.mem_map.mp hx
  exact sd_int
theorem sd_rm {j : Nat} : Sd 2 (rmD u d ns j) := sd_tuple (n := 1) fun x hx => by
  simp only [List.mem_cons, List.not_mem_nil, or_false] at hx
  rcases hx with rfl | rfl <;> exact sd_nat
theorem al_nat : ∀ {a b : List Nat}, alikeAll (a.map fun g : Nat => PyData.int g) (b.map fun g : Nat => PyData.int g) = true
  | [], [] => rfl
  | [], _ :: _ => rfl
  | _ :: _, [] => rfl
  | _ :: a, _ :: b => by
    rw [List.map_cons, List.map_cons, alikeAll, al_nat (a := a) (b := b)]; rfl
theorem al_natT {a b : List Nat} : alike (natT a) (natT b) = true := by
  unfold natT
  rw [alike]
  exact al_nat
theorem al_rm {a b a' b' : List Nat} : alike (.tuple [natT a, natT b]) (.tuple [natT a', natT b']) = true := by
  rw [alike, alikeAll, alikeAll, alikeAll, al_natT, al_natT]; rfl
theorem srtOk_rm {l : List Nat} : AllAlike (l.map (rmD u d ns)) ∧ Sortable (l.map (rmD u d ns)) ∧ ∀ x ∈ l.map (rmD u d ns), x.depth ≤ 60 := by
  refine ⟨fun x hx y hy => ?_, .inl fun x hx => ?_, fun x hx => ?_⟩
  · obtain ⟨i, _, rfl⟩ := List.mem_map.mp hx
    obtain ⟨j, _, rfl⟩ := List.mem_map.mp hy
    exact al_rm
  · obtain ⟨i, _, rfl⟩ := List.mem_map.mp hx
    exact ⟨_, _, rfl⟩
  · obtain ⟨i, _, rfl⟩ := List.mem_map.mp hx
    exact Nat.le_trans sd_rm.2 (by decide)
theorem eqv_natL : ∀ {a b : List Nat}, PyData.eqvAll (a.map fun g : Nat => PyData.int g) (b.map fun g : Nat => PyData.int g) = decide (a = b)
  | [], [] => rfl
  | [], _ :: _ => rfl
  | _ :: _, [] => rfl
  | x :: a, y :: b => by
    show (PyData.eqv (.int x) (.int y) && PyData.eqvAll (a.map fun g : Nat => PyData.int g) (b.map fun g : Nat => PyData.int g)) = _
    rw [eqv_natL]
    show (((x : Int) == (y : Int)) && decide (a = b)) = _
    by_cases h1 : x = y <;> by_cases h2 : a = b <;> simp [h1, h2] <;> omega
theorem eqv_natT {a b : List Nat} : PyData.eqv (natT a) (natT b) = decide (a = b) := eqv_natL
theorem eqv_rm {i j : Nat} : PyData.eqv (rmD u d ns i) (rmD u d ns j) = decide (upFc u d ns i = upFc u d ns j ∧ dnF u d ns i = dnF u d ns j) := by
  show (PyData.eqv (natT _) (natT _) && (PyData.eqv (natT _) (natT _) && true)) = _
  rw [eqv_natT, eqv_natT, Bool.and_true, Bool.eq_iff_iff, Bool.and_eq_true, decide_eq_true_eq, decide_eq_true_eq, decide_eq_true_eq]
theorem Fc.eqv_rm (F : Fc u d ns) {i j : Nat} (hi : i ≤ fK u d ns) : PyData.eqv (rmD u d ns i) (rmD u d ns j) = decide (i = j) := by
  rw [JJ.eqv_rm]
  exact decide_eq_decide.mpr ⟨fun h => F.rm_inj hi h.1 h.2, fun h => by rw [h]; exact ⟨rfl, rfl⟩⟩
end
section
variable (u d : Int) (ns : List Int)
def ordF : List Nat := (srtD (rmsL u d ns)).map fun x => (List.range (fK u d ns + 1)).findIdx fun j => PyData.eqv (rmD u d ns j) x
end
section
variable {u d : Int} {ns : List Int}
theorem Fc.idx_rm (F : Fc u d ns) {j : Nat} (hj : j ≤ fK u d ns) : ((List.range (fK u d ns + 1)).findIdx fun i => PyData.eqv (rmD u d ns i) (rmD u d ns j)) = j := by
  have hlt : j < (List.range (fK u d ns + 1)).length := by rw [List.length_range]; omega
  refine (List.findIdx_eq hlt).mpr ⟨?_, fun i hi => ?_⟩
  · rw [List.getElem_range, F.eqv_rm hj]; simp
  · rw [List.getElem_range, F.eqv_rm (by omega)]; simp; omega
theorem Fc.srt_at (F : Fc u d ns) {x : PyData} (hx : x ∈ srtD (rmsL u d ns)) : ∃ j, j ≤ fK u d ns ∧ x = rmD u d ns j := by
  obtain ⟨j, hj, rfl⟩ := List.mem_map.mp (srt_mem.mp hx)
  rw [List.mem_range] at hj
  exact ⟨j, by omega, rfl⟩
theorem Fc.ord_map (F : Fc u d ns) : (ordF u d ns).map (rmD u d ns) = srtD (rmsL u d ns) := by
  unfold ordF
  rw [List.map_map]
  refine (List.map_congr_left fun x hx => ?_).trans (List.map_id _)
  obtain ⟨j, hj, rfl⟩ := F.srt_at hx
  exact congrArg (rmD u d ns) (F.idx_rm hj)
theorem Fc.ord_perm (F : Fc u d ns) : (ordF u d ns).Perm (List.range (fK u d ns + 1)) := by
  unfold ordF
  refine ((List.mergeSort_perm _ _).map _).trans ?_
  unfold rmsL
  rw [List.map_map]
  refine List.Perm.of_eq ((List.map_congr_left fun j hj => ?_).trans (List.map_id _))
  rw [List.mem_range] at hj
  exact F.idx_rm (by omega)
theorem Fc.ord_len (F : Fc u d ns) : (ordF u d ns).length = fK u d ns + 1 := by rw [F.ord_perm.length_eq, List.length_range]
theorem Fc.ord_nd (F : Fc u d ns) : (ordF u d ns).Nodup := F.ord_perm.nodup_iff.mpr List.nodup_range
theorem Fc.ord_mem (F : Fc u d ns) {j : Nat} : j ∈ ordF u d ns ↔ j ≤ fK u d ns := by rw [F.ord_perm.mem_iff, List.mem_range]; omega
end
def spStrF : FSp := fun pvs m q => ∃ (u d : Int) (ns : List Int) (p : Int), pvs = [.d (matD u d ns), .d (.int p)] ∧ m = [] ∧ 0 ≤ p ∧ p < ns.length ∧ q (.d (strDF ns p)) []
def spRoundF : FSp := fun pvs m q => ∃ (u d : Int) (ns : List Int), pvs = [.d (matD u d ns)] ∧ m = [] ∧ isMatB u d ns = true ∧ u + d ≤ 1000 ∧ q (.d (.tuple [.list ((List.range (fN u d + 1)).map fun g : Nat => .int (nmF u d ns g)), .list (doorsF u d ns (fN u d))])) []
def spPlacesF : FSp := fun pvs m q => ∃ (is : List Int) (k : Int), pvs = [.d (.list (is.map .int)), .d (.int k)] ∧ m = [] ∧ is.length ≤ 10000 ∧ q (.d (natT ((List.range is.length).filter fun g => decide (is.getD g 0 = k)))) []
def abvF (u d : Int) (ns : List Int) : List Int := (List.range (u.toNat + 1)).map fun g => (nmF u d ns g : Int)
def blwF (u d : Int) (ns : List Int) : List Int := (List.range (d.toNat + 1)).map fun g => (nmF u d ns (fN u d - g) : Int)
def spGapsF : FSp := fun pvs m q => ∃ (u d : Int) (ns : List Int), pvs = [.d (matD u d ns)] ∧ m = [] ∧ isMatB u d ns = true ∧ u + d ≤ 1000 ∧ q (.d (.tuple [.list ((abvF u d ns).map .int), .list ((blwF u d ns).map .int)])) []
def spRoomsF : FSp := fun pvs m q => ∃ (u d : Int) (ns : List Int), pvs = [.d (matD u d ns)] ∧ m = [] ∧ isMatB u d ns = true ∧ u + d ≤ 1000 ∧ q (.ref 0) [some (.lst (rmsL u d ns))]
def spRoomsS : FSp := fun pvs m q => ∃ (u d : Int) (ns : List Int), pvs = [.d (matD u d ns)] ∧ m = [] ∧ isMatB u d ns = true ∧ u + d ≤ 1000 ∧ q (.ref 0) [some (.lst (srtD (rmsL u d ns)))]
theorem fc_abv {u d : Int} {ns : List Int} (F : Fc u d ns) : ∀ y ∈ abvF u d ns ++ blwF u d ns, y ≤ fK u d ns := fun y hy => by
  have := F.u0
  have := F.d0
  rcases List.mem_append.mp hy with hy | hy
  · obtain ⟨g, hg, rfl⟩ := List.mem_map.mp hy
    rw [List.mem_range] at hg
    have := F.num_le (g := g) (by unfold fN; omega)
    omega
  · obtain ⟨g, hg, rfl⟩ := List.mem_map.mp hy
    rw [List.mem_range] at hg
    have := F.num_le (g := fN u d - g) (by omega)
    omega
theorem fc_max {u d : Int} {ns : List Int} (F : Fc u d ns) : (fK u d ns : Int) ∈ abvF u d ns ++ blwF u d ns := by
  have := F.u0
  have := F.d0
  obtain ⟨g, h1, h2, _⟩ := F.met (Nat.le_refl (fK u d ns))
  rw [List.mem_append]
  by_cases c : g < u.toNat + 1
  · exact .inl (List.mem_map.mpr ⟨g, List.mem_range.mpr c, by rw [h2]⟩)
  · exact .inr (List.mem_map.mpr ⟨fN u d - g, List.mem_range.mpr (by unfold fN at h1 ⊢; omega), by rw [show fN u d - (fN u d - g) = g by omega, h2]⟩)
section
variable {u d : Int} {ns : List Int}
theorem abv_at {g : Nat} (h : g < u.toNat + 1) : (abvF u d ns)[g]? = some (nmF u d ns g : Int) := by
  unfold abvF
  rw [List.getElem?_map, List.getElem?_range h]; rfl
theorem blw_at {g : Nat} (h : g < d.toNat + 1) : (blwF u d ns)[g]? = some (nmF u d ns (fN u d - g) : Int) := by
  unfold blwF
  rw [List.getElem?_map, List.getElem?_range h]; rfl
theorem up_of {i : Nat} : ((List.range (abvF u d ns).length).filter fun g => decide ((abvF u d ns).getD g 0 = (i : Int))) = upFc u d ns i := by
  have hl : (abvF u d ns).length = u.toNat + 1 := by unfold abvF; rw [List.length_map, List.length_range]
  unfold upFc
  rw [hl]
  refine List.filter_congr fun g hg => ?_
  rw [List.getD_eq_getElem?_getD, abv_at (List.mem_range.mp hg)]
  exact decide_eq_decide.mpr ⟨fun h => by have h : (nmF u d ns g : Int) = i := h; omega, fun h => by show (nmF u d ns g : Int) = i; omega⟩
theorem dn_of {i : Nat} : ((List.range (blwF u d ns).length).filter fun g => decide ((blwF u d ns).getD g 0 = (i : Int))) = dnF u d ns i := by
  have hl : (blwF u d ns).length = d.toNat + 1 := by unfold blwF; rw [List.length_map, List.length_range]
  unfold dnF
  rw [hl]
  refine List.filter_congr fun g hg => ?_
  rw [List.getD_eq_getElem?_getD, blw_at (List.mem_range.mp hg)]
  exact decide_eq_decide.mpr ⟨fun h => by have h : (nmF u d ns (fN u d - g) : Int) = i := h; omega, fun h => by show (nmF u d ns (fN u d - g) : Int) = i; omega⟩
end
theorem Fc.cut_abv {u d : Int} {ns : List Int} (F : Fc u d ns) : PP.cutD ((List.range (fN u d + 1)).map fun g : Nat => PyData.int (nmF u d ns g)) none (some (u + 1)) = (abvF u d ns).map .int := by
  have e : ((List.range (fN u d + 1)).map fun g : Nat => PyData.int (nmF u d ns g)) = ((List.range (fN u d + 1)).map fun g : Nat => (nmF u d ns g : Int)).map .int := by rw [List.map_map]; rfl
  have := F.u0
  have := F.d0
  rw [e, cut_toZ (by omega), ← List.map_take, List.take_range, show min (u + 1).toNat (fN u d + 1) = u.toNat + 1 by unfold fN; omega]
  rfl
end JJ
namespace JJ
open PySem PySem.Spec PP L2 MM
open PySem.W (AllAlike Sortable dataLe dataLt alike alikeAll keyToksAll)
section
variable (u d : Int) (ns : List Int)
abbrev ixF (p : Int) : Nat := (ringI u d).idxOf p
def loS (s : Int × Int) : Int := 2 * (min (ixF u d s.1) (ixF u d s.2) : Nat) + 1
def hiS (s : Int × Int) : Int := 2 * (max (ixF u d s.1) (ixF u d s.2) : Nat) + 1
def barS (s : Int × Int) : PyData := .tuple [.int (loS u d s), .int (hiS u d s), .int s.1, .int s.2]
def barsL (i : Nat) : List PyData := (strI ns i).map (barS u d)
def bitS (g : Nat) (s : Int × Int) : Int := if loS u d s < 2 * (g : Int) ∧ 2 * (g : Int) < hiS u d s then 1 else 0
def keyB (g : Nat) : List Int := (strI ns ns.length).map (bitS u d g)
def fstG (j : Nat) : Nat := (List.range (fN u d + 1)).findIdx fun g => decide (nmF u d ns g = j)
def keyJ (j : Nat) : PyData := .tuple ((keyB u d ns (fstG u d ns j)).map .int)
def rowFc (i j : Nat) : List Int := ((List.range i).filter fun g => decide (nmF u d ns g = j)).map fun g : Nat => 2 * (g : Int)
def rowsFc (i c : Nat) : List (List PyData) := (List.range c).map fun j => (rowFc u d ns i j).map .int
def kvsF (bs : List PySem.Addr) : List (PyData × PySem.Addr) := ((List.range bs.length).zip bs).map fun p => (keyJ u d ns p.1, p.2)
def triD (j : Nat) : PyData := .tuple [natT (upFc u d ns j), natT (dnF u d ns j), .int (2 * (fstG u d ns j : Int))]
end
section
variable {u d : Int} {ns : List Int}
theorem Fc.str (F : Fc u d ns) {s : Int × Int} (h : s ∈ strI ns ns.length) : s.2 = mu ns s.1 ∧ s.1 ∈ ringI u d ∧ s.2 ∈ ringI u d ∧ mu ns s.2 = s.1 := by
  obtain ⟨j, hj, h1, rfl⟩ := strI_mem.mp h
  have hl := F.len
  have m1 : (j : Int) ∈ ringI u d := F.in_.mpr ⟨by omega, by omega⟩
  have e : ns.getD j 0 = mu ns j := mu_nat.symm
  exact ⟨e, m1, by rw [e]; exact F.I.mem _ m1, by rw [e]; exact F.I.inv _ m1⟩
theorem Fc.str_of (F : Fc u d ns) {p : Int} (h : p ∈ ringI u d) : ∃ s ∈ strI ns ns.length, (s.1 = p ∧ s.2 = mu ns p) ∨ (s.2 = p ∧ s.1 = mu ns p) := by
  have hl := F.len
  obtain ⟨p0, p1⟩ := F.in_.mp h
  obtain ⟨q0, q1⟩ := F.in_.mp (F.I.mem p h)
  have ne := F.I.ne p h
  by_cases c : p < mu ns p
  · refine ⟨(p, mu ns p), strI_mem.mpr ⟨p.toNat, by omega, ?_, ?_⟩, .inl ⟨rfl, rfl⟩⟩
    · rw [← mu_nat, Int.toNat_of_nonneg p0]; exact c
    · rw [← mu_nat, Int.toNat_of_nonneg p0]
  · refine ⟨(mu ns p, p), strI_mem.mpr ⟨(mu ns p).toNat, by omega, ?_, ?_⟩, .inr ⟨rfl, rfl⟩⟩
    · rw [← mu_nat, Int.toNat_of_nonneg q0, F.I.inv p h]; omega
    · rw [← mu_nat, Int.toNat_of_nonneg q0, F.I.inv p h]
theorem Fc.bit (F : Fc u d ns) {g : Nat} (hg : g ≤ fN u d) {s : Int × Int} (h : s ∈ strI ns ns.length) : (loS u d s < 2 * (g : Int) ∧ 2 * (g : Int) < hiS u d s) ↔ (s.1 ∈ stkR (mu ns) (ringI u d) g ∨ s.2 ∈ stkR (mu ns) (ringI u d) g) := by
  obtain ⟨e, m1, m2, e2⟩ := F.str h
  rw [stk_mem F.I F.nc (by rw [F.rl]; exact hg), stk_mem F.I F.nc (by rw [F.rl]; exact hg), e2, ← e]
  unfold loS hiS ixF
  have hm1 : s.1 ∈ ringI u d ↔ True := iff_true_intro m1
  have hm2 : s.2 ∈ ringI u d ↔ True := iff_true_intro m2
  rw [hm1, hm2]
  simp only [true_and]
  generalize List.idxOf s.1 (ringI u d) = a
  generalize List.idxOf s.2 (ringI u d) = c
  rcases Nat.le_total a c with h9 | h9
  · rw [Nat.min_eq_left h9, Nat.max_eq_right h9]
    constructor
    · rintro ⟨h1, h2⟩; left; omega
    · rintro (⟨h1, h2⟩ | ⟨h1, h2⟩) <;> omega
  · rw [Nat.min_eq_right h9, Nat.max_eq_left h9]
    constructor
    · rintro ⟨h1, h2⟩; right; omega
    · rintro (⟨h1, h2⟩ | ⟨h1, h2⟩) <;> omega
theorem Fc.key_eq (F : Fc u d ns) {g h : Nat} (hg : g ≤ fN u d) (hh : h ≤ fN u d) : keyB u d ns g = keyB u d ns h ↔ nmF u d ns g = nmF u d ns h := by
  unfold nmF
  rw [num_inj F.I F.nc (by rw [F.rl]; exact hg) (by rw [F.rl]; exact hh)]
  constructor
  · intro e
    have sub : ∀ {a b : Nat}, a ≤ fN u d → b ≤ fN u d → keyB u d ns a = keyB u d ns b → ∀ x, x ∈ stkR (mu ns) (ringI u d) a → x ∈ stkR (mu ns) (ringI u d) b := fun {a b} ha hb e x hx => by
      obtain ⟨x1, x2, x3⟩ := (stk_mem F.I F.nc (by rw [F.rl]; exact ha)).mp hx
      obtain ⟨s, hs, hsx⟩ := F.str_of x1
      have bit : bitS u d a s = bitS u d b s := List.map_inj_left.mp e s hs
      have on : bitS u d a s = 1 := if_pos ((F.bit ha hs).mpr (by
        rcases hsx with ⟨z, _⟩ | ⟨z, _⟩
        · exact .inl (z ▸ hx)
        · exact .inr (z ▸ hx)))
      rw [on] at bit
      have onb : loS u d s < 2 * (b : Int) ∧ 2 * (b : Int) < hiS u d s := Classical.byContradiction fun c => by
        have : bitS u d b s = 0 := if_neg c
        omega
      have := (F.bit hb hs).mp onb
      obtain ⟨f1, f2, f3, f4⟩ := F.str hs
      -- the opening peg is the one that lies on the pile
      have opn : ∀ y, y ∈ stkR (mu ns) (ringI u d) b → (y = x ∨ y = mu ns x) → x ∈ stkR (mu ns) (ringI u d) b := fun y hy hyx => by
        rcases hyx with z | z
        · exact z ▸ hy
        · obtain ⟨y1, y2, y3⟩ := (stk_mem F.I F.nc (by rw [F.rl]; exact hb)).mp hy
          rw [z, F.I.inv x x1] at y3
          rw [z] at y2
          omega
      rcases this with z | z
      · refine opn _ z ?_
        rcases hsx with ⟨q, _⟩ | ⟨_, q⟩
        · exact .inl q
        · exact .inr q
      · refine opn _ z ?_
        rcases hsx with ⟨_, q⟩ | ⟨q, _⟩
        · exact .inr q
        · exact .inl q
    exact desc_ext F.I (stk_sorted F.I (by rw [F.rl]; exact hg)).2 (stk_sorted F.I (by rw [F.rl]; exact hh)).2 fun x => ⟨sub hg hh e x, sub hh hg e.symm x⟩
  · intro e
    unfold keyB
    refine List.map_congr_left fun s hs => ?_
    have h1 := F.bit hg hs
    have h2 := F.bit hh hs
    rw [e, ← h2] at h1
    unfold bitS
    by_cases c : loS u d s < 2 * (g : Int) ∧ 2 * (g : Int) < hiS u d s
    · rw [if_pos c, if_pos (h1.mp c)]
    · rw [if_neg c, if_neg fun z => c (h1.mpr z)]
theorem Fc.fst (F : Fc u d ns) {j : Nat} (hj : j ≤ fK u d ns) : fstG u d ns j < fN u d ∧ nmF u d ns (fstG u d ns j) = j ∧ (∀ g, g < fstG u d ns j → nmF u d ns g < j) ∧ (j = 0 → fstG u d ns j = 0) := by
  obtain ⟨g, g1, g2, g3, g4⟩ := F.met hj
  have e : fstG u d ns j = g := by
    have hlt : g < (List.range (fN u d + 1)).length := by rw [List.length_range]; omega
    refine (List.findIdx_eq hlt).mpr ⟨by rw [List.getElem_range]; exact decide_eq_true g2, fun i hi => ?_⟩
    rw [List.getElem_range]
    have := g3 i hi
    exact decide_eq_false (by omega)
  rw [e]
  exact ⟨g1, g2, g3, g4⟩
theorem keyD_ints {is : List Int} : KeyD (.tuple (is.map .int)) := by
  refine ⟨.tup (is.map .num), _, by rw [keyN, keysN_ints], ?_, rfl⟩
  show NestedKey.depthAll (is.map .num) + 1 ≤ 8
  rw [depth_nums]; decide
theorem keyN_ints {a b : List Int} : keyN (.tuple (a.map .int)) = keyN (.tuple (b.map .int)) ↔ a = b := by
  constructor
  · intro h
    rw [keyN, keyN, keysN_ints, keysN_ints] at h
    have h : a.map NestedKey.num = b.map NestedKey.num := NestedKey.tup.inj (Option.some.inj h)
    exact (List.map_inj_right fun x y h => NestedKey.num.inj h).mp h
  · intro h; rw [h]
theorem Fc.keyJ_eq (F : Fc u d ns) {g j : Nat} (hg : g ≤ fN u d) (hj : j ≤ fK u d ns) : keyN (keyJ u d ns j) = keyN (.tuple ((keyB u d ns g).map .int)) ↔ j = nmF u d ns g := by
  obtain ⟨f1, f2, _⟩ := F.fst hj
  unfold keyJ
  rw [keyN_ints, F.key_eq (by omega) hg, f2]
theorem kvsF_len {bs : List PySem.Addr} : (kvsF u d ns bs).length = bs.length := by unfold kvsF; rw [List.length_map, List.length_zip, List.length_range, Nat.min_self]
theorem kvsF_at {bs : List PySem.Addr} {j : Nat} {b : PySem.Addr} (h : bs[j]? = some b) : (kvsF u d ns bs)[j]? = some (keyJ u d ns j, b) := by
  have hj := (List.getElem?_eq_some_iff.mp h).1
  unfold kvsF
  rw [List.getElem?_map, List.getElem?_zip_eq_some (z := (j, b)) |>.mpr ⟨List.getElem?_range hj, h⟩]; rfl
theorem kvsF_snoc {bs : List PySem.Addr} {b : PySem.Addr} : kvsF u d ns (bs ++ [b]) = kvsF u d ns bs ++ [(keyJ u d ns bs.length, b)] := by
  unfold kvsF
  rw [List.length_append, List.length_singleton, List.range_succ, List.zip_append (by rw [List.length_range]), List.map_append]; rfl
theorem Fc.adr_yes (F : Fc u d ns) {bs : List PySem.Addr} {g : Nat} (hg : g ≤ fN u d) (hb : bs.length ≤ fK u d ns + 1) {b : PySem.Addr} (h : bs[nmF u d ns g]? = some b) : adrN (kvsF u d ns bs) (.tuple ((keyB u d ns g).map .int)) = some b := by
  have hj := (List.getElem?_eq_some_iff.mp h).1
  have hat := kvsF_at (u := u) (d := d) (ns := ns) h
  have hne : ∀ i, i < nmF u d ns g → ∀ p, (kvsF u d ns bs)[i]? = some p → decide (keyN p.1 = keyN (.tuple ((keyB u d ns g).map .int))) = false := fun i hi p hp => by
    obtain ⟨b', hb'⟩ : ∃ b', bs[i]? = some b' := ⟨_, List.getElem?_eq_getElem (by omega)⟩
    rw [kvsF_at hb'] at hp
    cases hp
    refine decide_eq_false fun z => ?_
    have := (F.keyJ_eq hg (by omega)).mp z
    omega
  unfold adrN
  have : (kvsF u d ns bs).find? (fun p => decide (keyN p.1 = keyN (.tuple ((keyB u d ns g).map .int)))) = some (keyJ u d ns (nmF u d ns g), b) := by
    rw [List.find?_eq_some_iff_getElem]
    have hl : nmF u d ns g < (kvsF u d ns bs).length := by rw [kvsF_len]; exact hj
    refine ⟨decide_eq_true ((F.keyJ_eq hg (by omega)).mpr rfl), nmF u d ns g, hl, by rw [List.getElem?_eq_getElem hl] at hat; exact Option.some.inj hat, fun i hi => ?_⟩
    have := hne i hi _ (List.getElem?_eq_getElem (by omega))
    rw [this]; rfl
  rw [this]; rfl
theorem Fc.adr_no (F : Fc u d ns) {bs : List PySem.Addr} {g : Nat} (hg : g ≤ fN u d) (hb : bs.length ≤ fK u d ns + 1) (h : bs.length ≤ nmF u d ns g) : adrN (kvsF u d ns bs) (.tuple ((keyB u d ns g).map .int)) = none := by
  unfold adrN
  have : (kvsF u d ns bs).find? (fun p => decide (keyN p.1 = keyN (.tuple ((keyB u d ns g).map .int)))) = none := by
    rw [List.find?_eq_none]
    intro p hp z
    obtain ⟨i, hi⟩ := List.getElem?_of_mem hp
    have hil := (List.getElem?_eq_some_iff.mp hi).1
    rw [kvsF_len] at hil
    obtain ⟨b', hb'⟩ : ∃ b', bs[i]? = some b' := ⟨_, List.getElem?_eq_getElem hil⟩
    rw [kvsF_at hb'] at hi
    cases hi
    have := (F.keyJ_eq hg (by omega)).mp (of_decide_eq_true z)
    omega
  rw [this]; rfl
theorem rowFc_next {i j : Nat} : rowFc u d ns (i + 1) j = rowFc u d ns i j ++ if nmF u d ns i = j then [2 * (i : Int)] else [] := by
  unfold rowFc
  rw [List.range_succ, List.filter_append, List.map_append, List.filter_cons, List.filter_nil]
  congr 1
  by_cases c : nmF u d ns i = j
  · rw [if_pos (decide_eq_true c), if_pos c]; rfl
  · rw [if_neg (by simpa using c), if_neg c]; rfl
theorem rowsFc_at {i c j : Nat} (h : j < c) : (rowsFc u d ns i c)[j]? = some ((rowFc u d ns i j).map .int) := by
  unfold rowsFc
  rw [List.getElem?_map, List.getElem?_range h]; rfl
theorem rowsFc_len {i c : Nat} : (rowsFc u d ns i c).length = c := by unfold rowsFc; rw [List.length_map, List.length_range]
theorem rowsFc_next {i c : Nat} (h : nmF u d ns i < c) : (rowsFc u d ns i c).set (nmF u d ns i) ((rowFc u d ns i (nmF u d ns i)).map .int ++ [.int (2 * (i : Int))]) = rowsFc u d ns (i + 1) c := by
  refine List.ext_getElem? fun k => ?_
  by_cases hk : k < c
  · rw [rowsFc_at hk]
    by_cases e : nmF u d ns i = k
    · subst e
      rw [List.getElem?_set_self (by rw [rowsFc_len]; exact h), rowFc_next, if_pos rfl, List.map_append]; rfl
    · rw [List.getElem?_set_ne e, rowsFc_at hk, rowFc_next, if_neg e, List.append_nil]
  · rw [List.getElem?_eq_none (by rw [List.length_set, rowsFc_len]; omega), List.getElem?_eq_none (by rw [rowsFc_len]; omega)]
theorem rowsFc_new {i : Nat} (h : ∀ g, g < i → nmF u d ns g < nmF u d ns i) : rowsFc u d ns i (nmF u d ns i) ++ [[PyData.int (2 * (i : Int))]] = rowsFc u d ns (i + 1) (nmF u d ns i + 1) := by
  unfold rowsFc
  rw [List.range_succ (n := nmF u d ns i), List.map_append]
  have e1 : (List.range (nmF u d ns i)).map (fun j => (rowFc u d ns i j).map PyData.int) = (List.range (nmF u d ns i)).map fun j => (rowFc u d ns (i + 1) j).map PyData.int := List.map_congr_left fun j hj => by
    rw [List.mem_range] at hj
    rw [rowFc_next, if_neg (by omega), List.append_nil]
  have e2 : rowFc u d ns i (nmF u d ns i) = [] := by
    unfold rowFc
    rw [List.map_eq_nil_iff, List.filter_eq_nil_iff]
    intro g hg z
    have := h g (List.mem_range.mp hg)
    have := of_decide_eq_true z
    omega
  rw [e1]
  congr 1
  show _ = [(rowFc u d ns (i + 1) (nmF u d ns i)).map PyData.int]
  rw [rowFc_next, if_pos rfl, e2]; rfl
def SeenF (u d : Int) (ns : List Int) (i c : Nat) : Prop := (∀ g, g < i → nmF u d ns g < c) ∧ ∀ j, j < c → ∃ g, g < i ∧ nmF u d ns g = j
theorem SeenF.new (F : Fc u d ns) {i c : Nat} (hi : i ≤ fN u d) (S : SeenF u d ns i c) (h : ¬ nmF u d ns i < c) : nmF u d ns i = c := by
  refine Classical.byContradiction fun z => ?_
  have hk := F.num_le hi
  obtain ⟨f1, f2, f3, _⟩ := F.fst (j := c) (by omega)
  by_cases q : fstG u d ns c < i
  · have := S.1 _ q
    omega
  · by_cases q2 : i = fstG u d ns c
    · rw [q2, f2] at z; exact z rfl
    · have := f3 i (by omega)
      omega
theorem SeenF.old {i c : Nat} (S : SeenF u d ns i c) (h : nmF u d ns i < c) : SeenF u d ns (i + 1) c := ⟨fun g hg => by
    by_cases e : g = i
    · rw [e]; exact h
    · exact S.1 g (by omega), fun j hj => by
    obtain ⟨g, g1, g2⟩ := S.2 j hj
    exact ⟨g, by omega, g2⟩⟩
theorem SeenF.more {i c : Nat} (S : SeenF u d ns i c) (h : nmF u d ns i = c) : SeenF u d ns (i + 1) (c + 1) := ⟨fun g hg => by
    by_cases e : g = i
    · rw [e, h]; omega
    · have := S.1 g (by omega); omega, fun j hj => by
    by_cases e : j = c
    · exact ⟨i, by omega, by rw [e]; exact h⟩
    · obtain ⟨g, g1, g2⟩ := S.2 j (by omega)
      exact ⟨g, by omega, g2⟩⟩
theorem SeenF.all (F : Fc u d ns) {c : Nat} (S : SeenF u d ns (fN u d) c) : c = fK u d ns + 1 := by
  obtain ⟨f1, f2, _⟩ := F.fst (Nat.le_refl (fK u d ns))
  have h1 := S.1 _ f1
  rw [f2] at h1
  have h2 : ¬ fK u d ns + 1 < c := fun z => by
    obtain ⟨g, g1, g2⟩ := S.2 _ z
    have := F.num_le (g := g) (by omega)
    omega
  omega
theorem lt_tri3 {a b a' b' : List Nat} {x x' : Int} : dataLt (.tuple [natT a, natT b, .int x]) (.tuple [natT a', natT b', .int x']) = if a = a' then (if b = b' then decide (x < x') else dataLt (natT b) (natT b')) else dataLt (natT a) (natT a') := by
  rw [PySem.W.dataLt_tuple, PySem.W.dataLt_cons al_natT, PySem.W.dataLt_cons al_natT, eqv_natT, eqv_natT, PySem.W.dataLt_cons (show alike (PyData.int x) (.int x') = true from rfl)]
  simp only [decide_eq_true_eq]
  congr 1
  congr 1
  rw [PySem.W.dataLt_int]
  have e0 : PyProof.Rows.lexLt PyProof.Rows.itemOrd (keyToksAll []) (keyToksAll []) = false := PyProof.Rows.lex_irrefl _
  rw [e0]
  by_cases c : x = x'
  · rw [if_pos (show PyData.eqv (.int x) (.int x') = true from beq_iff_eq.mpr c)]
    symm; exact decide_eq_false (by omega)
  · rw [if_neg (show ¬ PyData.eqv (.int x) (.int x') = true from fun z => c (beq_iff_eq.mp z))]
theorem lt_two {a b a' b' : List Nat} : dataLt (.tuple [natT a, natT b]) (.tuple [natT a', natT b']) = if a = a' then (if b = b' then false else dataLt (natT b) (natT b')) else dataLt (natT a) (natT a') := by
  rw [PySem.W.dataLt_pair al_natT al_natT, eqv_natT, eqv_natT]
  simp only [decide_eq_true_eq]
theorem nat_tot : ∀ {a b : List Nat}, a ≠ b → PyProof.Rows.lexLt PyProof.Rows.itemOrd (keyToksAll (a.map fun g : Nat => PyData.int g)) (keyToksAll (b.map fun g : Nat => PyData.int g)) = true ∨ PyProof.Rows.lexLt PyProof.Rows.itemOrd (keyToksAll (b.map fun g : Nat => PyData.int g)) (keyToksAll (a.map fun g : Nat => PyData.int g)) = true
  | [], [], h => absurd rfl h
  | [], y :: b, _ => by
    left
    rw [List.map_nil, List.map_cons, PySem.W.toks_all_cons]
    rfl
  | x :: a, [], _ => by
    right
    rw [List.map_nil, List.map_cons, PySem.W.toks_all_cons]
    rfl
  | x :: a, y :: b, h => by
    rw [List.map_cons, List.map_cons, PySem.W.dataLt_cons (show alike (PyData.int x) (.int y) = true from rfl), PySem.W.dataLt_cons (show alike (PyData.int y) (.int x) = true from rfl)]
    by_cases c : x = y
    · subst c
      rw [if_pos (show PyData.eqv (.int (x : Int)) (.int x) = true from beq_self_eq_true _), if_pos (show PyData.eqv (.int (x : Int)) (.int x) = true from beq_self_eq_true _)]
      exact nat_tot fun (z : a = b) => h (by rw [z])
    · rw [if_neg (show ¬ PyData.eqv (.int (x : Int)) (.int y) = true from fun z => c (by have := beq_iff_eq.mp z; omega)), if_neg (show ¬ PyData.eqv (.int (y : Int)) (.int x) = true from fun z => c (by have := beq_iff_eq.mp z; omega)), PySem.W.dataLt_int, PySem.W.dataLt_int, decide_eq_true_eq, decide_eq_true_eq]
      omega
theorem srtOk_tri {l : List Nat} : AllAlike (l.map (triD u d ns)) ∧ Sortable (l.map (triD u d ns)) ∧ ∀ x ∈ l.map (triD u d ns), x.depth ≤ 60 := by
  refine ⟨fun x hx y hy => ?_, .inl fun x hx => ?_, fun x hx => ?_⟩
  · obtain ⟨i, _, rfl⟩ := List.mem_map.mp hx
    obtain ⟨j, _, rfl⟩ := List.mem_map.mp hy
    unfold triD
    rw [alike, alikeAll, alikeAll, alikeAll, al_natT, al_natT]; rfl
  · obtain ⟨i, _, rfl⟩ := List.mem_map.mp hx
    exact ⟨_, _, rfl⟩
  · obtain ⟨i, _, rfl⟩ := List.mem_map.mp hx
    refine Nat.le_trans (sd_tuple (n := 1) fun x hx => ?_).2 (show 2 ≤ 60 by decide)
    simp only [List.mem_cons, List.not_mem_nil, or_false] at hx
    rcases hx with rfl | rfl | rfl
    · exact sd_nat
    · exact sd_nat
    · exact sd_int
theorem Fc.srt_tri (F : Fc u d ns) : srtD ((List.range (fK u d ns + 1)).map (triD u d ns)) = (ordF u d ns).map (triD u d ns) := by
  have T := PySem.W.sortLe_total (PyProof.Rows.listOrd PyProof.Rows.itemOrd) false (fun b : PyData => PySem.W.keyToks b)
  have srtP : ∀ l : List PyData, (srtD l).Pairwise fun a b => dataLe false id a b = true := fun l => List.pairwise_mergeSort (fun a b c => T.trans a b c) (fun a b => by have := T.total a b; simpa using this) _
  have P1 := srtP ((List.range (fK u d ns + 1)).map (triD u d ns))
  have ne : ∀ i ∈ ordF u d ns, ∀ j ∈ ordF u d ns, i ≠ j → ¬ (upFc u d ns i = upFc u d ns j ∧ dnF u d ns i = dnF u d ns j) := fun i hi j _ h z => h (F.rm_inj (F.ord_mem.mp hi) z.1 z.2)
  have P2 : ((ordF u d ns).map (triD u d ns)).Pairwise fun a b => dataLe false id a b = true := by
    have h := srtP (rmsL u d ns)
    rw [← F.ord_map, List.pairwise_map] at h
    rw [List.pairwise_map]
    have nd := F.ord_nd
    refine (h.and nd).imp_of_mem fun {i j} hi hj ⟨h1, h2⟩ => ?_
    have q := ne i hi j hj h2
    have h1 : (!dataLt (rmD u d ns j) (rmD u d ns i)) = true := h1
    show (!dataLt (triD u d ns j) (triD u d ns i)) = true
    unfold triD
    unfold rmD at h1
    rw [lt_two] at h1
    rw [lt_tri3]
    split at h1
    · rename_i e1
      rw [if_pos e1]
      split at h1
      · rename_i e2
        exact absurd ⟨e1.symm, e2.symm⟩ q
      · rename_i e2
        rw [if_neg e2]; exact h1
    · rename_i e1
      rw [if_neg e1]; exact h1
  have perm : (srtD ((List.range (fK u d ns + 1)).map (triD u d ns))).Perm ((ordF u d ns).map (triD u d ns)) := (List.mergeSort_perm _ _).trans ((F.ord_perm.symm).map _)
  refine List.Perm.eq_of_pairwise (fun a b ha hb x y => ?_) P1 P2 perm
  obtain ⟨i, hi, rfl⟩ := List.mem_map.mp (srt_mem.mp ha)
  obtain ⟨j, hj, rfl⟩ := List.mem_map.mp hb
  by_cases e : i = j
  · rw [e]
  · exfalso
    rw [List.mem_range] at hi
    have q := ne i (F.ord_mem.mpr (by omega)) j hj e
    have x : (!dataLt (triD u d ns j) (triD u d ns i)) = true := x
    have y : (!dataLt (triD u d ns i) (triD u d ns j)) = true := y
    -- one of the two is less
    have tot : ∀ a b : List Nat, a ≠ b → dataLt (natT a) (natT b) = false → dataLt (natT b) (natT a) = false → False := fun a b hab h1 h2 => by
      unfold natT at h1 h2
      rw [PySem.W.dataLt_tuple] at h1 h2
      rcases nat_tot hab with z | z
      · rw [h1] at z; cases z
      · rw [h2] at z; cases z
    unfold triD at x y
    rw [lt_tri3] at x y
    by_cases e1 : upFc u d ns i = upFc u d ns j
    · rw [if_pos e1.symm, if_neg (fun z => q ⟨e1, z.symm⟩)] at x
      rw [if_pos e1, if_neg (fun z => q ⟨e1, z⟩)] at y
      exact tot _ _ (fun z => q ⟨e1, z⟩) (by simpa using y) (by simpa using x)
    · rw [if_neg (fun z => e1 z.symm)] at x
      rw [if_neg e1] at y
      exact tot _ _ e1 (by simpa using y) (by simpa using x)
end
end JJ
namespace JJ
open PySem PySem.Spec PP L2 MM
def mg (lab : List Int) (a b : Int) : List Int := if mu lab a = mu lab b then lab else lab.map fun z => if z = mu lab b then mu lab a else z
end JJ
namespace JJ
open PySem PySem.Spec PP L2 MM
def bI (n : Int) (i : Nat) : Int := (i : Int) * (n + n)
def em (n : Int) (i : Nat) (y : Int) : Int := if y < n then y else y + bI n i
end JJ
namespace JJ
open PySem PySem.Spec PP L2 MM
structure Hlv (n : Int) (a b : List Int) : Prop where
  up : ∀ x, 0 ≤ x → x < n → (mu a x < n → mu b x = mu a x) ∧ (mu b x < n → mu a x = mu b x)
  lo : ∀ x, n ≤ x → x < n + n → (n ≤ mu a x → mu b x = mu a x) ∧ (n ≤ mu b x → mu a x = mu b x)
theorem Hlv.symm {n : Int} {a b : List Int} (h : Hlv n a b) : Hlv n b a := ⟨fun x h0 h1 => ⟨(h.up x h0 h1).2, (h.up x h0 h1).1⟩, fun x h0 h1 => ⟨(h.lo x h0 h1).2, (h.lo x h0 h1).1⟩⟩
section
variable {n : Int} {a : M3} (A : Sqm n a)
include A
theorem Sqm.nr : Nr n n a.ns := by
  have := A.M.nr
  rwa [A.en, A.em] at this
end
end JJ
namespace JJ
open PySem PySem.Spec PP L2 MM
section
variable {n : Int} {a b : M3} (A : Sqm n a)
include A
theorem Sqm.mat : isMatB n n a.ns = true := by
  have := A.M.B
  rwa [A.en, A.em] at this
theorem Sqm.len : (a.ns.length : Int) = n + n := A.rw.len
theorem Sqm.rg (B : Sqm n b) : 0 ≤ rg2 a b ∧ rg2 a b ≤ 8 := by
  have h := rgs_bd (n := a.n) (m := a.m) (s := cs a.n a.m a.ns b.ns) a.m.toNat
  have e := A.em
  have n1 := A.n1
  unfold rg2
  omega
end
end JJ
namespace JJ
open PySem PySem.Spec PP L2 MM
open PySem.W (alike dataLt)
abbrev Trm := M3 × List Int
structure TrmOk (n : Int) (x : Trm) : Prop where
  en : x.1.n = n
  em : x.1.m = n
  B : isMatB n n x.1.ns = true
  P : Pol x.2
  b : PB x.2
  ne : x.2 ≠ []
def Asc (xs : List Trm) : Prop := ∀ (i : Nat) (a b : Trm), xs[i]? = some a → xs[i + 1]? = some b → dataLt (matT a.1) (matT b.1) = true
structure SumOk (n : Int) (xs : List Trm) : Prop where
  n1 : n ≤ 40
  ok : ∀ x ∈ xs, TrmOk n x
  asc : Asc xs
  len : xs.length ≤ 5000
theorem sum_cons {n : Int} {xs : List Trm} (h : SumOk n xs) {i : Nat} {x : Trm} (hx : xs[i]? = some x) : TrmOk n x := h.ok x (List.mem_of_getElem? hx)
end JJ
namespace JJ
open PySem PySem.Spec PP L2 MM
open PySem.W (alike dataLt)
instance : Inhabited M3 := ⟨⟨0, 0, []⟩⟩
structure PolS (p : List Int) : Prop where
  P : Pol p
  len : p.length ≤ 8
  b : ∀ c ∈ p, -1000000000000000000000000000000 ≤ c ∧ c ≤ 1000000000000000000000000000000
theorem PolS.pb {p : List Int} (h : PolS p) : PB p := ⟨by have := h.len; omega, fun c hc => by
  have := h.b c hc
  refine Nat.lt_of_lt_of_le (m := 2 ^ 100) ?_ (Nat.pow_le_pow_right (by decide) (by decide))
  have e : (2 : Nat) ^ 100 = 1267650600228229401496703205376 := by decide +kernel
  omega⟩
theorem getD_hi {p : List Int} {j : Nat} (h : p.length ≤ j) : p.getD j 0 = 0 := by
  rw [List.getD_eq_getElem?_getD, List.getElem?_eq_none h]; rfl
end JJ
namespace JJ
open PySem PySem.Spec PP L2 MM
open PySem.W (alike dataLt)
structure SumM (n m : Int) (xs : List Trm) : Prop where
  at_ : ∀ x ∈ xs, x.1.n = n ∧ x.1.m = m ∧ isMatB n m x.1.ns = true
  pol : ∀ x ∈ xs, Pol x.2 ∧ x.2 ≠ []
  pw : xs.Pairwise fun a b => dataLt (matT a.1) (matT b.1) = true
section
variable {n m : Int} {xs ys : List Trm} (X : SumM n m xs) (Y : SumM n m ys)
include X
theorem SumM.lt {a b : Trm} (ha : a ∈ xs) (hb : b ∈ xs) : dataLt (matT a.1) (matT b.1) = true ↔ ltL a.1.ns b.1.ns := by
  obtain ⟨a1, a2, a3⟩ := X.at_ a ha
  obtain ⟨b1, b2, b3⟩ := X.at_ b hb
  have la := (rw_of a3).1.len
  have lb := (rw_of b3).1.len
  have ea : matT a.1 = trip n m a.1.ns := by unfold matT; rw [a1, a2]; rfl
  have eb : matT b.1 = trip n m b.1.ns := by unfold matT; rw [b1, b2]; rfl
  rw [ea, eb]
  exact lt_trip (by omega)
theorem SumM.asc : xs.Pairwise fun a b => ltL a.1.ns b.1.ns := X.pw.imp_of_mem fun {a b} ha hb h => (X.lt ha hb).mp h
theorem SumM.nd : xs.Nodup := X.asc.imp fun {a b} h e => by subst e; exact ltL_irr _ h
theorem SumM.one {a b : Trm} (ha : a ∈ xs) (hb : b ∈ xs) (e : a.1 = b.1) : a = b := by
  obtain ⟨i, hi, rfl⟩ := List.getElem_of_mem ha
  obtain ⟨j, hj, rfl⟩ := List.getElem_of_mem hb
  rcases Nat.lt_trichotomy i j with c | c | c
  · have := List.pairwise_iff_getElem.mp X.asc i j hi hj c
    rw [e] at this
    exact absurd this (ltL_irr _)
  · subst c; rfl
  · have := List.pairwise_iff_getElem.mp X.asc j i hj hi c
    rw [e] at this
    exact absurd this (ltL_irr _)
include Y
end
end JJ
namespace JJ
open PySem PySem.Spec PP L2 MM
open PySem.W (alike dataLt dataLe)
abbrev KS (fs : List Trm) : Prop := (fs.map (·.1)).Nodup
structure Tm (n m : Int) (L B : Nat) (x : Trm) : Prop where
  M : Md x.1
  en : x.1.n = n
  em : x.1.m = m
  P : Pol x.2
  l : x.2.length ≤ L
  b : ∀ j, (x.2.getD j 0).natAbs ≤ B
theorem Tm.mono {n m : Int} {L B L' B' : Nat} {x : Trm} (h : Tm n m L B x) (hl : L ≤ L') (hb : B ≤ B') : Tm n m L' B' x := ⟨h.M, h.en, h.em, h.P, Nat.le_trans h.l hl, fun j => Nat.le_trans (h.b j) hb⟩
theorem Tm.pb {n m : Int} {L B : Nat} {x : Trm} (h : Tm n m L B x) (hl : L ≤ 60) (hb : B < 2 ^ 600) : PB x.2 := ⟨Nat.le_trans h.l hl, fun c hc => by
  obtain ⟨j, hj⟩ := List.getElem?_of_mem hc
  have := h.b j
  rw [List.getD_eq_getElem?_getD, hj] at this
  exact Nat.lt_of_le_of_lt this hb⟩
end JJ
namespace JJ
open PySem PySem.Spec PP L2 MM
open PySem.W (alike dataLt dataLe)
structure SumB (n m : Int) (xs : List Trm) : Prop where
  S : SumM n m xs
  n1 : n ≤ 40
  m1 : m ≤ 40
  pb : ∀ x ∈ xs, PB x.2
  len : xs.length ≤ 5000
theorem SumB.asc {n m : Int} {xs : List Trm} (h : SumB n m xs) {i : Nat} {a b : Trm} (ha : xs[i]? = some a) (hb : xs[i + 1]? = some b) : dataLt (matT a.1) (matT b.1) = true := by
  obtain ⟨h1, rfl⟩ := List.getElem?_eq_some_iff.mp ha
  obtain ⟨h2, rfl⟩ := List.getElem?_eq_some_iff.mp hb
  exact List.pairwise_iff_getElem.mp h.S.pw i (i + 1) h1 h2 (by omega)
theorem SumM.ks {n m : Int} {xs : List Trm} (h : SumM n m xs) : KS xs := by
  have a := h.asc
  refine List.pairwise_map.mpr (a.imp fun {x y} l e => ?_)
  rw [show x.1 = y.1 from e] at l
  exact ltL_irr _ l
theorem Tm.at_ {n m : Int} {L B : Nat} {x : Trm} (h : Tm n m L B x) : x.1.n = n ∧ x.1.m = m ∧ isMatB n m x.1.ns = true := ⟨h.en, h.em, by have := h.M.B; rwa [h.en, h.em] at this⟩
theorem SumM.b {n m : Int} {L B : Nat} {xs : List Trm} (h : SumM n m xs) (T : ∀ x ∈ xs, Tm n m L B x) (n1 : n ≤ 40) (m1 : m ≤ 40) (hl : L ≤ 60) (hb : B < 2 ^ 600) (len : xs.length ≤ 5000) : SumB n m xs := ⟨h, n1, m1, fun x hx => (T x hx).pb hl hb, len⟩
structure TrB (n m : Int) (x : Trm) : Prop where
  dat : matT x.1 = matD n m x.1.ns
  B : isMatB n m x.1.ns = true
  P : Pol x.2
  b : PB x.2
  ne : x.2 ≠ []
theorem SumB.cons {n m : Int} {xs : List Trm} (h : SumB n m xs) {i : Nat} {x : Trm} (hx : xs[i]? = some x) : TrB n m x := by
  have hm := List.mem_of_getElem? hx
  obtain ⟨a, b, c⟩ := h.S.at_ x hm
  exact ⟨by unfold matT; rw [a, b], c, (h.S.pol x hm).1, h.pb x hm, (h.S.pol x hm).2⟩
end JJ
namespace JJ
open PySem PySem.Spec PP L2 MM
def Seen (m : Int) (sn : List Bool) (P : Int → Prop) : Prop := (sn.length : Int) = m ∧ ∀ c, 0 ≤ c → c < m → (sn.getD c.toNat false = true ↔ P c)
theorem Seen.set {m : Int} {sn : List Bool} {P : Int → Prop} (h : Seen m sn P) {c : Int} (c0 : 0 ≤ c) (c1 : c < m) : Seen m (sn.set c.toNat true) fun z => P z ∨ z = c := by
  refine ⟨by rw [List.length_set]; exact h.1, fun z z0 z1 => ?_⟩
  have hl := h.1
  rw [List.getD_eq_getElem?_getD, List.getElem?_set]
  by_cases e : z = c
  · subst e
    rw [if_pos rfl, if_pos (by omega)]
    exact ⟨fun _ => .inr rfl, fun _ => rfl⟩
  · rw [if_neg (by omega), ← List.getD_eq_getElem?_getD, h.2 z z0 z1]
    exact ⟨.inl, fun q => q.elim id fun w => absurd w e⟩
end JJ
namespace JJ
open PySem PySem.Spec PP L2 MM
section
variable {n m : Int} {L1 L2 B1 B2 : Nat} {xs ys : List Trm}
theorem Tm.sm {x : Trm} {L B : Nat} (h : Tm n m L B x) : Sm x.1 := h.M.S
end
end JJ
namespace JJ
open PySem PySem.Spec PP L2 MM
abbrev BGN : Nat := 1000000000000000000000000000000
structure PolK (L : Nat) (p : List Int) : Prop where
  P : Pol p
  ne : p ≠ []
  len : p.length ≤ L
  b : ∀ c ∈ p, -1000000000000000000000000000000 ≤ c ∧ c ≤ 1000000000000000000000000000000
theorem PolK.bd {L : Nat} {p : List Int} (h : PolK L p) (j : Nat) : (p.getD j 0).natAbs ≤ BGN := by
  by_cases c : j < p.length
  · have := h.b (p.getD j 0) (by rw [List.getD_eq_getElem?_getD, List.getElem?_eq_getElem c]; exact List.getElem_mem c)
    unfold BGN; omega
  · rw [getD_hi (by omega)]; exact Nat.zero_le _
theorem PolK.pb {L : Nat} {p : List Int} (h : PolK L p) (hL : L ≤ 60) : PB p := ⟨Nat.le_trans h.len hL, fun c hc => by
  have := h.b c hc
  refine Nat.lt_of_le_of_lt (m := BGN) (by unfold BGN; omega) (by decide +kernel)⟩
theorem PolK.neg {L : Nat} {p : List Int} (h : PolK L p) : PolK L (p.map fun c => -c) := by
  have h1 := List.length_pos_iff.mpr h.ne
  refine ⟨.inr ?_, fun e => h.ne (List.map_eq_nil_iff.mp e), by rw [List.length_map]; exact h.len, fun c hc => ?_⟩
  · rw [List.length_map, List.getD_eq_getElem?_getD, List.getElem?_map]
    rcases h.P with z | z
    · exact absurd z h.ne
    · rw [List.getD_eq_getElem?_getD] at z
      rw [List.getElem?_eq_getElem (show p.length - 1 < p.length by omega)] at z ⊢
      show -p[p.length - 1] ≠ 0
      have z : p[p.length - 1] ≠ 0 := z
      omega
  · obtain ⟨d, hd, rfl⟩ := List.mem_map.mp hc
    have := h.b d hd
    omega
end JJ
namespace JJ
open PySem PySem.Spec PP L2 MM
theorem Wn.bd {g : Int} {ws : List Int} (h : Wn g ws) (h0 : 0 ≤ g) (j : Nat) : (ws.getD j 0).natAbs ≤ g.toNat := by
  by_cases c : j < ws.length
  · have := h (ws.getD j 0) (by rw [List.getD_eq_getElem?_getD, List.getElem?_eq_getElem c]; exact List.getElem_mem c)
    omega
  · rw [getD_hi (by omega)]; exact Nat.zero_le _
end JJ
namespace JJ
open PySem PySem.Spec PP L2 MM
def SnA (n d : Int) (ms : List Bool) (P : Int → Prop) : Prop := ∃ sn, ms = List.replicate n.toNat false ++ sn ∧ Seen d sn P
section
variable {n d : Int} {ms : List Bool} {P Q : Int → Prop}
theorem SnA.len (h : SnA n d ms P) (n0 : 0 ≤ n) : (ms.length : Int) = n + d := by
  obtain ⟨sn, rfl, s⟩ := h
  have := s.1
  rw [List.length_append, List.length_replicate]; omega
theorem SnA.at (h : SnA n d ms P) (n0 : 0 ≤ n) {c : Int} (c0 : 0 ≤ c) (c1 : c < d) : ms.getD (n + c).toNat false = true ↔ P c := by
  obtain ⟨sn, rfl, s⟩ := h
  rw [← s.2 c c0 c1, List.getD_eq_getElem?_getD, List.getElem?_append_right (by rw [List.length_replicate]; omega), List.length_replicate, show (n + c).toNat - n.toNat = c.toNat by omega, ← List.getD_eq_getElem?_getD]
theorem SnA.set (h : SnA n d ms P) (n0 : 0 ≤ n) {c : Int} (c0 : 0 ≤ c) (c1 : c < d) : SnA n d (ms.set (n + c).toNat true) fun z => P z ∨ z = c := by
  obtain ⟨sn, rfl, s⟩ := h
  refine ⟨sn.set c.toNat true, ?_, s.set c0 c1⟩
  rw [List.set_append_right _ _ (by rw [List.length_replicate]; omega), List.length_replicate, show (n + c).toNat - n.toNat = c.toNat by omega]
end
end JJ
namespace JJ
open PySem PySem.Spec PP L2 MM
structure Half (n k : Int) (ns : List Int) : Prop where
  B : isMatB n k ns = true
  lo : ∀ x, n ≤ x → x < n + k → mu ns x < n
section
variable {n k : Int} {ns : List Int}
theorem Half.is (H : Half n k ns) : Is n k (strI ns ns.length) ns := Is.own H.B
theorem Half.n0 (H : Half n k ns) : 0 ≤ n ∧ 0 ≤ k := ⟨H.is.hu, H.is.hd⟩
theorem Half.lowalk (H : Half n k ns) : loWk n k ns = List.replicate k.toNat 1 := by
  unfold loWk segW
  have e : (List.range k.toNat).map (fun i : Nat => if n ≤ mu ns (n + (i : Int)) ∧ mu ns (n + (i : Int)) < n + (i : Int) then (-1 : Int) else 1) = (List.range k.toNat).map fun _ => (1 : Int) := by
    refine List.map_congr_left fun i hi => ?_
    have := List.mem_range.mp hi
    have := H.lo (n + (i : Int)) (by omega) (by omega)
    rw [if_neg (by omega)]
  rw [e]
  rw [List.map_const', List.length_range]
theorem Half.sum (H : Half n k ns) : (upWk n ns).sum = k := by
  obtain ⟨_, _, e, _, l2, _⟩ := mat_pair H.is
  rw [e, H.lowalk, sum_rep]
  have := H.n0
  omega
theorem Half.walk (H : Half n k ns) : Wlk (upWk n ns) := (mat_pair H.is).1
def hfR (ws : List Int) : List Int := rowWk ws (List.replicate ws.sum.toNat 1)
theorem hfR_is {ws : List Int} (W : Wlk ws) (h : 0 < ws.length) : Is ws.length ws.sum (wkP ws.length ws (List.replicate ws.sum.toNat 1)) (hfR ws) := by
  have s0 := wlk_sum W
  have I := rowWk_is W (wlk_rep ws.sum.toNat) (by rw [sum_rep]; omega) (by rw [List.length_replicate]; omega)
  rw [List.length_replicate, show ((ws.sum.toNat : Nat) : Int) = ws.sum by omega] at I
  exact I
theorem nd_rep (n : Int) : ∀ k : Nat, nd n (List.replicate k 1) = ([], pgs n k)
  | 0 => rfl
  | k + 1 => by
    rw [List.replicate_succ', nd_app, nd_rep n k, List.length_replicate, pgs_succ]
    rfl
theorem Half.row (H : Half n k ns) : ns = hfR (upWk n ns) := by
  obtain ⟨W, _, e, l1, l2, one⟩ := mat_pair H.is
  have n0 := H.n0
  have s := H.sum
  have h0 := H.is.h0
  have hl : 0 < (upWk n ns).length := by
    have := wlk_sum W
    omega
  have I := hfR_is W hl
  refine (one (hfR (upWk n ns)) ?_).symm
  rw [H.lowalk]
  rw [show ((List.replicate k.toNat (1 : Int)).length : Int) = (upWk n ns).sum by rw [List.length_replicate, s]; omega, show List.replicate k.toNat (1 : Int) = List.replicate (upWk n ns).sum.toNat 1 by rw [s]]
  exact I
theorem hfR_of {ws mates : List Int} (W : Wlk ws) (h : 0 < ws.length) (hl : mates.length = ws.length) (R : Row (nd 0 ws).1 mates) (Z : ∀ i : Nat, i < (nd 0 ws).2.length → mu mates ((nd 0 ws).2.getD i 0) = ws.length + i) : mates ++ (nd 0 ws).2 = hfR ws := by
  have s0 := wlk_sum W
  have l1 := nd_len 0 ws W
  have I := hfR_is W h
  have up : ∀ x : Int, 0 ≤ x → x < ws.length → mu (mates ++ (nd 0 ws).2) x = mu mates x := fun x x0 x1 => by
    unfold mu
    rw [List.getD_eq_getElem?_getD, List.getD_eq_getElem?_getD, List.getElem?_append_left (by omega)]
  have J : Is ws.length ws.sum (wkP ws.length ws (List.replicate ws.sum.toNat 1)) (mates ++ (nd 0 ws).2) := by
    refine ⟨I.hu, I.hd, I.h0, by rw [List.length_append]; omega, I.M, fun p hp => ?_⟩
    unfold wkP at hp
    rw [nd_rep, List.append_nil] at hp
    rcases List.mem_append.mp hp with hp | hp
    · obtain ⟨a, b⟩ := nd_in 0 ws W p hp
      have a := pgs_mem.mp a
      have b := pgs_mem.mp b
      obtain ⟨r1, r2⟩ := R p hp
      rw [up _ a.1 (by omega), up _ b.1 (by omega)]
      exact ⟨r1, r2⟩
    · obtain ⟨i, hi⟩ := List.mem_iff_getElem?.mp hp
      rw [List.getElem?_zip_eq_some] at hi
      obtain ⟨h1, h2⟩ := hi
      have hil := (List.getElem?_eq_some_iff.mp h1).1
      have g1 : (nd 0 ws).2.getD i 0 = p.1 := by rw [List.getD_eq_getElem?_getD, h1]; rfl
      have g2 : p.2 = ws.length + i := by
        unfold pgs at h2
        rw [List.getElem?_map, List.getElem?_range (by omega)] at h2
        exact (Option.some.inj h2).symm
      have m1 := (nd_sub 0 ws).subset (List.mem_of_getElem? h1)
      have m1 := pgs_mem.mp m1
      refine ⟨by rw [up _ m1.1 (by omega), ← g1, Z i hil, g2], ?_⟩
      rw [g2]
      unfold mu
      rw [show ((ws.length : Int) + i).toNat = ws.length + i by omega, List.getD_eq_getElem?_getD, List.getElem?_append_right (by omega), hl, show ws.length + i - ws.length = i by omega, h1]; rfl
  exact J.one I
end
end JJ
namespace JJ
open PySem PySem.Spec PP L2 MM
theorem pgs_nd (k : Int) (n : Nat) : (pgs k n).Nodup := (pgs_pw k n).imp fun h e => by omega
structure Hf2 (ws ms : List Int) (j : Nat) : Prop where
  len : ms.length = ws.length
  row : MM.Row (nd 0 ws).1 ms
  got : ∀ t : Nat, t < j → mu ms ((nd 0 ws).2.getD t 0) = ws.length + t
theorem Hf2.next {ws ms : List Int} {j : Nat} {b : Int} (W : Wlk ws) (H : Hf2 ws ms j) (hb : (nd 0 ws).2[j]? = some b) : 0 ≤ b ∧ b < ws.length ∧ Hf2 ws (ms.set b.toNat (ws.length + j)) (j + 1) := by
  have hbm := List.mem_of_getElem? hb
  have hp := pgs_mem.mp ((nd_sub 0 _).subset hbm)
  have N := (nd_perm 0 _ W).nodup_iff.mpr (pgs_nd _ _)
  obtain ⟨_, N2, N3⟩ := List.nodup_append.mp N
  have hl := H.len
  have hjl := (List.getElem?_eq_some_iff.mp hb).1
  have gb : (nd 0 ws).2.getD j 0 = b := by rw [List.getD_eq_getElem?_getD, hb]; rfl
  refine ⟨by omega, by omega, ⟨by rw [List.length_set]; exact hl, fun p hpm => ?_, fun t ht => ?_⟩⟩
  · have e1 : p.1 ∈ ends (nd 0 ws).1 := mem_ends.mpr ⟨p, hpm, .inl rfl⟩
    have e2 : p.2 ∈ ends (nd 0 ws).1 := mem_ends.mpr ⟨p, hpm, .inr rfl⟩
    have b1 := pgs_mem.mp ((nd_perm 0 _ W).mem_iff.mp (List.mem_append_left _ e1))
    have b2 := pgs_mem.mp ((nd_perm 0 _ W).mem_iff.mp (List.mem_append_left _ e2))
    rw [mu_set (by omega) (by omega) (by omega), mu_set (by omega) (by omega) (by omega), if_neg (N3 _ e1 _ hbm), if_neg (N3 _ e2 _ hbm)]
    exact H.row p hpm
  · have htl : t < (nd 0 ws).2.length := by omega
    have gm : (nd 0 ws).2.getD t 0 ∈ (nd 0 ws).2 := by
      rw [List.getD_eq_getElem?_getD, List.getElem?_eq_getElem htl, Option.getD_some]; exact List.getElem_mem _
    have b1 := pgs_mem.mp ((nd_sub 0 _).subset gm)
    rw [mu_set (by omega) (by omega) (by omega)]
    by_cases c : t = j
    · subst c; rw [if_pos gb]
    · rw [if_neg, H.got t (by omega)]
      intro z
      rw [List.getD_eq_getElem?_getD, List.getElem?_eq_getElem htl, Option.getD_some] at z
      have e2 := (List.getElem?_eq_some_iff.mp hb).2
      exact c ((List.getElem_inj N2).mp (z.trans e2.symm))
theorem Hf2.done {ws ms : List Int} (W : Wlk ws) (h : 0 < ws.length) (H : Hf2 ws ms (nd 0 ws).2.length) : ms ++ (nd 0 ws).2 = hfR ws := hfR_of W h H.len H.row H.got
theorem par_sum : ∀ {ws : List Int}, (∀ x ∈ ws, x = 1 ∨ x = -1) → (ws.sum - ws.length) % 2 = 0
  | [], _ => rfl
  | w :: t, h => by
    have ih := par_sum fun x hx => h x (List.mem_cons_of_mem w hx)
    have hw := h w List.mem_cons_self
    rw [List.sum_cons, List.length_cons]
    omega
theorem Half.par {n k : Int} {ns : List Int} (H : Half n k ns) : (n - k) % 2 = 0 ∧ k ≤ n ∧ 0 ≤ k ∧ 0 ≤ n := by
  have W := H.walk
  have p := par_sum W.1
  have s := H.sum
  have hl : (upWk n ns).length = n.toNat := by unfold upWk; rw [List.length_map, List.length_range]
  have := H.n0
  have := wlk_sum W
  omega
def wys (h k l : Int) : List Int := [1, -1].filter fun s => decide (h + s ≥ 0) && decide (absI (h + s - k) ≤ l)
theorem wys_mem {h k l v : Int} : v ∈ wys h k l ↔ (v = 1 ∨ v = -1) ∧ 0 ≤ h + v ∧ absI (h + v - k) ≤ l := by
  unfold wys
  rw [List.mem_filter, Bool.and_eq_true, decide_eq_true_eq, decide_eq_true_eq]
  simp only [List.mem_cons, List.not_mem_nil, or_false]
structure Drn (n k : Int) (i : Nat) (ws : List Int) : Prop where
  W : Wlk ws
  len : ws.length = i
  bd : absI (ws.sum - k) ≤ n - i
  par : (ws.sum - k - (n - i)) % 2 = 0
theorem Drn.start {n k : Int} (k0 : 0 ≤ k) (k1 : k ≤ n) (p : (n - k) % 2 = 0) : Drn n k 0 [] := by
  refine ⟨⟨fun x hx => (List.not_mem_nil hx).elim, fun i hi => by rw [List.take_nil]; exact Int.le_refl _⟩, rfl, ?_, ?_⟩
  · have e : ([] : List Int).sum = 0 := rfl
    rw [e]
    unfold absI
    by_cases c : 0 - k < 0
    · rw [if_pos c]; omega
    · rw [if_neg c]; omega
  · simp only [List.sum_nil]
    omega
theorem Drn.some {n k : Int} {i : Nat} {ws : List Int} (D : Drn n k i ws) (k0 : 0 ≤ k) (h : (i : Int) < n) : wys ws.sum k (n - i - 1) ≠ [] := by
  have s0 := (wlk_sum D.W).1
  have b := D.bd
  have p := D.par
  unfold absI at b
  have pick : ∀ v : Int, v ∈ wys ws.sum k (n - i - 1) → wys ws.sum k (n - i - 1) ≠ [] := fun v hv z => by rw [z] at hv; cases hv
  by_cases c : ws.sum > k
  · refine pick (-1) (wys_mem.mpr ⟨.inr rfl, by omega, ?_⟩)
    unfold absI
    split at b <;> split <;> omega
  · refine pick 1 (wys_mem.mpr ⟨.inl rfl, by omega, ?_⟩)
    unfold absI
    split at b <;> split <;> omega
theorem Drn.next {n k v : Int} {i : Nat} {ws : List Int} (D : Drn n k i ws) (hv : v ∈ wys ws.sum k (n - i - 1)) : Drn n k (i + 1) (ws ++ [v]) := by
  obtain ⟨h1, h2, h3⟩ := wys_mem.mp hv
  have p := D.par
  have es : (ws ++ [v]).sum = ws.sum + v := by rw [List.sum_append]; simp
  refine ⟨⟨fun x hx => ?_, fun j hj => ?_⟩, by rw [List.length_append, D.len]; rfl, by rw [es]; omega, by rw [es]; omega⟩
  · rcases List.mem_append.mp hx with hx | hx
    · exact D.W.1 x hx
    · rw [List.mem_singleton.mp hx]; exact h1
  · rw [List.length_append, List.length_singleton] at hj
    by_cases e : j ≤ ws.length
    · rw [List.take_append_of_le_length e]; exact D.W.2 j e
    · rw [List.take_of_length_le (by rw [List.length_append, List.length_singleton]; omega), es]
      exact h2
theorem Drn.done {n k : Int} {ws : List Int} (n0 : 0 ≤ n) (D : Drn n k n.toNat ws) : (ws.length : Int) = n ∧ ws.sum = k := by
  have l := D.len
  have b := D.bd
  unfold absI at b
  refine ⟨by omega, ?_⟩
  split at b <;> omega
end JJ
namespace JJ
open PySem PySem.Spec PP L2 MM
theorem cellsA_set {bs : List PySem.Addr} {R : List (List PyData)} {z : Mem} {r : Nat} {b : PySem.Addr} {y : List PyData} (h : bs.length = R.length) (hb : bs[r]? = some b) : (cellsA bs R ++ z).set r (some (.lstA b y)) = cellsA bs (R.set r y) ++ z := by
  have hr := (List.getElem?_eq_some_iff.mp hb).1
  have hc := cellsA_len h
  have hc2 := cellsA_len (rs := R.set r y) (bs := bs) (by rw [List.length_set]; exact h)
  rw [List.set_append_left _ _ (by omega)]
  congr 1
  refine List.ext_getElem? fun i => ?_
  by_cases hi : i < bs.length
  · obtain ⟨c, hc9⟩ : ∃ c, bs[i]? = some c := ⟨_, List.getElem?_eq_getElem hi⟩
    by_cases e : i = r
    · subst e
      rw [hb] at hc9
      cases hc9
      rw [List.getElem?_set_self (by omega), cellsA_at hb (by rw [List.getElem?_set_self (by omega)])]
    · obtain ⟨x, hx⟩ : ∃ x, R[i]? = some x := ⟨_, List.getElem?_eq_getElem (by omega)⟩
      rw [List.getElem?_set_ne (fun z => e z.symm), cellsA_at hc9 hx, cellsA_at hc9 (by rw [List.getElem?_set_ne (fun z => e z.symm)]; exact hx)]
  · rw [List.getElem?_eq_none (by rw [List.length_set]; omega), List.getElem?_eq_none (by omega)]
theorem row_in {bs : List PySem.Addr} {R : List (List PyData)} {z : Mem} {i : Nat} {b : PySem.Addr} {r : List PyData} (h : bs.length = R.length) (h1 : bs[i]? = some b) (h2 : R[i]? = some r) : (cellsA bs R ++ z)[i]? = some (some (.lstA b r)) := by
  rw [List.getElem?_append_left (by rw [cellsA_len h]; exact (List.getElem?_eq_some_iff.mp h1).1), cellsA_at h1 h2]
end JJ
namespace JJ
open PySem PySem.Spec PP L2 MM
section
variable (u d : Int)
def gpA (g : Nat) : Nat := if g = fN u d then 0 else g
def gpB (g : Nat) : Nat := if g = 0 then 0 else fN u d - g
def spA : List Int := (List.range (u.toNat + 1)).map fun g : Nat => 2 * (gpA u d g : Int)
def spB : List Int := (List.range (d.toNat + 1)).map fun g : Nat => 2 * (gpB u d g : Int)
end
def spSpots : FSp := fun pvs m q => ∃ u d : Int, pvs = [.d (.int u), .d (.int d)] ∧ m = [] ∧ 0 ≤ u ∧ 0 ≤ d ∧ 0 < u + d ∧ u + d ≤ 1000 ∧ q (.d (.tuple [.list ((spA u d).map .int), .list ((spB u d).map .int)])) []
def spBarsL : FSp := fun pvs m q => ∃ (u d : Int) (ns : List Int), pvs = [.d (matD u d ns)] ∧ m = [] ∧ isMatB u d ns = true ∧ u + d ≤ 1000 ∧ q (.ref 0) [some (.lst (barsL u d ns ns.length))]
def spotF (u d : Int) (ns : List Int) : List Int := (ordF u d ns).map fun j : Nat => 2 * (fstG u d ns j : Int)
def spRoomsLaw : FSp := fun pvs m q => ∃ (u d : Int) (ns : List Int), pvs = [.d (matD u d ns)] ∧ m = [] ∧ isMatB u d ns = true ∧ u + d ≤ 40 ∧ q (.d (.tuple [.list (srtD (rmsL u d ns)), .list ((spotF u d ns).map .int)])) []
section
variable {u d : Int} {ns : List Int}
theorem spA_mod (u0 : 0 ≤ u) (d0 : 0 ≤ d) (h0 : 0 < u + d) {g : Nat} (hg : g < u.toNat + 1) : (2 * (g : Int)) % (2 * (u + d)) = 2 * (gpA u d g : Int) := by
  unfold gpA fN
  by_cases c : g = (u + d).toNat
  · rw [if_pos c, show 2 * (g : Int) = 2 * (u + d) by omega, Int.emod_self]; rfl
  · rw [if_neg c, Int.emod_eq_of_lt (by omega) (by omega)]
theorem spB_mod (u0 : 0 ≤ u) (d0 : 0 ≤ d) (h0 : 0 < u + d) {g : Nat} (hg : g < d.toNat + 1) : (2 * (u + d) - 2 * (g : Int)) % (2 * (u + d)) = 2 * (gpB u d g : Int) := by
  unfold gpB fN
  by_cases c : g = 0
  · rw [if_pos c, c, show 2 * (u + d) - 2 * ((0 : Nat) : Int) = 2 * (u + d) by omega, Int.emod_self]; rfl
  · rw [if_neg c, Int.emod_eq_of_lt (by omega) (by omega)]; omega
theorem Fc.ks (F : Fc u d ns) {ks : List Int} (h1 : ks.Pairwise (· < ·)) (h2 : ∀ k, k ∈ ks ↔ k ∈ spA u d ++ spB u d) : ks = (List.range (fN u d)).map fun g : Nat => 2 * (g : Int) := by
  have u0 := F.u0
  have d0 := F.d0
  have h0 := F.h0
  refine asc_ext h1 (List.pairwise_map.mpr (List.pairwise_lt_range.imp fun h => by omega)) fun x => ?_
  rw [h2, List.mem_append, List.mem_map]
  unfold spA spB
  rw [List.mem_map, List.mem_map]
  constructor
  · rintro (⟨g, hg, rfl⟩ | ⟨g, hg, rfl⟩)
    · rw [List.mem_range] at hg
      refine ⟨gpA u d g, List.mem_range.mpr ?_, rfl⟩
      unfold gpA fN
      split <;> omega
    · rw [List.mem_range] at hg
      refine ⟨gpB u d g, List.mem_range.mpr ?_, rfl⟩
      unfold gpB fN
      split <;> omega
  · rintro ⟨g, hg, rfl⟩
    rw [List.mem_range] at hg
    have hg2 := hg
    unfold fN at hg2
    by_cases c : g < u.toNat + 1
    · exact .inl ⟨g, List.mem_range.mpr c, by unfold gpA; rw [if_neg (by omega)]⟩
    · refine .inr ⟨fN u d - g, List.mem_range.mpr (by unfold fN; omega), ?_⟩
      unfold gpB
      rw [if_neg (by omega), show fN u d - (fN u d - g) = g by omega]
theorem row_mem {j g : Nat} (hg : g < fN u d) : (2 * (g : Int)) ∈ rowFc u d ns (fN u d) j ↔ nmF u d ns g = j := by
  unfold rowFc
  rw [List.mem_map]
  constructor
  · rintro ⟨g', h1, h2⟩
    obtain ⟨h3, h4⟩ := List.mem_filter.mp h1
    rw [← show g' = g by omega]
    exact of_decide_eq_true h4
  · intro h
    exact ⟨g, List.mem_filter.mpr ⟨List.mem_range.mpr hg, decide_eq_true h⟩, rfl⟩
theorem Fc.in_up (F : Fc u d ns) {j g : Nat} (hg : g < u.toNat + 1) : (2 * (gpA u d g : Int)) ∈ rowFc u d ns (fN u d) j ↔ nmF u d ns g = j := by
  have u0 := F.u0
  have d0 := F.d0
  have h0 := F.h0
  rw [row_mem (by unfold gpA fN; split <;> omega)]
  unfold gpA
  by_cases c : g = fN u d
  · rw [if_pos c, c, F.end_, show nmF u d ns 0 = 0 by unfold nmF numG; rw [stkR_zero]; rfl]
  · rw [if_neg c]
theorem Fc.in_dn (F : Fc u d ns) {j g : Nat} (hg : g < d.toNat + 1) : (2 * (gpB u d g : Int)) ∈ rowFc u d ns (fN u d) j ↔ nmF u d ns (fN u d - g) = j := by
  have u0 := F.u0
  have d0 := F.d0
  have h0 := F.h0
  rw [row_mem (by unfold gpB fN; split <;> omega)]
  unfold gpB
  by_cases c : g = 0
  · rw [if_pos c, c, Nat.sub_zero, F.end_, show nmF u d ns 0 = 0 by unfold nmF numG; rw [stkR_zero]; rfl]
  · rw [if_neg c]
theorem Fc.row_fst (F : Fc u d ns) {j : Nat} (hj : j ≤ fK u d ns) : ∃ t, rowFc u d ns (fN u d) j = 2 * (fstG u d ns j : Int) :: t := by
  obtain ⟨f1, f2, f3, _⟩ := F.fst hj
  unfold rowFc
  have e : List.range (fN u d) = List.range (fstG u d ns j) ++ (fstG u d ns j :: (List.range (fN u d - fstG u d ns j - 1)).map (fstG u d ns j + 1 + ·)) := by
    refine List.ext_getElem? fun i => ?_
    by_cases h1 : i < fstG u d ns j
    · rw [List.getElem?_append_left (by rw [List.length_range]; exact h1), List.getElem?_range h1, List.getElem?_range (by omega)]
    · rw [List.getElem?_append_right (by rw [List.length_range]; omega), List.length_range]
      by_cases h2 : i = fstG u d ns j
      · subst h2
        rw [Nat.sub_self, List.getElem?_cons_zero, List.getElem?_range f1]
      · obtain ⟨k, hk⟩ : ∃ k, i - fstG u d ns j = k + 1 := ⟨i - fstG u d ns j - 1, by omega⟩
        rw [hk, List.getElem?_cons_succ, List.getElem?_map]
        by_cases h3 : i < fN u d
        · rw [List.getElem?_range h3, List.getElem?_range (by omega)]
          show some i = some (fstG u d ns j + 1 + k)
          congr 1; omega
        · rw [List.getElem?_eq_none (by rw [List.length_range]; omega), List.getElem?_eq_none (by rw [List.length_range]; omega)]; rfl
  rw [e, List.filter_append, List.filter_cons, if_pos (decide_eq_true f2)]
  have e2 : (List.range (fstG u d ns j)).filter (fun g => decide (nmF u d ns g = j)) = [] := List.filter_eq_nil_iff.mpr fun g hg z => by
    have := f3 g (List.mem_range.mp hg)
    have := of_decide_eq_true z
    omega
  rw [e2, List.nil_append, List.map_cons]
  exact ⟨_, rfl⟩
theorem up_take {g j : Nat} : ((List.range (g + 1)).filter fun i => decide (nmF u d ns i = j)).map (fun i : Nat => PyData.int i) = ((List.range g).filter fun i => decide (nmF u d ns i = j)).map (fun i : Nat => PyData.int i) ++ if nmF u d ns g = j then [PyData.int g] else [] := by
  rw [List.range_succ, List.filter_append, List.map_append, List.filter_cons, List.filter_nil]
  congr 1
  by_cases c : nmF u d ns g = j
  · rw [if_pos (decide_eq_true c), if_pos c]; rfl
  · rw [if_neg (by simpa using c), if_neg c]; rfl
theorem dn_take {g j : Nat} : ((List.range (g + 1)).filter fun i => decide (nmF u d ns (fN u d - i) = j)).map (fun i : Nat => PyData.int i) = ((List.range g).filter fun i => decide (nmF u d ns (fN u d - i) = j)).map (fun i : Nat => PyData.int i) ++ if nmF u d ns (fN u d - g) = j then [PyData.int g] else [] := by
  rw [List.range_succ, List.filter_append, List.map_append, List.filter_cons, List.filter_nil]
  congr 1
  by_cases c : nmF u d ns (fN u d - g) = j
  · rw [if_pos (decide_eq_true c), if_pos c]; rfl
  · rw [if_neg (by simpa using c), if_neg c]; rfl
theorem min_lo {a b : Nat} : min (2 * (a : Int) + 1) (2 * (b : Int) + 1) = 2 * (min a b : Nat) + 1 ∧ max (2 * (a : Int) + 1) (2 * (b : Int) + 1) = 2 * (max a b : Nat) + 1 := by
  rcases Nat.le_total a b with h | h
  · rw [Nat.min_eq_left h, Nat.max_eq_right h, Int.min_eq_left (by omega), Int.max_eq_right (by omega)]; exact ⟨rfl, rfl⟩
  · rw [Nat.min_eq_right h, Nat.max_eq_left h, Int.min_eq_right (by omega), Int.max_eq_left (by omega)]; exact ⟨rfl, rfl⟩
theorem row_one {x : Option Cell} {bs : List PySem.Addr} {R : List (List PyData)} {i : Nat} {b : PySem.Addr} {r : List PyData} (h : bs.length = R.length) (h1 : bs[i]? = some b) (h2 : R[i]? = some r) : (x :: cellsA bs R)[1 + i]? = some (some (.lstA b r)) := by
  rw [Nat.add_comm, List.getElem?_cons_succ]
  have := row_in (z := []) h h1 h2
  rwa [List.append_nil] at this
theorem set_one {x : Option Cell} {bs : List PySem.Addr} {R : List (List PyData)} {i : Nat} {b : PySem.Addr} {y : List PyData} (h : bs.length = R.length) (h1 : bs[i]? = some b) : (x :: cellsA bs R).set (1 + i) (some (.lstA b y)) = x :: cellsA bs (R.set i y) := by
  rw [Nat.add_comm, List.set_cons_succ]
  have := cellsA_set (z := []) (y := y) h h1
  rw [List.append_nil, List.append_nil] at this
  rw [this]
theorem cellsA_snoc {bs : List PySem.Addr} {R : List (List PyData)} {b : PySem.Addr} {y : List PyData} (h : bs.length = R.length) : cellsA bs R ++ [some (Cell.lstA b y)] = cellsA (bs ++ [b]) (R ++ [y]) := by
  unfold cellsA
  rw [List.zip_append h, List.map_append]; rfl
theorem Fc.key_new (F : Fc u d ns) {i : Nat} (hi : i ≤ fN u d) : PyData.tuple ((keyB u d ns i).map .int) = keyJ u d ns (nmF u d ns i) := by
  obtain ⟨f1, f2, _⟩ := F.fst (F.num_le hi)
  unfold keyJ
  rw [(F.key_eq (by omega) hi).mpr f2]
theorem frz_vals {bs : List PySem.Addr} {i : Nat} : (frzKv (kvsF u d ns bs) (rowsFc u d ns i bs.length)).map (·.2) = (rowsFc u d ns i bs.length).map .list := by
  unfold frzKv
  rw [List.map_map]
  refine List.ext_getElem? fun k => ?_
  rw [List.getElem?_map, List.getElem?_map]
  by_cases h : k < bs.length
  · obtain ⟨b, hb⟩ : ∃ b, bs[k]? = some b := ⟨_, List.getElem?_eq_getElem h⟩
    have e := List.getElem?_zip_eq_some (z := ((keyJ u d ns k, b), (rowFc u d ns i k).map PyData.int)) |>.mpr ⟨kvsF_at (u := u) (d := d) (ns := ns) hb, rowsFc_at (u := u) (d := d) (ns := ns) (i := i) h⟩
    rw [e, rowsFc_at h]; rfl
  · rw [List.getElem?_eq_none (by rw [List.length_zip, kvsF_len, rowsFc_len]; omega), List.getElem?_eq_none (by rw [rowsFc_len]; omega)]; rfl
theorem killAll_len : ∀ {js : List Nat} {m : Mem}, (killAll m js).length = m.length
  | [], _ => rfl
  | j :: js, m => by
    show (killAll (m.set j none) js).length = _
    rw [killAll_len, List.length_set]
theorem lstP_of {m : Mem} {k : Nat} {xs : List PyData} (h : m[k]? = some (some (.lst xs))) : lstP m (.ref k) = some xs := by
  unfold lstP; dsimp only; rw [h]
theorem kvsF_snd {bs : List PySem.Addr} : (kvsF u d ns bs).map (·.2) = bs := by
  unfold kvsF
  rw [List.map_map]
  exact List.map_snd_zip (by rw [List.length_range]; exact Nat.le_refl _)
theorem mapL_get {α : Type} {f : α → PyData} {l : List α} {i : Nat} {x : PyData} (h : (l.map f)[i]? = some x) : ∃ y, l[i]? = some y ∧ x = f y := by
  rw [List.getElem?_map] at h
  obtain ⟨y, h1, h2⟩ := Option.map_eq_some_iff.mp h
  exact ⟨y, h1, h2.symm⟩
theorem lstP_last {m : Mem} {xs : List PyData} : lstP (m ++ [some (.lst xs)]) (.ref m.length) = some xs := lstP_of (by rw [List.getElem?_append_right (Nat.le_refl _), Nat.sub_self]; rfl)
theorem tri_take {i : Nat} : ((List.range (i + 1)).map (triD u d ns)) = (List.range i).map (triD u d ns) ++ [triD u d ns i] := by
  rw [List.range_succ, List.map_append]; rfl
end
end JJ
namespace JJ
open PySem PySem.Spec PP L2 MM
def spToldF : FSp := fun pvs m q => ∃ (xs : List PyData) (c : Nat) (u d : Int) (ns : List Int), pvs = [.ref 0, .d (matD u d ns)] ∧ m = [some (.lst xs)] ∧ WS c xs ∧ c < 900000000 ∧ isMatB u d ns = true ∧ u + d ≤ 40 ∧
  ∀ xs', WS (c + 1) xs' → q (.d (matD u d ns)) [some (.lst xs')]
section
variable {u d : Int} {ns : List Int}
theorem flip2 (h : isMatB u d ns = true) {k k2 : List Int} (I : Is d u (mapP (flipP u d) (strI ns ns.length)) k) (J : Is u d (mapP (flipP d u) (mapP (flipP u d) (strI ns ns.length))) k2) : k2 = ns := by
  have I0 := Is.own h
  have J2 := J.of (qrs := strI ns ns.length) (by rw [mapP_two]; exact mapP_id fun x hx => flip_flip I0.hu I0.hd (I0.in x hx).1 (I0.in x hx).2)
  exact J2.one I0
theorem natT_ints {l : List Nat} : natT l = .tuple ((l.map fun g : Nat => (g : Int)).map .int) := by
  unfold natT
  rw [List.map_map]; rfl
theorem dl_natT {n : Nat} {l : List Nat} (h : l.length ≤ 1000) : Dl (n + 1) (natT l) := by rw [natT_ints]; exact dl_wordT (by rw [List.length_map]; exact h)
theorem dl_rm {n j : Nat} (u0 : u ≤ 900) (d0 : d ≤ 900) : Dl (n + 2) (rmD u d ns j) := .tup (by simp) fun x hx => by
  have h := natT_len (u := u) (d := d) (ns := ns) (j := j)
  simp only [List.mem_cons, List.not_mem_nil, or_false] at hx
  rcases hx with rfl | rfl
  · exact dl_natT (by omega)
  · exact dl_natT (by omega)
theorem Fc.srt_dl (F : Fc u d ns) (u0 : u ≤ 900) (d0 : d ≤ 900) {n : Nat} : ∀ x ∈ srtD (rmsL u d ns), Dl (n + 2) x := fun x hx => by
  obtain ⟨j, _, rfl⟩ := F.srt_at hx
  exact dl_rm u0 d0
theorem Fc.srt_len (F : Fc u d ns) : (srtD (rmsL u d ns)).length = fK u d ns + 1 := by rw [PP.srt_len]; unfold rmsL; rw [List.length_map, List.length_range]
end
end JJ
namespace JJ
open PySem PySem.Spec PP L2 MM
open PySem.W (AllAlike Sortable dataLe dataLt alike alikeAll keyToksAll)
section
variable (u d : Int) (ns : List Int)
abbrev posN (j : Nat) : Nat := (ordF u d ns).idxOf j
def opnF (s : Int × Int) : Int := if ixF u d s.1 < ixF u d s.2 then s.1 else s.2
def gpS (s : Int × Int) : Nat := min (ixF u d s.1) (ixF u d s.2)
def oneS (s : Int × Int) : Nat := posN u d ns (nmF u d ns (gpS u d s))
def othS (s : Int × Int) : Nat := posN u d ns (nmF u d ns (gpS u d s + 1))
def inB (s : Int × Int) (x : Int) : Bool := decide (loS u d s < x) && decide (x < hiS u d s)
end
section
variable {u d : Int} {ns : List Int}
theorem Fc.opnF (F : Fc u d ns) {s : Int × Int} (h : s ∈ strI ns ns.length) : JJ.opnF u d s ∈ ringI u d ∧ ixF u d (JJ.opnF u d s) = gpS u d s ∧ opG (mu ns) (ringI u d) (JJ.opnF u d s) = true ∧ ((JJ.opnF u d s = s.1 ∧ mu ns (JJ.opnF u d s) = s.2) ∨ (JJ.opnF u d s = s.2 ∧ mu ns (JJ.opnF u d s) = s.1)) ∧ gpS u d s + 1 < fN u d := by
  obtain ⟨e1, m1, m2, e2⟩ := F.str h
  have ne : ixF u d s.1 ≠ ixF u d s.2 := fun z => by
    have h1 := at_idx m1
    have h2 := at_idx m2
    have z : (ringI u d).idxOf s.1 = (ringI u d).idxOf s.2 := z
    rw [z, h2] at h1
    have := Option.some.inj h1
    exact F.I.ne _ m1 (by rw [← e1]; exact this)
  have l1 := List.idxOf_lt_length_of_mem m1
  have l2 := List.idxOf_lt_length_of_mem m2
  rw [F.rl] at l1 l2
  unfold JJ.opnF gpS opG
  unfold ixF at *
  by_cases c : (ringI u d).idxOf s.1 < (ringI u d).idxOf s.2
  · rw [if_pos c, Nat.min_eq_left (Nat.le_of_lt c), ← e1]
    exact ⟨m1, rfl, decide_eq_true c, .inl ⟨rfl, rfl⟩, by omega⟩
  · rw [if_neg c, Nat.min_eq_right (by omega), e2]
    exact ⟨m2, rfl, decide_eq_true (by omega), .inr ⟨rfl, rfl⟩, by omega⟩
theorem Fc.op_inj (F : Fc u d ns) : ∀ s ∈ strI ns ns.length, ∀ t ∈ strI ns ns.length, JJ.opnF u d s = JJ.opnF u d t → s = t := fun s hs t ht e => by
  obtain ⟨_, _, _, h4, _⟩ := F.opnF hs
  obtain ⟨_, _, _, k4, _⟩ := F.opnF ht
  obtain ⟨i, hi, hlt, rfl⟩ := strI_mem.mp hs
  obtain ⟨j, hj, klt, rfl⟩ := strI_mem.mp ht
  dsimp only at h4 k4
  rw [e] at h4
  refine Prod.ext ?_ ?_ <;> dsimp only <;> rcases h4 with ⟨a, b⟩ | ⟨a, b⟩ <;> rcases k4 with ⟨a', b'⟩ | ⟨a', b'⟩ <;> omega
theorem strF_asc : ∀ {n : Nat}, (strI ns n).Pairwise fun a b => a.1 < b.1
  | 0 => by rw [show strI ns 0 = [] from rfl]; exact .nil
  | n + 1 => by
    by_cases c : (n : Int) < ns.getD n 0
    · rw [strI_yes c, List.pairwise_append]
      refine ⟨strF_asc, List.pairwise_singleton .., fun a ha b hb => ?_⟩
      obtain ⟨j, hj, _, rfl⟩ := strI_mem.mp ha
      cases List.mem_singleton.mp hb
      show (j : Int) < n
      omega
    · rw [strI_no c]; exact strF_asc
theorem strF_nd {n : Nat} : (strI ns n).Nodup := strF_asc.imp fun {a b} h z => by rw [z] at h; omega
theorem Fc.op_perm (F : Fc u d ns) : ((strI ns ns.length).map (JJ.opnF u d)).Perm (OA (mu ns) (ringI u d) (ringI u d).length) := by
  have nd1 : ((strI ns ns.length).map (JJ.opnF u d)).Nodup := List.pairwise_map.mpr (strF_nd.imp_of_mem fun {a b} ha hb h z => h (F.op_inj a ha b hb z))
  refine (List.perm_ext_iff_of_nodup nd1 (OA_nd F.I)).mpr fun x => ?_
  rw [OA_mem, List.mem_map]
  constructor
  · rintro ⟨s, hs, rfl⟩
    obtain ⟨h1, h2, h3, _, _⟩ := F.opnF hs
    exact ⟨by rw [List.take_length]; exact h1, of_decide_eq_true h3⟩
  · rintro ⟨h1, h2⟩
    rw [List.take_length] at h1
    obtain ⟨s, hs, q⟩ := F.str_of h1
    refine ⟨s, hs, ?_⟩
    obtain ⟨_, _, k3, k4, _⟩ := F.opnF hs
    have k3 := of_decide_eq_true k3
    rcases q with ⟨q1, q2⟩ | ⟨q1, q2⟩ <;> rcases k4 with ⟨a, b⟩ | ⟨a, b⟩
    · rw [a, q1]
    · exfalso; rw [b, a, q1, q2] at k3; omega
    · exfalso; rw [b, a, q1, q2] at k3; omega
    · rw [a, q1]
end
end JJ
namespace JJ
open PySem PySem.Spec PP L2 MM
def crsE (H : List Int) (e : Int × Int) : Prop := ¬ (e.1 ∈ H ↔ e.2 ∈ H)
structure JI (N : Nat) (H0 : List Int) (E : List (Int × Int)) (i : Nat) (H : List Int) : Prop where
  pre : H0 <+: H
  nd : H.Nodup
  rg : ∀ x ∈ H, 0 ≤ x ∧ x < N
  got : ∀ e ∈ E.take i, crsE H0 e → H0.length < H.length
section
variable {N : Nat} {H0 H : List Int} {E : List (Int × Int)} {i : Nat} {e : Int × Int}
theorem JI.start (nd : H0.Nodup) (rg : ∀ x ∈ H0, 0 ≤ x ∧ x < N) : JI N H0 E 0 H0 := ⟨List.prefix_refl _, nd, rg, fun e h => by rw [List.take_zero] at h; cases h⟩
theorem take_at {α : Type} {l : List α} {i : Nat} {x : α} (h : l[i]? = some x) : l.take (i + 1) = l.take i ++ [x] := by rw [List.take_succ, h]; rfl
theorem JI.stay (J : JI N H0 E i H) (h : E[i]? = some e) (c : ¬ crsE H e) : JI N H0 E (i + 1) H := ⟨J.pre, J.nd, J.rg, fun e' h' hc => by
  rw [take_at h] at h'
  rcases List.mem_append.mp h' with z | z
  · exact J.got e' z hc
  · cases List.mem_singleton.mp z
    obtain ⟨t, ht⟩ := J.pre
    cases t with
    | nil =>
      rw [List.append_nil] at ht
      rw [ht] at hc
      exact absurd hc c
    | cons x t =>
      rw [← ht, List.length_append, List.length_cons]; omega⟩
theorem JI.more (J : JI N H0 E i H) (h : E[i]? = some e) (r1 : 0 ≤ e.1 ∧ e.1 < N) (r2 : 0 ≤ e.2 ∧ e.2 < N) {v : Int} (hv : v = e.1 ∨ v = e.2) (nv : v ∉ H) : JI N H0 E (i + 1) (H ++ [v]) :=
  ⟨J.pre.trans (List.prefix_append ..), by
    rw [List.nodup_append]
    exact ⟨J.nd, List.nodup_cons.mpr ⟨List.not_mem_nil, List.nodup_nil⟩, fun a ha b hb z => by
      rw [List.mem_singleton] at hb
      exact nv (by rw [← hb, ← z]; exact ha)⟩, fun x hx => by
    rcases List.mem_append.mp hx with z | z
    · exact J.rg x z
    · cases List.mem_singleton.mp z
      rcases hv with q | q
      · rw [q]; exact r1
      · rw [q]; exact r2, fun e' h' hc => by
    have := J.pre.length_le
    rw [List.length_append, List.length_singleton]; omega⟩
end
end JJ
namespace JJ
open PySem PySem.Spec PP L2 MM
section
variable (u d : Int) (ns : List Int)
def stF (j : Nat) : List Int := stkR (mu ns) (ringI u d) (fstG u d ns j)
end
structure Fork (A B A' B' C : List Int) : Prop where
  a : A = A' ++ C
  b : B = B' ++ C
  na : ∀ x ∈ A', x ∉ B
  nb : ∀ x ∈ B', x ∉ A
def wayT (A' B' C : List Int) (t : Nat) : List Int := if t ≤ A'.length then A'.drop t ++ C else B'.drop (A'.length + B'.length - t) ++ C
section
variable {u d : Int} {ns : List Int} {A B A' B' C : List Int}
theorem Fc.stk_sub (F : Fc u d ns) {r : List Int} : ∀ {X : List Int} {i : Nat}, i ≤ fN u d → stkR (mu ns) (ringI u d) i = X ++ r → ∃ i', i' ≤ fN u d ∧ stkR (mu ns) (ringI u d) i' = r
  | [], i, hi, h => ⟨i, hi, h⟩
  | x :: X, i, hi, h => by
    have h1 := stk_tail F.I F.nc (by rw [F.rl]; exact hi) h
    have hx : x ∈ stkR (mu ns) (ringI u d) i := by rw [h]; exact List.mem_cons_self ..
    have h2 := (stk_mem F.I F.nc (by rw [F.rl]; exact hi)).mp hx
    exact F.stk_sub (by omega) h1
theorem Fc.stk_at (F : Fc u d ns) {X r : List Int} {t : Int} {i : Nat} (hi : i ≤ fN u d) (h : stkR (mu ns) (ringI u d) i = X ++ t :: r) : stkR (mu ns) (ringI u d) (ixF u d t) = r ∧ ixF u d t < fN u d ∧ t ∈ ringI u d := by
  obtain ⟨i', h1, h2⟩ := F.stk_sub hi h
  have hx : t ∈ stkR (mu ns) (ringI u d) i' := by rw [h2]; exact List.mem_cons_self ..
  have h3 := (stk_mem F.I F.nc (by rw [F.rl]; exact h1)).mp hx
  exact ⟨stk_tail F.I F.nc (by rw [F.rl]; exact h1) h2, by have := h3.2.1; unfold ixF; omega, h3.1⟩
theorem Fork.symm (K : Fork A B A' B' C) : Fork B A B' A' C := ⟨K.b, K.a, K.nb, K.na⟩
theorem Fc.fst_le (F : Fc u d ns) {j : Nat} (hj : j ≤ fK u d ns) : fstG u d ns j ≤ fN u d := by have := (F.fst hj).1; omega
theorem Fc.st_mem (F : Fc u d ns) {g : Nat} (hg : g ≤ fN u d) {x : Int} (h : x ∈ stkR (mu ns) (ringI u d) g) : x ∈ OA (mu ns) (ringI u d) (ringI u d).length := by
  obtain ⟨h1, h2, h3⟩ := (stk_mem F.I F.nc (by rw [F.rl]; exact hg)).mp h
  exact OA_mem.mpr ⟨by rw [List.take_length]; exact h1, by omega⟩
theorem Fc.st_gap (F : Fc u d ns) {g : Nat} (hg : g ≤ fN u d) : stF u d ns (nmF u d ns g) = stkR (mu ns) (ringI u d) g := by
  obtain ⟨f1, f2, _⟩ := F.fst (F.num_le hg)
  exact (num_inj F.I F.nc (by rw [F.rl]; omega) (by rw [F.rl]; exact hg)).mp f2
theorem at_idxN {l : List Nat} {x : Nat} (h : x ∈ l) : l[l.idxOf x]? = some x := by
  rw [List.getElem?_eq_getElem (List.idxOf_lt_length_of_mem h), List.getElem_idxOf]
theorem Fc.inB_iff (F : Fc u d ns) {g : Nat} (hg : g ≤ fN u d) {s : Int × Int} (hs : s ∈ strI ns ns.length) : inB u d s (2 * (g : Int)) = decide (JJ.opnF u d s ∈ stkR (mu ns) (ringI u d) g) := by
  have hgr : g ≤ (ringI u d).length := by rw [F.rl]; exact hg
  rw [Bool.eq_iff_iff, decide_eq_true_eq]
  have hb := F.bit hg hs
  unfold inB
  rw [Bool.and_eq_true, decide_eq_true_eq, decide_eq_true_eq, hb]
  obtain ⟨_, _, k3, k4, _⟩ := F.opnF hs
  have k3 := of_decide_eq_true k3
  obtain ⟨e1, m1, m2, e2⟩ := F.str hs
  constructor
  · intro z
    rcases k4 with ⟨a, b⟩ | ⟨a, b⟩
    · rw [a]
      rcases z with z | z
      · exact z
      · exfalso
        obtain ⟨_, y2, y3⟩ := (stk_mem F.I F.nc hgr).mp z
        rw [b, a] at k3
        rw [e2] at y3
        omega
    · rw [a]
      rcases z with z | z
      · exfalso
        obtain ⟨_, y2, y3⟩ := (stk_mem F.I F.nc hgr).mp z
        rw [b, a] at k3
        rw [← e1] at y3
        omega
      · exact z
  · intro z
    rcases k4 with ⟨a, _⟩ | ⟨a, _⟩
    · exact .inl (a ▸ z)
    · exact .inr (a ▸ z)
theorem Fc.side_st (F : Fc u d ns) {s : Int × Int} (hs : s ∈ strI ns ns.length) : gpS u d s + 1 < fN u d ∧ stkR (mu ns) (ringI u d) (gpS u d s + 1) = JJ.opnF u d s :: stkR (mu ns) (ringI u d) (gpS u d s) ∧ JJ.opnF u d s ∉ stkR (mu ns) (ringI u d) (gpS u d s) ∧ ixF u d (JJ.opnF u d s) = gpS u d s := by
  obtain ⟨h1, h2, h3, h4, h5⟩ := F.opnF hs
  have hg : (ringI u d)[gpS u d s]? = some (JJ.opnF u d s) := by rw [← h2]; exact at_idx h1
  refine ⟨h5, ?_, fun z => ?_, h2⟩
  · rcases stk_step F.I F.nc hg with ⟨t, r, _, _, _, q, _⟩ | ⟨_, q, _⟩
    · rw [h3] at q; cases q
    · exact q
  · have := ((stk_mem F.I F.nc (by rw [F.rl]; omega)).mp z).2.1
    unfold ixF at h2
    omega
theorem Fc.pos_inj (F : Fc u d ns) {g h : Nat} (hg : g ≤ fN u d) (hh : h ≤ fN u d) : posN u d ns (nmF u d ns g) = posN u d ns (nmF u d ns h) ↔ stkR (mu ns) (ringI u d) g = stkR (mu ns) (ringI u d) h := by
  rw [← num_inj F.I F.nc (by rw [F.rl]; exact hg) (by rw [F.rl]; exact hh)]
  show _ ↔ nmF u d ns g = nmF u d ns h
  constructor
  · intro e
    have h1 := at_idxN (F.ord_mem.mpr (F.num_le hg))
    have h2 := at_idxN (F.ord_mem.mpr (F.num_le hh))
    unfold posN at e
    rw [e, h2] at h1
    exact (Option.some.inj h1).symm
  · intro e; rw [e]
def goesF (u d : Int) (ns : List Int) (g h : Nat) (s : Int × Int) : Prop := (posN u d ns (nmF u d ns g) = oneS u d ns s ∨ posN u d ns (nmF u d ns g) = othS u d ns s) ∧ (inB u d s (2 * (fstG u d ns (nmF u d ns g) : Int)) != inB u d s (2 * (fstG u d ns (nmF u d ns h) : Int))) = true
theorem Fc.goes_iff (F : Fc u d ns) {g h : Nat} (hg : g ≤ fN u d) (hh : h ≤ fN u d) {s : Int × Int} (hs : s ∈ strI ns ns.length) : goesF u d ns g h s ↔
    (stkR (mu ns) (ringI u d) g = stkR (mu ns) (ringI u d) (gpS u d s) ∧ JJ.opnF u d s ∈ stkR (mu ns) (ringI u d) h) ∨ (stkR (mu ns) (ringI u d) g = JJ.opnF u d s :: stkR (mu ns) (ringI u d) (gpS u d s) ∧ JJ.opnF u d s ∉ stkR (mu ns) (ringI u d) h) := by
  obtain ⟨s1, s2, s3, s4⟩ := F.side_st hs
  unfold goesF oneS othS
  rw [F.pos_inj hg (by omega), F.pos_inj hg (by omega), F.inB_iff (F.fst_le (F.num_le hg)) hs, F.inB_iff (F.fst_le (F.num_le hh)) hs,
    show stkR (mu ns) (ringI u d) (fstG u d ns (nmF u d ns g)) = _ from F.st_gap hg, show stkR (mu ns) (ringI u d) (fstG u d ns (nmF u d ns h)) = _ from F.st_gap hh, s2]
  constructor
  · rintro ⟨a | a, b⟩
    · left
      refine ⟨a, ?_⟩
      rw [a, decide_eq_false s3] at b
      simpa using b
    · right
      refine ⟨a, ?_⟩
      rw [a, decide_eq_true (List.mem_cons_self ..)] at b
      simpa using b
  · rintro (⟨a, b⟩ | ⟨a, b⟩)
    · refine ⟨.inl a, ?_⟩
      rw [a, decide_eq_false s3, decide_eq_true b]; rfl
    · refine ⟨.inr a, ?_⟩
      rw [a, decide_eq_true (List.mem_cons_self ..), decide_eq_false b]; rfl
theorem Fc.way_step (F : Fc u d ns) {a h g t : Nat} (hg : g ≤ fN u d) (hh : h ≤ fN u d) (K : Fork A (stkR (mu ns) (ringI u d) h) A' B' C) (hT : stkR (mu ns) (ringI u d) g = wayT A' B' C t) (ht : t ≤ A'.length + B'.length) {s : Int × Int} (hs : s ∈ strI ns ns.length) (hm : goesF u d ns g h s) :
    (A' ++ B'.reverse)[t]? = some (JJ.opnF u d s) ∧ ∃ g', g' ≤ fN u d ∧ stkR (mu ns) (ringI u d) g' = wayT A' B' C (t + 1) ∧ (oneS u d ns s : Int) + (othS u d ns s : Int) - (posN u d ns (nmF u d ns g) : Int) = (posN u d ns (nmF u d ns g') : Int) := by
  obtain ⟨s1, s2, s3, s4⟩ := F.side_st hs
  rcases (F.goes_iff hg hh hs).mp hm with ⟨e, hp⟩ | ⟨e, hp⟩
  · -- the string is still to be crossed inwards
    obtain ⟨X, r, hX⟩ := List.append_of_mem hp
    obtain ⟨e2, _, _⟩ := F.stk_at hh hX
    rw [s4, ← e, hT] at e2
    rw [← e2] at hX
    have hb := K.b
    rw [hX] at hb
    have hge : A'.length ≤ t := by
      refine Classical.byContradiction fun c => ?_
      have hlt : t < A'.length := by omega
      have hne : wayT A' B' C t = A'.drop t ++ C := by unfold wayT; rw [if_pos (by omega)]
      rw [hne, List.drop_eq_getElem_cons hlt] at hX
      exact K.na _ (List.getElem_mem hlt) (by rw [hX]; exact List.mem_append_right _ (List.mem_cons_of_mem _ (List.mem_append_left _ (List.mem_cons_self ..))))
    have hw : wayT A' B' C t = B'.drop (A'.length + B'.length - t) ++ C := by
      unfold wayT
      by_cases c : t ≤ A'.length
      · rw [if_pos c, show t = A'.length by omega, List.drop_length, show A'.length + B'.length - A'.length = B'.length by omega, List.drop_length]
      · rw [if_neg c]
    rw [hw, show X ++ JJ.opnF u d s :: (B'.drop (A'.length + B'.length - t) ++ C) = (X ++ JJ.opnF u d s :: B'.drop (A'.length + B'.length - t)) ++ C by simp] at hb
    have hb := List.append_cancel_right hb
    have hlen := congrArg List.length hb
    rw [List.length_append, List.length_cons, List.length_drop] at hlen
    have hx : X.length + 1 = A'.length + B'.length - t := by omega
    have hat : B'[X.length]? = some (JJ.opnF u d s) := by rw [← hb, List.getElem?_append_right (Nat.le_refl _), Nat.sub_self]; rfl
    refine ⟨?_, gpS u d s + 1, by omega, ?_, ?_⟩
    · rw [List.getElem?_append_right hge, List.getElem?_reverse (by omega), show B'.length - 1 - (t - A'.length) = X.length by omega]
      exact hat
    · have hlx : X.length < B'.length := by omega
      have hat2 : B'[X.length] = JJ.opnF u d s := by
        rw [List.getElem?_eq_getElem hlx] at hat
        exact Option.some.inj hat
      rw [s2, ← e, hT, hw]
      unfold wayT
      rw [if_neg (by omega), show A'.length + B'.length - (t + 1) = X.length by omega, List.drop_eq_getElem_cons hlx, hat2, hx]; rfl
    · have : posN u d ns (nmF u d ns g) = oneS u d ns s := (F.pos_inj hg (by omega)).mpr e
      rw [this, show othS u d ns s = posN u d ns (nmF u d ns (gpS u d s + 1)) from rfl]
      omega
  · -- outwards
    have hlt : t < A'.length := by
      refine Classical.byContradiction fun c => ?_
      have hw : wayT A' B' C t = B'.drop (A'.length + B'.length - t) ++ C := by
        unfold wayT
        by_cases c : t ≤ A'.length
        · rw [if_pos c, show t = A'.length by omega, List.drop_length, show A'.length + B'.length - A'.length = B'.length by omega, List.drop_length]
        · rw [if_neg c]
      have hin : JJ.opnF u d s ∈ wayT A' B' C t := by rw [← hT, e]; exact List.mem_cons_self ..
      rw [hw] at hin
      exact hp (by
        rw [K.b]
        rcases List.mem_append.mp hin with z | z
        · exact List.mem_append_left _ (List.mem_of_mem_drop z)
        · exact List.mem_append_right _ z)
    have hw : wayT A' B' C t = A'.drop t ++ C := by unfold wayT; rw [if_pos (by omega)]
    rw [hw, List.drop_eq_getElem_cons hlt, List.cons_append] at hT
    rw [hT] at e
    injection e with e1 e2
    refine ⟨?_, gpS u d s, by omega, ?_, ?_⟩
    · rw [List.getElem?_append_left hlt, List.getElem?_eq_getElem hlt, e1]
    · rw [← e2]
      unfold wayT
      rw [if_pos (by omega)]
    · have : posN u d ns (nmF u d ns g) = othS u d ns s := (F.pos_inj hg (by omega)).mpr (by rw [s2, hT, e1, e2])
      rw [this, show oneS u d ns s = posN u d ns (nmF u d ns (gpS u d s)) from rfl]
      omega
theorem Fc.way_more (F : Fc u d ns) {h g t : Nat} (hg : g ≤ fN u d) (hh : h ≤ fN u d) (K : Fork A (stkR (mu ns) (ringI u d) h) A' B' C) (hT : stkR (mu ns) (ringI u d) g = wayT A' B' C t) (ht : t < A'.length + B'.length) : ∃ s ∈ strI ns ns.length, goesF u d ns g h s := by
  by_cases c : t < A'.length
  · have hw : wayT A' B' C t = A'.drop t ++ C := by unfold wayT; rw [if_pos (by omega)]
    rw [hw, List.drop_eq_getElem_cons c, List.cons_append] at hT
    obtain ⟨e1, l1, r1⟩ := F.stk_at (X := []) hg hT
    have hm : A'[t] ∈ OA (mu ns) (ringI u d) (ringI u d).length := F.st_mem hg (by rw [hT]; exact List.mem_cons_self ..)
    obtain ⟨s, hs, es⟩ := List.mem_map.mp (F.op_perm.mem_iff.mpr hm)
    obtain ⟨s1, s2, s3, s4⟩ := F.side_st hs
    refine ⟨s, hs, (F.goes_iff hg hh hs).mpr (.inr ⟨?_, ?_⟩)⟩
    · rw [hT, ← s4, es, e1]
    · rw [es]; exact K.na _ (List.getElem_mem c)
  · have hw : wayT A' B' C t = B'.drop (A'.length + B'.length - t) ++ C := by
      unfold wayT
      by_cases c : t ≤ A'.length
      · rw [if_pos c, show t = A'.length by omega, List.drop_length, show A'.length + B'.length - A'.length = B'.length by omega, List.drop_length]
      · rw [if_neg c]
    obtain ⟨k, hk⟩ : ∃ k, A'.length + B'.length - t = k + 1 := ⟨A'.length + B'.length - t - 1, by omega⟩
    have hkl : k < B'.length := by omega
    have hB : stkR (mu ns) (ringI u d) h = B'.take k ++ B'[k] :: (B'.drop (k + 1) ++ C) := by
      rw [K.b, ← List.cons_append, ← List.drop_eq_getElem_cons hkl, ← List.append_assoc, List.take_append_drop]
    obtain ⟨e1, l1, r1⟩ := F.stk_at hh hB
    have hin : B'[k] ∈ stkR (mu ns) (ringI u d) h := by rw [hB]; simp
    have hm : B'[k] ∈ OA (mu ns) (ringI u d) (ringI u d).length := F.st_mem hh hin
    obtain ⟨s, hs, es⟩ := List.mem_map.mp (F.op_perm.mem_iff.mpr hm)
    obtain ⟨s1, s2, s3, s4⟩ := F.side_st hs
    refine ⟨s, hs, (F.goes_iff hg hh hs).mpr (.inl ⟨?_, by rw [es]; exact hin⟩)⟩
    rw [hT, hw, hk, ← s4, es, e1]
end
end JJ
namespace JJ
open PySem PySem.Spec PP L2 MM
section
variable {u d : Int} {ns : List Int}
structure WayI (u d : Int) (ns : List Int) (h : Nat) (A B A' B' C : List Int) (t : Nat) (g : Nat) (found : List Int) : Prop where
  gl : g ≤ fN u d
  T : stkR (mu ns) (ringI u d) g = wayT A' B' C (min t (A'.length + B'.length))
  f : found = (A' ++ B'.reverse).take t
theorem WayI.go {h g t : Nat} {A A' B' C f : List Int} (F : Fc u d ns) (hh : h ≤ fN u d) (K : Fork A (stkR (mu ns) (ringI u d) h) A' B' C) (W : WayI u d ns h A (stkR (mu ns) (ringI u d) h) A' B' C t g f) {s : Int × Int} (hs : s ∈ strI ns ns.length) (hm : goesF u d ns g h s) :
    ∃ g', WayI u d ns h A (stkR (mu ns) (ringI u d) h) A' B' C (t + 1) g' (f ++ [JJ.opnF u d s]) ∧ (oneS u d ns s : Int) + (othS u d ns s : Int) - (posN u d ns (nmF u d ns g) : Int) = (posN u d ns (nmF u d ns g') : Int) := by
  obtain ⟨h1, g', h2, h3, h4⟩ := F.way_step (a := 0) W.gl hh K W.T (Nat.min_le_right ..) hs hm
  have hl := (List.getElem?_eq_some_iff.mp h1).1
  rw [List.length_append, List.length_reverse] at hl
  have ht : min t (A'.length + B'.length) = t := by omega
  rw [ht] at h1 h3
  exact ⟨g', ⟨h2, by rw [h3, show min (t + 1) (A'.length + B'.length) = t + 1 by omega], by rw [W.f, take_at h1]⟩, h4⟩
theorem WayI.stay {h g t : Nat} {A A' B' C f : List Int} (F : Fc u d ns) (hh : h ≤ fN u d) (K : Fork A (stkR (mu ns) (ringI u d) h) A' B' C) (W : WayI u d ns h A (stkR (mu ns) (ringI u d) h) A' B' C t g f) (no : ∀ s ∈ strI ns ns.length, ¬ goesF u d ns g h s) : WayI u d ns h A (stkR (mu ns) (ringI u d) h) A' B' C (t + 1) g f := by
  have ht : A'.length + B'.length ≤ t := Classical.byContradiction fun c => by
    have hT := W.T
    rw [show min t (A'.length + B'.length) = t by omega] at hT
    obtain ⟨s, hs, hm⟩ := F.way_more W.gl hh K hT (by omega)
    exact no s hs hm
  refine ⟨W.gl, ?_, ?_⟩
  · rw [W.T, show min t (A'.length + B'.length) = min (t + 1) (A'.length + B'.length) by omega]
  · rw [W.f, List.take_of_length_le (by rw [List.length_append, List.length_reverse]; omega), List.take_of_length_le (by rw [List.length_append, List.length_reverse]; omega)]
end
end JJ
namespace JJ
open PySem PySem.Spec PP L2 MM
theorem idx_filter_lt {k : Int → Bool} {x y : Int} (hx : k x = true) (hy : k y = true) : ∀ {R : List Int}, x ∈ R → y ∈ R → ((R.filter k).idxOf x < (R.filter k).idxOf y ↔ R.idxOf x < R.idxOf y)
  | [], h, _ => by cases h
  | r :: R, h1, h2 => by
    by_cases c : k r = true
    · rw [List.filter_cons_of_pos c, List.idxOf_cons, List.idxOf_cons, List.idxOf_cons, List.idxOf_cons]
      by_cases e1 : r = x
      · subst e1
        by_cases e2 : r = y
        · subst e2; simp
        · have b2 : (r == y) = false := by simpa using e2
          rw [b2]; simp
      · have m1 : x ∈ R := (List.mem_cons.mp h1).elim (fun z => absurd z.symm e1) id
        by_cases e2 : r = y
        · subst e2; simp
        · have m2 : y ∈ R := (List.mem_cons.mp h2).elim (fun z => absurd z.symm e2) id
          have ih := idx_filter_lt hx hy m1 m2
          have b1 : (r == x) = false := by simpa using e1
          have b2 : (r == y) = false := by simpa using e2
          rw [b1, b2]
          simp only [cond_false]
          omega
    · have e1 : r ≠ x := fun z => c (by rw [z]; exact hx)
      have e2 : r ≠ y := fun z => c (by rw [z]; exact hy)
      have m1 : x ∈ R := (List.mem_cons.mp h1).elim (fun z => absurd z.symm e1) id
      have m2 : y ∈ R := (List.mem_cons.mp h2).elim (fun z => absurd z.symm e2) id
      have ih := idx_filter_lt hx hy m1 m2
      rw [List.filter_cons_of_neg c, List.idxOf_cons, List.idxOf_cons]
      have b1 : (r == x) = false := by simpa using e1
      have b2 : (r == y) = false := by simpa using e2
      rw [b1, b2]
      simp only [cond_false]
      omega
theorem sep_order {a b c d a' b' c' d' : Nat} (h1 : a' < b' ↔ a < b) (h1' : b' < a' ↔ b < a) (h2 : a' < c' ↔ a < c) (h3 : a' < d' ↔ a < d) (h4 : b' < c' ↔ b < c) (h5 : b' < d' ↔ b < d) (h6 : c' < a' ↔ c < a) (h7 : d' < a' ↔ d < a) (h8 : c' < b' ↔ c < b) (h9 : d' < b' ↔ d < b) : SepP a' b' c' d' ↔ SepP a b c d := by
  have btw : ∀ {a b c a' b' c' : Nat}, (a' < b' ↔ a < b) → (b' < a' ↔ b < a) → (a' < c' ↔ a < c) → (b' < c' ↔ b < c) → (c' < a' ↔ c < a) → (c' < b' ↔ c < b) → (Btw c' (min a' b') (max a' b') ↔ Btw c (min a b) (max a b)) := fun {a b c a' b' c'} e1 e2 e3 e4 e5 e6 => by
    unfold Btw
    rcases Nat.le_total a b with q | q
    · have q' : a' ≤ b' := by omega
      rw [Nat.min_eq_left q, Nat.max_eq_right q, Nat.min_eq_left q', Nat.max_eq_right q', e3, e6]
    · have q' : b' ≤ a' := by omega
      rw [Nat.min_eq_right q, Nat.max_eq_left q, Nat.min_eq_right q', Nat.max_eq_left q', e4, e5]
  unfold SepP
  rw [btw h1 h1' h2 h4 h6 h8, btw h1 h1' h3 h5 h7 h9]
theorem match_filt {R : List Int} {prs : List (Int × Int)} {k : Int → Bool} {f : Int × Int → Bool} (M : Match R prs) (hk : ∀ p ∈ prs, k p.1 = f p ∧ k p.2 = f p) : Match (R.filter k) (prs.filter f) := by
  have ee : ∀ {l : List (Int × Int)}, (∀ p ∈ l, k p.1 = f p ∧ k p.2 = f p) → ends (l.filter f) = (ends l).filter k := fun {l} => by
    induction l with
    | nil => intro _; rfl
    | cons p l ih =>
      intro h
      obtain ⟨e1, e2⟩ := h p (List.mem_cons_self ..)
      have ih := ih fun q hq => h q (List.mem_cons_of_mem _ hq)
      show ends (List.filter f (p :: l)) = List.filter k (p.1 :: p.2 :: ends l)
      by_cases c : f p = true
      · rw [List.filter_cons_of_pos c, List.filter_cons_of_pos (e1.trans c), List.filter_cons_of_pos (e2.trans c)]
        show p.1 :: p.2 :: ends (l.filter f) = _
        rw [ih]
      · have cf : f p = false := by simpa using c
        rw [List.filter_cons_of_neg c, List.filter_cons_of_neg (by rw [e1, cf]; decide), List.filter_cons_of_neg (by rw [e2, cf]; decide)]
        exact ih
  refine ⟨by rw [ee hk]; exact M.nd.filter _, fun x => by rw [ee hk, List.mem_filter, List.mem_filter, M.mem], fun p hp q hq z => ?_⟩
  obtain ⟨p1, p2⟩ := List.mem_filter.mp hp
  obtain ⟨q1, q2⟩ := List.mem_filter.mp hq
  obtain ⟨a1, a2⟩ := M.in p1
  obtain ⟨b1, b2⟩ := M.in q1
  obtain ⟨k1, k2⟩ := hk p p1
  obtain ⟨l1, l2⟩ := hk q q1
  rw [p2] at k1 k2
  rw [q2] at l1 l2
  refine M.nc p p1 q q1 ?_
  unfold MM.Sep at z ⊢
  exact (sep_order (idx_filter_lt k1 k2 a1 a2) (idx_filter_lt k2 k1 a2 a1) (idx_filter_lt k1 l1 a1 b1) (idx_filter_lt k1 l2 a1 b2) (idx_filter_lt k2 l1 a2 b1) (idx_filter_lt k2 l2 a2 b2) (idx_filter_lt l1 k1 b1 a1) (idx_filter_lt l2 k1 b2 a1) (idx_filter_lt l1 k2 b1 a2) (idx_filter_lt l2 k2 b2 a2)).mp z
section
variable (u d : Int) (ns : List Int) (p : Int)
def kpB (x : Int) : Bool := decide (x ≠ p ∧ x ≠ mu ns p)
def rngI (a b : Int) : List Int := (List.range (b - a).toNat).map fun k : Nat => a + (k : Int)
def kpA : List Int := (rngI 0 u).filter (kpB ns p)
def kpD : List Int := (rngI u (u + d)).filter (kpB ns p)
def kpL : List Int := kpA u ns p ++ kpD u d ns p
def kpN (x : Int) : Int := ((kpL u d ns p).idxOf x : Int)
def cutR : List Int := (kpL u d ns p).map fun x => kpN u d ns p (mu ns x)
def cutU : Int := ((kpA u ns p).length : Int)
def cutD' : Int := ((kpD u d ns p).length : Int)
def cutP : List (Int × Int) := ((strI ns ns.length).filter fun s => kpB ns p s.1).map fun s => (kpN u d ns p s.1, kpN u d ns p s.2)
end
section
variable {u d : Int} {ns : List Int} {p : Int}
theorem rngI_mem {a b x : Int} : x ∈ rngI a b ↔ a ≤ x ∧ x < b := by
  unfold rngI
  rw [List.mem_map]
  constructor
  · rintro ⟨k, hk, rfl⟩
    rw [List.mem_range] at hk
    omega
  · intro h
    exact ⟨(x - a).toNat, List.mem_range.mpr (by omega), by omega⟩
theorem rngI_nd {a b : Int} : (rngI a b).Nodup := List.pairwise_map.mpr (List.nodup_range.imp fun h z => h (by omega))
theorem rngI_len {a b : Int} : (rngI a b).length = (b - a).toNat := by unfold rngI; rw [List.length_map, List.length_range]
theorem rngI_app {a b c : Int} (h1 : a ≤ b) (h2 : b ≤ c) : rngI a c = rngI a b ++ rngI b c := by
  unfold rngI
  rw [show (c - a).toNat = (b - a).toNat + (c - b).toNat by omega, List.range_add, List.map_append, List.map_map]
  congr 1
  refine List.map_congr_left fun k _ => ?_
  show a + (((b - a).toNat + k : Nat) : Int) = b + k
  omega
theorem rngI_rev {a b : Int} (h0 : 0 ≤ a) (h : 0 ≤ b) : (rngI a (a + b)).reverse = (List.range (a + b - 1 - (a - 1)).toNat).map fun i => a + b - 1 + ((i : Nat) : Int) * -1 := by
  refine List.ext_getElem? fun i => ?_
  by_cases c : i < b.toNat
  · rw [List.getElem?_reverse (by rw [rngI_len]; omega)]
    unfold rngI
    rw [List.length_map, List.length_range, List.getElem?_map, List.getElem?_map, List.getElem?_range (by omega), List.getElem?_range (by omega)]
    show some (a + (((a + b - a).toNat - 1 - i : Nat) : Int)) = some (a + b - 1 + ((i : Nat) : Int) * -1)
    congr 1
    omega
  · rw [List.getElem?_eq_none (by rw [List.length_reverse, rngI_len]; omega), List.getElem?_eq_none (by rw [List.length_map, List.length_range]; omega)]
theorem ring_rng {a b : Int} (h0 : 0 ≤ a) (h : 0 ≤ b) : ringI a b = rngI 0 a ++ (rngI a (a + b)).reverse := by
  rw [rngI_rev h0 h]; rfl
theorem idx_self {L : List Int} (nd : L.Nodup) : (L.map fun x => (L.idxOf x : Int)) = rngI 0 L.length := by
  refine List.ext_getElem? fun i => ?_
  by_cases c : i < L.length
  · unfold rngI
    rw [List.getElem?_map, List.getElem?_map, List.getElem?_range (by omega), List.getElem?_eq_getElem c]
    show some ((L.idxOf L[i] : Nat) : Int) = some (0 + (i : Int))
    rw [List.Nodup.idxOf_getElem nd i c, Int.zero_add]
  · rw [List.getElem?_eq_none (by rw [List.length_map]; omega), List.getElem?_eq_none (by rw [rngI_len]; omega)]
theorem kpL_filter (hu : 0 ≤ u) (hd : 0 ≤ d) : kpL u d ns p = (rngI 0 (u + d)).filter (kpB ns p) := by
  unfold kpL kpA kpD
  rw [rngI_app hu (show u ≤ u + d by omega), List.filter_append]
theorem kpL_nd (hu : 0 ≤ u) (hd : 0 ≤ d) : (kpL u d ns p).Nodup := by rw [kpL_filter hu hd]; exact rngI_nd.filter _
theorem kpL_mem (hu : 0 ≤ u) (hd : 0 ≤ d) {x : Int} : x ∈ kpL u d ns p ↔ (0 ≤ x ∧ x < u + d) ∧ x ≠ p ∧ x ≠ mu ns p := by
  rw [kpL_filter hu hd, List.mem_filter, rngI_mem]
  unfold kpB
  rw [decide_eq_true_eq]
theorem Fc.kp_len (F : Fc u d ns) (hp : 0 ≤ p ∧ p < u + d) : ((kpL u d ns p).length : Int) = u + d - 2 := by
  have hp' := F.in_.mpr hp
  obtain ⟨m0, m1⟩ := F.in_.mp (F.I.mem p hp')
  have ne := F.I.ne p hp'
  have nd : (p :: mu ns p :: kpL u d ns p).Nodup := by
    rw [List.nodup_cons, List.nodup_cons]
    refine ⟨fun z => ?_, fun z => ?_, kpL_nd F.u0 F.d0⟩
    · rcases List.mem_cons.mp z with q | q
      · exact ne q.symm
      · exact ((kpL_mem F.u0 F.d0).mp q).2.1 rfl
    · exact ((kpL_mem F.u0 F.d0).mp z).2.2 rfl
  have pm : (p :: mu ns p :: kpL u d ns p).Perm (rngI 0 (u + d)) := (List.perm_ext_iff_of_nodup nd rngI_nd).mpr fun x => by
    rw [List.mem_cons, List.mem_cons, kpL_mem F.u0 F.d0, rngI_mem]
    constructor
    · rintro (z | z | z)
      · omega
      · omega
      · exact z.1
    · intro h
      by_cases c1 : x = p
      · exact .inl c1
      · by_cases c2 : x = mu ns p
        · exact .inr (.inl c2)
        · exact .inr (.inr ⟨h, c1, c2⟩)
  have := pm.length_eq
  rw [List.length_cons, List.length_cons, rngI_len] at this
  have := F.u0
  have := F.d0
  omega
theorem cut_sum : cutU u ns p + cutD' u d ns p = ((kpL u d ns p).length : Int) := by
  unfold cutU cutD' kpL
  rw [List.length_append]; omega
theorem Fc.kp_mu (F : Fc u d ns) (hp : 0 ≤ p ∧ p < u + d) {x : Int} (hx : 0 ≤ x ∧ x < u + d) : kpB ns p (mu ns x) = kpB ns p x := by
  have hp' := F.in_.mpr hp
  have hx' := F.in_.mpr hx
  have e1 := F.I.inv x hx'
  have e2 := F.I.inv p hp'
  unfold kpB
  refine decide_eq_decide.mpr ⟨fun ⟨a, b⟩ => ⟨fun z => b (by rw [z]), fun z => a (by rw [z, e2])⟩, fun ⟨a, b⟩ => ⟨fun z => b (by rw [← z, e1]), fun z => a (by
    have := congrArg (mu ns) z
    rw [e1, e2] at this; exact this)⟩⟩
theorem Fc.cut_is (F : Fc u d ns) (hM : isMatB u d ns = true) (hp : 0 ≤ p ∧ p < u + d) (h2 : 2 < u + d) : Is (cutU u ns p) (cutD' u d ns p) (cutP u d ns p) (cutR u d ns p) := by
  have u0 := F.u0
  have d0 := F.d0
  have I0 := Is.own hM
  have kl := F.kp_len hp
  have cs := cut_sum (u := u) (d := d) (ns := ns) (p := p)
  have nd := kpL_nd (u := u) (d := d) (ns := ns) (p := p) u0 d0
  have hs : ∀ s ∈ strI ns ns.length, kpB ns p s.1 = kpB ns p s.1 ∧ kpB ns p s.2 = kpB ns p s.1 := fun s hs => by
    obtain ⟨e, m1, m2, e2⟩ := F.str hs
    exact ⟨rfl, by rw [e]; exact F.kp_mu hp (F.in_.mp m1)⟩
  have M1 := match_filt (f := fun s => kpB ns p s.1) I0.M hs
  have inj : ∀ a ∈ (ringI u d).filter (kpB ns p), ∀ b ∈ (ringI u d).filter (kpB ns p), kpN u d ns p a = kpN u d ns p b → a = b := fun a ha b hb e => by
    have mem : ∀ {x : Int}, x ∈ (ringI u d).filter (kpB ns p) → x ∈ kpL u d ns p := fun {x} hx => by
      obtain ⟨h1, h2⟩ := List.mem_filter.mp hx
      rw [kpL_filter u0 d0, List.mem_filter, rngI_mem]
      exact ⟨F.in_.mp h1, h2⟩
    have e' : (kpL u d ns p).idxOf a = (kpL u d ns p).idxOf b := by unfold kpN at e; omega
    have q1 := at_idx (mem ha)
    have q2 := at_idx (mem hb)
    rw [e', q2] at q1
    exact (Option.some.inj q1).symm
  have M2 := M1.map inj
  have idx : (kpA u ns p).map (kpN u d ns p) ++ (kpD u d ns p).map (kpN u d ns p) = rngI 0 (cutU u ns p) ++ rngI (cutU u ns p) (cutU u ns p + cutD' u d ns p) := by
    rw [← rngI_app (show (0 : Int) ≤ cutU u ns p by unfold cutU; omega) (show cutU u ns p ≤ cutU u ns p + cutD' u d ns p by unfold cutD'; omega), cs, ← idx_self nd, ← List.map_append]; rfl
  obtain ⟨ia, id⟩ := List.append_inj idx (by rw [List.length_map, rngI_len]; unfold cutU; omega)
  have hring : ((ringI u d).filter (kpB ns p)).map (kpN u d ns p) = ringI (cutU u ns p) (cutD' u d ns p) := by
    rw [ring_rng u0 d0, List.filter_append, List.filter_reverse, List.map_append, List.map_reverse, ring_rng (show (0 : Int) ≤ cutU u ns p by unfold cutU; omega) (show (0 : Int) ≤ cutD' u d ns p by unfold cutD'; omega)]
    rw [show (rngI 0 u).filter (kpB ns p) = kpA u ns p from rfl, show (rngI u (u + d)).filter (kpB ns p) = kpD u d ns p from rfl, ia, id]
  rw [hring] at M2
  have hrl : (cutR u d ns p).length = (kpL u d ns p).length := by unfold cutR; rw [List.length_map]
  refine ⟨by unfold cutU; omega, by unfold cutD'; omega, by omega, by rw [hrl, ← cs], M2, ?_⟩
  intro q hq
  obtain ⟨s, hs2, rfl⟩ := List.mem_map.mp hq
  obtain ⟨s1, s2⟩ := List.mem_filter.mp hs2
  obtain ⟨e, m1, m2, e2⟩ := F.str s1
  have at_ : ∀ {x : Int}, (0 ≤ x ∧ x < u + d) → kpB ns p x = true → mu (cutR u d ns p) (kpN u d ns p x) = kpN u d ns p (mu ns x) := fun {x} hx hk => by
    have hm : x ∈ kpL u d ns p := by rw [kpL_filter u0 d0, List.mem_filter, rngI_mem]; exact ⟨hx, hk⟩
    have := at_idx hm
    show (cutR u d ns p).getD (kpN u d ns p x).toNat 0 = _
    unfold cutR
    rw [List.getD_eq_getElem?_getD, List.getElem?_map, show (kpN u d ns p x).toNat = (kpL u d ns p).idxOf x by unfold kpN; omega, this]; rfl
  dsimp only
  refine ⟨?_, ?_⟩
  · rw [at_ (F.in_.mp m1) s2, ← e]
  · rw [at_ (F.in_.mp m2) (by rw [e, F.kp_mu hp (F.in_.mp m1)]; exact s2), e2]
end
end JJ
namespace JJ
open PySem PySem.Spec PP L2 MM
def cutM' (u d : Int) (ns : List Int) (p : Int) : PyData := matD (cutU u ns p) (cutD' u d ns p) (cutR u d ns p)
def spCutF : FSp := fun pvs m q => ∃ (u d : Int) (ns : List Int) (p : Int), pvs = [.d (matD u d ns), .d (.int p)] ∧ m = [] ∧ isMatB u d ns = true ∧ u + d ≤ 1000 ∧ 0 ≤ p ∧ p < u + d ∧ 2 < u + d ∧ q (.d (cutM' u d ns p)) []
def spCutLaw : FSp := fun pvs m q => ∃ (u d : Int) (ns : List Int) (p : Int), pvs = [.d (matD u d ns), .d (.int p)] ∧ m = [] ∧ isMatB u d ns = true ∧ u + d ≤ 40 ∧ 0 ≤ p ∧ p < u + d ∧ 2 < u + d ∧ q (.d (cutM' u d ns p)) []
def last2 : PyData := .tuple [.int 0, .int 1]
def spxCutF (C : Addr) : FSpX := fun pvs m q => ∃ (u d : Int) (ns : List Int) (p : Int), pvs = [.d (matD u d ns), .d (.int p)] ∧ m = [] ∧ isMatB u d ns = true ∧ u + d = 2 ∧ 0 ≤ p ∧ p < u + d ∧ q C last2 []
def spAsk71 : FSp := fun pvs m q => ∃ (xs : List PyData) (c : Nat) (u d : Int) (ns : List Int) (p : Int), pvs = [.ref 0, .d (matD u d ns), .d (.int p)] ∧ m = [some (.lst xs)] ∧ WS c xs ∧ c < 800000000 ∧ isMatB u d ns = true ∧ u + d ≤ 40 ∧ 0 ≤ p ∧ p < u + d ∧ 2 < u + d ∧
  ∀ xs', WS (c + 2) xs' → q (.d (.tuple [cutM' u d ns p, .none])) [some (.lst xs')]
def spAsk71X : FSp := fun pvs m q => ∃ (xs : List PyData) (c : Nat) (u d : Int) (ns : List Int) (p : Int), pvs = [.ref 0, .d (matD u d ns), .d (.int p)] ∧ m = [some (.lst xs)] ∧ WS c xs ∧ c < 800000000 ∧ isMatB u d ns = true ∧ u + d = 2 ∧ 0 ≤ p ∧ p < u + d ∧
  ∀ xs', WS (c + 2) xs' → q (.d (.tuple [.none, last2])) [some (.lst xs')]
section
variable {u d : Int} {ns : List Int} {p : Int}
theorem Fc.kpB_mu (F : Fc u d ns) (hp : 0 ≤ p ∧ p < u + d) : kpB ns (mu ns p) = kpB ns p := by
  funext x
  unfold kpB
  rw [F.I.inv p (F.in_.mpr hp)]
  exact decide_eq_decide.mpr ⟨fun h => ⟨h.2, h.1⟩, fun h => ⟨h.2, h.1⟩⟩
theorem Fc.cut_mu (F : Fc u d ns) (hp : 0 ≤ p ∧ p < u + d) : cutM' u d ns (mu ns p) = cutM' u d ns p := by
  unfold cutM' cutU cutD' cutR kpN kpL kpA kpD
  rw [F.kpB_mu hp]
theorem Fc.two_mu (F : Fc u d ns) (hp : 0 ≤ p ∧ p < u + d) (h2 : u + d = 2) : strDF ns p = last2 := by
  have hp' := F.in_.mpr hp
  obtain ⟨m0, m1⟩ := F.in_.mp (F.I.mem p hp')
  have ne := F.I.ne p hp'
  unfold strDF last2
  by_cases c : p = 0
  · have : mu ns p = 1 := by omega
    rw [this, c]; rfl
  · have h1 : p = 1 := by omega
    have : mu ns p = 0 := by omega
    rw [this, h1]; rfl
theorem Fc.cut_one (F : Fc u d ns) (hM : isMatB u d ns = true) (hp : 0 ≤ p ∧ p < u + d) (h2 : 2 < u + d) {rs : List Int} (hl : (rs.length : Int) = cutU u ns p + cutD' u d ns p) (W : Row (cutP u d ns p) rs) : rs = cutR u d ns p := Is.of_made (F.cut_is hM hp h2) hl W
theorem Fc.cut_low (F : Fc u d ns) (hp : 0 ≤ p ∧ p < u + d) {s : Int × Int} (hs : s ∈ strI ns ns.length) : decide (s.1 ≠ (if mu ns p < p then mu ns p else p)) = kpB ns p s.1 := by
  obtain ⟨j, hj, hlt, rfl⟩ := strI_mem.mp hs
  obtain ⟨e, m1, m2, e2⟩ := F.str hs
  dsimp only at e m1 m2 e2 ⊢
  have hp' := F.in_.mpr hp
  have e3 := F.I.inv p hp'
  have ne := F.I.ne p hp'
  rw [e] at hlt
  unfold kpB
  refine decide_eq_decide.mpr ?_
  by_cases c : mu ns p < p
  · rw [if_pos c]
    constructor
    · intro h
      refine ⟨fun z => ?_, h⟩
      rw [z] at hlt; omega
    · intro h; exact h.2
  · rw [if_neg c]
    constructor
    · intro h
      refine ⟨h, fun z => ?_⟩
      rw [z, e3] at hlt; omega
    · intro h; exact h.1
theorem kp_above (h0 : 0 ≤ u) (hd : 0 ≤ d) : (kpL u d ns p).filter (fun x => decide (x < u)) = kpA u ns p := by
  have h1 : (kpA u ns p).filter (fun x => decide (x < u)) = kpA u ns p := List.filter_eq_self.mpr fun x hx => decide_eq_true (rngI_mem.mp (List.mem_filter.mp hx).1).2
  have h2 : (kpD u d ns p).filter (fun x => decide (x < u)) = [] := List.filter_eq_nil_iff.mpr fun x hx z => by
    have := (rngI_mem.mp (List.mem_filter.mp hx).1).1
    have := of_decide_eq_true z
    omega
  unfold kpL
  rw [List.filter_append, h1, h2, List.append_nil]
theorem Fc.peg_not (F : Fc u d ns) (hp : 0 ≤ p ∧ p < u + d) {x : Int} (hx : 0 ≤ x ∧ x < u + d) : decide (p ∉ [x, mu ns x]) = kpB ns p x := by
  have e1 := F.I.inv p (F.in_.mpr hp)
  have e2 := F.I.inv x (F.in_.mpr hx)
  unfold kpB
  refine decide_eq_decide.mpr ?_
  rw [List.mem_cons, List.mem_singleton]
  constructor
  · intro h
    refine ⟨fun z => h (.inl z.symm), fun z => h (.inr ?_)⟩
    rw [z, e1]
  · rintro ⟨a, b⟩ (z | z)
    · exact a z.symm
    · exact b (by rw [z, e2])
theorem rg_rng {a b : Int} : rgD a b = (rngI a b).map .int := by
  unfold rngI rgD
  rw [List.map_map]; rfl
theorem Fc.not_cut (F : Fc u d ns) (hp : 0 ≤ p ∧ p < u + d) {x : Int} : (!decide (x ∈ [if mu ns p < p then mu ns p else p, if p < mu ns p then mu ns p else p])) = kpB ns p x := by
  have ne := F.I.ne p (F.in_.mpr hp)
  unfold kpB
  rw [← decide_not]
  refine decide_eq_decide.mpr ?_
  rw [List.mem_cons, List.mem_singleton]
  by_cases c : mu ns p < p
  · rw [if_pos c, if_neg (by omega)]
    exact ⟨fun h => ⟨fun z => h (.inr z), fun z => h (.inl z)⟩, fun h z => z.elim h.2 h.1⟩
  · rw [if_neg c, if_pos (by omega)]
    exact ⟨fun h => ⟨fun z => h (.inl z), fun z => h (.inr z)⟩, fun h z => z.elim h.1 h.2⟩
theorem kp_in (h0 : 0 ≤ u) (hd : 0 ≤ d) {x : Int} (hx : 0 ≤ x ∧ x < u + d) (hk : kpB ns p x = true) : x ∈ kpL u d ns p := by
  rw [kpL_filter h0 hd, List.mem_filter, rngI_mem]; exact ⟨hx, hk⟩
def kvN (L : List Int) (i : Nat) : List (Key × PyData) := (List.range i).map fun k => (.inl (L.getD k 0), .int k)
theorem kvN_len {L : List Int} {i : Nat} : (kvN L i).length = i := by unfold kvN; rw [List.length_map, List.length_range]
theorem kvN_put {L : List Int} (nd : L.Nodup) {i : Nat} (hi : i < L.length) : putD (kvN L i) (.inl (L.getD i 0)) (.int i) = kvN L (i + 1) := by
  have no : ((kvN L i).any fun kv => decide (kv.1 = Sum.inl (L.getD i 0))) = false := by
    rw [List.any_eq_false]
    intro q hq
    obtain ⟨k, hk, rfl⟩ := List.mem_map.mp hq
    rw [List.mem_range] at hk
    intro z
    have z := of_decide_eq_true z
    injection z with z
    rw [List.getD_eq_getElem?_getD, List.getD_eq_getElem?_getD, List.getElem?_eq_getElem (show k < L.length by omega), List.getElem?_eq_getElem hi] at z
    have := (List.getElem_inj nd).mp z
    omega
  unfold putD
  rw [no, if_neg (by decide)]
  unfold kvN
  rw [List.range_succ, List.map_append]; rfl
theorem kvN_val {L : List Int} (nd : L.Nodup) {k : Nat} : ∀ {i : Nat}, k < i → i ≤ L.length → valD (kvN L i) (.inl (L.getD k 0)) = some (.int k)
  | 0, h, _ => absurd h (Nat.not_lt_zero _)
  | i + 1, h, hl => by
    rw [← kvN_put nd (by omega), valD_put]
    by_cases c : k = i
    · rw [c, if_pos rfl]
    · rw [if_neg fun z => c ?_]
      · exact kvN_val nd (by omega) (by omega)
      · injection z with z
        rw [List.getD_eq_getElem?_getD, List.getD_eq_getElem?_getD, List.getElem?_eq_getElem (show k < L.length by omega), List.getElem?_eq_getElem (show i < L.length by omega)] at z
        exact ((List.getElem_inj nd).mp z).symm
theorem kvN_idx {L : List Int} (nd : L.Nodup) {x : Int} (h : x ∈ L) : valD (kvN L L.length) (.inl x) = some (.int (L.idxOf x : Nat)) := by
  have h1 := List.idxOf_lt_length_of_mem h
  have := kvN_val nd (k := L.idxOf x) (i := L.length) h1 (Nat.le_refl _)
  rwa [List.getD_eq_getElem?_getD, at_idx h] at this
theorem row_at {l : List Int} {x : Int} (h0 : 0 ≤ x) (h : x < l.length) : atI (l.map PyData.int) x = some (.int (mu l x)) := atI_ints h0 h
theorem dl_cutN (h : (kpL u d ns p).length ≤ 1000) : Dl 4 (.tuple [cutM' u d ns p, .none]) := .tup (by simp) fun x hx => by
  simp only [List.mem_cons, List.not_mem_nil, or_false] at hx
  rcases hx with rfl | rfl
  · exact dlMat (by unfold cutR; rw [List.length_map]; omega)
  · exact dl_none
theorem dl_last2 : Dl 4 (.tuple [.none, last2]) := .tup (by simp) fun x hx => by
  simp only [List.mem_cons, List.not_mem_nil, or_false] at hx
  rcases hx with rfl | rfl
  · exact dl_none
  · exact dl_wordT (ws := [0, 1]) (by simp)
end
end JJ
namespace PP
open PySem PySem.Spec PyProof.Rows L2
end PP
namespace PP
open PySem PySem.Spec PyProof.Rows L2
section
variable {X : Cx} {L : PP.Loc} {m : Mem} {a b e tg : Expr} {pos p : Pos} {Q : QE}
theorem we_lenD {p : Pos} (hm : X.mg "len" = none) (h : WV X a L m fun p m1 => ∃ k kvs, p = .ref k ∧ m1[k]? = some (some (.dK kvs)) ∧ Q (.int kvs.length) m1) (hg : Gl X "len" := by rfl) (he : starEach [a] X.env = (false, eval a X.env) :: starEach [] X.env := by rfl)
    (hpl : (backTo pos (starEach [] X.env)).any (·.1) = false := by rfl) : WE X (.Call (.Name "len" p) [a] [] pos) L m Q :=
  we_of (pe_callB call_lenD hg hm boot_len (paU [a]) (he := he) (hpl := hpl)) fun w σ H r => WA.go (wa1 h he) r fun w1 vs ps m1 H1 l1 r1 d1 ⟨p, e1, k, kvs, e2, e3, q⟩ => by
    subst e1; subst e2
    obtain ⟨v, rfl, d2⟩ := rvs1 d1
    obtain ⟨ad, us, rfl, ea, eo, dv⟩ := dcell_at r1.toHR d2 e3
    refine ⟨ad, us, rfl, eo, w1, _, m1, l1, r1.toHR, .int _, ?_⟩
    rw [kds_len dv]
    exact q
end
end PP
namespace K71
open PySem PySem.Spec PyProof.Rows L2 PP
def topS (i : Nat) : Stmt := PySem.Challenge.pw_hookmats_k71_whole_strings_cut_one_by_on.main.body.getD i (.Pass ⟨0, 0, 0, 0⟩)
def s_init : Stmt := match topS 1 with
  | .ClassDef _ _ _ (b :: _) _ _ _ _ _ _ _ => b
  | x => x
theorem sc_init : FnScope ["self", "value"] ["self", "value"] (defScope s_init) := ⟨rfl, rfl, rfl, by decide +kernel, rfl, by decide +kernel, by decide +kernel⟩
theorem ok_init {P : Program} {w : World} {K : PySem.W.Frag} {mg : Str → Option Value} {base : Heap} {f : Addr} {fd : FuncData} (F : Fun K "__init__" "MatError.__init__" s_init f fd) : FnOk P w K mg base CX0 1 f fd ["self", "value"] (spIn K) := by
  refine F.ok sc_init (fun vs H Q E ⟨_, _, _, e, _⟩ => by subst e; rfl) (fun cdv A outer s H vs Q E hr h => ?_)
  refine ⟨_, pss_one (ps_ost (pe_var (i := 0) rfl (.inl rfl)) (pe_var (i := 1) rfl (.inl rfl))), ?_⟩
  obtain ⟨a, C, y, rfl, e, T, nv, k⟩ := h
  exact ⟨_, rfl, _, rfl, a, C, rfl, T, nv, .inl ⟨e, fun dx h1 h2 => k dx h1 h2⟩⟩
abbrev s_check_mat : Stmt := topS 6
theorem sc_check_mat : FnScope ["mat"] ["mat"] (defScope s_check_mat) := ⟨rfl, rfl, rfl, by decide +kernel, rfl, by decide +kernel, by decide +kernel⟩
abbrev s_round_about : Stmt := topS 7
theorem sc_round_about : FnScope ["n", "m"] ["n", "m"] (defScope s_round_about) := ⟨rfl, rfl, rfl, by decide +kernel, rfl, by decide +kernel, by decide +kernel⟩
abbrev s_p_are_mates : Stmt := topS 8
theorem sc_p_are_mates : FnScope ["mates", "many", "peg", "mate"] ["mates"] (defScope s_p_are_mates) := ⟨rfl, rfl, rfl, by decide +kernel, rfl, by decide +kernel, by decide +kernel⟩
abbrev s_p_none_cross : Stmt := topS 9
theorem sc_p_none_cross : FnScope ["n", "m", "mates", "begun", "peg"] ["n", "m", "mates"] (defScope s_p_none_cross) := ⟨rfl, rfl, rfl, by decide +kernel, rfl, by decide +kernel, by decide +kernel⟩
abbrev s_is_mat : Stmt := topS 10
theorem sc_is_mat : FnScope ["told", "n", "m", "mates"] ["told"] (defScope s_is_mat) := ⟨rfl, rfl, rfl, by decide +kernel, rfl, by decide +kernel, by decide +kernel⟩
abbrev s_mat_of_pairs : Stmt := topS 11
theorem sc_mat_of_pairs : FnScope ["n", "m", "pairs", "mates", "peg", "mate"] ["n", "m", "pairs"] (defScope s_mat_of_pairs) := ⟨rfl, rfl, rfl, by decide +kernel, rfl, by decide +kernel, by decide +kernel⟩
abbrev s_pairs_moved : Stmt := topS 12
theorem sc_pairs_moved : FnScope ["mat", "places", "peg", "mate"] ["mat", "places"] (defScope s_pairs_moved) := ⟨rfl, rfl, rfl, by decide +kernel, rfl, by decide +kernel, by decide +kernel⟩
abbrev s_upside_down : Stmt := topS 13
theorem sc_upside_down : FnScope ["mat"] ["mat"] (defScope s_upside_down) := ⟨rfl, rfl, rfl, by decide +kernel, rfl, by decide +kernel, by decide +kernel⟩
abbrev s_p_upside_down : Stmt := topS 14
theorem sc_p_upside_down : FnScope ["mat", "n", "m", "_", "places"] ["mat"] (defScope s_p_upside_down) := ⟨rfl, rfl, rfl, by decide +kernel, rfl, by decide +kernel, by decide +kernel⟩
abbrev s_p_strings : Stmt := topS 15
theorem sc_p_strings : FnScope ["mat", "peg", "mate"] ["mat"] (defScope s_p_strings) := ⟨rfl, rfl, rfl, by decide +kernel, rfl, by decide +kernel, by decide +kernel⟩
abbrev s_strings : Stmt := topS 16
theorem sc_strings : FnScope ["mat"] ["mat"] (defScope s_strings) := ⟨rfl, rfl, rfl, by decide +kernel, rfl, by decide +kernel, by decide +kernel⟩
abbrev s_p_string_of : Stmt := topS 18
theorem sc_p_string_of : FnScope ["mat", "peg", "mate"] ["mat", "peg"] (defScope s_p_string_of) := ⟨rfl, rfl, rfl, by decide +kernel, rfl, by decide +kernel, by decide +kernel⟩
abbrev s_p_round : Stmt := topS 19
theorem sc_p_round : FnScope ["mat", "now", "numbers", "doors", "peg", "string", "outside"] ["mat"] (defScope s_p_round) := ⟨rfl, rfl, rfl, by decide +kernel, rfl, by decide +kernel, by decide +kernel⟩
abbrev s_p_places : Stmt := topS 20
theorem sc_p_places : FnScope ["row", "number", "place", "other"] ["row", "number"] (defScope s_p_places) := ⟨rfl, rfl, rfl, by decide +kernel, rfl, by decide +kernel, by decide +kernel⟩
abbrev s_p_rows_of_gaps : Stmt := topS 21
theorem sc_p_rows_of_gaps : FnScope ["mat", "n", "m", "_", "numbers", "gap"] ["mat"] (defScope s_p_rows_of_gaps) := ⟨rfl, rfl, rfl, by decide +kernel, rfl, by decide +kernel, by decide +kernel⟩
abbrev s_p_rooms : Stmt := topS 22
theorem sc_p_rooms : FnScope ["mat", "above", "below", "number"] ["mat"] (defScope s_p_rooms) := ⟨rfl, rfl, rfl, by decide +kernel, rfl, by decide +kernel, by decide +kernel⟩
abbrev s_rooms : Stmt := topS 23
theorem sc_rooms : FnScope ["mat"] ["mat"] (defScope s_rooms) := ⟨rfl, rfl, rfl, by decide +kernel, rfl, by decide +kernel, by decide +kernel⟩
abbrev s_cut_string : Stmt := topS 24
theorem sc_cut_string : FnScope ["mat", "peg", "n", "m", "_", "cut", "kept", "above", "pairs", "other", "p", "q"] ["mat", "peg"] (defScope s_cut_string) := ⟨rfl, rfl, rfl, by decide +kernel, rfl, by decide +kernel, by decide +kernel⟩
abbrev s_l_cask : Stmt := topS 26
theorem sc_l_cask : FnScope ["_law_script", "_law_place", "_law_cell"] ["_law_script", "_law_place"] (defScope s_l_cask) := ⟨rfl, rfl, rfl, by decide +kernel, rfl, by decide +kernel, by decide +kernel⟩
abbrev s_l_tap : Stmt := topS 27
theorem sc_l_tap : FnScope ["_law_cask_here", "_law_many", "_law_drawn", "_law_mixed"] ["_law_cask_here", "_law_many"] (defScope s_l_tap) := ⟨rfl, rfl, rfl, by decide +kernel, rfl, by decide +kernel, by decide +kernel⟩
abbrev s_l_alike : Stmt := topS 28
theorem sc_l_alike : FnScope ["_law_told_here", "_law_due", "_law_here", "_law_there"] ["_law_told_here", "_law_due"] (defScope s_l_alike) := ⟨rfl, rfl, rfl, by decide +kernel, rfl, by decide +kernel, by decide +kernel⟩
abbrev s_l_around : Stmt := topS 29
theorem sc_l_around : FnScope ["_law_n", "_law_m"] ["_law_n", "_law_m"] (defScope s_l_around) := ⟨rfl, rfl, rfl, by decide +kernel, rfl, by decide +kernel, by decide +kernel⟩
abbrev s_l_mat : Stmt := topS 30
theorem sc_l_mat : FnScope ["_law_cask_here", "_law_n", "_law_m", "_law_leaning", "_law_mates", "_law_waiting", "_law_at", "_law_peg", "_law_opens", "_law_mate"] ["_law_cask_here", "_law_n", "_law_m"] (defScope s_l_mat) := ⟨rfl, rfl, rfl, by decide +kernel, rfl, by decide +kernel, by decide +kernel⟩
abbrev s_l_sizes : Stmt := topS 31
theorem sc_l_sizes : FnScope ["_law_cask_here", "_law_most", "_law_half", "_law_way", "_law_above"] ["_law_cask_here", "_law_most"] (defScope s_l_sizes) := ⟨rfl, rfl, rfl, by decide +kernel, rfl, by decide +kernel, by decide +kernel⟩
abbrev s_l_spots : Stmt := topS 32
theorem sc_l_spots : FnScope ["_law_n", "_law_m", "_law_round_about", "_law_below", "_law_gap"] ["_law_n", "_law_m"] (defScope s_l_spots) := ⟨rfl, rfl, rfl, by decide +kernel, rfl, by decide +kernel, by decide +kernel⟩
abbrev s_l_bars : Stmt := topS 33
theorem sc_l_bars : FnScope ["_law_mat_here", "_law_order", "_law_found", "_law_p", "_law_q", "_law_ends"] ["_law_mat_here"] (defScope s_l_bars) := ⟨rfl, rfl, rfl, by decide +kernel, rfl, by decide +kernel, by decide +kernel⟩
abbrev s_l_rooms : Stmt := topS 35
theorem sc_l_rooms : FnScope ["_law_mat_here", "_law_above", "_law_below", "_law_bars_here", "_law_table", "_law_spot", "_law_group", "_law_found", "_law_up", "_law_bar", "_law_gap", "_law_one"] ["_law_mat_here"] (defScope s_l_rooms) := ⟨rfl, rfl, rfl, by decide +kernel, rfl, by decide +kernel, by decide +kernel⟩
abbrev s_l_cut : Stmt := topS 36
theorem sc_l_cut : FnScope ["_law_mat_here", "_law_peg", "_law_above", "_law_below", "_law_numbers", "_law_p"] ["_law_mat_here", "_law_peg"] (defScope s_l_cut) := ⟨rfl, rfl, rfl, by decide +kernel, rfl, by decide +kernel, by decide +kernel⟩
abbrev s_l_told : Stmt := topS 37
theorem sc_l_told : FnScope ["_law_cask_here", "_law_mat_here"] ["_law_cask_here", "_law_mat_here"] (defScope s_l_told) := ⟨rfl, rfl, rfl, by decide +kernel, rfl, by decide +kernel, by decide +kernel⟩
abbrev s_l_asked : Stmt := topS 38
theorem sc_l_asked : FnScope ["_law_cask_here", "_law_mat_here", "_law_peg", "_law_found", "_law_caught", "_law_thing", "e"] ["_law_cask_here", "_law_mat_here", "_law_peg"] (defScope s_l_asked) := ⟨rfl, rfl, rfl, by decide +kernel, rfl, by decide +kernel, by decide +kernel⟩
abbrev s_law : Stmt := topS 39
theorem sc_law : FnScope ["_law_script", "_law_place", "_law_cask_here", "_law_n", "_law_m", "_law_mat_here", "_law_turn", "_law_peg", "_law_due", "_law_told_here"] ["_law_script"] (defScope s_law) := ⟨rfl, rfl, rfl, by decide +kernel, rfl, by decide +kernel, by decide +kernel⟩
section
variable {P : Program} {w : World} {K : PySem.W.Frag} {mg : Str → Option Value} {base : Heap}
theorem ok_round_about {f : Addr} {fd : FuncData} (F : Fun K "round_about" "round_about" s_round_about f fd) (m_list : mg "list" = none) (m_range : mg "range" = none) : FnOk P w K mg base CX0 1 f fd ["n", "m"] (toSp K MM.spRound) := by
  have sc := sc_round_about
  refine fn_pp F sc (fun pvs m q h => ?_) (fun cdv A outer s H E hr pvs m q h => ?_)
  · obtain ⟨_, _, rfl, _⟩ := h
    rfl
  obtain ⟨u, d, rfl, rfl, hu0, hu1, hd0, hd1, kq⟩ := h
  change WSs _ _ [_, _] [] _
  refine wss_one ?_
  refine ws_retF ?_
  refine wf_cat ?_
  refine wv_we ?_
  refine we_wf ?_
  refine wf_listRg1 rfl m_list m_range ?_
  refine we_name 0 rfl (.inl rfl) rfl ?_
  refine ⟨_, rfl, RgOk.of_le (by omega) (by omega) (by omega) (by omega), ?_⟩
  refine wv_we ?_
  refine we_wf ?_
  refine wf_listRg3 rfl m_list m_range ?_
  refine we_sub ?_
  refine we_add ?_
  refine we_name 0 rfl (.inl rfl) rfl ?_
  refine we_name 1 rfl (.inl rfl) rfl ?_
  refine ⟨_, _, rfl, rfl, ?_⟩
  refine we_int ?_
  refine ⟨_, _, rfl, rfl, ?_⟩
  refine we_sub ?_
  refine we_name 0 rfl (.inl rfl) rfl ?_
  refine we_int ?_
  refine ⟨_, _, rfl, rfl, ?_⟩
  refine we_neg ?_
  refine we_int ?_
  refine ⟨_, rfl, ?_⟩
  refine ⟨_, _, _, _, rfl, rfl, rfl, RgC.neg (by omega) (by omega) (by omega) (by omega), by omega, ?_⟩
  refine ⟨_, _, rfl, rfl, szl (by rw [rgD_len, rgD3_len]; omega), ?_⟩
  refine ⟨Nat.zero_le _, .inr (.inr ⟨_, _, rfl, Nat.le_refl _, rfl, ?_⟩)⟩
  rw [MM.ringI_data]
  exact kq
end
section
variable {P : Program} {w : World} {K : PySem.W.Frag} {mg : Str → Option Value} {base : Heap}
theorem ok_p_are_mates {f : Addr} {fd : FuncData} (F : Fun K "_are_mates" "_are_mates" s_p_are_mates f fd) (m_len : mg "len" = none) (m_all : mg "all" = none) (m_enumerate : mg "enumerate" = none) : FnOk P w K mg base CX0 1 f fd ["mates"] (toSp K MM.spAre) := by
  have sc := sc_p_are_mates
  refine fn_pp F sc (fun pvs m q h => ?_) (fun cdv A outer s H E hr pvs m q h => ?_)
  · obtain ⟨_, rfl, _⟩ := h
    rfl
  obtain ⟨ns, rfl, rfl, hl, kq⟩ := h
  have hlm : (ns.map PyData.int).length = ns.length := List.length_map ..
  change WSs _ _ [_, _, _, _] [] _
  refine wss_cons ?_
  refine ws_set 1 sc.nd rfl (.inr rfl) ?_
  refine we_len m_len ?_
  refine wv_name 0 rfl (.inr (.inl rfl)) rfl ?_
  refine ⟨_, rfl, ?_⟩
  change WSs _ _ [_, _, _, _] [] _
  refine wss_one ?_
  refine ws_ret ?_
  refine we_all rfl m_all ?_
  refine wv_we ?_
  refine we_wf ?_
  refine wf_lc [("peg", 2), ("mate", 3)] (.tp [2, 3]) rfl sc.nd (blkOk_by (own := [("peg", 2), ("mate", 3)]) (N := ["mates", "many", "peg", "mate"]) (by rfl)) (fun _ _ _ _ _ => pg_tp2 sc.nd rfl (.inl rfl) (.inr rfl) rfl (.inl rfl) (.inr rfl)) (by decide) ?_
  refine wi_enumT m_enumerate ?_
  refine we_name 0 rfl (.inr (.inl rfl)) rfl ?_
  refine ⟨_, rfl, ?_⟩
  refine lcP (szl (by (first | omega | (rw [rgD_len]; omega) | (rw [rgD3_len]; omega) | (simp only [List.length_append, List.length_cons, List.length_nil, List.length_set, List.length_map, List.length_range, rgD_len, rgD3_len, enD_len]; omega) | omega | decide))) trivial (fun i => .bool (MM.matesAt ns i)) (fun i x hx => ?_) ?_
  ·
    obtain ⟨y, hy, rfl⟩ := enD_get hx
    obtain ⟨v, hv, rfl⟩ : ∃ v : Int, ns[i]? = some v ∧ y = .int v := by
      rw [List.getElem?_map] at hy
      cases e : ns[i]? with
      | none => rw [e] at hy; cases hy
      | some v => rw [e] at hy; exact ⟨v, rfl, (Option.some.inj hy).symm⟩
    have hd : ns.getD i 0 = v := by rw [List.getD_eq_getElem?_getD, hv, Option.getD_some]
    refine ⟨_, rfl, ?_⟩
    intro sb Hb Cb clb fpb
    apply VE.use
    ·
      apply ve_and
      ·
        intro Q hQ
        apply VE.use
        ·
          apply ve_chain op_le op_lt (by rfl)
          ·
            intro Q hQ
            refine we_int ?_
            exact hQ
          ·
            intro Q hQ
            refine we_name 3 rfl (.inl rfl) rfl ?_
            exact hQ
          intro hg2
          intro Q hQ
          refine we_name 1 rfl (by first | exact .inr (.inl rfl) | exact .inr (.inr rfl)) rfl ?_
          exact hQ
        exact hQ
      intro hg1
      simp only [Bool.and_eq_true, decide_eq_true_eq] at hg1
      rw [hlm] at hg1
      apply ve_and
      ·
        intro Q hQ
        refine we_neI ?_
        refine we_name 3 rfl (.inl rfl) rfl ?_
        refine we_name 2 rfl (.inl rfl) rfl ?_
        refine ⟨_, _, rfl, rfl, ?_⟩
        exact hQ
      intro hg3
      apply ve_one
      intro Q hQ
      refine we_eqI ?_
      refine we_ix ?_
      refine wv_name 0 rfl (by first | exact .inr (.inl rfl) | exact .inr (.inr rfl)) rfl ?_
      refine we_name 3 rfl (.inl rfl) rfl ?_
      refine ⟨_, _, _, rfl, rfl, atI_ints hg1.1 hg1.2, ?_⟩
      refine we_name 2 rfl (.inl rfl) rfl ?_
      refine ⟨_, _, rfl, rfl, ?_⟩
      exact hQ
    refine ⟨?_, rfl⟩
    unfold MM.matesAt
    rw [hd, hlm]
  refine ⟨(List.range ns.length).map (MM.matesAt ns), by rw [enD_len, hlm, List.map_map]; rfl, ?_⟩
  exact ⟨Nat.zero_le _, .inl ⟨_, rfl, kq⟩⟩
end
section
variable {P : Program} {w : World} {K : PySem.W.Frag} {mg : Str → Option Value} {base : Heap}
theorem ok_p_none_cross {f : Addr} {fd : FuncData} (F : Fun K "_none_cross" "_none_cross" s_p_none_cross f fd) {f_round_about : Addr} {fd_round_about : FuncData} (F_round_about : FnOk P w K mg base CX0 1 f_round_about fd_round_about ["n", "m"] (toSp K MM.spRound)) (m_round_about : mg "round_about" = some (.ref f_round_about)) (k_round_about : PySem.W.keepIn K (.ref f_round_about) = true) (b_round_about : Binds K fd_round_about ["n", "m"] []) : FnOk P w K mg base CX0 2 f fd ["n", "m", "mates"] (toSp K MM.spNone) := by
  have sc := sc_p_none_cross
  refine fn_pp F sc (fun pvs m q h => ?_) (fun cdv A outer s H E hr pvs m q h => ?_)
  · first | (obtain ⟨_, _, rfl, _⟩ := h; rfl) | (obtain ⟨_, _, _, rfl, _⟩ := h; rfl) | (obtain ⟨_, _, _, _, rfl, _⟩ := h; rfl) | (obtain ⟨_, _, _, _, _, rfl, _⟩ := h; rfl) | (obtain ⟨_, _, _, _, _, _, rfl, _⟩ := h; rfl) | (obtain ⟨_, rfl, _⟩ := h; rfl)
  obtain ⟨u, d, ns, rfl, rfl, hu0, hu1, hd0, hd1, hl, kq⟩ := h
  have hlm : (ns.map PyData.int).length = ns.length := List.length_map ..
  have hrl := MM.ringI_len hu0 hd0
  change WSs _ _ [_, _, _, _, _] [] _
  refine wss_cons ?_
  refine ws_setF 3 sc.nd rfl (.inl rfl) ?_
  refine wf_lst ?_
  refine wd_nil ?_
  refine ⟨szl (by simp), ?_⟩
  change WSs _ _ [_, _, _, _, _] [_] _
  refine wss_cons ?_
  refine ws_for PassesOwn.never rfl ?_
  refine wi_new ?_
  refine wf_call [] F_round_about (hr.mono (by omega)) m_round_about k_round_about b_round_about ?_
  refine wa_d ?_
  refine we_name 0 rfl (.inl rfl) rfl ?_
  refine wa_d ?_
  refine we_name 1 rfl (.inl rfl) rfl ?_
  refine wa_nil ?_
  refine ⟨by decide, by (simp [setAll_len, setAll_nil]), by (simp [refsIn, setAll_len, setAll_nil, permL]), _, _, rfl, rfl, hu0, hu1, hd0, hd1, [], _, rfl, rfl, rfl, ?_⟩
  refine ⟨fun i L m => ∃ y4, L = [some (.d (.int u)), some (.d (.int d)), some (.d (.tuple (ns.map .int))), some (.ref 0), y4] ∧ i ≤ (MM.ringI u d).length ∧ m = [some (.lst ((MM.stkR (MM.mu ns) (MM.ringI u d) i).reverse.map .int))] ∧ (MM.stkR (MM.mu ns) (MM.ringI u d) i).length ≤ i, ?_, fun i x L m hx hI => ?_, fun L m hI => ?_⟩
  ·
    exact ⟨none, rfl, Nat.zero_le _, by rw [MM.stkR_zero]; rfl, by rw [MM.stkR_zero]; exact Nat.le_refl _⟩
  ·
    obtain ⟨y4, rfl, hi, rfl, hsl⟩ := hI
    obtain ⟨p, hp, rfl⟩ : ∃ p : Int, (MM.ringI u d)[i]? = some p ∧ x = .int p := by
      rw [List.getElem?_map] at hx
      cases e : (MM.ringI u d)[i]? with
      | none => rw [e] at hx; cases hx
      | some v => rw [e] at hx; exact ⟨v, rfl, (Option.some.inj hx).symm⟩
    have hpm := (MM.ringI_mem hu0 hd0).mp (List.mem_of_getElem? hp)
    have hi1 : i < (MM.ringI u d).length := (List.getElem?_eq_some_iff.mp hp).1
    have hst := MM.stkR_succ (mu := MM.mu ns) hp
    generalize hS : MM.stkR (MM.mu ns) (MM.ringI u d) i = S at *
    refine ⟨trivial, ?_⟩
    refine wg_name 4 sc.nd rfl (.inl rfl) ?_
    change WSs _ _ [_, _, _, _, _] [_] _
    refine wss_one ?_
    refine ws_if ?_
    apply VT.use
    ·
      apply VW.vt
      apply vw_and
      ·
        intro Q hQ
        refine wt_truth ?_
        refine wv_name 3 rfl (.inl rfl) rfl ?_
        refine ⟨_, rfl, ?_⟩
        exact hQ
      intro hg1
      apply vw_and1
      intro Q hQ
      refine wt_eqI ?_
      refine we_ix ?_
      refine wv_name 3 rfl (.inl rfl) rfl ?_
      refine we_neg ?_
      refine we_int ?_
      refine ⟨_, rfl, ?_⟩
      refine ⟨_, _, _, rfl, rfl, MM.atI_top (fun z => by rw [z] at hg1; simp at hg1), ?_⟩
      refine we_ix ?_
      refine wv_name 2 rfl (.inl rfl) rfl ?_
      refine we_name 4 rfl (.inl rfl) rfl ?_
      refine ⟨_, _, _, rfl, rfl, atI_ints hpm.1 (by omega), ?_⟩
      refine ⟨_, _, rfl, rfl, ?_⟩
      exact hQ
    refine ⟨fun hif1 => ?_, fun hif1 => ?_⟩
    ·
      obtain ⟨t, r, rfl⟩ : ∃ t r, S = t :: r := by
        cases S with
        | nil => simp at hif1
        | cons t r => exact ⟨t, r, rfl⟩
      have htm : t = MM.mu ns p := of_decide_eq_true (Bool.and_eq_true_iff.mp hif1).2
      have hst2 : MM.stkR (MM.mu ns) (MM.ringI u d) (i + 1) = r := by
        rw [hst]
        show (if t = MM.mu ns p then r else p :: t :: r) = r
        rw [if_pos htm]
      change WSs _ _ [_, _, _, _, _] [_] _
      refine wss_one ?_
      refine ws_expr ?_
      refine we_pop ?_
      refine wv_name 3 rfl (.inl rfl) rfl ?_
      refine ⟨_, _, rfl, rfl, ?_⟩
      refine ⟨_, .int t, rfl, MM.top_get, ?_⟩
      rw [MM.top_drop]
      first
      | exact ⟨_, _, .same (by (repeat (first | exact WkL.nil | refine WkL.kd ?_ | (refine WkL.kr ?_ ?_; focus (simp [setAll_len, setAll_nil]; done)) | refine WkL.kw ?_ | refine WkL.drop ?_))) (by simp), _, rfl, by omega, by rw [hst2]; rfl, by rw [hst2]; rw [List.length_cons] at hsl; omega⟩
      | exact ⟨_, _, .same (by (repeat (first | exact WkL.nil | refine WkL.kd ?_ | (refine WkL.kr ?_ ?_; focus (simp [setAll_len, setAll_nil]; done)) | refine WkL.kw ?_ | refine WkL.drop ?_))) (by simp), _, rfl, by omega, by rw [hst2, List.reverse_cons, List.map_append]; rfl, by rw [hst2, List.length_cons]; omega⟩
    ·
      have hst2 : MM.stkR (MM.mu ns) (MM.ringI u d) (i + 1) = p :: S := by
        rw [hst]
        cases S with
        | nil => rfl
        | cons t r =>
          show (if t = MM.mu ns p then r else p :: t :: r) = p :: t :: r
          rw [if_neg]
          intro e
          rw [Bool.and_eq_false_iff] at hif1
          rcases hif1 with h | h
          · simp at h
          · exact of_decide_eq_false h e
      change WSs _ _ [_, _, _, _, _] [_] _
      refine wss_one ?_
      refine ws_expr ?_
      refine we_append ?_
      refine wv_name 3 rfl (.inl rfl) rfl ?_
      refine ⟨_, _, rfl, rfl, ?_⟩
      refine we_name 4 rfl (.inl rfl) rfl ?_
      refine ⟨_, rfl, szlt (by rw [List.length_map, List.length_reverse]; omega), ?_⟩
      first
      | exact ⟨_, _, .same (by (repeat (first | exact WkL.nil | refine WkL.kd ?_ | (refine WkL.kr ?_ ?_; focus (simp [setAll_len, setAll_nil]; done)) | refine WkL.kw ?_ | refine WkL.drop ?_))) (by simp), _, rfl, by omega, by rw [hst2]; rfl, by rw [hst2]; rw [List.length_cons] at hsl; omega⟩
      | exact ⟨_, _, .same (by (repeat (first | exact WkL.nil | refine WkL.kd ?_ | (refine WkL.kr ?_ ?_; focus (simp [setAll_len, setAll_nil]; done)) | refine WkL.kw ?_ | refine WkL.drop ?_))) (by simp), _, rfl, by omega, by rw [hst2, List.reverse_cons, List.map_append]; rfl, by rw [hst2, List.length_cons]; omega⟩
  rw [show ((MM.ringI u d).map PyData.int).length = (MM.ringI u d).length from List.length_map ..] at hI
  obtain ⟨y4, rfl, hi, rfl, hsl⟩ := hI
  refine ⟨trivial, ?_⟩
  change WSs _ _ [_, _, _, _, _] [_] _
  refine wss_one ?_
  refine ws_ret ?_
  refine we_notL ?_
  refine wv_name 3 rfl (.inl rfl) rfl ?_
  refine ⟨_, rfl, ?_⟩
  refine ⟨Nat.zero_le _, .inl ⟨_, rfl, ?_⟩⟩
  rw [MM.rev_empty]
  exact kq
end
section
variable {P : Program} {w : World} {K : PySem.W.Frag} {mg : Str → Option Value} {base : Heap}
theorem ok_is_mat {f : Addr} {fd : FuncData} (F : Fun K "is_mat" "is_mat" s_is_mat f fd) {f__are_mates : Addr} {fd__are_mates : FuncData} (F__are_mates : FnOk P w K mg base CX0 1 f__are_mates fd__are_mates ["mates"] (toSp K MM.spAre)) (m__are_mates : mg "_are_mates" = some (.ref f__are_mates)) (k__are_mates : PySem.W.keepIn K (.ref f__are_mates) = true) (b__are_mates : Binds K fd__are_mates ["mates"] []) {f__none_cross : Addr} {fd__none_cross : FuncData} (F__none_cross : FnOk P w K mg base CX0 2 f__none_cross fd__none_cross ["n", "m", "mates"] (toSp K MM.spNone)) (m__none_cross : mg "_none_cross" = some (.ref f__none_cross)) (k__none_cross : PySem.W.keepIn K (.ref f__none_cross) = true) (b__none_cross : Binds K fd__none_cross ["n", "m", "mates"] []) (m_len : mg "len" = none) : FnOk P w K mg base CX0 3 f fd ["told"] (toSp K MM.spIsMat) := by
  have sc := sc_is_mat
  refine fn_pp F sc (fun pvs m q h => ?_) (fun cdv A outer s H E hr pvs m q h => ?_)
  · first | (obtain ⟨_, _, rfl, _⟩ := h; rfl) | (obtain ⟨_, _, _, rfl, _⟩ := h; rfl) | (obtain ⟨_, _, _, _, rfl, _⟩ := h; rfl) | (obtain ⟨_, _, _, _, _, rfl, _⟩ := h; rfl) | (obtain ⟨_, _, _, _, _, _, rfl, _⟩ := h; rfl) | (obtain ⟨_, rfl, _⟩ := h; rfl)
  obtain ⟨u, d, ns, rfl, rfl, hu1, hd1, hl, kq⟩ := h
  have hlm : (ns.map PyData.int).length = ns.length := List.length_map ..
  change WSs _ _ [_, _, _, _] [] _
  refine wss_cons ?_
  refine ws_asg ?_
  refine we_name 0 rfl (.inl rfl) rfl ?_
  refine wg_tup rfl ?_
  refine ⟨_, rfl, rfl, ?_⟩
  refine wgn_cons ?_
  refine wg_name 1 sc.nd rfl (.inl rfl) ?_
  refine wgn_cons ?_
  refine wg_name 2 sc.nd rfl (.inl rfl) ?_
  refine wgn_cons ?_
  refine wg_name 3 sc.nd rfl (.inl rfl) ?_
  refine wgn_nil ?_
  change WSs _ _ [_, _, _, _] [] _
  refine wss_cons ?_
  refine ws_if ?_
  apply VT.use
  ·
    apply VW.vt
    apply vw_or
    ·
      intro Q hQ
      refine wt_lt ?_
      refine we_name 1 rfl (.inl rfl) rfl ?_
      refine we_int ?_
      refine ⟨_, _, rfl, rfl, ?_⟩
      exact hQ
    intro hg1
    apply vw_or
    ·
      intro Q hQ
      refine wt_lt ?_
      refine we_name 2 rfl (.inl rfl) rfl ?_
      refine we_int ?_
      refine ⟨_, _, rfl, rfl, ?_⟩
      exact hQ
    intro hg2
    apply vw_or
    ·
      intro Q hQ
      refine wt_eqI ?_
      refine we_add ?_
      refine we_name 1 rfl (.inl rfl) rfl ?_
      refine we_name 2 rfl (.inl rfl) rfl ?_
      refine ⟨_, _, rfl, rfl, ?_⟩
      refine we_int ?_
      refine ⟨_, _, rfl, rfl, ?_⟩
      exact hQ
    intro hg3
    apply vw_or1
    intro Q hQ
    refine wt_neI ?_
    refine we_len m_len ?_
    refine wv_name 3 rfl (.inl rfl) rfl ?_
    refine ⟨_, rfl, ?_⟩
    refine we_add ?_
    refine we_name 1 rfl (.inl rfl) rfl ?_
    refine we_name 2 rfl (.inl rfl) rfl ?_
    refine ⟨_, _, rfl, rfl, ?_⟩
    refine ⟨_, _, rfl, rfl, ?_⟩
    exact hQ
  refine ⟨fun hif1 => ?_, fun hif1 => ?_⟩
  ·
    change WSs _ _ [_, _, _, _] [] _
    refine wss_one ?_
    refine ws_ret ?_
    refine we_bool ?_
    rw [hlm] at hif1
    have e : MM.isMatB u d ns = false := by unfold MM.isMatB; rw [hif1]; rfl
    rw [e] at kq
    exact ⟨Nat.zero_le _, .inl ⟨_, rfl, kq⟩⟩
  ·
    rw [hlm] at hif1
    have hB : MM.isMatB u d ns = (MM.matesOk ns && (MM.stkR (MM.mu ns) (MM.ringI u d) (MM.ringI u d).length).isEmpty) := by unfold MM.isMatB; rw [hif1]; rfl
    simp only [Bool.or_eq_false_iff, decide_eq_false_iff_not, Bool.not_eq_false', decide_eq_true_eq] at hif1
    obtain ⟨h1, h2, h3, h4⟩ := hif1
    refine wss_nil ?_
    change WSs _ _ [_, _, _, _] [] _
    refine wss_one ?_
    refine ws_ret ?_
    apply VE.use
    ·
      apply ve_and
      ·
        intro Q hQ
        refine we_call [] F__are_mates (hr.mono (by omega)) m__are_mates k__are_mates b__are_mates ?_
        refine wa_d ?_
        refine we_name 3 rfl (.inl rfl) rfl ?_
        refine wa_nil ?_
        refine ⟨by decide, by (simp [setAll_len, setAll_nil]), by (simp [refsIn, setAll_len, setAll_nil, permL]), _, rfl, rfl, by omega, _, rfl, rfl, ?_⟩
        exact hQ
      intro hg4
      apply ve_one
      intro Q hQ
      refine we_call [] F__none_cross (hr.mono (by omega)) m__none_cross k__none_cross b__none_cross ?_
      refine wa_d ?_
      refine we_name 1 rfl (.inl rfl) rfl ?_
      refine wa_d ?_
      refine we_name 2 rfl (.inl rfl) rfl ?_
      refine wa_d ?_
      refine we_name 3 rfl (.inl rfl) rfl ?_
      refine wa_nil ?_
      refine ⟨by decide, by (simp [setAll_len, setAll_nil]), by (simp [refsIn, setAll_len, setAll_nil, permL]), _, _, _, rfl, rfl, by omega, hu1, by omega, hd1, h4, _, rfl, rfl, ?_⟩
      exact hQ
    rw [hB] at kq
    exact ⟨Nat.zero_le _, .inl ⟨_, rfl, kq⟩⟩
end
section
variable {P : Program} {w : World} {K : PySem.W.Frag} {mg : Str → Option Value} {base : Heap}
theorem ok_check_mat {f : Addr} {fd : FuncData} (F : Fun K "check_mat" "check_mat" s_check_mat f fd) {f_is_mat : Addr} {fd_is_mat : FuncData} (F_is_mat : FnOk P w K mg base CX0 3 f_is_mat fd_is_mat ["told"] (toSp K MM.spIsMat)) (m_is_mat : mg "is_mat" = some (.ref f_is_mat)) (k_is_mat : PySem.W.keepIn K (.ref f_is_mat) = true) (b_is_mat : Binds K fd_is_mat ["told"] []) : FnOk P w K mg base CX0 4 f fd ["mat"] (toSp K MM.spCheck) := by
  have sc := sc_check_mat
  refine fn_pp F sc (fun pvs m q h => ?_) (fun cdv A outer s H E hr pvs m q h => ?_)
  · first | (obtain ⟨_, _, rfl, _⟩ := h; rfl) | (obtain ⟨_, _, _, rfl, _⟩ := h; rfl) | (obtain ⟨_, _, _, _, rfl, _⟩ := h; rfl) | (obtain ⟨_, _, _, _, _, rfl, _⟩ := h; rfl) | (obtain ⟨_, _, _, _, _, _, rfl, _⟩ := h; rfl) | (obtain ⟨_, rfl, _⟩ := h; rfl)
  obtain ⟨u, d, ns, rfl, rfl, hu1, hd1, hl, hb, kq⟩ := h
  change WSs _ _ [_] [] _
  refine wss_one ?_
  refine ws_if ?_
  refine wt_not ?_
  refine wt_val ?_
  refine we_call [] F_is_mat (hr.mono (by omega)) m_is_mat k_is_mat b_is_mat ?_
  refine wa_d ?_
  refine we_name 0 rfl (.inl rfl) rfl ?_
  refine wa_nil ?_
  refine ⟨by decide, by (simp [setAll_len, setAll_nil]), by (simp [refsIn, setAll_len, setAll_nil, permL]), u, d, ns, rfl, rfl, hu1, hd1, hl, _, rfl, rfl, ?_⟩
  refine ⟨_, rfl, ?_⟩
  refine ⟨fun hif1 => ?_, fun hif1 => ?_⟩
  ·
    rw [hb] at hif1
    cases hif1 --done
  ·
    refine wss_nil ?_
    exact ⟨Nat.zero_le _, .inl ⟨_, rfl, kq⟩⟩
end
section
variable {P : Program} {w : World} {K : PySem.W.Frag} {mg : Str → Option Value} {base : Heap}
theorem ok_p_strings {f : Addr} {fd : FuncData} (F : Fun K "_strings" "_strings" s_p_strings f fd) (m_enumerate : mg "enumerate" = none) : FnOk P w K mg base CX0 1 f fd ["mat"] (toSp K MM.spStr) := by
  have sc := sc_p_strings
  refine fn_pp F sc (fun pvs m q h => ?_) (fun cdv A outer s H E hr pvs m q h => ?_)
  · obtain ⟨_, _, _, rfl, _⟩ := h
    rfl
  obtain ⟨u, d, ns, rfl, rfl, hl, kq⟩ := h
  have hlm : (ns.map PyData.int).length = ns.length := List.length_map ..
  change WSs _ _ [_, _, _] [] _
  refine wss_one ?_
  refine ws_retF ?_
  refine wf_lc1 [("peg", 1), ("mate", 2)] (.tp [1, 2]) rfl sc.nd (blkOk_by (own := [("peg", 1), ("mate", 2)]) (N := ["mat", "peg", "mate"]) (by rfl)) (fun _ _ _ _ _ => pg_tp2 sc.nd rfl (.inl rfl) (.inr rfl) rfl (.inl rfl) (.inr rfl)) (by decide) ?_
  refine wi_enumT m_enumerate ?_
  refine we_ix ?_
  refine wv_name 0 rfl (.inl rfl) rfl ?_
  refine we_int ?_
  refine ⟨_, _, _, rfl, rfl, rfl, ?_⟩
  refine ⟨_, rfl, ?_⟩
  refine ⟨szl (by rw [enD_len, hlm]; omega), fun i ys m => m = [] ∧ ys = (MM.strI ns i).map MM.nPair, ?_, fun i x ys m hx hy hI => ?_, fun ys m hy hI => ?_⟩
  ·
    exact ⟨rfl, rfl⟩
  ·
    obtain ⟨rfl, rfl⟩ := hI
    obtain ⟨y, hy2, rfl⟩ := enD_get hx
    obtain ⟨v, hv, rfl⟩ := ints_get hy2
    have hd : ns.getD i 0 = v := by rw [List.getD_eq_getElem?_getD, hv, Option.getD_some]
    refine ⟨trivial, _, rfl, ?_⟩
    intro sb Hb Cb clb fpb
    refine wt_lt ?_
    refine we_name 1 rfl (.inl rfl) rfl ?_
    refine we_name 2 rfl (.inl rfl) rfl ?_
    refine ⟨_, _, rfl, rfl, ?_⟩
    refine ⟨fun hlcif1 => ?_, fun hlcif1 => ?_⟩
    ·
      intro sb Hb Cb clb fpb
      refine we_tup ?_
      refine wd_cons ?_
      refine we_name 1 rfl (.inl rfl) rfl ?_
      refine wd_cons ?_
      refine we_name 2 rfl (.inl rfl) rfl ?_
      refine wd_nil ?_
      refine ⟨szl (by simp), ?_⟩
      refine ⟨rfl, ?_⟩
      rw [MM.strI_yes (by rw [hd]; exact of_decide_eq_true hlcif1), List.map_append, hd]
      rfl
    ·
      refine ⟨rfl, ?_⟩
      rw [MM.strI_no (by rw [hd]; exact of_decide_eq_false hlcif1)]
  obtain ⟨rfl, rfl⟩ := hI
  rw [enD_len, hlm]
  refine ⟨trivial, ?_⟩
  exact ⟨Nat.zero_le _, .inr (.inr ⟨_, _, rfl, Nat.le_refl _, rfl, kq⟩)⟩
end
section
variable {P : Program} {w : World} {K : PySem.W.Frag} {mg : Str → Option Value} {base : Heap}
theorem ok_pairs_moved {f : Addr} {fd : FuncData} (F : Fun K "pairs_moved" "pairs_moved" s_pairs_moved f fd) {f__strings : Addr} {fd__strings : FuncData} (F__strings : FnOk P w K mg base CX0 1 f__strings fd__strings ["mat"] (toSp K MM.spStr)) (m__strings : mg "_strings" = some (.ref f__strings)) (k__strings : PySem.W.keepIn K (.ref f__strings) = true) (b__strings : Binds K fd__strings ["mat"] []) : FnOk P w K mg base CX0 2 f fd ["mat", "places"] (toSp K MM.spMoved) := by
  have sc := sc_pairs_moved
  refine fn_pp F sc (fun pvs m q h => ?_) (fun cdv A outer s H E hr pvs m q h => ?_)
  · obtain ⟨_, _, _, _, rfl, _⟩ := h
    rfl
  obtain ⟨u, d, ns, pl, rfl, rfl, hl, hpl, hz, kq⟩ := h
  have hsl : ((MM.strI ns ns.length).map MM.nPair).length ≤ 200000 := by rw [List.length_map]; exact Nat.le_trans MM.strI_len hl
  change WSs _ _ [_, _, _, _] [] _
  refine wss_one ?_
  refine ws_retF ?_
  refine wf_lc [("peg", 2), ("mate", 3)] (.tp [2, 3]) rfl sc.nd (blkOk_by (own := [("peg", 2), ("mate", 3)]) (N := ["mat", "places", "peg", "mate"]) (by rfl)) (fun _ _ _ _ _ => pg_tp2 sc.nd rfl (.inl rfl) (.inr rfl) rfl (.inl rfl) (.inr rfl)) (by decide) ?_
  refine wi_new ?_
  refine wf_call [] F__strings (hr.mono (by omega)) m__strings k__strings b__strings ?_
  refine wa_d ?_
  refine we_name 0 rfl (.inl rfl) rfl ?_
  refine wa_nil ?_
  refine ⟨by decide, by (simp [setAll_len, setAll_nil]), by (simp [refsIn, setAll_len, setAll_nil, permL]), u, d, ns, rfl, rfl, hl, [], _, rfl, rfl, rfl, ?_⟩
  refine lcP (szl (by (first | omega | (rw [rgD_len]; omega) | (rw [rgD3_len]; omega) | (simp only [List.length_append, List.length_cons, List.length_nil, List.length_set, List.length_map, List.length_range, rgD_len, rgD3_len, enD_len]; omega) | omega | decide))) trivial (fun i => MM.nPair (pl.getD ((MM.strI ns ns.length).getD i (0, 0)).1.toNat 0, pl.getD ((MM.strI ns ns.length).getD i (0, 0)).2.toNat 0)) (fun i x hx => ?_) ?_
  ·
    obtain ⟨p, hp, rfl⟩ := MM.map_get hx
    obtain ⟨j, hj, hj2, e⟩ := MM.strI_mem.mp (List.mem_of_getElem? hp)
    have hzj := hz _ (mem_getD hj (d := 0))
    have hgp : (MM.strI ns ns.length).getD i (0, 0) = p := by rw [List.getD_eq_getElem?_getD, hp, Option.getD_some]
    rw [hgp]
    subst e
    refine ⟨_, rfl, ?_⟩
    intro sb Hb Cb clb fpb
    refine we_tup ?_
    refine wd_cons ?_
    refine we_ix ?_
    refine wv_name 1 rfl (by first | exact .inr (.inl rfl) | exact .inr (.inr rfl)) rfl ?_
    refine we_name 2 rfl (.inl rfl) rfl ?_
    refine ⟨_, _, _, rfl, rfl, atI_ints (by omega) (by omega), ?_⟩
    refine wd_cons ?_
    refine we_ix ?_
    refine wv_name 1 rfl (by first | exact .inr (.inl rfl) | exact .inr (.inr rfl)) rfl ?_
    refine we_name 3 rfl (.inl rfl) rfl ?_
    refine ⟨_, _, _, rfl, rfl, atI_ints (by omega) (by omega), ?_⟩
    refine wd_nil ?_
    refine ⟨szl (by simp), ?_⟩
    exact ⟨rfl, rfl⟩
  refine ⟨Nat.zero_le _, .inr (.inr ⟨_, _, rfl, Nat.le_refl _, rfl, ?_⟩)⟩
  have e9 : (List.range ((MM.strI ns ns.length).map MM.nPair).length).map (fun i : Nat => MM.nPair (pl.getD ((MM.strI ns ns.length).getD i (0, 0)).1.toNat 0, pl.getD ((MM.strI ns ns.length).getD i (0, 0)).2.toNat 0)) = ((MM.strI ns ns.length).map fun p => (pl.getD p.1.toNat 0, pl.getD p.2.toNat 0)).map MM.nPair := by
    rw [List.length_map, List.map_map]
    refine List.ext_getElem (by simp) fun i h1 h2 => ?_
    simp at h1
    simp [List.getD_eq_getElem?_getD, List.getElem?_eq_getElem h1]
  rw [e9]
  exact kq
end
section
variable {P : Program} {w : World} {K : PySem.W.Frag} {mg : Str → Option Value} {base : Heap}
theorem ok_mat_of_pairs {f : Addr} {fd : FuncData} (F : Fun K "mat_of_pairs" "mat_of_pairs" s_mat_of_pairs f fd) (m_tuple : mg "tuple" = none) : FnOk P w K mg base CX0 1 f fd ["n", "m", "pairs"] (toSp K MM.spOf) := by
  have sc := sc_mat_of_pairs
  refine fn_pp F sc (fun pvs m q h => ?_) (fun cdv A outer s H E hr pvs m q h => ?_)
  · first | (obtain ⟨_, _, rfl, _⟩ := h; rfl) | (obtain ⟨_, _, _, rfl, _⟩ := h; rfl) | (obtain ⟨_, _, _, _, rfl, _⟩ := h; rfl) | (obtain ⟨_, _, _, _, _, rfl, _⟩ := h; rfl) | (obtain ⟨_, _, _, _, _, _, rfl, _⟩ := h; rfl) | (obtain ⟨_, rfl, _⟩ := h; rfl)
  obtain ⟨u, d, prs, rfl, rfl, hu0, hu1, hd0, hd1, hnd, hin, kq⟩ := h
  change WSs _ _ [_, _, _, _, _, _] [] _
  refine wss_cons ?_
  refine ws_setF 3 sc.nd rfl (.inl rfl) ?_
  refine wf_rep ?_
  refine wv_we ?_
  refine we_wf ?_
  refine wf_lst ?_
  refine wd_cons ?_
  refine we_int ?_
  refine wd_nil ?_
  refine ⟨szl (by simp), ?_⟩
  refine we_add ?_
  refine we_name 0 rfl (.inl rfl) rfl ?_
  refine we_name 1 rfl (.inl rfl) rfl ?_
  refine ⟨_, _, rfl, rfl, ?_⟩
  refine ⟨_, _, rfl, rfl, by omega, by omega, szl (by simp; omega), ?_⟩
  change WSs _ _ [_, _, _, _, _, _] [_] _
  refine wss_cons ?_
  refine ws_for PassesOwn.never rfl ?_
  refine wi_list ?_
  refine wv_name 2 rfl (.inl rfl) rfl ?_
  refine ⟨_, rfl, ?_⟩
  refine ⟨fun i L m => ∃ (ns : List Int) (y4 y5 : Option PV), L = [some (.d (.int u)), some (.d (.int d)), some (.d (.list (prs.map MM.nPair))), some (.ref 0), y4, y5] ∧ m = [some (.lst (ns.map .int))] ∧ (ns.length : Int) = u + d ∧ MM.Row (prs.take i) ns, ?_, fun i x L m hx hI => ?_, fun L m hI => ?_⟩
  ·
    exact ⟨List.replicate (u + d).toNat 0, none, none, rfl, by rw [rep_ints], by rw [List.length_replicate]; omega, MM.row_nil⟩
  ·
    obtain ⟨ns, y4, y5, rfl, rfl, hl, hrow⟩ := hI
    obtain ⟨p, hp, rfl⟩ := MM.map_get hx
    have hpm := List.mem_of_getElem? hp
    have a1 := hin _ (MM.mem_ends.mpr ⟨p, hpm, .inl rfl⟩)
    have a2 := hin _ (MM.mem_ends.mpr ⟨p, hpm, .inr rfl⟩)
    have hnext := MM.row_next hl hnd hin hp hrow
    refine ⟨rfl, ?_⟩
    refine wg_tup rfl ?_
    refine ⟨_, rfl, rfl, ?_⟩
    refine wgn_cons ?_
    refine wg_name 4 sc.nd rfl (.inl rfl) ?_
    refine wgn_cons ?_
    refine wg_name 5 sc.nd rfl (.inl rfl) ?_
    refine wgn_nil ?_
    change WSs _ _ [_, _, _, _, _, _] [_] _
    refine wss_cons ?_
    refine ws_asg ?_
    refine we_name 5 rfl (.inl rfl) rfl ?_
    refine wg_sub ?_
    refine wv_name 3 rfl (.inl rfl) rfl ?_
    refine we_name 4 rfl (.inl rfl) rfl ?_
    refine ⟨_, _, _, _, rfl, rfl, rfl, ixN_of a1.1 (by rw [List.length_map]; omega), ?_⟩
    change WSs _ _ [_, _, _, _, _, _] [_] _
    refine wss_one ?_
    refine ws_asg ?_
    refine we_name 4 rfl (.inl rfl) rfl ?_
    refine wg_sub ?_
    refine wv_name 3 rfl (.inl rfl) rfl ?_
    refine we_name 5 rfl (.inl rfl) rfl ?_
    refine ⟨_, _, _, _, rfl, rfl, rfl, ixN_of a2.1 (by rw [List.length_set, List.length_map]; omega), ?_⟩
    exact ⟨_, _, .same (by (repeat (first | exact WkL.nil | refine WkL.kd ?_ | (refine WkL.kr ?_ ?_; focus (simp [setAll_len, setAll_nil]; done)) | refine WkL.kw ?_ | refine WkL.drop ?_))) (by simp), _, _, _, rfl, by simp [List.map_set], by simpa using hl, hnext⟩
  obtain ⟨ns, y4, y5, rfl, rfl, hl, hrow⟩ := hI
  rw [List.length_map, List.take_length] at hrow
  refine ⟨rfl, ?_⟩
  change WSs _ _ [_, _, _, _, _, _] [_] _
  refine wss_one ?_
  refine ws_ret ?_
  refine we_tup ?_
  refine wd_cons ?_
  refine we_name 0 rfl (.inl rfl) rfl ?_
  refine wd_cons ?_
  refine we_name 1 rfl (.inl rfl) rfl ?_
  refine wd_cons ?_
  refine we_tuple1 m_tuple ?_
  refine wv_name 3 rfl (.inl rfl) rfl ?_
  refine ⟨_, rfl, ?_⟩
  refine wd_nil ?_
  refine ⟨szl (by simp), ?_⟩
  exact ⟨Nat.zero_le _, .inl ⟨_, rfl, kq ns hl hrow⟩⟩
end
section
variable {P : Program} {w : World} {K : PySem.W.Frag} {mg : Str → Option Value} {base : Heap}
theorem ok_p_upside_down {f : Addr} {fd : FuncData} (F : Fun K "_upside_down" "_upside_down" s_p_upside_down f fd) {f_mat_of_pairs : Addr} {fd_mat_of_pairs : FuncData} (F_mat_of_pairs : FnOk P w K mg base CX0 1 f_mat_of_pairs fd_mat_of_pairs ["n", "m", "pairs"] (toSp K MM.spOf)) (m_mat_of_pairs : mg "mat_of_pairs" = some (.ref f_mat_of_pairs)) (k_mat_of_pairs : PySem.W.keepIn K (.ref f_mat_of_pairs) = true) (b_mat_of_pairs : Binds K fd_mat_of_pairs ["n", "m", "pairs"] []) {f_pairs_moved : Addr} {fd_pairs_moved : FuncData} (F_pairs_moved : FnOk P w K mg base CX0 2 f_pairs_moved fd_pairs_moved ["mat", "places"] (toSp K MM.spMoved)) (m_pairs_moved : mg "pairs_moved" = some (.ref f_pairs_moved)) (k_pairs_moved : PySem.W.keepIn K (.ref f_pairs_moved) = true) (b_pairs_moved : Binds K fd_pairs_moved ["mat", "places"] []) (m_list : mg "list" = none) (m_range : mg "range" = none) : FnOk P w K mg base CX0 3 f fd ["mat"] (toSp K (MM.spMove MM.flipP true)) := by
  have sc := sc_p_upside_down
  refine fn_pp F sc (fun pvs m q h => ?_) (fun cdv A outer s H E hr pvs m q h => ?_)
  · obtain ⟨_, _, _, rfl, _⟩ := h
    rfl
  obtain ⟨u, d, ns, rfl, rfl, hu1, hd1, hl, hb, kq⟩ := h
  obtain ⟨hu0, hd0, h0, hnl, hok, _⟩ := MM.isMat_parts hb
  have hzn : ∀ z ∈ ns, 0 ≤ z ∧ z < ns.length := fun z hz => by
    obtain ⟨i, hi, rfl⟩ := List.getElem_of_mem hz
    obtain ⟨a1, a2, a3, a4⟩ := MM.matesAt_iff.mp (hok i hi)
    rw [List.getD_eq_getElem?_getD, List.getElem?_eq_getElem hi, Option.getD_some] at a1 a2
    exact ⟨a1, a2⟩
  change WSs _ _ [_, _, _, _, _] [] _
  refine wss_cons ?_
  refine ws_asg ?_
  refine we_name 0 rfl (.inl rfl) rfl ?_
  refine wg_tup rfl ?_
  refine ⟨_, rfl, rfl, ?_⟩
  refine wgn_cons ?_
  refine wg_name 1 sc.nd rfl (.inl rfl) ?_
  refine wgn_cons ?_
  refine wg_name 2 sc.nd rfl (.inl rfl) ?_
  refine wgn_cons ?_
  refine wg_name 3 sc.nd rfl (.inl rfl) ?_
  refine wgn_nil ?_
  change WSs _ _ [_, _, _, _, _] [] _
  refine wss_cons ?_
  refine ws_set 4 sc.nd rfl (.inl rfl) ?_
  refine we_wf ?_
  refine wf_cat ?_
  refine wv_we ?_
  refine we_wf ?_
  refine wf_listRg2 rfl m_list m_range ?_
  refine we_name 2 rfl (.inl rfl) rfl ?_
  refine we_add ?_
  refine we_name 2 rfl (.inl rfl) rfl ?_
  refine we_name 1 rfl (.inl rfl) rfl ?_
  refine ⟨_, _, rfl, rfl, ?_⟩
  refine ⟨_, _, rfl, rfl, RgOk.of_le (by omega) (by omega) (by omega) (by omega), ?_⟩
  refine wv_we ?_
  refine we_wf ?_
  refine wf_listRg1 rfl m_list m_range ?_
  refine we_name 2 rfl (.inl rfl) rfl ?_
  refine ⟨_, rfl, RgOk.of_le (by omega) (by omega) (by omega) (by omega), ?_⟩
  refine ⟨_, _, rfl, rfl, szl (by simp only [rgD_len, rgD3_len]; omega), ?_⟩
  rw [MM.upL_data]
  change WSs _ _ [_, _, _, _, _] [] _
  refine wss_one ?_
  refine ws_ret ?_
  refine we_call [] F_mat_of_pairs (hr.mono (by omega)) m_mat_of_pairs k_mat_of_pairs b_mat_of_pairs ?_
  refine wa_d ?_
  refine we_name 2 rfl (.inl rfl) rfl ?_
  refine wa_d ?_
  refine we_name 1 rfl (.inl rfl) rfl ?_
  refine wa_d ?_
  refine we_wf ?_
  refine wf_call [] F_pairs_moved (hr.mono (by omega)) m_pairs_moved k_pairs_moved b_pairs_moved ?_
  refine wa_d ?_
  refine we_name 0 rfl (.inl rfl) rfl ?_
  refine wa_d ?_
  refine we_name 4 rfl (.inl rfl) rfl ?_
  refine wa_nil ?_
  obtain ⟨e1, e2, e3⟩ := MM.moved_ok (f := MM.flipP u d) (pl := MM.upL u d) hb (fun x a b => MM.upL_at hu0 hd0 a b) (fun x a b y c e z => by unfold MM.flipP at z; split at z <;> split at z <;> omega) (fun x a b => by unfold MM.flipP; split <;> omega)
  have hpl := MM.upL_len hu0 hd0
  refine ⟨by decide, by (simp [setAll_len, setAll_nil]), by (simp [refsIn, setAll_len, setAll_nil, permL]), u, d, ns, MM.upL u d, rfl, rfl, hl, by omega, hzn, [], _, rfl, rfl, rfl, ?_⟩
  rw [e1]
  refine wa_nil ?_
  refine ⟨by decide, by (simp [setAll_len, setAll_nil]), by (simp [refsIn, setAll_len, setAll_nil, permL]), d, u, _, rfl, rfl, by omega, by omega, by omega, by omega, e2, fun x hx => by have := e3 x hx; omega, fun ks hkl hrow => ⟨_, rfl, rfl, ?_⟩⟩
  exact ⟨Nat.zero_le _, .inl ⟨_, rfl, kq ks (by omega) (MM.moved_row hb hrow)⟩⟩
end
section
variable {P : Program} {w : World} {K : PySem.W.Frag} {mg : Str → Option Value} {base : Heap}
theorem ok_upside_down {f : Addr} {fd : FuncData} (F : Fun K "upside_down" "upside_down" s_upside_down f fd) {f_check_mat : Addr} {fd_check_mat : FuncData} (F_check_mat : FnOk P w K mg base CX0 4 f_check_mat fd_check_mat ["mat"] (toSp K MM.spCheck)) (m_check_mat : mg "check_mat" = some (.ref f_check_mat)) (k_check_mat : PySem.W.keepIn K (.ref f_check_mat) = true) (b_check_mat : Binds K fd_check_mat ["mat"] []) {f__upside_down : Addr} {fd__upside_down : FuncData} (F__upside_down : FnOk P w K mg base CX0 3 f__upside_down fd__upside_down ["mat"] (toSp K (MM.spMove MM.flipP true))) (m__upside_down : mg "_upside_down" = some (.ref f__upside_down)) (k__upside_down : PySem.W.keepIn K (.ref f__upside_down) = true) (b__upside_down : Binds K fd__upside_down ["mat"] []) : FnOk P w K mg base CX0 5 f fd ["mat"] (toSp K (MM.spMove MM.flipP true)) := by
  have sc := sc_upside_down
  refine fn_pp F sc (fun pvs m q h => ?_) (fun cdv A outer s H E hr pvs m q h => ?_)
  · obtain ⟨_, _, _, rfl, _⟩ := h
    rfl
  obtain ⟨u, d, ns, rfl, rfl, hu1, hd1, hl, hb, kq⟩ := h
  obtain ⟨hu0, hd0, h0, hnl, hok, _⟩ := MM.isMat_parts hb
  have hzn : ∀ z ∈ ns, 0 ≤ z ∧ z < ns.length := fun z hz => by
    obtain ⟨i, hi, rfl⟩ := List.getElem_of_mem hz
    obtain ⟨a1, a2, a3, a4⟩ := MM.matesAt_iff.mp (hok i hi)
    rw [List.getD_eq_getElem?_getD, List.getElem?_eq_getElem hi, Option.getD_some] at a1 a2
    exact ⟨a1, a2⟩
  change WSs _ _ [_] [] _
  refine wss_cons ?_
  refine ws_expr ?_
  refine we_call [] F_check_mat (hr.mono (by omega)) m_check_mat k_check_mat b_check_mat ?_
  refine wa_d ?_
  refine we_name 0 rfl (.inl rfl) rfl ?_
  refine wa_nil ?_
  refine ⟨by decide, by (simp [setAll_len, setAll_nil]), by (simp [refsIn, setAll_len, setAll_nil, permL]), u, d, ns, rfl, rfl, hu1, hd1, hl, hb, _, rfl, rfl, ?_⟩
  change WSs _ _ [_] [] _
  refine wss_one ?_
  refine ws_ret ?_
  refine we_call [] F__upside_down (hr.mono (by omega)) m__upside_down k__upside_down b__upside_down ?_
  refine wa_d ?_
  refine we_name 0 rfl (.inl rfl) rfl ?_
  refine wa_nil ?_
  refine ⟨by decide, by (simp [setAll_len, setAll_nil]), by (simp [refsIn, setAll_len, setAll_nil, permL]), u, d, ns, rfl, rfl, hu1, hd1, hl, hb, fun ks hkl hrow => ⟨_, rfl, rfl, ?_⟩⟩
  exact ⟨Nat.zero_le _, .inl ⟨_, rfl, kq ks hkl hrow⟩⟩
end
section
variable {P : Program} {w : World} {K : PySem.W.Frag} {mg : Str → Option Value} {base : Heap}
theorem ok_p_string_of {f : Addr} {fd : FuncData} (F : Fun K "_string_of" "_string_of" s_p_string_of f fd) (m_min : mg "min" = none) (m_max : mg "max" = none) : FnOk P w K mg base CX0 1 f fd ["mat", "peg"] (toSp K JJ.spStrF) := by
  have sc := sc_p_string_of
  refine fn_pp F sc (fun pvs m q h => ?_) (fun cdv A outer s H E hr pvs m q h => ?_)
  · obtain ⟨_, _, _, _, rfl, _⟩ := h
    rfl
  obtain ⟨u, d, ns, p, rfl, rfl, hp0, hp1, kq⟩ := h
  change WSs _ _ [_, _, _] [] _
  refine wss_cons ?_
  refine ws_set 2 sc.nd rfl (.inl rfl) ?_
  refine we_ix ?_
  refine wv_we ?_
  refine we_ix ?_
  refine wv_name 0 rfl (.inl rfl) rfl ?_
  refine we_int ?_
  refine ⟨_, _, _, rfl, rfl, rfl, ?_⟩
  refine we_name 1 rfl (.inl rfl) rfl ?_
  refine ⟨_, _, _, rfl, rfl, atI_ints (by omega) (by omega), ?_⟩
  rw [show ns.getD p.toNat 0 = MM.mu ns p from rfl]
  change WSs _ _ [_, _, _] [] _
  refine wss_one ?_
  refine ws_ret ?_
  refine we_tup ?_
  refine wd_cons ?_
  refine we_min2 rfl m_min ?_
  refine we_name 1 rfl (.inl rfl) rfl ?_
  refine we_name 2 rfl (.inl rfl) rfl ?_
  refine ⟨_, _, rfl, rfl, ?_⟩
  refine wd_cons ?_
  refine we_max2 rfl m_max ?_
  refine we_name 1 rfl (.inl rfl) rfl ?_
  refine we_name 2 rfl (.inl rfl) rfl ?_
  refine ⟨_, _, rfl, rfl, ?_⟩
  refine wd_nil ?_
  refine ⟨szl (by simp), ?_⟩
  exact ⟨Nat.zero_le _, .inl ⟨_, rfl, kq⟩⟩
end
section
variable {P : Program} {w : World} {K : PySem.W.Frag} {mg : Str → Option Value} {base : Heap}
theorem ok_p_round {f : Addr} {fd : FuncData} (F : Fun K "_round" "_round" s_p_round f fd) {f_round_about : Addr} {fd_round_about : FuncData} (F_round_about : FnOk P w K mg base CX0 1 f_round_about fd_round_about ["n", "m"] (toSp K MM.spRound)) (m_round_about : mg "round_about" = some (.ref f_round_about)) (k_round_about : PySem.W.keepIn K (.ref f_round_about) = true) (b_round_about : Binds K fd_round_about ["n", "m"] []) {f__string_of : Addr} {fd__string_of : FuncData} (F__string_of : FnOk P w K mg base CX0 1 f__string_of fd__string_of ["mat", "peg"] (toSp K JJ.spStrF)) (m__string_of : mg "_string_of" = some (.ref f__string_of)) (k__string_of : PySem.W.keepIn K (.ref f__string_of) = true) (b__string_of : Binds K fd__string_of ["mat", "peg"] []) (m_len : mg "len" = none) : FnOk P w K mg base CX0 2 f fd ["mat"] (toSp K JJ.spRoundF) := by
  have sc := sc_p_round
  refine fn_pp F sc (fun pvs m q h => ?_) (fun cdv A outer s H E hr pvs m q h => ?_)
  · obtain ⟨_, _, _, rfl, _⟩ := h
    rfl
  obtain ⟨u, d, ns, rfl, rfl, hM, hud, kq⟩ := h
  have F := JJ.fc_of hM
  have hu0 := F.u0
  have hd0 := F.d0
  have h00 := F.h0
  have hln := F.len
  have hrl := F.rl
  have hfN : (JJ.fN u d : Int) = u + d := by unfold JJ.fN; omega
  change WSs _ _ [_, _, _, _, _, _, _] [] _
  refine wss_cons ?_
  refine ws_par3 1 2 3 rfl sc.nd rfl rfl rfl (by decide) (by decide) (by decide) rfl rfl rfl ?_
  refine wa_d ?_
  refine we_int ?_
  refine wa_cons ?_
  refine wv_wf ?_
  refine wf_lst ?_
  refine wd_cons ?_
  refine we_int ?_
  refine wd_nil ?_
  refine ⟨szl (by simp), ?_⟩
  refine wa_cons ?_
  refine wv_wf ?_
  refine wf_lst ?_
  refine wd_cons ?_
  refine we_tup ?_
  refine wd_cons ?_
  refine we_tup ?_
  refine wd_nil ?_
  refine ⟨szl (by simp), ?_⟩
  refine wd_cons ?_
  refine we_int ?_
  refine wd_nil ?_
  refine ⟨szl (by simp), ?_⟩
  refine wd_nil ?_
  refine ⟨szl (by simp), ?_⟩
  refine wa_nil ?_
  refine ⟨_, _, _, rfl, ?_⟩
  change WSs _ _ [_, _, _, _, _, _, _] [_, _] _
  refine wss_cons ?_
  refine ws_for PassesOwn.never rfl ?_
  refine wi_new ?_
  refine wf_call [] F_round_about (hr.mono (by omega)) m_round_about k_round_about b_round_about ?_
  refine wa_d ?_
  refine we_ix ?_
  refine wv_name 0 rfl (.inl rfl) rfl ?_
  refine we_int ?_
  refine ⟨_, _, _, rfl, rfl, rfl, ?_⟩
  refine wa_d ?_
  refine we_ix ?_
  refine wv_name 0 rfl (.inl rfl) rfl ?_
  refine we_int ?_
  refine ⟨_, _, _, rfl, rfl, rfl, ?_⟩
  refine wa_nil ?_
  refine ⟨by decide, by (simp [setAll_len, setAll_nil]), by (simp [refsIn, setAll_len, setAll_nil, permL]), u, d, rfl, rfl, hu0, by omega, hd0, by omega, [], _, rfl, rfl, rfl, ?_⟩
  refine ⟨fun i L m => ∃ y4 y5 y6, L = [some (.d (MM.matD u d ns)), some (.d (.int (JJ.nmF u d ns i))), some (.ref 0), some (.ref 1), y4, y5, y6] ∧ m = [some (.lst ((List.range (i + 1)).map fun g : Nat => PyData.int (JJ.nmF u d ns g))), some (.lst (JJ.doorsF u d ns i))], ?_, fun i x L m hx hI => ?_, fun L m hI => ?_⟩
  ·
    exact ⟨_, _, _, rfl, rfl⟩
  ·
    obtain ⟨y4, y5, y6, rfl, rfl⟩ := hI
    obtain ⟨p, hp, rfl⟩ := MM.map_get hx
    have hil : i < (MM.ringI u d).length := (List.getElem?_eq_some_iff.mp hp).1
    obtain ⟨p0, p1⟩ := F.in_.mp (List.mem_of_getElem? hp)
    obtain ⟨S, o, hdr, hS1, hS2⟩ := F.door hp
    refine ⟨trivial, ?_⟩
    refine wg_name 4 sc.nd rfl (.inl rfl) ?_
    change WSs _ _ [_, _, _, _, _, _, _] [_, _] _
    refine wss_cons ?_
    refine ws_asg ?_
    refine we_ix ?_
    refine wv_name 3 rfl (.inl rfl) rfl ?_
    refine we_name 1 rfl (.inl rfl) rfl ?_
    refine ⟨_, _, _, rfl, rfl, atI_nat hdr, ?_⟩
    refine wg_tup rfl ?_
    refine ⟨_, rfl, rfl, ?_⟩
    refine wgn_cons ?_
    refine wg_name 5 sc.nd rfl (.inl rfl) ?_
    refine wgn_cons ?_
    refine wg_name 6 sc.nd rfl (.inl rfl) ?_
    refine wgn_nil ?_
    change WSs _ _ [_, _, _, _, _, _, _] [_, _] _
    refine wss_cons ?_
    refine ws_if ?_
    refine wt_inI (by rfl) ?_
    refine we_name 4 rfl (.inl rfl) rfl ?_
    refine we_name 5 rfl (.inl rfl) rfl ?_
    refine ⟨_, S, rfl, .inl rfl, ?_⟩
    refine ⟨fun hif1 => ?_, fun hif1 => ?_⟩
    ·
      obtain ⟨ho, hop⟩ := hS1 (of_decide_eq_true hif1)
      have hds := F.shut hp hop
      rw [ho, ← hds]
      change WSs _ _ [_, _, _, _, _, _, _] [_, _] _
      refine wss_one ?_
      refine ws_set 1 sc.nd rfl (.inl rfl) ?_
      refine we_name 6 rfl (.inl rfl) rfl ?_
      change WSs _ _ [_, _, _, _, _, _, _] [_, _] _
      refine wss_one ?_
      refine ws_expr ?_
      refine we_append ?_
      refine wv_name 2 rfl (.inl rfl) rfl ?_
      refine ⟨_, _, rfl, rfl, ?_⟩
      refine we_name 1 rfl (.inl rfl) rfl ?_
      refine ⟨_, rfl, szlt (by first | (rw [List.length_map, List.length_range]; omega) | (unfold JJ.doorsF; rw [List.length_cons, List.length_map]; have := (JJ.OA_pre (mu := MM.mu ns) (R := MM.ringI u d) (i := i)).length_le; have := F.half; unfold JJ.fK at this; omega)), ?_⟩
      exact ⟨_, _, .same (by (repeat (first | exact WkL.nil | refine WkL.kd ?_ | (refine WkL.kr ?_ ?_; focus (simp [setAll_len, setAll_nil]; done)) | refine WkL.kw ?_ | refine WkL.drop ?_))) (by simp [setAll_len]), _, _, _, rfl, by rw [List.range_succ (n := i + 1), List.map_append]; rfl⟩
    ·
      have hop := hS2 (of_decide_eq_false hif1)
      obtain ⟨hds, hnx⟩ := F.open_ hp hop
      change WSs _ _ [_, _, _, _, _, _, _] [_, _] _
      refine wss_cons ?_
      refine ws_expr ?_
      refine we_append ?_
      refine wv_name 3 rfl (.inl rfl) rfl ?_
      refine ⟨_, _, rfl, rfl, ?_⟩
      refine we_tup ?_
      refine wd_cons ?_
      refine we_call [] F__string_of (hr.mono (by omega)) m__string_of k__string_of b__string_of ?_
      refine wa_d ?_
      refine we_name 0 rfl (.inl rfl) rfl ?_
      refine wa_d ?_
      refine we_name 4 rfl (.inl rfl) rfl ?_
      refine wa_nil ?_
      refine ⟨by decide, by (simp [setAll_len, setAll_nil]), by (simp [refsIn, setAll_len, setAll_nil, permL]), u, d, ns, p, rfl, rfl, p0, by omega, _, rfl, rfl, ?_⟩
      refine wd_cons ?_
      refine we_name 1 rfl (.inl rfl) rfl ?_
      refine wd_nil ?_
      refine ⟨szl (by simp), ?_⟩
      refine ⟨_, rfl, szlt (by first | (rw [List.length_map, List.length_range]; omega) | (unfold JJ.doorsF; rw [List.length_cons, List.length_map]; have := (JJ.OA_pre (mu := MM.mu ns) (R := MM.ringI u d) (i := i)).length_le; have := F.half; unfold JJ.fK at this; omega)), ?_⟩
      change WSs _ _ [_, _, _, _, _, _, _] [_, _] _
      refine wss_one ?_
      refine ws_set 1 sc.nd rfl (.inl rfl) ?_
      refine we_sub ?_
      refine we_len m_len ?_
      refine wv_name 3 rfl (.inl rfl) rfl ?_
      refine ⟨_, rfl, ?_⟩
      refine we_int ?_
      refine ⟨_, _, rfl, rfl, ?_⟩
      dsimp only
      rw [← hnx, ← hds]
      change WSs _ _ [_, _, _, _, _, _, _] [_, _] _
      refine wss_one ?_
      refine ws_expr ?_
      refine we_append ?_
      refine wv_name 2 rfl (.inl rfl) rfl ?_
      refine ⟨_, _, rfl, rfl, ?_⟩
      refine we_name 1 rfl (.inl rfl) rfl ?_
      refine ⟨_, rfl, szlt (by first | (rw [List.length_map, List.length_range]; omega) | (unfold JJ.doorsF; rw [List.length_cons, List.length_map]; have := (JJ.OA_pre (mu := MM.mu ns) (R := MM.ringI u d) (i := i)).length_le; have := F.half; unfold JJ.fK at this; omega)), ?_⟩
      exact ⟨_, _, .same (by (repeat (first | exact WkL.nil | refine WkL.kd ?_ | (refine WkL.kr ?_ ?_; focus (simp [setAll_len, setAll_nil]; done)) | refine WkL.kw ?_ | refine WkL.drop ?_))) (by simp [setAll_len]), _, _, _, rfl, by rw [List.range_succ (n := i + 1), List.map_append]; rfl⟩
  rw [List.length_map, hrl] at hI
  obtain ⟨y4, y5, y6, rfl, rfl⟩ := hI
  refine ⟨trivial, ?_⟩
  change WSs _ _ [_, _, _, _, _, _, _] [_, _] _
  refine wss_one ?_
  refine ws_ret ?_
  refine we_tup ?_
  refine wd_cons ?_
  refine we_kill 2 rfl (.inl rfl) rfl rfl ?_
  refine wd_cons ?_
  refine we_kill 3 rfl (.inl rfl) rfl rfl ?_
  refine wd_nil ?_
  refine ⟨szl (by simp), ?_⟩
  exact ⟨by simp, .inl ⟨_, rfl, by simpa using kq⟩⟩
end
section
variable {P : Program} {w : World} {K : PySem.W.Frag} {mg : Str → Option Value} {base : Heap}
theorem ok_p_places {f : Addr} {fd : FuncData} (F : Fun K "_places" "_places" s_p_places f fd) (m_tuple : mg "tuple" = none) (m_enumerate : mg "enumerate" = none) : FnOk P w K mg base CX0 1 f fd ["row", "number"] (toSp K JJ.spPlacesF) := by
  have sc := sc_p_places
  refine fn_pp F sc (fun pvs m q h => ?_) (fun cdv A outer s H E hr pvs m q h => ?_)
  · obtain ⟨_, _, rfl, _⟩ := h
    rfl
  obtain ⟨is, k, rfl, rfl, hl, kq⟩ := h
  change WSs _ _ [_, _, _, _] [] _
  refine wss_one ?_
  refine ws_ret ?_
  refine we_tuple1 m_tuple ?_
  refine wv_we ?_
  refine we_wf ?_
  refine wf_lc1 [("place", 2), ("other", 3)] (.tp [2, 3]) rfl sc.nd (blkOk_by (own := [("place", 2), ("other", 3)]) (N := ["row", "number", "place", "other"]) (by rfl)) (fun _ _ _ _ _ => pg_tp2 sc.nd rfl (.inl rfl) (.inr rfl) rfl (.inl rfl) (.inr rfl)) (by decide) ?_
  refine wi_enumL m_enumerate ?_
  refine wv_name 0 rfl (.inl rfl) rfl ?_
  refine ⟨_, rfl, ?_⟩
  refine ⟨szl (by rw [enD_len, List.length_map]; omega), fun i ys m => m = [] ∧ ys = ((List.range i).filter fun g => decide (is.getD g 0 = k)).map fun g : Nat => .int g, ?_, fun i x ys m hx hy hI => ?_, fun ys m hy hI => ?_⟩
  ·
    exact ⟨rfl, rfl⟩
  ·
    obtain ⟨rfl, rfl⟩ := hI
    obtain ⟨y, hy, rfl⟩ := enD_get hx
    obtain ⟨z, hz, rfl⟩ := MM.map_get hy
    have hgz : is.getD i 0 = z := by rw [List.getD_eq_getElem?_getD, hz]; rfl
    refine ⟨rfl, _, rfl, ?_⟩
    intro sb Hb Cb clb fpb
    refine wt_eqI ?_
    refine we_name 3 rfl (.inl rfl) rfl ?_
    refine we_name 1 rfl (by first | exact .inr (.inl rfl) | exact .inr (.inr rfl)) rfl ?_
    refine ⟨_, _, rfl, rfl, ?_⟩
    refine ⟨fun hlcif1 => ?_, fun hlcif1 => ?_⟩
    ·
      intro sb Hb Cb clb fpb
      refine we_name 2 rfl (.inl rfl) rfl ?_
      exact ⟨rfl, by rw [List.range_succ, List.filter_append, List.map_append, List.filter_cons, hgz, if_pos hlcif1]; rfl⟩
    ·
      exact ⟨rfl, by rw [List.range_succ, List.filter_append, List.map_append, List.filter_cons, hgz, if_neg (by rw [hlcif1]; decide)]; simp⟩
  rw [enD_len, List.length_map] at hI
  obtain ⟨rfl, rfl⟩ := hI
  refine ⟨rfl, ?_⟩
  refine ⟨_, rfl, ?_⟩
  exact ⟨Nat.zero_le _, .inl ⟨_, rfl, kq⟩⟩
end
section
variable {P : Program} {w : World} {K : PySem.W.Frag} {mg : Str → Option Value} {base : Heap}
theorem ok_p_rows_of_gaps {f : Addr} {fd : FuncData} (F : Fun K "_rows_of_gaps" "_rows_of_gaps" s_p_rows_of_gaps f fd) {f__round : Addr} {fd__round : FuncData} (F__round : FnOk P w K mg base CX0 2 f__round fd__round ["mat"] (toSp K JJ.spRoundF)) (m__round : mg "_round" = some (.ref f__round)) (k__round : PySem.W.keepIn K (.ref f__round) = true) (b__round : Binds K fd__round ["mat"] []) (m_range : mg "range" = none) : FnOk P w K mg base CX0 3 f fd ["mat"] (toSp K JJ.spGapsF) := by
  have sc := sc_p_rows_of_gaps
  refine fn_pp F sc (fun pvs m q h => ?_) (fun cdv A outer s H E hr pvs m q h => ?_)
  · obtain ⟨_, _, _, rfl, _⟩ := h
    rfl
  obtain ⟨u, d, ns, rfl, rfl, hM, hud, kq⟩ := h
  have F := JJ.fc_of hM
  have hu0 := F.u0
  have hd0 := F.d0
  have h00 := F.h0
  have hln := F.len
  have hrl := F.rl
  have hfN : (JJ.fN u d : Int) = u + d := by unfold JJ.fN; omega
  change WSs _ _ [_, _, _, _, _, _] [] _
  refine wss_cons ?_
  refine ws_asg ?_
  refine we_name 0 rfl (.inl rfl) rfl ?_
  refine wg_tup rfl ?_
  refine ⟨_, rfl, rfl, ?_⟩
  refine wgn_cons ?_
  refine wg_name 1 sc.nd rfl (.inr rfl) ?_
  refine wgn_cons ?_
  refine wg_name 2 sc.nd rfl (.inr rfl) ?_
  refine wgn_cons ?_
  refine wg_name 3 sc.nd rfl (.inl rfl) ?_
  refine wgn_nil ?_
  change WSs _ _ [_, _, _, _, _, _] [] _
  refine wss_cons ?_
  refine ws_set 4 sc.nd rfl (.inr rfl) ?_
  refine we_ix ?_
  refine wv_we ?_
  refine we_call [] F__round (hr.mono (by omega)) m__round k__round b__round ?_
  refine wa_d ?_
  refine we_name 0 rfl (.inl rfl) rfl ?_
  refine wa_nil ?_
  refine ⟨by decide, by (simp [setAll_len, setAll_nil]), by (simp [refsIn, setAll_len, setAll_nil, permL]), u, d, ns, rfl, rfl, hM, hud, _, rfl, rfl, ?_⟩
  refine we_int ?_
  refine ⟨_, _, _, rfl, rfl, rfl, ?_⟩
  change WSs _ _ [_, _, _, _, _, _] [] _
  refine wss_one ?_
  refine ws_ret ?_
  refine we_tup ?_
  refine wd_cons ?_
  refine we_wf ?_
  refine wf_slice ?_
  refine wv_name 4 rfl (.inr (.inl rfl)) rfl ?_
  refine wo_none ?_
  refine wo_some ?_
  refine we_add ?_
  refine we_name 1 rfl (.inr (.inl rfl)) rfl ?_
  refine we_int ?_
  refine ⟨_, _, rfl, rfl, ?_⟩
  refine ⟨_, rfl, ?_⟩
  refine ⟨_, rfl, ?_⟩
  rw [F.cut_abv]
  refine wd_cons ?_
  refine we_wf ?_
  refine wf_lc [("gap", 5)] (.nm 5) rfl sc.nd (blkOk_by (own := [("gap", 5)]) (N := ["mat", "n", "m", "_", "numbers", "gap"]) (by rfl)) (fun _ _ _ _ _ => pg_nm sc.nd rfl (.inl rfl) (.inr rfl)) (by decide) ?_
  refine wi_rng1 m_range ?_
  refine we_add ?_
  refine we_name 2 rfl (.inr (.inl rfl)) rfl ?_
  refine we_int ?_
  refine ⟨_, _, rfl, rfl, ?_⟩
  refine ⟨_, rfl, by omega, by omega, ?_⟩
  refine lcP (szl (by (first | omega | (rw [rgD_len]; omega) | (rw [rgD3_len]; omega) | (simp only [List.length_append, List.length_cons, List.length_nil, List.length_set, List.length_map, List.length_range, rgD_len, rgD3_len, enD_len]; omega) | omega | decide))) trivial (fun g => .int (JJ.nmF u d ns (JJ.fN u d - g) : Nat)) (fun i x hx => ?_) ?_
  ·
    obtain ⟨hi, rfl⟩ := rgD_get hx
    refine ⟨_, rfl, ?_⟩
    intro sb Hb Cb clb fpb
    refine we_ix ?_
    refine wv_name 4 rfl (by first | exact .inr (.inl rfl) | exact .inr (.inr rfl)) rfl ?_
    refine we_sub ?_
    refine we_add ?_
    refine we_name 1 rfl (by first | exact .inr (.inl rfl) | exact .inr (.inr rfl)) rfl ?_
    refine we_name 2 rfl (by first | exact .inr (.inl rfl) | exact .inr (.inr rfl)) rfl ?_
    refine ⟨_, _, rfl, rfl, ?_⟩
    refine we_name 5 rfl (.inl rfl) rfl ?_
    refine ⟨_, _, rfl, rfl, ?_⟩
    dsimp only
    rw [show u + d - ((0 : Int) + (i : Int)) = ((JJ.fN u d - i : Nat) : Int) by omega]
    refine ⟨_, _, _, rfl, rfl, atI_nat (by rw [List.getElem?_map, List.getElem?_range (by omega)]; rfl), ?_⟩
    exact ⟨rfl, rfl⟩
  rw [rgD_len, show (d + 1 - 0).toNat = d.toNat + 1 by omega, show ((List.range (d.toNat + 1)).map fun g : Nat => PyData.int (JJ.nmF u d ns (JJ.fN u d - g) : Nat)) = (JJ.blwF u d ns).map .int by unfold JJ.blwF; rw [List.map_map]; rfl]
  refine wd_nil ?_
  refine ⟨szl (by simp), ?_⟩
  exact ⟨Nat.zero_le _, .inl ⟨_, rfl, kq⟩⟩
end
section
variable {P : Program} {w : World} {K : PySem.W.Frag} {mg : Str → Option Value} {base : Heap}
theorem ok_p_rooms {f : Addr} {fd : FuncData} (F : Fun K "_rooms" "_rooms" s_p_rooms f fd) {f__rows_of_gaps : Addr} {fd__rows_of_gaps : FuncData} (F__rows_of_gaps : FnOk P w K mg base CX0 3 f__rows_of_gaps fd__rows_of_gaps ["mat"] (toSp K JJ.spGapsF)) (m__rows_of_gaps : mg "_rows_of_gaps" = some (.ref f__rows_of_gaps)) (k__rows_of_gaps : PySem.W.keepIn K (.ref f__rows_of_gaps) = true) (b__rows_of_gaps : Binds K fd__rows_of_gaps ["mat"] []) {f__places : Addr} {fd__places : FuncData} (F__places : FnOk P w K mg base CX0 1 f__places fd__places ["row", "number"] (toSp K JJ.spPlacesF)) (m__places : mg "_places" = some (.ref f__places)) (k__places : PySem.W.keepIn K (.ref f__places) = true) (b__places : Binds K fd__places ["row", "number"] []) (m_range : mg "range" = none) (m_max : mg "max" = none) : FnOk P w K mg base CX0 4 f fd ["mat"] (toSp K JJ.spRoomsF) := by
  have sc := sc_p_rooms
  refine fn_pp F sc (fun pvs m q h => ?_) (fun cdv A outer s H E hr pvs m q h => ?_)
  · obtain ⟨_, _, _, rfl, _⟩ := h
    rfl
  obtain ⟨u, d, ns, rfl, rfl, hM, hud, kq⟩ := h
  have F := JJ.fc_of hM
  have hu0 := F.u0
  have hd0 := F.d0
  have h00 := F.h0
  have hln := F.len
  have hrl := F.rl
  have hfN : (JJ.fN u d : Int) = u + d := by unfold JJ.fN; omega
  have hab : (JJ.abvF u d ns).length = u.toNat + 1 := by unfold JJ.abvF; rw [List.length_map, List.length_range]
  have hbl : (JJ.blwF u d ns).length = d.toNat + 1 := by unfold JJ.blwF; rw [List.length_map, List.length_range]
  change WSs _ _ [_, _, _, _] [] _
  refine wss_cons ?_
  refine ws_asg ?_
  refine we_call [] F__rows_of_gaps (hr.mono (by omega)) m__rows_of_gaps k__rows_of_gaps b__rows_of_gaps ?_
  refine wa_d ?_
  refine we_name 0 rfl (.inl rfl) rfl ?_
  refine wa_nil ?_
  refine ⟨by decide, by (simp [setAll_len, setAll_nil]), by (simp [refsIn, setAll_len, setAll_nil, permL]), u, d, ns, rfl, rfl, hM, hud, _, rfl, rfl, ?_⟩
  refine wg_tup rfl ?_
  refine ⟨_, rfl, rfl, ?_⟩
  refine wgn_cons ?_
  refine wg_name 1 sc.nd rfl (.inr rfl) ?_
  refine wgn_cons ?_
  refine wg_name 2 sc.nd rfl (.inr rfl) ?_
  refine wgn_nil ?_
  change WSs _ _ [_, _, _, _] [] _
  refine wss_one ?_
  refine ws_retF ?_
  refine wf_lc [("number", 3)] (.nm 3) rfl sc.nd (blkOk_by (own := [("number", 3)]) (N := ["mat", "above", "below", "number"]) (by rfl)) (fun _ _ _ _ _ => pg_nm sc.nd rfl (.inl rfl) (.inr rfl)) (by decide) ?_
  refine wi_rng1 m_range ?_
  refine we_add ?_
  refine we_maxL rfl m_max ?_
  refine wv_we ?_
  refine we_wf ?_
  refine wf_cat ?_
  refine wv_name 1 rfl (.inr (.inl rfl)) rfl ?_
  refine wv_name 2 rfl (.inr (.inl rfl)) rfl ?_
  refine ⟨_, _, rfl, rfl, szl (by rw [List.length_map, List.length_map, hab, hbl]; omega), ?_⟩
  rw [← List.map_append]
  refine ⟨_, rfl, by rw [List.length_append]; omega, fun mx hm1 hm2 => ?_⟩
  obtain rfl : mx = JJ.fK u d ns := Int.le_antisymm (JJ.fc_abv F mx hm1) (hm2 _ (JJ.fc_max F))
  refine we_int ?_
  refine ⟨_, _, rfl, rfl, ?_⟩
  have hK := F.half
  refine ⟨_, rfl, by omega, by omega, ?_⟩
  refine lcP (szl (by (first | omega | (rw [rgD_len]; omega) | (rw [rgD3_len]; omega) | (simp only [List.length_append, List.length_cons, List.length_nil, List.length_set, List.length_map, List.length_range, rgD_len, rgD3_len, enD_len]; omega) | omega | decide))) trivial (JJ.rmD u d ns) (fun i x hx => ?_) ?_
  ·
    obtain ⟨hi, rfl⟩ := rgD_get hx
    rw [show (0 : Int) + (i : Int) = i by omega]
    refine ⟨_, rfl, ?_⟩
    intro sb Hb Cb clb fpb
    refine we_tup ?_
    refine wd_cons ?_
    refine we_call [] F__places (hr.mono (by omega)) m__places k__places b__places ?_
    refine wa_d ?_
    refine we_name 1 rfl (by first | exact .inr (.inl rfl) | exact .inr (.inr rfl)) rfl ?_
    refine wa_d ?_
    refine we_name 3 rfl (.inl rfl) rfl ?_
    refine wa_nil ?_
    refine ⟨by decide, by (simp [setAll_len, setAll_nil]), by (simp [refsIn, setAll_len, setAll_nil, permL]), _, (i : Nat), rfl, rfl, by omega, _, rfl, rfl, ?_⟩
    rw [show ((List.range (JJ.abvF u d ns).length).filter fun g => decide ((JJ.abvF u d ns).getD g 0 = ((i : Nat) : Int))) = JJ.upFc u d ns i from JJ.up_of]
    refine wd_cons ?_
    refine we_call [] F__places (hr.mono (by omega)) m__places k__places b__places ?_
    refine wa_d ?_
    refine we_name 2 rfl (by first | exact .inr (.inl rfl) | exact .inr (.inr rfl)) rfl ?_
    refine wa_d ?_
    refine we_name 3 rfl (.inl rfl) rfl ?_
    refine wa_nil ?_
    refine ⟨by decide, by (simp [setAll_len, setAll_nil]), by (simp [refsIn, setAll_len, setAll_nil, permL]), _, (i : Nat), rfl, rfl, by omega, _, rfl, rfl, ?_⟩
    rw [show ((List.range (JJ.blwF u d ns).length).filter fun g => decide ((JJ.blwF u d ns).getD g 0 = ((i : Nat) : Int))) = JJ.dnF u d ns i from JJ.dn_of]
    refine wd_nil ?_
    refine ⟨szl (by simp), ?_⟩
    exact ⟨rfl, rfl⟩
  rw [rgD_len, show ((JJ.fK u d ns : Int) + 1 - 0).toNat = JJ.fK u d ns + 1 by omega]
  exact ⟨Nat.zero_le _, .inr (.inr ⟨_, _, rfl, Nat.le_refl _, rfl, kq⟩)⟩
end
section
variable {P : Program} {w : World} {K : PySem.W.Frag} {mg : Str → Option Value} {base : Heap}
theorem ok_rooms {f : Addr} {fd : FuncData} (F : Fun K "rooms" "rooms" s_rooms f fd) {f_check_mat : Addr} {fd_check_mat : FuncData} (F_check_mat : FnOk P w K mg base CX0 4 f_check_mat fd_check_mat ["mat"] (toSp K MM.spCheck)) (m_check_mat : mg "check_mat" = some (.ref f_check_mat)) (k_check_mat : PySem.W.keepIn K (.ref f_check_mat) = true) (b_check_mat : Binds K fd_check_mat ["mat"] []) {f__rooms : Addr} {fd__rooms : FuncData} (F__rooms : FnOk P w K mg base CX0 4 f__rooms fd__rooms ["mat"] (toSp K JJ.spRoomsF)) (m__rooms : mg "_rooms" = some (.ref f__rooms)) (k__rooms : PySem.W.keepIn K (.ref f__rooms) = true) (b__rooms : Binds K fd__rooms ["mat"] []) (m_sorted : mg "sorted" = none) : FnOk P w K mg base CX0 5 f fd ["mat"] (toSp K JJ.spRoomsS) := by
  have sc := sc_rooms
  refine fn_pp F sc (fun pvs m q h => ?_) (fun cdv A outer s H E hr pvs m q h => ?_)
  · obtain ⟨_, _, _, rfl, _⟩ := h
    rfl
  obtain ⟨u, d, ns, rfl, rfl, hM, hud, kq⟩ := h
  have F := JJ.fc_of hM
  have hu0 := F.u0
  have hd0 := F.d0
  have h00 := F.h0
  have hln := F.len
  have hrl := F.rl
  have hfN : (JJ.fN u d : Int) = u + d := by unfold JJ.fN; omega
  change WSs _ _ [_] [] _
  refine wss_cons ?_
  refine ws_expr ?_
  refine we_call [] F_check_mat (hr.mono (by omega)) m_check_mat k_check_mat b_check_mat ?_
  refine wa_d ?_
  refine we_name 0 rfl (.inl rfl) rfl ?_
  refine wa_nil ?_
  refine ⟨by decide, by (simp [setAll_len, setAll_nil]), by (simp [refsIn, setAll_len, setAll_nil, permL]), u, d, ns, rfl, rfl, by omega, by omega, by omega, hM, _, rfl, rfl, ?_⟩
  change WSs _ _ [_] [] _
  refine wss_one ?_
  refine ws_retF ?_
  refine wf_sortedD (by (first | exact hr.units | exact units65 hr | exact units1 hr)) m_sorted ?_
  refine wv_we ?_
  refine we_wf ?_
  refine wf_call [] F__rooms (hr.mono (by omega)) m__rooms k__rooms b__rooms ?_
  refine wa_d ?_
  refine we_name 0 rfl (.inl rfl) rfl ?_
  refine wa_nil ?_
  refine ⟨by decide, by (simp [setAll_len, setAll_nil]), by (simp [refsIn, setAll_len, setAll_nil, permL]), u, d, ns, rfl, rfl, hM, hud, [], _, rfl, rfl, rfl, ?_⟩
  refine ⟨_, rfl, JJ.srtOk_rm.1, JJ.srtOk_rm.2.1, JJ.srtOk_rm.2.2, ?_⟩
  exact ⟨Nat.zero_le _, .inr (.inr ⟨_, _, rfl, Nat.le_refl _, rfl, kq⟩)⟩
end
section
variable {P : Program} {w : World} {K : PySem.W.Frag} {mg : Str → Option Value} {base : Heap}
theorem ok_l_cask {f : Addr} {fd : FuncData} (F : Fun K "_law_cask" "_law_cask" s_l_cask f fd) (m_int : mg "int" = none) (m_max : mg "max" = none) (m_len : mg "len" = none) : FnOk P w K mg base CX0 1 f fd ["_law_script", "_law_place"] (toSp K JJ.spCask) := by
  have sc := sc_l_cask
  refine fn_pp F sc (fun pvs m q h => ?_) (fun cdv A outer s H E hr pvs m q h => ?_)
  · obtain ⟨_, _, rfl, _⟩ := h
    rfl
  obtain ⟨ns, i, rfl, rfl, hl, hns, hi, kq⟩ := h
  have hlm : (ns.map PyData.int).length = ns.length := List.length_map ..
  change WSs _ _ [_, _, _] [] _
  refine wss_cons ?_
  refine ws_set 2 sc.nd rfl (.inl rfl) ?_
  refine we_if ?_
  refine wt_lt ?_
  refine we_name 1 rfl (.inl rfl) rfl ?_
  refine we_len m_len ?_
  refine wv_name 0 rfl (.inl rfl) rfl ?_
  refine ⟨_, rfl, ?_⟩
  rw [hlm]
  refine ⟨_, _, rfl, rfl, ?_⟩
  refine ⟨fun hif1 => ?_, fun hif1 => ?_⟩
  ·
    have hlt : i < ns.length := by simpa using hif1
    have hbd : Bd 1048577 (ns[i]) := bits_bd (hns _ (List.getElem_mem _))
    refine we_int1 m_int ?_
    refine we_ix ?_
    refine wv_name 0 rfl (.inl rfl) rfl ?_
    refine we_name 1 rfl (.inl rfl) rfl ?_
    refine ⟨_, _, .int ns[i], rfl, rfl, atI_nat (by rw [List.getElem?_map, List.getElem?_eq_getElem hlt]; rfl), ?_⟩
    refine .inl ⟨_, rfl, ?_⟩
    change WSs _ _ [_, _, _] [] _
    refine wss_one ?_
    refine ws_retF ?_
    refine wf_lst ?_
    refine wd_cons ?_
    refine we_max2 rfl m_max ?_
    refine we_int ?_
    refine we_sub ?_
    refine we_name 2 rfl (.inl rfl) rfl ?_
    refine we_pow ?_
    refine we_int ?_
    refine we_int ?_
    refine ⟨_, _, rfl, rfl, ⟨by decide, by decide⟩, ?_⟩
    refine ⟨_, _, rfl, rfl, ?_⟩
    refine ⟨_, _, rfl, rfl, ?_⟩
    refine wd_cons ?_
    refine we_add ?_
    refine we_add ?_
    refine we_mod ?_
    refine we_int1 m_int ?_
    refine we_name 2 rfl (.inl rfl) rfl ?_
    refine .inl ⟨_, rfl, ?_⟩
    refine we_add ?_
    refine we_pow ?_
    refine we_int ?_
    refine we_int ?_
    refine ⟨_, _, rfl, rfl, ⟨by decide, by decide⟩, ?_⟩
    refine we_int ?_
    refine ⟨_, _, rfl, rfl, ?_⟩
    refine ⟨_, _, rfl, rfl, by decide +kernel, ?_⟩
    refine we_mul ?_
    refine we_int ?_
    refine we_name 1 rfl (.inl rfl) rfl ?_
    refine ⟨_, _, rfl, rfl, cmul_of (j := 27) Bd.lit (Bd.of (k := 20) (by omega) (by omega)), ?_⟩
    refine ⟨_, _, rfl, rfl, ?_⟩
    refine we_int ?_
    refine ⟨_, _, rfl, rfl, ?_⟩
    refine wd_cons ?_
    refine we_int ?_
    refine wd_nil ?_
    refine ⟨szl (by simp), ?_⟩
    exact ⟨Nat.zero_le _, .inr (.inr ⟨_, _, rfl, Nat.le_refl _, rfl, kq _ (JJ.cask_new hbd (by omega))⟩)⟩
  ·
    have hbd : Bd 1048577 (86028121 * (i : Int) + (ns.length : Int)) := (Bd.of (k := 60) (by omega) (by omega)).mono (by decide)
    refine we_add ?_
    refine we_mul ?_
    refine we_int ?_
    refine we_name 1 rfl (.inl rfl) rfl ?_
    refine ⟨_, _, rfl, rfl, cmul_of (j := 27) Bd.lit (Bd.of (k := 20) (by omega) (by omega)), ?_⟩
    refine we_len m_len ?_
    refine wv_name 0 rfl (.inl rfl) rfl ?_
    refine ⟨_, rfl, ?_⟩
    rw [hlm]
    refine ⟨_, _, rfl, rfl, ?_⟩
    change WSs _ _ [_, _, _] [] _
    refine wss_one ?_
    refine ws_retF ?_
    refine wf_lst ?_
    refine wd_cons ?_
    refine we_max2 rfl m_max ?_
    refine we_int ?_
    refine we_sub ?_
    refine we_name 2 rfl (.inl rfl) rfl ?_
    refine we_pow ?_
    refine we_int ?_
    refine we_int ?_
    refine ⟨_, _, rfl, rfl, ⟨by decide, by decide⟩, ?_⟩
    refine ⟨_, _, rfl, rfl, ?_⟩
    refine ⟨_, _, rfl, rfl, ?_⟩
    refine wd_cons ?_
    refine we_add ?_
    refine we_add ?_
    refine we_mod ?_
    refine we_int1 m_int ?_
    refine we_name 2 rfl (.inl rfl) rfl ?_
    refine .inl ⟨_, rfl, ?_⟩
    refine we_add ?_
    refine we_pow ?_
    refine we_int ?_
    refine we_int ?_
    refine ⟨_, _, rfl, rfl, ⟨by decide, by decide⟩, ?_⟩
    refine we_int ?_
    refine ⟨_, _, rfl, rfl, ?_⟩
    refine ⟨_, _, rfl, rfl, by decide +kernel, ?_⟩
    refine we_mul ?_
    refine we_int ?_
    refine we_name 1 rfl (.inl rfl) rfl ?_
    refine ⟨_, _, rfl, rfl, cmul_of (j := 27) Bd.lit (Bd.of (k := 20) (by omega) (by omega)), ?_⟩
    refine ⟨_, _, rfl, rfl, ?_⟩
    refine we_int ?_
    refine ⟨_, _, rfl, rfl, ?_⟩
    refine wd_cons ?_
    refine we_int ?_
    refine wd_nil ?_
    refine ⟨szl (by simp), ?_⟩
    exact ⟨Nat.zero_le _, .inr (.inr ⟨_, _, rfl, Nat.le_refl _, rfl, kq _ (JJ.cask_new hbd (by omega))⟩)⟩
end
section
variable {P : Program} {w : World} {K : PySem.W.Frag} {mg : Str → Option Value} {base : Heap}
theorem ok_l_tap {f : Addr} {fd : FuncData} (F : Fun K "_law_tap" "_law_tap" s_l_tap f fd) (m_int : mg "int" = none) : FnOk P w K mg base CX0 1 f fd ["_law_cask_here", "_law_many"] (toSp K JJ.spNext) := by
  have sc := sc_l_tap
  refine fn_pp F sc (fun pvs m q h => ?_) (fun cdv A outer s H E hr pvs m q h => ?_)
  · first | (obtain ⟨_, _, rfl, _⟩ := h; rfl) | (obtain ⟨_, _, _, rfl, _⟩ := h; rfl) | (obtain ⟨_, _, _, _, rfl, _⟩ := h; rfl) | (obtain ⟨_, _, _, _, _, rfl, _⟩ := h; rfl) | (obtain ⟨_, _, _, _, _, _, rfl, _⟩ := h; rfl) | (obtain ⟨_, rfl, _⟩ := h; rfl)
  obtain ⟨xs, n, lim, rfl, rfl, ⟨a, b, c, rfl, ha0, ha, hb0, hb1, hc0, hc1⟩, hn, hl0, hl1, kq⟩ := h
  change WSs _ _ [_, _, _, _] [_] _
  refine wss_cons ?_
  refine ws_if ?_
  refine wt_gt ?_
  refine we_ix ?_
  refine wv_name 0 rfl (.inl rfl) rfl ?_
  refine we_int ?_
  refine ⟨_, _, _, rfl, rfl, rfl, ?_⟩
  refine we_int ?_
  refine ⟨_, _, rfl, rfl, ?_⟩
  refine ⟨fun hif1 => ?_, fun hif1 => ?_⟩
  ·
    change WSs _ _ [_, _, _, _] [_] _
    refine wss_cons ?_
    refine ws_set 2 sc.nd rfl (.inl rfl) ?_
    refine we_mod ?_
    refine we_int1 m_int ?_
    refine we_ix ?_
    refine wv_name 0 rfl (.inl rfl) rfl ?_
    refine we_int ?_
    refine ⟨_, _, _, rfl, rfl, rfl, ?_⟩
    refine .inl ⟨_, rfl, ?_⟩
    refine we_name 1 rfl (.inl rfl) rfl ?_
    refine ⟨_, _, rfl, rfl, by omega, ?_⟩
    change WSs _ _ [_, _, _, _] [_] _
    refine wss_cons ?_
    refine ws_asg ?_
    refine we_fdiv ?_
    refine we_ix ?_
    refine wv_name 0 rfl (.inl rfl) rfl ?_
    refine we_int ?_
    refine ⟨_, _, _, rfl, rfl, rfl, ?_⟩
    refine we_name 1 rfl (.inl rfl) rfl ?_
    refine ⟨_, _, rfl, rfl, cdiv_of hl0 (Bd.of (Int.le_of_lt hl0) hl1), ?_⟩
    refine wg_sub ?_
    refine wv_name 0 rfl (.inl rfl) rfl ?_
    refine we_int ?_
    refine ⟨_, _, _, _, rfl, rfl, rfl, rfl, ?_⟩
    change WSs _ _ [_, _, _, _] [_] _
    refine wss_one ?_
    refine ws_ret ?_
    refine we_name 2 rfl (.inl rfl) rfl ?_
    exact ⟨Nat.le_refl _, .inl ⟨_, rfl, kq _ _ (Int.emod_nonneg _ (by omega)) (Int.emod_lt_of_pos _ hl0) ⟨_, _, _, rfl, Int.ediv_nonneg ha0 (by omega), ha.div ha0 hl0, hb0, hb1, hc0, by omega⟩⟩⟩
  ·
    have hcc : Bd 31 (c + 1) := Bd.of (by omega) (by omega)
    have hbb : Bd 130 b := Bd.of hb0 hb1
    refine wss_nil ?_
    change WSs _ _ [_, _, _, _] [_] _
    refine wss_cons ?_
    refine ws_asg ?_
    refine we_add ?_
    refine we_ix ?_
    refine wv_name 0 rfl (.inl rfl) rfl ?_
    refine we_int ?_
    refine ⟨_, _, _, rfl, rfl, rfl, ?_⟩
    refine we_int ?_
    refine ⟨_, _, rfl, rfl, ?_⟩
    refine wg_sub ?_
    refine wv_name 0 rfl (.inl rfl) rfl ?_
    refine we_int ?_
    refine ⟨_, _, _, _, rfl, rfl, rfl, rfl, ?_⟩
    change WSs _ _ [_, _, _, _] [_] _
    refine wss_cons ?_
    refine ws_set 3 sc.nd rfl (.inl rfl) ?_
    refine we_mod ?_
    refine we_pow ?_
    refine we_int1 m_int ?_
    refine we_add ?_
    refine we_ix ?_
    refine wv_name 0 rfl (.inl rfl) rfl ?_
    refine we_int ?_
    refine ⟨_, _, _, rfl, rfl, rfl, ?_⟩
    refine we_mul ?_
    refine we_int ?_
    refine we_ix ?_
    refine wv_name 0 rfl (.inl rfl) rfl ?_
    refine we_int ?_
    refine ⟨_, _, _, rfl, rfl, rfl, ?_⟩
    refine ⟨_, _, rfl, rfl, cmul_of (j := 29) Bd.lit hcc, ?_⟩
    refine ⟨_, _, rfl, rfl, ?_⟩
    refine .inl ⟨_, rfl, ?_⟩
    refine we_int ?_
    refine ⟨_, _, rfl, rfl, cpow_of (hbb.add ((Bd.lit (k := 29)).mul hcc)) (by decide) (by decide), ?_⟩
    refine we_add ?_
    refine we_pow ?_
    refine we_int ?_
    refine we_int ?_
    refine ⟨_, _, rfl, rfl, ⟨by decide, by decide⟩, ?_⟩
    refine we_int ?_
    refine ⟨_, _, rfl, rfl, ?_⟩
    refine ⟨_, _, rfl, rfl, by decide +kernel, ?_⟩
    change WSs _ _ [_, _, _, _] [_] _
    refine wss_cons ?_
    refine ws_set 3 sc.nd rfl (.inl rfl) ?_
    refine we_mod ?_
    refine we_pow ?_
    refine we_int1 m_int ?_
    refine we_add ?_
    refine we_name 3 rfl (.inl rfl) rfl ?_
    refine we_mul ?_
    refine we_int ?_
    refine we_ix ?_
    refine wv_name 0 rfl (.inl rfl) rfl ?_
    refine we_int ?_
    refine ⟨_, _, _, rfl, rfl, rfl, ?_⟩
    refine ⟨_, _, rfl, rfl, cmul_of (j := 29) Bd.lit hcc, ?_⟩
    refine ⟨_, _, rfl, rfl, ?_⟩
    refine .inl ⟨_, rfl, ?_⟩
    refine we_int ?_
    refine ⟨_, _, rfl, rfl, cpow_of ((Bd.mod (k := 143) (by decide +kernel) (by decide +kernel)).add ((Bd.lit (k := 29)).mul hcc)) (by decide) (by decide), ?_⟩
    refine we_add ?_
    refine we_pow ?_
    refine we_int ?_
    refine we_int ?_
    refine ⟨_, _, rfl, rfl, ⟨by decide, by decide⟩, ?_⟩
    refine we_int ?_
    refine ⟨_, _, rfl, rfl, ?_⟩
    refine ⟨_, _, rfl, rfl, by decide +kernel, ?_⟩
    change WSs _ _ [_, _, _, _] [_] _
    refine wss_one ?_
    refine ws_ret ?_
    refine we_mod ?_
    refine we_int1 m_int ?_
    refine we_fdiv ?_
    refine we_name 3 rfl (.inl rfl) rfl ?_
    refine we_pow ?_
    refine we_int ?_
    refine we_int ?_
    refine ⟨_, _, rfl, rfl, ⟨by decide, by decide⟩, ?_⟩
    refine ⟨_, _, rfl, rfl, cdiv_of (k := 40) (by decide +kernel) Bd.lit, ?_⟩
    refine .inl ⟨_, rfl, ?_⟩
    refine we_name 1 rfl (.inl rfl) rfl ?_
    refine ⟨_, _, rfl, rfl, by omega, ?_⟩
    exact ⟨Nat.le_refl _, .inl ⟨_, rfl, kq _ _ (Int.emod_nonneg _ (by omega)) (Int.emod_lt_of_pos _ hl0) ⟨_, _, _, rfl, ha0, ha, hb0, hb1, by omega, by omega⟩⟩⟩
end
section
variable {P : Program} {w : World} {K : PySem.W.Frag} {mg : Str → Option Value} {base : Heap}
theorem ok_l_alike {f : Addr} {fd : FuncData} (F : Fun K "_law_alike" "_law_alike" s_l_alike f fd) (m__law_alike : mg "_law_alike" = some (.ref f)) (k__law_alike : PySem.W.keepIn K (.ref f) = true) (b__law_alike : Binds K fd ["_law_told_here", "_law_due"] []) (m_isinstance : mg "isinstance" = none) (m_list : mg "list" = none) (m_tuple : mg "tuple" = none) (m_bool : mg "bool" = none) (m_str : mg "str" = none) (m_int : mg "int" = none) (m_all : mg "all" = none) (m_len : mg "len" = none) (m_zip : mg "zip" = none) : ∀ n : Nat, FnOk P w K mg base CX0 (n + 1) f fd ["_law_told_here", "_law_due"] (toSp K (JJ.spAk n)) := by
  intro n
  induction n using Nat.strongRecOn with
  | _ n ih =>
  have sc := sc_l_alike
  refine fn_pp F sc (fun pvs m q h => ?_) (fun cdv A outer s H E hr pvs m q h => ?_)
  · obtain ⟨_, rfl, _⟩ := h
    rfl
  obtain ⟨d, rfl, rfl, hD, kq⟩ := h
  change WSs _ _ [_, _, _, _] [] _
  refine wss_cons ?_
  refine ws_if ?_
  apply VT.use
  ·
    apply VW.vt
    apply vw_or
    ·
      intro Q hQ
      refine wt_isNone ?_
      refine we_name 0 rfl (.inl rfl) rfl ?_
      refine we_none ?_
      refine ⟨rfl, ?_⟩
      exact hQ
    intro hg1
    apply vw_or1
    intro Q hQ
    refine wt_isNone ?_
    refine we_name 1 rfl (.inl rfl) rfl ?_
    refine we_none ?_
    refine ⟨rfl, ?_⟩
    exact hQ
  refine ⟨fun hif1 => ?_, fun hif1 => ?_⟩
  ·
    change WSs _ _ [_, _, _, _] [] _
    refine wss_one ?_
    refine ws_ret ?_
    apply VE.use
    ·
      apply ve_and
      ·
        intro Q hQ
        refine we_isNone ?_
        refine we_name 0 rfl (.inl rfl) rfl ?_
        refine we_none ?_
        refine ⟨rfl, ?_⟩
        exact hQ
      intro hg2
      apply ve_one
      intro Q hQ
      refine we_isNone ?_
      refine we_name 1 rfl (.inl rfl) rfl ?_
      refine we_none ?_
      refine ⟨rfl, ?_⟩
      exact hQ
    have e1 : isNoneD d = true := by simpa using hif1
    rw [e1]
    exact ⟨Nat.zero_le _, .inl ⟨_, rfl, kq⟩⟩
  ·
    refine wss_nil ?_
    change WSs _ _ [_, _, _, _] [] _
    refine wss_cons ?_
    refine ws_if ?_
    refine wt_val ?_
    refine we_isinst2 (S := "list") (T := "tuple") m_isinstance m_list m_tuple (by decide +kernel) (by decide +kernel) ?_
    refine we_name 1 rfl (.inl rfl) rfl ?_
    refine ⟨_, _, kit_list, kit_tuple, ?_⟩
    refine ⟨_, rfl, ?_⟩
    refine ⟨fun hif2 => ?_, fun hif2 => ?_⟩
    ·
      obtain ⟨j, xs, hnj, hseq, hxl, hxs⟩ := JJ.dl_seq hD hif2
      have F__law_alike := ih j (by omega)
      change WSs _ _ [_, _, _, _] [] _
      refine wss_cons ?_
      refine ws_if ?_
      apply VT.use
      ·
        apply VW.vt
        apply vw_or
        ·
          intro Q hQ
          refine wt_ne (by (first | exact hr.units | exact units65 hr | exact units1 hr)) ?_
          refine we_isinst (T := "list") m_isinstance m_list (by decide +kernel) ?_
          refine we_name 0 rfl (.inl rfl) rfl ?_
          refine ⟨_, kit_list, ?_⟩
          refine we_isinst (T := "list") m_isinstance m_list (by decide +kernel) ?_
          refine we_name 1 rfl (.inl rfl) rfl ?_
          refine ⟨_, kit_list, ?_⟩
          refine ⟨by (first | rfl | assumption), by (first | rfl | assumption), ?_⟩
          exact hQ
        intro hg3
        apply vw_or1
        intro Q hQ
        refine wt_ne (by (first | exact hr.units | exact units65 hr | exact units1 hr)) ?_
        refine we_isinst (T := "tuple") m_isinstance m_tuple (by decide +kernel) ?_
        refine we_name 0 rfl (.inl rfl) rfl ?_
        refine ⟨_, kit_tuple, ?_⟩
        refine we_isinst (T := "tuple") m_isinstance m_tuple (by decide +kernel) ?_
        refine we_name 1 rfl (.inl rfl) rfl ?_
        refine ⟨_, kit_tuple, ?_⟩
        refine ⟨by (first | rfl | assumption), by (first | rfl | assumption), ?_⟩
        exact hQ
      refine ⟨fun hif3 => ?_, fun hif3 => ?_⟩
      ·
        exfalso
        simp [JJ.eqvB] at hif3 --done
      ·
        refine wss_nil ?_
        change WSs _ _ [_, _, _, _] [] _
        refine wss_one ?_
        refine ws_ret ?_
        apply VE.use
        ·
          apply ve_and
          ·
            intro Q hQ
            refine we_eqI ?_
            refine we_len m_len ?_
            refine wv_name 0 rfl (.inl rfl) rfl ?_
            refine ⟨_, seq_of hseq _, ?_⟩
            refine we_len m_len ?_
            refine wv_name 1 rfl (.inl rfl) rfl ?_
            refine ⟨_, seq_of hseq _, ?_⟩
            refine ⟨_, _, rfl, rfl, ?_⟩
            exact hQ
          intro hg4
          apply ve_one
          intro Q hQ
          refine we_all rfl m_all ?_
          refine wv_we ?_
          refine we_wf ?_
          refine wf_lc [("_law_here", 2), ("_law_there", 3)] (.tp [2, 3]) rfl sc.nd (blkOk_by (own := [("_law_here", 2), ("_law_there", 3)]) (N := ["_law_told_here", "_law_due", "_law_here", "_law_there"]) (by rfl)) (fun _ _ _ _ _ => pg_tp2 sc.nd rfl (.inl rfl) (.inr rfl) rfl (.inl rfl) (.inr rfl)) (by decide) ?_
          refine wi_zip m_zip ?_
          refine we_name 0 rfl (.inl rfl) rfl ?_
          refine we_name 1 rfl (.inl rfl) rfl ?_
          have hzl : (zipD xs xs).length ≤ 100000 := by rw [zipD_len]; omega
          refine ⟨xs, xs, hseq.elim (fun e => .inl ⟨e, e⟩) (fun e => .inr ⟨e, e⟩), ?_⟩
          refine lcP (szl (by (first | omega | (rw [rgD_len]; omega) | (rw [rgD3_len]; omega) | (simp only [List.length_append, List.length_cons, List.length_nil, List.length_set, List.length_map, List.length_range, rgD_len, rgD3_len, enD_len]; omega) | omega | decide))) trivial (fun _ => .bool true) (fun i x hx => ?_) ?_
          ·
            obtain ⟨y, z, hy, hz, rfl⟩ := zipD_get hx
            obtain rfl : y = z := Option.some.inj (hy.symm.trans hz)
            have hzi := List.mem_of_getElem? hy
            refine ⟨_, rfl, ?_⟩
            intro sb Hb Cb clb fpb
            refine we_call [] F__law_alike (hr.mono (by omega)) m__law_alike k__law_alike b__law_alike ?_
            refine wa_d ?_
            refine we_name 2 rfl (.inl rfl) rfl ?_
            refine wa_d ?_
            refine we_name 3 rfl (.inl rfl) rfl ?_
            refine wa_nil ?_
            refine ⟨by decide, by (simp [setAll_len, setAll_nil]), by (simp [refsIn, setAll_len, setAll_nil, permL]), _, rfl, rfl, hxs _ hzi, _, rfl, rfl, ?_⟩
            exact ⟨rfl, rfl⟩
          refine ⟨List.replicate (zipD xs xs).length true, by rw [List.map_replicate, List.map_const', List.length_range]; rfl, ?_⟩
          rw [show (List.replicate (zipD xs xs).length true).all id = true from by simp]
          exact hQ
        rw [show (decide ((xs.length : Int) = (xs.length : Int)) && true) = true from by simp]
        exact ⟨Nat.zero_le _, .inl ⟨_, rfl, kq⟩⟩
    ·
      have hno : isNoneD d = false := by simpa using hif1
      obtain ⟨hs, he⟩ := JJ.dq_refl hD hif2
      obtain ⟨h1, _, _⟩ := dq_sc hD.dq hif2
      refine wss_nil ?_
      change WSs _ _ [_, _, _, _] [] _
      refine wss_cons ?_
      refine ws_if ?_
      apply VT.use
      ·
        apply VW.vt
        apply vw_or
        ·
          intro Q hQ
          refine wt_val ?_
          refine we_isinst (T := "bool") m_isinstance m_bool (by decide +kernel) ?_
          refine we_name 1 rfl (.inl rfl) rfl ?_
          refine ⟨_, kit_bool, ?_⟩
          refine ⟨_, rfl, ?_⟩
          exact hQ
        intro hg5
        apply vw_or1
        intro Q hQ
        refine wt_val ?_
        refine we_isinst (T := "bool") m_isinstance m_bool (by decide +kernel) ?_
        refine we_name 0 rfl (.inl rfl) rfl ?_
        refine ⟨_, kit_bool, ?_⟩
        refine ⟨_, rfl, ?_⟩
        exact hQ
      refine ⟨fun hif4 => ?_, fun hif4 => ?_⟩
      ·
        have hst : isT "bool" d = true := by simpa using hif4
        change WSs _ _ [_, _, _, _] [] _
        refine wss_one ?_
        refine ws_ret ?_
        apply VE.use
        ·
          apply ve_and
          ·
            intro Q hQ
            refine we_isinst (T := "bool") m_isinstance m_bool (by decide +kernel) ?_
            refine we_name 1 rfl (.inl rfl) rfl ?_
            refine ⟨_, kit_bool, ?_⟩
            exact hQ
          intro hg6
          apply ve_and
          ·
            intro Q hQ
            refine we_isinst (T := "bool") m_isinstance m_bool (by decide +kernel) ?_
            refine we_name 0 rfl (.inl rfl) rfl ?_
            refine ⟨_, kit_bool, ?_⟩
            exact hQ
          intro hg7
          apply ve_one
          intro Q hQ
          refine we_eq (by (first | exact hr.units | exact units65 hr | exact units1 hr)) ?_
          refine we_name 0 rfl (.inl rfl) rfl ?_
          refine we_name 1 rfl (.inl rfl) rfl ?_
          refine ⟨hs, hs, ?_⟩
          exact hQ
        rw [hst, he]
        exact ⟨Nat.zero_le _, .inl ⟨_, rfl, kq⟩⟩
      ·
        refine wss_nil ?_
        change WSs _ _ [_, _, _, _] [] _
        refine wss_cons ?_
        refine ws_if ?_
        apply VT.use
        ·
          apply VW.vt
          apply vw_or
          ·
            intro Q hQ
            refine wt_val ?_
            refine we_isinst (T := "str") m_isinstance m_str (by decide +kernel) ?_
            refine we_name 1 rfl (.inl rfl) rfl ?_
            refine ⟨_, kit_str, ?_⟩
            refine ⟨_, rfl, ?_⟩
            exact hQ
          intro hg8
          apply vw_or1
          intro Q hQ
          refine wt_val ?_
          refine we_isinst (T := "str") m_isinstance m_str (by decide +kernel) ?_
          refine we_name 0 rfl (.inl rfl) rfl ?_
          refine ⟨_, kit_str, ?_⟩
          refine ⟨_, rfl, ?_⟩
          exact hQ
        refine ⟨fun hif5 => ?_, fun hif5 => ?_⟩
        ·
          have hst : isT "str" d = true := by simpa using hif5
          change WSs _ _ [_, _, _, _] [] _
          refine wss_one ?_
          refine ws_ret ?_
          apply VE.use
          ·
            apply ve_and
            ·
              intro Q hQ
              refine we_isinst (T := "str") m_isinstance m_str (by decide +kernel) ?_
              refine we_name 1 rfl (.inl rfl) rfl ?_
              refine ⟨_, kit_str, ?_⟩
              exact hQ
            intro hg9
            apply ve_and
            ·
              intro Q hQ
              refine we_isinst (T := "str") m_isinstance m_str (by decide +kernel) ?_
              refine we_name 0 rfl (.inl rfl) rfl ?_
              refine ⟨_, kit_str, ?_⟩
              exact hQ
            intro hg10
            apply ve_one
            intro Q hQ
            refine we_eq (by (first | exact hr.units | exact units65 hr | exact units1 hr)) ?_
            refine we_name 0 rfl (.inl rfl) rfl ?_
            refine we_name 1 rfl (.inl rfl) rfl ?_
            refine ⟨hs, hs, ?_⟩
            exact hQ
          rw [hst, he]
          exact ⟨Nat.zero_le _, .inl ⟨_, rfl, kq⟩⟩
        ·
          have hst : isT "int" d = true := by
            cases d <;> first | (simp only [isT, tyD]; decide +kernel) | (exfalso; revert hno; simp [isNoneD]; done) | (exfalso; revert hif5; simp only [isT, tyD]; decide +kernel) | (exfalso; revert hif4; simp only [isT, tyD]; decide +kernel) | (exfalso; simp only [isSc] at h1; cases h1; done)
          refine wss_nil ?_
          change WSs _ _ [_, _, _, _] [] _
          refine wss_one ?_
          refine ws_ret ?_
          apply VE.use
          ·
            apply ve_and
            ·
              intro Q hQ
              refine we_isinst (T := "int") m_isinstance m_int (by decide +kernel) ?_
              refine we_name 1 rfl (.inl rfl) rfl ?_
              refine ⟨_, kit_int, ?_⟩
              exact hQ
            intro hg11
            apply ve_and
            ·
              intro Q hQ
              refine we_isinst (T := "int") m_isinstance m_int (by decide +kernel) ?_
              refine we_name 0 rfl (.inl rfl) rfl ?_
              refine ⟨_, kit_int, ?_⟩
              exact hQ
            intro hg12
            apply ve_one
            intro Q hQ
            refine we_eq (by (first | exact hr.units | exact units65 hr | exact units1 hr)) ?_
            refine we_name 0 rfl (.inl rfl) rfl ?_
            refine we_name 1 rfl (.inl rfl) rfl ?_
            refine ⟨hs, hs, ?_⟩
            exact hQ
          rw [hst, he]
          exact ⟨Nat.zero_le _, .inl ⟨_, rfl, kq⟩⟩
end
section
variable {P : Program} {w : World} {K : PySem.W.Frag} {mg : Str → Option Value} {base : Heap}
theorem ok_l_alike_C {f : Addr} {fd : FuncData} (F : Fun K "_law_alike" "_law_alike" s_l_alike f fd) (F__law_alike : FnOk P w K mg base CX0 4 f fd ["_law_told_here", "_law_due"] (toSp K (JJ.spAk 3))) (m__law_alike : mg "_law_alike" = some (.ref f)) (k__law_alike : PySem.W.keepIn K (.ref f) = true) (b__law_alike : Binds K fd ["_law_told_here", "_law_due"] []) (m_isinstance : mg "isinstance" = none) (m_list : mg "list" = none) (m_tuple : mg "tuple" = none) (m_bool : mg "bool" = none) (m_str : mg "str" = none) (m_int : mg "int" = none) (m_all : mg "all" = none) (m_len : mg "len" = none) (m_zip : mg "zip" = none) : FnOk P w K mg base CX0 5 f fd ["_law_told_here", "_law_due"] (toSp K JJ.spAkC) := by
  have sc := sc_l_alike
  refine fn_pp F sc (fun pvs m q h => ?_) (fun cdv A outer s H E hr pvs m q h => ?_)
  · obtain ⟨_, rfl, _⟩ := h
    rfl
  obtain ⟨xs, rfl, rfl, hxl, hxs, kq⟩ := h
  change WSs _ _ [_, _, _, _] [_] _
  refine wss_cons ?_
  refine ws_if ?_
  apply VT.use
  ·
    apply VW.vt
    apply vw_or
    ·
      intro Q hQ
      refine wt_isNoneV ?_
      refine wv_name 0 rfl (.inl rfl) rfl ?_
      refine ⟨⟨_, rfl⟩, ?_⟩
      refine we_none ?_
      refine ⟨rfl, ?_⟩
      exact hQ
    intro hg1
    apply vw_or1
    intro Q hQ
    refine wt_isNone ?_
    refine we_name 1 rfl (.inl rfl) rfl ?_
    refine we_none ?_
    refine ⟨rfl, ?_⟩
    exact hQ
  refine ⟨fun hif1 => ?_, fun hif1 => ?_⟩
  ·
    exfalso
    simp [isNoneD] at hif1 --done
  ·
    refine wss_nil ?_
    change WSs _ _ [_, _, _, _] [_] _
    refine wss_cons ?_
    refine ws_if ?_
    refine wt_val ?_
    refine we_isinst2 (S := "list") (T := "tuple") m_isinstance m_list m_tuple (by decide +kernel) (by decide +kernel) ?_
    refine we_name 1 rfl (.inl rfl) rfl ?_
    refine ⟨_, _, kit_list, kit_tuple, ?_⟩
    refine ⟨_, rfl, ?_⟩
    refine ⟨fun hif2 => ?_, fun hif2 => ?_⟩
    ·
      change WSs _ _ [_, _, _, _] [_] _
      refine wss_cons ?_
      refine ws_if ?_
      apply VT.use
      ·
        apply VW.vt
        apply vw_or
        ·
          intro Q hQ
          refine wt_ne (by (first | exact hr.units | exact units65 hr | exact units1 hr)) ?_
          refine we_isinstV (T := "list") m_isinstance m_list (by decide +kernel) ?_
          refine wv_name 0 rfl (.inl rfl) rfl ?_
          refine ⟨⟨_, rfl⟩, _, kit_list (d := .list []), ?_⟩
          refine we_isinst (T := "list") m_isinstance m_list (by decide +kernel) ?_
          refine we_name 1 rfl (.inl rfl) rfl ?_
          refine ⟨_, kit_list, ?_⟩
          refine ⟨by (first | rfl | assumption), by (first | rfl | assumption), ?_⟩
          exact hQ
        intro hg2
        apply vw_or1
        intro Q hQ
        refine wt_ne (by (first | exact hr.units | exact units65 hr | exact units1 hr)) ?_
        refine we_isinstV (T := "tuple") m_isinstance m_tuple (by decide +kernel) ?_
        refine wv_name 0 rfl (.inl rfl) rfl ?_
        refine ⟨⟨_, rfl⟩, _, kit_tuple (d := .list []), ?_⟩
        refine we_isinst (T := "tuple") m_isinstance m_tuple (by decide +kernel) ?_
        refine we_name 1 rfl (.inl rfl) rfl ?_
        refine ⟨_, kit_tuple, ?_⟩
        refine ⟨by (first | rfl | assumption), by (first | rfl | assumption), ?_⟩
        exact hQ
      refine ⟨fun hif3 => ?_, fun hif3 => ?_⟩
      ·
        exfalso
        simp [isT, tyD, JJ.eqvB] at hif3 --done
      ·
        refine wss_nil ?_
        change WSs _ _ [_, _, _, _] [_] _
        refine wss_one ?_
        refine ws_ret ?_
        apply VE.use
        ·
          apply ve_and
          ·
            intro Q hQ
            refine we_eqI ?_
            refine we_len m_len ?_
            refine wv_name 0 rfl (.inl rfl) rfl ?_
            refine ⟨_, rfl, ?_⟩
            refine we_len m_len ?_
            refine wv_name 1 rfl (.inl rfl) rfl ?_
            refine ⟨_, rfl, ?_⟩
            refine ⟨_, _, rfl, rfl, ?_⟩
            exact hQ
          intro hg3
          apply ve_one
          intro Q hQ
          refine we_all rfl m_all ?_
          refine wv_we ?_
          refine we_wf ?_
          refine wf_lc [("_law_here", 2), ("_law_there", 3)] (.tp [2, 3]) rfl sc.nd (blkOk_by (own := [("_law_here", 2), ("_law_there", 3)]) (N := ["_law_told_here", "_law_due", "_law_here", "_law_there"]) (by rfl)) (fun _ _ _ _ _ => pg_tp2 sc.nd rfl (.inl rfl) (.inr rfl) rfl (.inl rfl) (.inr rfl)) (by decide) ?_
          refine wi_zipV m_zip ?_
          refine wv_name 0 rfl (.inl rfl) rfl ?_
          refine wv_name 1 rfl (.inl rfl) rfl ?_
          have hzl : (zipD xs xs).length ≤ 100000 := by rw [zipD_len]; omega
          refine ⟨_, _, rfl, rfl, ?_⟩
          refine lcP (szl (by (first | omega | (rw [rgD_len]; omega) | (rw [rgD3_len]; omega) | (simp only [List.length_append, List.length_cons, List.length_nil, List.length_set, List.length_map, List.length_range, rgD_len, rgD3_len, enD_len]; omega) | omega | decide))) ⟨rfl, rfl⟩ (fun _ => .bool true) (fun i x hx => ?_) ?_
          ·
            obtain ⟨y, z, hy, hz, rfl⟩ := zipD_get hx
            obtain rfl : y = z := Option.some.inj (hy.symm.trans hz)
            have hzi := List.mem_of_getElem? hy
            refine ⟨_, rfl, ?_⟩
            intro sb Hb Cb clb fpb
            refine we_call [] F__law_alike (hr.mono (by omega)) m__law_alike k__law_alike b__law_alike ?_
            refine wa_d ?_
            refine we_name 2 rfl (.inl rfl) rfl ?_
            refine wa_d ?_
            refine we_name 3 rfl (.inl rfl) rfl ?_
            refine wa_nil ?_
            refine ⟨by decide, by (simp [setAll_len, setAll_nil]), by (simp [refsIn, setAll_len, setAll_nil, permL]), _, rfl, rfl, hxs _ hzi, _, rfl, rfl, ?_⟩
            exact ⟨rfl, rfl⟩
          refine ⟨List.replicate (zipD xs xs).length true, by rw [List.map_replicate, List.map_const', List.length_range]; rfl, ?_⟩
          rw [show (List.replicate (zipD xs xs).length true).all id = true from by simp]
          exact hQ
        rw [show (decide ((xs.length : Int) = (xs.length : Int)) && true) = true from by simp]
        exact ⟨by simp, .inl ⟨_, rfl, kq⟩⟩
    ·
      exfalso
      revert hif2
      simp only [isT, tyD]
      decide +kernel --done
end
section
variable {P : Program} {w : World} {K : PySem.W.Frag} {mg : Str → Option Value} {base : Heap}
theorem ok_l_alikeE {f : Addr} {fd : FuncData} (F : Fun K "_law_alike" "_law_alike" s_l_alike f fd) (m__law_alike : mg "_law_alike" = some (.ref f)) (k__law_alike : PySem.W.keepIn K (.ref f) = true) (b__law_alike : Binds K fd ["_law_told_here", "_law_due"] []) (m_isinstance : mg "isinstance" = none) (m_list : mg "list" = none) (m_tuple : mg "tuple" = none) (m_bool : mg "bool" = none) (m_str : mg "str" = none) (m_int : mg "int" = none) (m_all : mg "all" = none) (m_len : mg "len" = none) (m_zip : mg "zip" = none) : FnOk P w K mg base CX0 6 f fd ["_law_told_here", "_law_due"] (toSp K JJ.spAkE) :=
  have A := ok_l_alike (P := P) (w := w) (base := base) F m__law_alike k__law_alike b__law_alike m_isinstance m_list m_tuple m_bool m_str m_int m_all m_len m_zip
  fnok_or (JJ.fnok_up (A 4) (by omega)) (JJ.fnok_up (ok_l_alike_C F (A 3) m__law_alike k__law_alike b__law_alike m_isinstance m_list m_tuple m_bool m_str m_int m_all m_len m_zip) (by omega))
end
section
variable {P : Program} {w : World} {K : PySem.W.Frag} {mg : Str → Option Value} {base : Heap}
theorem ok_l_around {f : Addr} {fd : FuncData} (F : Fun K "_law_around" "_law_around" s_l_around f fd) (m_list : mg "list" = none) (m_range : mg "range" = none) : FnOk P w K mg base CX0 1 f fd ["_law_n", "_law_m"] (toSp K MM.spRound) := by
  have sc := sc_l_around
  refine fn_pp F sc (fun pvs m q h => ?_) (fun cdv A outer s H E hr pvs m q h => ?_)
  · obtain ⟨_, _, rfl, _⟩ := h
    rfl
  obtain ⟨u, d, rfl, rfl, hu0, hu1, hd0, hd1, kq⟩ := h
  change WSs _ _ [_, _] [] _
  refine wss_one ?_
  refine ws_retF ?_
  refine wf_cat ?_
  refine wv_we ?_
  refine we_wf ?_
  refine wf_listRg1 rfl m_list m_range ?_
  refine we_name 0 rfl (.inl rfl) rfl ?_
  refine ⟨_, rfl, RgOk.of_le (by omega) (by omega) (by omega) (by omega), ?_⟩
  refine wv_we ?_
  refine we_wf ?_
  refine wf_listRg3 rfl m_list m_range ?_
  refine we_sub ?_
  refine we_add ?_
  refine we_name 0 rfl (.inl rfl) rfl ?_
  refine we_name 1 rfl (.inl rfl) rfl ?_
  refine ⟨_, _, rfl, rfl, ?_⟩
  refine we_int ?_
  refine ⟨_, _, rfl, rfl, ?_⟩
  refine we_sub ?_
  refine we_name 0 rfl (.inl rfl) rfl ?_
  refine we_int ?_
  refine ⟨_, _, rfl, rfl, ?_⟩
  refine we_neg ?_
  refine we_int ?_
  refine ⟨_, rfl, ?_⟩
  refine ⟨_, _, _, _, rfl, rfl, rfl, RgC.neg (by omega) (by omega) (by omega) (by omega), by omega, ?_⟩
  refine ⟨_, _, rfl, rfl, szl (by rw [rgD_len, rgD3_len]; omega), ?_⟩
  refine ⟨Nat.zero_le _, .inr (.inr ⟨_, _, rfl, Nat.le_refl _, rfl, ?_⟩)⟩
  rw [MM.ringI_data]
  exact kq
end
section
variable {P : Program} {w : World} {K : PySem.W.Frag} {mg : Str → Option Value} {base : Heap}
theorem ok_l_mat {f : Addr} {fd : FuncData} (F : Fun K "_law_mat" "_law_mat" s_l_mat f fd) {f__law_tap : Addr} {fd__law_tap : FuncData} (F__law_tap : FnOk P w K mg base CX0 1 f__law_tap fd__law_tap ["_law_cask_here", "_law_many"] (toSp K JJ.spNext)) (m__law_tap : mg "_law_tap" = some (.ref f__law_tap)) (k__law_tap : PySem.W.keepIn K (.ref f__law_tap) = true) (b__law_tap : Binds K fd__law_tap ["_law_cask_here", "_law_many"] []) {f__law_around : Addr} {fd__law_around : FuncData} (F__law_around : FnOk P w K mg base CX0 1 f__law_around fd__law_around ["_law_n", "_law_m"] (toSp K MM.spRound)) (m__law_around : mg "_law_around" = some (.ref f__law_around)) (k__law_around : PySem.W.keepIn K (.ref f__law_around) = true) (b__law_around : Binds K fd__law_around ["_law_n", "_law_m"] []) (m_enumerate : mg "enumerate" = none) (m_tuple : mg "tuple" = none) (m_int : mg "int" = none) (m_len : mg "len" = none) : FnOk P w K mg base CX0 2 f fd ["_law_cask_here", "_law_n", "_law_m"] (toSp K JJ.spMatC) := by
  have sc := sc_l_mat
  refine fn_pp F sc (fun pvs m q h => ?_) (fun cdv A outer s H E hr pvs m q h => ?_)
  · obtain ⟨_, _, _, _, rfl, _⟩ := h
    rfl
  obtain ⟨xs, n, u, d, rfl, rfl, hw, hn, hu0, hu1, hd0, hd1, h0, hev, kq⟩ := h
  have hrl := MM.ringI_len hu0 hd0
  have hrm : ((MM.ringI u d).map PyData.int).length = (MM.ringI u d).length := List.length_map ..
  change WSs _ _ [_, _, _, _, _, _, _, _, _, _] [_] _
  refine wss_cons ?_
  refine ws_set 3 sc.nd rfl (.inl rfl) ?_
  refine we_ix ?_
  refine wv_we ?_
  refine we_wf ?_
  refine wf_lst ?_
  refine wd_cons ?_
  refine we_tup ?_
  refine wd_cons ?_
  refine we_int ?_
  refine wd_cons ?_
  refine we_int ?_
  refine wd_nil ?_
  refine ⟨szl (by simp), ?_⟩
  refine wd_cons ?_
  refine we_tup ?_
  refine wd_cons ?_
  refine we_int ?_
  refine wd_cons ?_
  refine we_int ?_
  refine wd_nil ?_
  refine ⟨szl (by simp), ?_⟩
  refine wd_cons ?_
  refine we_tup ?_
  refine wd_cons ?_
  refine we_int ?_
  refine wd_cons ?_
  refine we_int ?_
  refine wd_nil ?_
  refine ⟨szl (by simp), ?_⟩
  refine wd_cons ?_
  refine we_tup ?_
  refine wd_cons ?_
  refine we_int ?_
  refine wd_cons ?_
  refine we_int ?_
  refine wd_nil ?_
  refine ⟨szl (by simp), ?_⟩
  refine wd_cons ?_
  refine we_tup ?_
  refine wd_cons ?_
  refine we_int ?_
  refine wd_cons ?_
  refine we_int ?_
  refine wd_nil ?_
  refine ⟨szl (by simp), ?_⟩
  refine wd_nil ?_
  refine ⟨szl (by simp), ?_⟩
  refine we_call [0] F__law_tap (hr.mono (by omega)) m__law_tap k__law_tap b__law_tap ?_
  refine wa_cons ?_
  refine wv_name 0 rfl (.inl rfl) rfl ?_
  refine wa_d ?_
  refine we_int ?_
  refine wa_nil ?_
  refine ⟨by decide, by (simp [setAll_len, setAll_nil]), by (simp [refsIn, setAll_len, setAll_nil, permL]), _, _, 5, rfl, rfl, hw, by omega, by omega, by omega, fun rl xsrl hrla hrlb hrl => ⟨_, rfl, rfl, ?_⟩⟩
  obtain ⟨la, lb, hlab⟩ := JJ.lean_at hrla hrlb
  refine ⟨_, _, _, rfl, rfl, hlab, ?_⟩
  change WSs _ _ [_, _, _, _, _, _, _, _, _, _] [_] _
  refine wss_cons ?_
  refine ws_par 4 5 rfl sc.nd rfl rfl (by decide) rfl rfl ?_
  refine wa_cons ?_
  refine wv_wf ?_
  refine wf_rep ?_
  refine wv_we ?_
  refine we_wf ?_
  refine wf_lst ?_
  refine wd_cons ?_
  refine we_int ?_
  refine wd_nil ?_
  refine ⟨szl (by simp), ?_⟩
  refine we_add ?_
  refine we_name 1 rfl (.inl rfl) rfl ?_
  refine we_name 2 rfl (.inl rfl) rfl ?_
  refine ⟨_, _, rfl, rfl, ?_⟩
  refine ⟨_, _, rfl, rfl, by omega, by omega, szl (by simp; omega), ?_⟩
  refine wa_cons ?_
  refine wv_wf ?_
  refine wf_lst ?_
  refine wd_nil ?_
  refine ⟨szl (by simp), ?_⟩
  refine wa_nil ?_
  refine ⟨_, _, rfl, ?_⟩
  change WSs _ _ [_, _, _, _, _, _, _, _, _, _] [_, _, _] _
  refine wss_cons ?_
  refine ws_for PassesOwn.never rfl ?_
  refine wi_enumL m_enumerate ?_
  refine wv_we ?_
  refine we_wf ?_
  refine wf_call [] F__law_around (hr.mono (by omega)) m__law_around k__law_around b__law_around ?_
  refine wa_d ?_
  refine we_name 1 rfl (.inl rfl) rfl ?_
  refine wa_d ?_
  refine we_name 2 rfl (.inl rfl) rfl ?_
  refine wa_nil ?_
  refine ⟨by decide, by (simp [setAll_len, setAll_nil]), by (simp [refsIn, setAll_len, setAll_nil, permL]), u, d, rfl, rfl, hu0, by omega, hd0, by omega, [], _, rfl, rfl, rfl, ?_⟩
  refine ⟨_, rfl, ?_⟩
  refine ⟨fun i L m => ∃ xs ns ws fs y6 y7 y8 y9, L = [some (.ref 0), some (.d (.int u)), some (.d (.int d)), some (.d (.tuple [.int la, .int lb])), some (.ref 1), some (.ref 2), y6, y7, y8, y9] ∧ m = [some (.lst xs), some (.lst (ns.map .int)), some (.lst (ws.map .int))] ∧ JJ.WS (n + 1 + i) xs ∧ JJ.Dr u d i ws fs ns, ?_, fun i x L m hx hI => ?_, fun L m hI => ?_⟩
  ·
    exact ⟨_, List.replicate (u + d).toNat 0, [], [], _, _, _, _, rfl, (by rw [PP.rep_ints] <;> rfl), hrl, JJ.Dr.start hu0 hd0 hev⟩
  ·
    obtain ⟨xs, ns, ws, fs, y6, y7, y8, y9, rfl, rfl, hw3, D⟩ := hI
    obtain ⟨y, hy, rfl⟩ := enD_get hx
    obtain ⟨p, hp, rfl⟩ := MM.map_get hy
    have hil : i < (MM.ringI u d).length := (List.getElem?_eq_some_iff.mp hp).1
    have hpm := (MM.ringI_mem hu0 hd0).mp (List.mem_of_getElem? hp)
    have hwm : (ws.map PyData.int).length = ws.length := List.length_map ..
    have sm := D.sm
    have hnl := D.len
    refine ⟨rfl, ?_⟩
    refine wg_tup rfl ?_
    refine ⟨_, rfl, rfl, ?_⟩
    refine wgn_cons ?_
    refine wg_name 6 sc.nd rfl (.inl rfl) ?_
    refine wgn_cons ?_
    refine wg_name 7 sc.nd rfl (.inl rfl) ?_
    refine wgn_nil ?_
    change WSs _ _ [_, _, _, _, _, _, _, _, _, _] [_, _, _] _
    refine wss_cons ?_
    refine ws_set 8 sc.nd rfl (.inl rfl) ?_
    refine we_lt ?_
    refine we_call [0] F__law_tap (hr.mono (by omega)) m__law_tap k__law_tap b__law_tap ?_
    refine wa_cons ?_
    refine wv_name 0 rfl (.inl rfl) rfl ?_
    refine wa_d ?_
    refine we_int ?_
    refine wa_nil ?_
    refine ⟨by decide, by (simp [setAll_len, setAll_nil]), by (simp [refsIn, setAll_len, setAll_nil, permL]), _, _, 4, rfl, rfl, hw3, by omega, by omega, by omega, fun r4 xsr4 hr4a hr4b hr4 => ⟨_, rfl, rfl, ?_⟩⟩
    refine we_ix ?_
    refine wv_name 3 rfl (.inl rfl) rfl ?_
    refine we_int1 m_int ?_
    refine we_ge ?_
    refine we_name 6 rfl (.inl rfl) rfl ?_
    refine we_name 1 rfl (.inl rfl) rfl ?_
    refine ⟨_, _, rfl, rfl, ?_⟩
    refine .inr ⟨_, rfl, ?_⟩
    obtain ⟨lc, hlc⟩ := JJ.bool_at (a := la) (b := lb) (decide ((i : Int) ≥ u))
    refine ⟨_, _, _, rfl, rfl, hlc, ?_⟩
    refine ⟨_, _, rfl, rfl, ?_⟩
    change WSs _ _ [_, _, _, _, _, _, _, _, _, _] [_, _, _] _
    refine wss_one ?_
    refine ws_if ?_
    apply VT.use
    ·
      apply VW.vt
      apply vw_or
      ·
        intro Q hQ
        refine wt_eqV (by (first | exact hr.units | exact units65 hr | exact units1 hr)) ?_
        refine wv_name 5 rfl (.inl rfl) rfl ?_
        refine wv_we ?_
        refine we_wf ?_
        refine wf_lst ?_
        refine wd_nil ?_
        refine ⟨szl (by simp), ?_⟩
        refine ⟨_, _, rfl, rfl, shp_ints, by (first | rfl | assumption), ?_⟩
        rw [JJ.eqv_nil]
        exact hQ
      intro hg1
      apply vw_or1
      apply VW.vt
      apply vw_and
      ·
        intro Q hQ
        refine wt_val ?_
        refine we_name 8 rfl (.inl rfl) rfl ?_
        refine ⟨_, rfl, ?_⟩
        exact hQ
      intro hg2
      apply vw_and1
      intro Q hQ
      refine wt_lt ?_
      refine we_len m_len ?_
      refine wv_name 5 rfl (.inl rfl) rfl ?_
      refine ⟨_, rfl, ?_⟩
      rw [hwm]
      refine we_sub ?_
      refine we_add ?_
      refine we_name 1 rfl (.inl rfl) rfl ?_
      refine we_name 2 rfl (.inl rfl) rfl ?_
      refine ⟨_, _, rfl, rfl, ?_⟩
      refine we_name 6 rfl (.inl rfl) rfl ?_
      refine ⟨_, _, rfl, rfl, ?_⟩
      refine ⟨_, _, rfl, rfl, ?_⟩
      exact hQ
    refine ⟨fun hif1 => ?_, fun hif1 => ?_⟩
    ·
      have hlt : (ws.length : Int) < u + d - i := by
        rw [Bool.or_eq_true] at hif1
        rcases hif1 with h | h
        · have : ws = [] := by
            cases ws with
            | nil => rfl
            | cons x t => cases h
          subst this
          simp only [List.length_nil]
          omega
        · exact of_decide_eq_true (Bool.and_eq_true_iff.mp h).2
      change WSs _ _ [_, _, _, _, _, _, _, _, _, _] [_, _, _] _
      refine wss_one ?_
      refine ws_expr ?_
      refine we_append ?_
      refine wv_name 5 rfl (.inl rfl) rfl ?_
      refine ⟨_, _, rfl, rfl, ?_⟩
      refine we_name 7 rfl (.inl rfl) rfl ?_
      refine ⟨_, rfl, szlt (by rw [hwm]; omega), ?_⟩
      first
      | exact ⟨_, _, .same (by (repeat (first | exact WkL.nil | refine WkL.kd ?_ | (refine WkL.kr ?_ ?_; focus (simp [setAll_len, setAll_nil]; done)) | refine WkL.kw ?_ | refine WkL.drop ?_))) (by simp [setAll_len]), _, _, ws ++ [p], _, _, _, _, _, rfl, by rw [List.map_append]; rfl, hr4.mono (by omega), D.op hu0 hd0 hp hlt⟩
      | exact ⟨_, _, .same (by (repeat (first | exact WkL.nil | refine WkL.kd ?_ | (refine WkL.kr ?_ ?_; focus (simp [setAll_len, setAll_nil]; done)) | refine WkL.kw ?_ | refine WkL.drop ?_))) (by simp [setAll_len]), _, _, ws1, _, _, _, _, _, rfl, by rw [List.set_comm _ _ hpa]; simp [List.map_set, setAll], hr4.mono (by omega), D.sh hu0 hd0 hp⟩
    ·
      obtain ⟨ws1, a, rfl⟩ : ∃ ws1 a, ws = ws1 ++ [a] := by
        rcases List.eq_nil_or_concat ws with h | ⟨t, a, h⟩
        · subst h
          exact absurd hif1 (by simp)
        · exact ⟨t, a, by simpa using h⟩
      have ham := D.rg a (List.mem_append_right _ List.mem_cons_self)
      have hpa : p.toNat ≠ a.toNat := JJ.dr_ne D hu0 hd0 hp
      change WSs _ _ [_, _, _, _, _, _, _, _, _, _] [_, _, _] _
      refine wss_cons ?_
      refine ws_set 9 sc.nd rfl (.inl rfl) ?_
      refine we_pop ?_
      refine wv_name 5 rfl (.inl rfl) rfl ?_
      refine ⟨_, _, rfl, rfl, ?_⟩
      refine ⟨_, .int a, rfl, ?_, ?_⟩
      · rw [List.map_append]; simp
      rw [List.map_append, show (ws1.map PyData.int ++ [a].map PyData.int).dropLast = ws1.map .int from by simp]
      change WSs _ _ [_, _, _, _, _, _, _, _, _, _] [_, _, _] _
      refine wss_one ?_
      refine ws_asg ?_
      refine we_tup ?_
      refine wd_cons ?_
      refine we_name 9 rfl (.inl rfl) rfl ?_
      refine wd_cons ?_
      refine we_name 7 rfl (.inl rfl) rfl ?_
      refine wd_nil ?_
      refine ⟨szl (by simp), ?_⟩
      refine wg_tup rfl ?_
      refine ⟨_, rfl, rfl, ?_⟩
      refine wgn_cons ?_
      refine wg_sub ?_
      refine wv_name 4 rfl (.inl rfl) rfl ?_
      refine we_name 7 rfl (.inl rfl) rfl ?_
      refine ⟨_, _, _, _, rfl, rfl, rfl, ixN_of hpm.1 (by rw [List.length_map]; omega), ?_⟩
      refine wgn_cons ?_
      refine wg_sub ?_
      refine wv_name 4 rfl (.inl rfl) rfl ?_
      refine we_name 9 rfl (.inl rfl) rfl ?_
      refine ⟨_, _, _, _, rfl, rfl, rfl, ixN_of ham.1 (by rw [List.length_set, List.length_map]; omega), ?_⟩
      refine wgn_nil ?_
      first
      | exact ⟨_, _, .same (by (repeat (first | exact WkL.nil | refine WkL.kd ?_ | (refine WkL.kr ?_ ?_; focus (simp [setAll_len, setAll_nil]; done)) | refine WkL.kw ?_ | refine WkL.drop ?_))) (by simp [setAll_len]), _, _, ws ++ [p], _, _, _, _, _, rfl, by rw [List.map_append]; rfl, hr4.mono (by omega), D.op hu0 hd0 hp hlt⟩
      | exact ⟨_, _, .same (by (repeat (first | exact WkL.nil | refine WkL.kd ?_ | (refine WkL.kr ?_ ?_; focus (simp [setAll_len, setAll_nil]; done)) | refine WkL.kw ?_ | refine WkL.drop ?_))) (by simp [setAll_len]), _, _, ws1, _, _, _, _, _, rfl, by rw [List.set_comm _ _ hpa]; simp [List.map_set, setAll], hr4.mono (by omega), D.sh hu0 hd0 hp⟩
  rw [enD_len, hrm, show (MM.ringI u d).length = (u + d).toNat by omega] at hI
  obtain ⟨xs, ns, ws, fs, y6, y7, y8, y9, rfl, rfl, hw3, D⟩ := hI
  refine ⟨rfl, ?_⟩
  change WSs _ _ [_, _, _, _, _, _, _, _, _, _] [_, _, _] _
  refine wss_one ?_
  refine ws_ret ?_
  refine we_tup ?_
  refine wd_cons ?_
  refine we_name 1 rfl (.inl rfl) rfl ?_
  refine wd_cons ?_
  refine we_name 2 rfl (.inl rfl) rfl ?_
  refine wd_cons ?_
  refine we_tuple1 m_tuple ?_
  refine wv_name 4 rfl (.inl rfl) rfl ?_
  refine ⟨_, rfl, ?_⟩
  refine wd_nil ?_
  refine ⟨szl (by simp), ?_⟩
  exact ⟨by simp [setAll_len], .inl ⟨_, rfl, kq _ ns (hw3.mono (by omega)) (D.done hu0 hd0 h0)⟩⟩
end
section
variable {P : Program} {w : World} {K : PySem.W.Frag} {mg : Str → Option Value} {base : Heap}
theorem ok_l_sizes {f : Addr} {fd : FuncData} (F : Fun K "_law_sizes" "_law_sizes" s_l_sizes f fd) {f__law_tap : Addr} {fd__law_tap : FuncData} (F__law_tap : FnOk P w K mg base CX0 1 f__law_tap fd__law_tap ["_law_cask_here", "_law_many"] (toSp K JJ.spNext)) (m__law_tap : mg "_law_tap" = some (.ref f__law_tap)) (k__law_tap : PySem.W.keepIn K (.ref f__law_tap) = true) (b__law_tap : Binds K fd__law_tap ["_law_cask_here", "_law_many"] []) : FnOk P w K mg base CX0 2 f fd ["_law_cask_here", "_law_most"] (toSp K JJ.spSzC) := by
  have sc := sc_l_sizes
  refine fn_pp F sc (fun pvs m q h => ?_) (fun cdv A outer s H E hr pvs m q h => ?_)
  · obtain ⟨_, _, _, rfl, _⟩ := h
    rfl
  obtain ⟨xs, c, most, rfl, rfl, hw, hc, hm0, hm1, kq⟩ := h
  change WSs _ _ [_, _, _, _, _] [_] _
  refine wss_cons ?_
  refine ws_par 2 3 rfl sc.nd rfl rfl (by decide) rfl rfl ?_
  refine wa_d ?_
  refine we_add ?_
  refine we_int ?_
  refine we_call [0] F__law_tap (hr.mono (by omega)) m__law_tap k__law_tap b__law_tap ?_
  refine wa_cons ?_
  refine wv_name 0 rfl (.inl rfl) rfl ?_
  refine wa_d ?_
  refine we_fdiv ?_
  refine we_name 1 rfl (.inl rfl) rfl ?_
  refine we_int ?_
  refine ⟨_, _, rfl, rfl, cdiv_of (k := 4) (by decide) Bd.lit, ?_⟩
  refine wa_nil ?_
  refine ⟨by decide, by (simp [setAll_len, setAll_nil]), by (simp [refsIn, setAll_len, setAll_nil, permL]), _, _, _, rfl, rfl, hw, by omega, by omega, by omega, fun r1 xsr1 hr1a hr1b hr1 => ⟨_, rfl, rfl, ?_⟩⟩
  refine ⟨_, _, rfl, rfl, ?_⟩
  refine wa_d ?_
  refine we_call [0] F__law_tap (hr.mono (by omega)) m__law_tap k__law_tap b__law_tap ?_
  refine wa_cons ?_
  refine wv_name 0 rfl (.inl rfl) rfl ?_
  refine wa_d ?_
  refine we_int ?_
  refine wa_nil ?_
  refine ⟨by decide, by (simp [setAll_len, setAll_nil]), by (simp [refsIn, setAll_len, setAll_nil, permL]), _, _, 5, rfl, rfl, hr1, by omega, by omega, by omega, fun r2 xsr2 hr2a hr2b hr2 => ⟨_, rfl, rfl, ?_⟩⟩
  refine wa_nil ?_
  refine ⟨_, _, rfl, ?_⟩
  change WSs _ _ [_, _, _, _, _] [_] _
  refine wss_cons ?_
  refine ws_if ?_
  refine wt_lt ?_
  refine we_name 3 rfl (.inl rfl) rfl ?_
  refine we_int ?_
  refine ⟨_, _, rfl, rfl, ?_⟩
  refine ⟨fun hif1 => ?_, fun hif1 => ?_⟩
  ·
    change WSs _ _ [_, _, _, _, _] [_] _
    refine wss_one ?_
    refine ws_ret ?_
    refine we_tup ?_
    refine wd_cons ?_
    refine we_name 2 rfl (.inl rfl) rfl ?_
    refine wd_cons ?_
    refine we_name 2 rfl (.inl rfl) rfl ?_
    refine wd_nil ?_
    refine ⟨szl (by simp), ?_⟩
    exact ⟨by simp [setAll_len], .inl ⟨_, rfl, kq _ _ _ (hr2.mono (by omega)) (by omega) (by omega) (by omega) (by omega) (by omega)⟩⟩
  ·
    refine wss_nil ?_
    change WSs _ _ [_, _, _, _, _] [_] _
    refine wss_cons ?_
    refine ws_if ?_
    refine wt_eqI ?_
    refine we_name 3 rfl (.inl rfl) rfl ?_
    refine we_int ?_
    refine ⟨_, _, rfl, rfl, ?_⟩
    refine ⟨fun hif2 => ?_, fun hif2 => ?_⟩
    ·
      change WSs _ _ [_, _, _, _, _] [_] _
      refine wss_one ?_
      refine ws_ret ?_
      refine we_ix ?_
      refine wv_we ?_
      refine we_wf ?_
      refine wf_lst ?_
      refine wd_cons ?_
      refine we_tup ?_
      refine wd_cons ?_
      refine we_mul ?_
      refine we_int ?_
      refine we_name 2 rfl (.inl rfl) rfl ?_
      refine ⟨_, _, rfl, rfl, cmul_of (j := 3) Bd.lit (Bd.of (k := 12) (by omega) (by omega)), ?_⟩
      refine wd_cons ?_
      refine we_int ?_
      refine wd_nil ?_
      refine ⟨szl (by simp), ?_⟩
      refine wd_cons ?_
      refine we_tup ?_
      refine wd_cons ?_
      refine we_int ?_
      refine wd_cons ?_
      refine we_mul ?_
      refine we_int ?_
      refine we_name 2 rfl (.inl rfl) rfl ?_
      refine ⟨_, _, rfl, rfl, cmul_of (j := 3) Bd.lit (Bd.of (k := 12) (by omega) (by omega)), ?_⟩
      refine wd_nil ?_
      refine ⟨szl (by simp), ?_⟩
      refine wd_nil ?_
      refine ⟨szl (by simp), ?_⟩
      refine we_call [0] F__law_tap (hr.mono (by omega)) m__law_tap k__law_tap b__law_tap ?_
      refine wa_cons ?_
      refine wv_name 0 rfl (.inl rfl) rfl ?_
      refine wa_d ?_
      refine we_int ?_
      refine wa_nil ?_
      refine ⟨by decide, by (simp [setAll_len, setAll_nil]), by (simp [refsIn, setAll_len, setAll_nil, permL]), _, _, 2, rfl, rfl, hr2, by omega, by omega, by omega, fun r3 xsr3 hr3a hr3b hr3 => ⟨_, rfl, rfl, ?_⟩⟩
      obtain ⟨a, b, hab, hab2⟩ := JJ.half_at (h := 1 + r1) hr3a hr3b
      refine ⟨_, _, _, rfl, rfl, hab, ?_⟩
      rcases hab2 with ⟨rfl, rfl⟩ | ⟨rfl, rfl⟩
      · exact ⟨by simp [setAll_len], .inl ⟨_, rfl, kq _ _ _ (hr3.mono (by omega)) (by omega) (by omega) (by omega) (by omega) (by omega)⟩⟩
      · exact ⟨by simp [setAll_len], .inl ⟨_, rfl, kq _ _ _ (hr3.mono (by omega)) (by omega) (by omega) (by omega) (by omega) (by omega)⟩⟩
    ·
      refine wss_nil ?_
      change WSs _ _ [_, _, _, _, _] [_] _
      refine wss_cons ?_
      refine ws_set 4 sc.nd rfl (.inl rfl) ?_
      refine we_call [0] F__law_tap (hr.mono (by omega)) m__law_tap k__law_tap b__law_tap ?_
      refine wa_cons ?_
      refine wv_name 0 rfl (.inl rfl) rfl ?_
      refine wa_d ?_
      refine we_add ?_
      refine we_mul ?_
      refine we_int ?_
      refine we_name 2 rfl (.inl rfl) rfl ?_
      refine ⟨_, _, rfl, rfl, cmul_of (j := 3) Bd.lit (Bd.of (k := 12) (by omega) (by omega)), ?_⟩
      refine we_int ?_
      refine ⟨_, _, rfl, rfl, ?_⟩
      refine wa_nil ?_
      refine ⟨by decide, by (simp [setAll_len, setAll_nil]), by (simp [refsIn, setAll_len, setAll_nil, permL]), _, _, _, rfl, rfl, hr2, by omega, by omega, by omega, fun r4 xsr4 hr4a hr4b hr4 => ⟨_, rfl, rfl, ?_⟩⟩
      change WSs _ _ [_, _, _, _, _] [_] _
      refine wss_one ?_
      refine ws_ret ?_
      refine we_tup ?_
      refine wd_cons ?_
      refine we_name 4 rfl (.inl rfl) rfl ?_
      refine wd_cons ?_
      refine we_sub ?_
      refine we_mul ?_
      refine we_int ?_
      refine we_name 2 rfl (.inl rfl) rfl ?_
      refine ⟨_, _, rfl, rfl, cmul_of (j := 3) Bd.lit (Bd.of (k := 12) (by omega) (by omega)), ?_⟩
      refine we_name 4 rfl (.inl rfl) rfl ?_
      refine ⟨_, _, rfl, rfl, ?_⟩
      refine wd_nil ?_
      refine ⟨szl (by simp), ?_⟩
      exact ⟨by simp [setAll_len], .inl ⟨_, rfl, kq _ _ _ (hr4.mono (by omega)) (by omega) (by omega) (by omega) (by omega) (by omega)⟩⟩
end
section
variable {P : Program} {w : World} {K : PySem.W.Frag} {mg : Str → Option Value} {base : Heap}
theorem ok_l_spots {f : Addr} {fd : FuncData} (F : Fun K "_law_spots" "_law_spots" s_l_spots f fd) (m_int : mg "int" = none) (m_range : mg "range" = none) : FnOk P w K mg base CX0 1 f fd ["_law_n", "_law_m"] (toSp K JJ.spSpots) := by
  have sc := sc_l_spots
  refine fn_pp F sc (fun pvs m q h => ?_) (fun cdv A outer s H E hr pvs m q h => ?_)
  · obtain ⟨_, _, rfl, _⟩ := h
    rfl
  obtain ⟨u, d, rfl, rfl, hu0, hd0, h00, hud, kq⟩ := h
  change WSs _ _ [_, _, _, _, _] [] _
  refine wss_cons ?_
  refine ws_set 2 sc.nd rfl (.inr rfl) ?_
  refine we_mul ?_
  refine we_int ?_
  refine we_add ?_
  refine we_name 0 rfl (.inl rfl) rfl ?_
  refine we_name 1 rfl (.inl rfl) rfl ?_
  refine ⟨_, _, rfl, rfl, ?_⟩
  refine ⟨_, _, rfl, rfl, cmul_of (j := 3) Bd.lit (Bd.of (k := 20) (by omega) (by omega)), ?_⟩
  change WSs _ _ [_, _, _, _, _] [] _
  refine wss_cons ?_
  refine ws_setLc 3 [("_law_gap", 4)] (.nm 4) rfl sc.nd rfl rfl (sw_true rfl rfl rfl (by decide +kernel)) (blkOk_by (own := [("_law_gap", 4)]) (N := ["_law_n", "_law_m", "_law_round_about", "_law_below", "_law_gap"]) (by rfl)) (fun _ _ _ _ _ => pg_nm sc.nd rfl (.inl rfl) (.inr rfl)) (by decide) ?_
  refine wi_rng1 m_range ?_
  refine we_add ?_
  refine we_name 1 rfl (.inl rfl) rfl ?_
  refine we_int ?_
  refine ⟨_, _, rfl, rfl, ?_⟩
  refine ⟨_, rfl, by omega, by omega, ?_⟩
  refine lcP (szl (by (first | omega | (rw [rgD_len]; omega) | (rw [rgD3_len]; omega) | (simp only [List.length_append, List.length_cons, List.length_nil, List.length_set, List.length_map, List.length_range, rgD_len, rgD3_len, enD_len]; omega) | omega | decide))) trivial (fun g => .int (2 * (JJ.gpB u d g : Int))) (fun i x hx => ?_) ?_
  ·
    obtain ⟨hi, rfl⟩ := rgD_get hx
    refine ⟨_, rfl, ?_⟩
    intro sb Hb Cb clb fpb
    refine we_mod ?_
    refine we_int1 m_int ?_
    refine we_sub ?_
    refine we_name 2 rfl (by first | exact .inr (.inl rfl) | exact .inr (.inr rfl)) rfl ?_
    refine we_mul ?_
    refine we_int ?_
    refine we_name 4 rfl (.inl rfl) rfl ?_
    refine ⟨_, _, rfl, rfl, cmul_of (j := 3) Bd.lit (Bd.of (k := 20) (by omega) (by omega)), ?_⟩
    refine ⟨_, _, rfl, rfl, ?_⟩
    refine .inl ⟨_, rfl, ?_⟩
    refine we_name 2 rfl (by first | exact .inr (.inl rfl) | exact .inr (.inr rfl)) rfl ?_
    refine ⟨_, _, rfl, rfl, by omega, ?_⟩
    rw [show (0 : Int) + (i : Int) = i by omega, JJ.spB_mod hu0 hd0 h00 (by omega)]
    exact ⟨rfl, rfl⟩
  refine .inl ?_
  change WSs _ _ [_, _, _, _, _] [] _
  refine wss_one ?_
  refine ws_ret ?_
  refine we_tup ?_
  refine wd_cons ?_
  refine we_wf ?_
  refine wf_lc [("_law_gap", 4)] (.nm 4) rfl sc.nd (blkOk_by (own := [("_law_gap", 4)]) (N := ["_law_n", "_law_m", "_law_round_about", "_law_below", "_law_gap"]) (by rfl)) (fun _ _ _ _ _ => pg_nm sc.nd rfl (.inl rfl) (.inr rfl)) (by decide) ?_
  refine wi_rng1 m_range ?_
  refine we_add ?_
  refine we_name 0 rfl (.inl rfl) rfl ?_
  refine we_int ?_
  refine ⟨_, _, rfl, rfl, ?_⟩
  refine ⟨_, rfl, by omega, by omega, ?_⟩
  refine lcP (szl (by (first | omega | (rw [rgD_len]; omega) | (rw [rgD3_len]; omega) | (simp only [List.length_append, List.length_cons, List.length_nil, List.length_set, List.length_map, List.length_range, rgD_len, rgD3_len, enD_len]; omega) | omega | decide))) trivial (fun g => .int (2 * (JJ.gpA u d g : Int))) (fun i x hx => ?_) ?_
  ·
    obtain ⟨hi, rfl⟩ := rgD_get hx
    refine ⟨_, rfl, ?_⟩
    intro sb Hb Cb clb fpb
    refine we_mod ?_
    refine we_int1 m_int ?_
    refine we_mul ?_
    refine we_int ?_
    refine we_name 4 rfl (.inl rfl) rfl ?_
    refine ⟨_, _, rfl, rfl, cmul_of (j := 3) Bd.lit (Bd.of (k := 20) (by omega) (by omega)), ?_⟩
    refine .inl ⟨_, rfl, ?_⟩
    refine we_name 2 rfl (by first | exact .inr (.inl rfl) | exact .inr (.inr rfl)) rfl ?_
    refine ⟨_, _, rfl, rfl, by omega, ?_⟩
    rw [show (0 : Int) + (i : Int) = i by omega, JJ.spA_mod hu0 hd0 h00 (by omega)]
    exact ⟨rfl, rfl⟩
  refine wd_cons ?_
  refine we_name 3 rfl (.inl rfl) rfl ?_
  refine wd_nil ?_
  refine ⟨szl (by simp), ?_⟩
  rw [rgD_len, rgD_len, show (d + 1 - 0).toNat = d.toNat + 1 by omega, show (u + 1 - 0).toNat = u.toNat + 1 by omega]
  unfold JJ.spA JJ.spB at kq
  rw [List.map_map, List.map_map] at kq
  exact ⟨Nat.zero_le _, .inl ⟨_, rfl, kq⟩⟩
end
section
variable {P : Program} {w : World} {K : PySem.W.Frag} {mg : Str → Option Value} {base : Heap}
theorem ok_l_bars {f : Addr} {fd : FuncData} (F : Fun K "_law_bars" "_law_bars" s_l_bars f fd) {f__law_around : Addr} {fd__law_around : FuncData} (F__law_around : FnOk P w K mg base CX0 1 f__law_around fd__law_around ["_law_n", "_law_m"] (toSp K MM.spRound)) (m__law_around : mg "_law_around" = some (.ref f__law_around)) (k__law_around : PySem.W.keepIn K (.ref f__law_around) = true) (b__law_around : Binds K fd__law_around ["_law_n", "_law_m"] []) (m_enumerate : mg "enumerate" = none) (m_sorted : mg "sorted" = none) : FnOk P w K mg base CX0 2 f fd ["_law_mat_here"] (toSp K JJ.spBarsL) := by
  have sc := sc_l_bars
  refine fn_pp F sc (fun pvs m q h => ?_) (fun cdv A outer s H E hr pvs m q h => ?_)
  · obtain ⟨_, _, _, rfl, _⟩ := h
    rfl
  obtain ⟨u, d, ns, rfl, rfl, hM, hud, kq⟩ := h
  have F := JJ.fc_of hM
  have hu0 := F.u0
  have hd0 := F.d0
  have h00 := F.h0
  have hln := F.len
  have hrl := F.rl
  have hfN : (JJ.fN u d : Int) = u + d := by unfold JJ.fN; omega
  change WSs _ _ [_, _, _, _, _, _] [] _
  refine wss_cons ?_
  refine ws_par 1 2 rfl sc.nd rfl rfl (by decide) rfl rfl ?_
  refine wa_d ?_
  refine we_wf ?_
  refine wf_call [] F__law_around (hr.mono (by omega)) m__law_around k__law_around b__law_around ?_
  refine wa_d ?_
  refine we_ix ?_
  refine wv_name 0 rfl (.inl rfl) rfl ?_
  refine we_int ?_
  refine ⟨_, _, _, rfl, rfl, rfl, ?_⟩
  refine wa_d ?_
  refine we_ix ?_
  refine wv_name 0 rfl (.inl rfl) rfl ?_
  refine we_int ?_
  refine ⟨_, _, _, rfl, rfl, rfl, ?_⟩
  refine wa_nil ?_
  refine ⟨by decide, by (simp [setAll_len, setAll_nil]), by (simp [refsIn, setAll_len, setAll_nil, permL]), u, d, rfl, rfl, hu0, by omega, hd0, by omega, [], _, rfl, rfl, rfl, ?_⟩
  refine wa_cons ?_
  refine wv_wf ?_
  refine wf_lst ?_
  refine wd_nil ?_
  refine ⟨szl (by simp), ?_⟩
  refine wa_nil ?_
  refine ⟨_, _, rfl, ?_⟩
  change WSs _ _ [_, _, _, _, _, _] [_] _
  refine wss_cons ?_
  refine ws_for PassesOwn.never rfl ?_
  refine wi_enumT m_enumerate ?_
  refine we_ix ?_
  refine wv_name 0 rfl (.inl rfl) rfl ?_
  refine we_int ?_
  refine ⟨_, _, _, rfl, rfl, rfl, ?_⟩
  refine ⟨_, rfl, ?_⟩
  refine ⟨fun i L m => ∃ y3 y4 y5, L = [some (.d (MM.matD u d ns)), some (.d (.list ((MM.ringI u d).map .int))), some (.ref 0), y3, y4, y5] ∧ m = [some (.lst (JJ.barsL u d ns i))], ?_, fun i x L m hx hI => ?_, fun L m hI => ?_⟩
  ·
    exact ⟨_, _, _, rfl, rfl⟩
  ·
    obtain ⟨y3, y4, y5, rfl, rfl⟩ := hI
    obtain ⟨y, hy, rfl⟩ := enD_get hx
    obtain ⟨z, hz, rfl⟩ := MM.map_get hy
    have hgz : ns.getD i 0 = z := by rw [List.getD_eq_getElem?_getD, hz]; rfl
    have hil := (List.getElem?_eq_some_iff.mp hz).1
    have hpi : (i : Int) ∈ MM.ringI u d := F.in_.mpr ⟨by omega, by omega⟩
    have hpz : z ∈ MM.ringI u d := by rw [← hgz, ← MM.mu_nat]; exact F.I.mem _ hpi
    have hsl := MM.strI_len (ns := ns) (i := i)
    refine ⟨trivial, ?_⟩
    refine wg_tup rfl ?_
    refine ⟨_, rfl, rfl, ?_⟩
    refine wgn_cons ?_
    refine wg_name 3 sc.nd rfl (.inl rfl) ?_
    refine wgn_cons ?_
    refine wg_name 4 sc.nd rfl (.inl rfl) ?_
    refine wgn_nil ?_
    change WSs _ _ [_, _, _, _, _, _] [_] _
    refine wss_one ?_
    refine ws_if ?_
    refine wt_lt ?_
    refine we_name 3 rfl (.inl rfl) rfl ?_
    refine we_name 4 rfl (.inl rfl) rfl ?_
    refine ⟨_, _, rfl, rfl, ?_⟩
    refine ⟨fun hif1 => ?_, fun hif1 => ?_⟩
    ·
      have hlt := of_decide_eq_true hif1
      have hst := MM.strI_yes (ns := ns) (i := i) (by rw [hgz]; exact hlt)
      rw [hgz] at hst
      change WSs _ _ [_, _, _, _, _, _] [_] _
      refine wss_cons ?_
      refine ws_set 5 sc.nd rfl (.inl rfl) ?_
      refine we_wf ?_
      refine wf_sortedI m_sorted ?_
      refine wv_we ?_
      refine we_wf ?_
      refine wf_lst ?_
      refine wd_cons ?_
      refine we_add ?_
      refine we_mul ?_
      refine we_int ?_
      refine we_index (by (first | exact hr.units | exact units65 hr | exact units1 hr)) ?_
      refine wv_name 1 rfl (.inl rfl) rfl ?_
      refine ⟨⟨_, rfl⟩, ?_⟩
      refine we_name 3 rfl (.inl rfl) rfl ?_
      refine JJ.ix_nd rfl rfl hpi ?_
      refine ⟨_, _, rfl, rfl, cmul_of (j := 3) Bd.lit (Bd.of (k := 20) (by omega) (by have := List.idxOf_lt_length_of_mem hpi; have := List.idxOf_lt_length_of_mem hpz; omega)), ?_⟩
      refine we_int ?_
      refine ⟨_, _, rfl, rfl, ?_⟩
      refine wd_cons ?_
      refine we_add ?_
      refine we_mul ?_
      refine we_int ?_
      refine we_index (by (first | exact hr.units | exact units65 hr | exact units1 hr)) ?_
      refine wv_name 1 rfl (.inl rfl) rfl ?_
      refine ⟨⟨_, rfl⟩, ?_⟩
      refine we_name 4 rfl (.inl rfl) rfl ?_
      refine JJ.ix_nd rfl rfl hpz ?_
      refine ⟨_, _, rfl, rfl, cmul_of (j := 3) Bd.lit (Bd.of (k := 20) (by omega) (by have := List.idxOf_lt_length_of_mem hpi; have := List.idxOf_lt_length_of_mem hpz; omega)), ?_⟩
      refine we_int ?_
      refine ⟨_, _, rfl, rfl, ?_⟩
      refine wd_nil ?_
      refine ⟨szl (by simp), ?_⟩
      refine ⟨[2 * ((MM.ringI u d).idxOf (i : Int) : Int) + 1, 2 * ((MM.ringI u d).idxOf z : Int) + 1], rfl, by simp, fun ns2 pm pw => ?_⟩
      have e2 := perm2 pm pw
      rw [JJ.min_lo.1, JJ.min_lo.2] at e2
      subst e2
      change WSs _ _ [_, _, _, _, _, _] [_] _
      refine wss_one ?_
      refine ws_expr ?_
      refine we_append ?_
      refine wv_name 2 rfl (.inl rfl) rfl ?_
      refine ⟨_, _, rfl, rfl, ?_⟩
      refine we_tup ?_
      refine wd_cons ?_
      refine we_ix ?_
      refine wv_name 5 rfl (.inl rfl) rfl ?_
      refine we_int ?_
      refine ⟨_, _, _, rfl, rfl, rfl, ?_⟩
      refine wd_cons ?_
      refine we_ix ?_
      refine wv_name 5 rfl (.inl rfl) rfl ?_
      refine we_int ?_
      refine ⟨_, _, _, rfl, rfl, rfl, ?_⟩
      refine wd_cons ?_
      refine we_name 3 rfl (.inl rfl) rfl ?_
      refine wd_cons ?_
      refine we_name 4 rfl (.inl rfl) rfl ?_
      refine wd_nil ?_
      refine ⟨szl (by simp), ?_⟩
      refine ⟨_, rfl, szlt (by unfold JJ.barsL; rw [List.length_map]; omega), ?_⟩
      first
      | exact ⟨_, _, .same (by (repeat (first | exact WkL.nil | refine WkL.kd ?_ | (refine WkL.kr ?_ ?_; focus (simp [setAll_len, setAll_nil]; done)) | refine WkL.kw ?_ | refine WkL.drop ?_))) (by simp [setAll_len]), _, _, _, rfl, by unfold JJ.barsL; rw [hst, List.map_append]; rfl⟩
      | exact ⟨_, _, .same (by (repeat (first | exact WkL.nil | refine WkL.kd ?_ | (refine WkL.kr ?_ ?_; focus (simp [setAll_len, setAll_nil]; done)) | refine WkL.kw ?_ | refine WkL.drop ?_))) (by simp [setAll_len]), _, _, _, rfl, by unfold JJ.barsL; rw [hst]⟩
    ·
      have hst := MM.strI_no (ns := ns) (i := i) (by rw [hgz]; exact of_decide_eq_false hif1)
      refine wss_nil ?_
      first
      | exact ⟨_, _, .same (by (repeat (first | exact WkL.nil | refine WkL.kd ?_ | (refine WkL.kr ?_ ?_; focus (simp [setAll_len, setAll_nil]; done)) | refine WkL.kw ?_ | refine WkL.drop ?_))) (by simp [setAll_len]), _, _, _, rfl, by unfold JJ.barsL; rw [hst, List.map_append]; rfl⟩
      | exact ⟨_, _, .same (by (repeat (first | exact WkL.nil | refine WkL.kd ?_ | (refine WkL.kr ?_ ?_; focus (simp [setAll_len, setAll_nil]; done)) | refine WkL.kw ?_ | refine WkL.drop ?_))) (by simp [setAll_len]), _, _, _, rfl, by unfold JJ.barsL; rw [hst]⟩
  rw [enD_len, List.length_map] at hI
  obtain ⟨y3, y4, y5, rfl, rfl⟩ := hI
  refine ⟨trivial, ?_⟩
  change WSs _ _ [_, _, _, _, _, _] [_] _
  refine wss_one ?_
  refine ws_retV ?_
  refine wv_name 2 rfl (.inl rfl) rfl ?_
  exact ⟨Nat.zero_le _, .inr (.inr ⟨_, _, rfl, Nat.le_refl _, rfl, kq⟩)⟩
end
section
variable {P : Program} {w : World} {K : PySem.W.Frag} {mg : Str → Option Value} {base : Heap}
theorem ok_l_rooms {f : Addr} {fd : FuncData} (F : Fun K "_law_rooms" "_law_rooms" s_l_rooms f fd) {f__law_spots : Addr} {fd__law_spots : FuncData} (F__law_spots : FnOk P w K mg base CX0 1 f__law_spots fd__law_spots ["_law_n", "_law_m"] (toSp K JJ.spSpots)) (m__law_spots : mg "_law_spots" = some (.ref f__law_spots)) (k__law_spots : PySem.W.keepIn K (.ref f__law_spots) = true) (b__law_spots : Binds K fd__law_spots ["_law_n", "_law_m"] []) {f__law_bars : Addr} {fd__law_bars : FuncData} (F__law_bars : FnOk P w K mg base CX0 2 f__law_bars fd__law_bars ["_law_mat_here"] (toSp K JJ.spBarsL)) (m__law_bars : mg "_law_bars" = some (.ref f__law_bars)) (k__law_bars : PySem.W.keepIn K (.ref f__law_bars) = true) (b__law_bars : Binds K fd__law_bars ["_law_mat_here"] []) (m_sorted : mg "sorted" = none) (m_set : mg "set" = none) (m_tuple : mg "tuple" = none) (m_int : mg "int" = none) (m_range : mg "range" = none) : FnOk P w K mg base CX0 3 f fd ["_law_mat_here"] (toSp K JJ.spRoomsLaw) := by
  have sc := sc_l_rooms
  refine fn_pp F sc (fun pvs m q h => ?_) (fun cdv A outer s H E hr pvs m q h => ?_)
  · obtain ⟨_, _, _, rfl, _⟩ := h
    rfl
  obtain ⟨u, d, ns, rfl, rfl, hM, hud, kq⟩ := h
  have F := JJ.fc_of hM
  have hu0 := F.u0
  have hd0 := F.d0
  have h00 := F.h0
  have hln := F.len
  have hrl := F.rl
  have hfN : (JJ.fN u d : Int) = u + d := by unfold JJ.fN; omega
  have hK := F.half
  have hsA : (JJ.spA u d).length = u.toNat + 1 := by unfold JJ.spA; rw [List.length_map, List.length_range]
  have hsB : (JJ.spB u d).length = d.toNat + 1 := by unfold JJ.spB; rw [List.length_map, List.length_range]
  change WSs _ _ [_, _, _, _, _, _, _, _, _, _, _, _] _ _
  refine wss_cons ?_
  refine ws_asg ?_
  refine we_call [] F__law_spots (hr.mono (by omega)) m__law_spots k__law_spots b__law_spots ?_
  refine wa_d ?_
  refine we_ix ?_
  refine wv_name 0 rfl (.inl rfl) rfl ?_
  refine we_int ?_
  refine ⟨_, _, _, rfl, rfl, rfl, ?_⟩
  refine wa_d ?_
  refine we_ix ?_
  refine wv_name 0 rfl (.inl rfl) rfl ?_
  refine we_int ?_
  refine ⟨_, _, _, rfl, rfl, rfl, ?_⟩
  refine wa_nil ?_
  refine ⟨by decide, by (simp [setAll_len, setAll_nil]), by (simp [refsIn, setAll_len, setAll_nil, permL]), u, d, rfl, rfl, hu0, hd0, h00, by omega, _, rfl, rfl, ?_⟩
  refine wg_tup rfl ?_
  refine ⟨_, rfl, rfl, ?_⟩
  refine wgn_cons ?_
  refine wg_name 1 sc.nd rfl (.inr rfl) ?_
  refine wgn_cons ?_
  refine wg_name 2 sc.nd rfl (.inr rfl) ?_
  refine wgn_nil ?_
  change WSs _ _ [_, _, _, _, _, _, _, _, _, _, _, _] _ _
  refine wss_cons ?_
  refine ws_par 3 4 rfl sc.nd rfl rfl (by decide) rfl rfl ?_
  refine wa_d ?_
  refine we_wf ?_
  refine wf_call [] F__law_bars (hr.mono (by omega)) m__law_bars k__law_bars b__law_bars ?_
  refine wa_d ?_
  refine we_name 0 rfl (.inl rfl) rfl ?_
  refine wa_nil ?_
  refine ⟨by decide, by (simp [setAll_len, setAll_nil]), by (simp [refsIn, setAll_len, setAll_nil, permL]), u, d, ns, rfl, rfl, hM, by omega, [], _, rfl, rfl, rfl, ?_⟩
  refine wa_cons ?_
  refine wv_dictR ?_
  refine wa_nil ?_
  refine ⟨_, _, rfl, ?_⟩
  change WSs _ _ [_, _, _, _, _, _, _, _, _, _, _, _] _ _
  refine wss_cons ?_
  refine ws_for PassesOwn.never rfl ?_
  refine wi_new ?_
  refine wf_sortSetI rfl m_sorted m_set ?_
  refine wv_we ?_
  refine we_wf ?_
  refine wf_cat ?_
  refine wv_name 1 rfl (.inr (.inl rfl)) rfl ?_
  refine wv_name 2 rfl (.inr (.inl rfl)) rfl ?_
  refine ⟨_, _, rfl, rfl, szl (by rw [List.length_map, List.length_map, hsA, hsB]; omega), ?_⟩
  rw [← List.map_append]
  refine ⟨_, rfl, by rw [List.length_append, hsA, hsB]; omega, fun ks hks1 hks2 => ?_⟩
  obtain rfl := F.ks hks1 hks2
  refine ⟨fun i L m => ∃ (bs : List PySem.Addr) (y5 y6 : Option PV), JJ.SeenF u d ns i bs.length ∧ L = [some (.d (MM.matD u d ns)), some (.d (.list ((JJ.spA u d).map .int))), some (.d (.list ((JJ.spB u d).map .int))), some (.d (.list (JJ.barsL u d ns ns.length))), some (.ref 0), y5, y6, none, none, none, none, none] ∧ m = some (.dR (JJ.kvsF u d ns bs)) :: cellsA bs (JJ.rowsFc u d ns i bs.length), ?_, fun i x L m hx hI => ?_, fun L m hI => ?_⟩
  ·
    exact ⟨[], _, _, ⟨fun g hg => absurd hg (Nat.not_lt_zero _), fun j hj => absurd hj (Nat.not_lt_zero _)⟩, rfl, rfl⟩
  ·
    obtain ⟨bs, y5, y6, hS, rfl, rfl⟩ := hI
    obtain ⟨z, hz, rfl⟩ := MM.map_get hx
    obtain ⟨g, hg, rfl⟩ : ∃ g : Nat, (List.range (JJ.fN u d))[i]? = some g ∧ 2 * (g : Int) = z := by
      rw [List.getElem?_map] at hz
      exact Option.map_eq_some_iff.mp hz
    obtain rfl : g = i := by
      have := (List.getElem?_eq_some_iff.mp hg).1
      rw [List.length_range] at this
      rw [List.getElem?_range this] at hg
      exact (Option.some.inj hg).symm
    have hgl : g < JJ.fN u d := by
      have := (List.getElem?_eq_some_iff.mp hg).1
      rwa [List.length_range] at this
    have hnk := F.num_le (g := g) (by omega)
    have hbk : bs.length ≤ JJ.fK u d ns + 1 := by
      rcases Nat.lt_or_ge (JJ.fK u d ns + 1) bs.length with q | q
      · obtain ⟨g2, q1, q2⟩ := hS.2 _ q
        have := F.num_le (g := g2) (by omega)
        omega
      · exact q
    have hrl9 : bs.length = (JJ.rowsFc u d ns g bs.length).length := JJ.rowsFc_len.symm
    have hcl9 := cellsA_len hrl9
    refine ⟨trivial, ?_⟩
    refine wg_name 5 sc.nd rfl (.inr rfl) ?_
    change WSs _ _ [_, _, _, _, _, _, _, _, _, _, _, _] _ _
    refine wss_cons ?_
    refine ws_setV 6 sc.nd rfl (.inr rfl) ?_
    refine wv_setdef (by (first | exact hr.units | exact units65 hr | exact units1 hr)) ?_
    refine wv_name 4 rfl (.inl rfl) rfl ?_
    refine ⟨_, _, rfl, rfl, ?_⟩
    refine we_tuple1 m_tuple ?_
    refine wv_we ?_
    refine we_wf ?_
    refine wf_lc [("_law_bar", 9)] (.nm 9) rfl sc.nd (blkOk_by (own := [("_law_bar", 9)]) (N := ["_law_mat_here", "_law_above", "_law_below", "_law_bars_here", "_law_table", "_law_spot", "_law_group", "_law_found", "_law_up", "_law_bar", "_law_gap", "_law_one"]) (by rfl)) (fun _ _ _ _ _ => pg_nm sc.nd rfl (.inl rfl) (.inr rfl)) (by decide) ?_
    refine wi_list ?_
    refine wv_name 3 rfl (.inl rfl) rfl ?_
    refine ⟨_, rfl, ?_⟩
    refine lcP (szl (by unfold JJ.barsL; rw [List.length_map]; have := MM.strI_len (ns := ns) (i := ns.length); omega)) rfl (fun k => .int (JJ.bitS u d g ((MM.strI ns ns.length).getD k (0, 0)))) (fun i x hx => ?_) ?_
    ·
      obtain ⟨s9, hs9, rfl⟩ := MM.map_get hx
      have hgs : (MM.strI ns ns.length).getD i (0, 0) = s9 := by rw [List.getD_eq_getElem?_getD, hs9]; rfl
      refine ⟨_, rfl, ?_⟩
      intro sb Hb Cb clb fpb
      refine we_int1 m_int ?_
      apply VE.use
      ·
        apply ve_chain op_lt op_lt (by rfl)
        ·
          intro Q hQ
          refine we_ix ?_
          refine wv_name 9 rfl (.inl rfl) rfl ?_
          refine we_int ?_
          refine ⟨_, _, _, rfl, rfl, rfl, ?_⟩
          exact hQ
        ·
          intro Q hQ
          refine we_name 5 rfl (by first | exact .inr (.inl rfl) | exact .inr (.inr rfl)) rfl ?_
          exact hQ
        intro hg1
        intro Q hQ
        refine we_ix ?_
        refine wv_name 9 rfl (.inl rfl) rfl ?_
        refine we_int ?_
        refine ⟨_, _, _, rfl, rfl, rfl, ?_⟩
        exact hQ
      refine .inr ⟨_, rfl, ?_⟩
      have hb9 : (if (decide (JJ.loS u d s9 < 2 * (g : Int)) && decide (2 * (g : Int) < JJ.hiS u d s9)) = true then (1 : Int) else 0) = JJ.bitS u d g s9 := by
        simp [JJ.bitS]
      rw [hgs, ← hb9]
      exact ⟨rfl, rfl⟩
    refine ⟨_, rfl, ?_⟩
    rw [show (JJ.barsL u d ns ns.length).length = (MM.strI ns ns.length).length from List.length_map .., MM.range_getD (fun s => PyData.int (JJ.bitS u d g s)) (0, 0) (MM.strI ns ns.length), show (MM.strI ns ns.length).map (fun s => PyData.int (JJ.bitS u d g s)) = (JJ.keyB u d ns g).map .int by unfold JJ.keyB; rw [List.map_map]; rfl]
    refine wf_lst ?_
    refine wd_nil ?_
    refine ⟨szl (by simp), ?_⟩
    refine ⟨_, rfl, JJ.keyD_ints, szlt (by rw [JJ.kvsF_len]; omega), fun b0 hb0 => ?_, fun hb0 b0 => ?_⟩
    ·
      have c : JJ.nmF u d ns g < bs.length := Classical.byContradiction fun c => by
        rw [F.adr_no (by omega) hbk (by omega)] at hb0; cases hb0
      obtain ⟨b1, hb1⟩ : ∃ b, bs[JJ.nmF u d ns g]? = some b := ⟨_, List.getElem?_eq_getElem c⟩
      rw [F.adr_yes (by omega) hbk hb1] at hb0
      obtain rfl := Option.some.inj hb0
      have hrow := JJ.rowsFc_at (u := u) (d := d) (ns := ns) (i := g) c
      refine ⟨1 + JJ.nmF u d ns g, _, JJ.row_one hrl9 hb1 hrow, ?_⟩
      change WSs _ _ [_, _, _, _, _, _, _, _, _, _, _, _] _ _
      refine wss_one ?_
      refine ws_expr ?_
      refine we_appendA ?_
      refine wv_name 6 rfl (.inr (.inl rfl)) rfl ?_
      refine ⟨_, b1, _, rfl, JJ.row_one hrl9 hb1 hrow, ?_⟩
      refine we_name 5 rfl (.inr (.inl rfl)) rfl ?_
      refine ⟨b1, _, JJ.row_one hrl9 hb1 hrow, szlt (by unfold JJ.rowFc; rw [List.length_map, List.length_map]; have := List.length_filter_le (fun g2 => decide (JJ.nmF u d ns g2 = JJ.nmF u d ns g)) (List.range g); rw [List.length_range] at this; omega), ?_⟩
      rw [JJ.set_one hrl9 hb1, JJ.rowsFc_next c]
      first
      | exact ⟨_, _, .same (by (repeat (first | exact WkL.nil | refine WkL.kd ?_ | (refine WkL.kr ?_ ?_; focus (simp [setAll_len, setAll_nil]; done)) | refine WkL.kw ?_ | refine WkL.drop ?_))) (by simp [setAll_len, hcl9, cellsA_len JJ.rowsFc_len.symm]), bs, _, _, hS.old c, rfl, rfl⟩
      | exact ⟨_, _, .same (by (repeat (first | exact WkL.nil | refine WkL.kd ?_ | (refine WkL.kr ?_ ?_; focus (simp [setAll_len, setAll_nil]; done)) | refine WkL.kw ?_ | refine WkL.drop ?_))) (by have h9 := cellsA_len (bs := bs ++ [b0]) (rs := JJ.rowsFc u d ns (g + 1) (bs ++ [b0]).length) JJ.rowsFc_len.symm; simp [setAll_len, hcl9] at h9 ⊢; omega), bs ++ [b0], _, _, (by rw [List.length_append]; exact hS.more ec), rfl, rfl⟩
    ·
      have c : ¬ JJ.nmF u d ns g < bs.length := fun c => by
        obtain ⟨b1, hb1⟩ : ∃ b, bs[JJ.nmF u d ns g]? = some b := ⟨_, List.getElem?_eq_getElem c⟩
        rw [F.adr_yes (by omega) hbk hb1] at hb0; cases hb0
      have ec := JJ.SeenF.new F (by omega) hS c
      have en : (some (Cell.dR (JJ.kvsF u d ns bs)) :: cellsA bs (JJ.rowsFc u d ns g bs.length)).set 0 (some (.dR (JJ.kvsF u d ns bs ++ [(PyData.tuple ((JJ.keyB u d ns g).map .int), b0)]))) ++ [some (Cell.lstA b0 [])] = some (.dR (JJ.kvsF u d ns (bs ++ [b0]))) :: cellsA (bs ++ [b0]) (JJ.rowsFc u d ns g bs.length ++ [[]]) := by
        rw [List.set_cons_zero, List.cons_append, JJ.cellsA_snoc hrl9, JJ.kvsF_snoc, F.key_new (by omega), ec]
      have hr2 : (bs ++ [b0]).length = (JJ.rowsFc u d ns g bs.length ++ [[]]).length := by rw [List.length_append, List.length_append, ← hrl9]; rfl
      have hb2 : (bs ++ [b0])[bs.length]? = some b0 := by rw [List.getElem?_append_right (Nat.le_refl _), Nat.sub_self]; rfl
      have hw2 : (JJ.rowsFc u d ns g bs.length ++ [([] : List PyData)])[bs.length]? = some [] := by rw [List.getElem?_append_right (by rw [← hrl9]; exact Nat.le_refl _), ← hrl9, Nat.sub_self]; rfl
      rw [List.length_cons, hcl9, Nat.add_comm, en]
      change WSs _ _ [_, _, _, _, _, _, _, _, _, _, _, _] _ _
      refine wss_one ?_
      refine ws_expr ?_
      refine we_appendA ?_
      refine wv_name 6 rfl (.inr (.inl rfl)) rfl ?_
      refine ⟨_, b0, [], rfl, JJ.row_one hr2 hb2 hw2, ?_⟩
      refine we_name 5 rfl (.inr (.inl rfl)) rfl ?_
      refine ⟨b0, [], JJ.row_one hr2 hb2 hw2, szlt (by simp), ?_⟩
      have hnew : (JJ.rowsFc u d ns g bs.length ++ [([] : List PyData)]).set bs.length [PyData.int (2 * (g : Int))] = JJ.rowsFc u d ns (g + 1) (bs ++ [b0]).length := by
        rw [List.set_append_right _ _ (by rw [← hrl9]; exact Nat.le_refl _), ← hrl9, Nat.sub_self, List.length_append, ← ec]
        exact JJ.rowsFc_new fun g2 h2 => by have := hS.1 g2 h2; omega
      rw [JJ.set_one hr2 hb2, List.nil_append, hnew]
      first
      | exact ⟨_, _, .same (by (repeat (first | exact WkL.nil | refine WkL.kd ?_ | (refine WkL.kr ?_ ?_; focus (simp [setAll_len, setAll_nil]; done)) | refine WkL.kw ?_ | refine WkL.drop ?_))) (by simp [setAll_len, hcl9, cellsA_len JJ.rowsFc_len.symm]), bs, _, _, hS.old c, rfl, rfl⟩
      | exact ⟨_, _, .same (by (repeat (first | exact WkL.nil | refine WkL.kd ?_ | (refine WkL.kr ?_ ?_; focus (simp [setAll_len, setAll_nil]; done)) | refine WkL.kw ?_ | refine WkL.drop ?_))) (by have h9 := cellsA_len (bs := bs ++ [b0]) (rs := JJ.rowsFc u d ns (g + 1) (bs ++ [b0]).length) JJ.rowsFc_len.symm; simp [setAll_len, hcl9] at h9 ⊢; omega), bs ++ [b0], _, _, (by rw [List.length_append]; exact hS.more ec), rfl, rfl⟩
  rw [List.length_map, List.length_map, List.length_range] at hI
  obtain ⟨bs, y5, y6, hS, rfl, rfl⟩ := hI
  have hbk := JJ.SeenF.all F hS
  have hrl9 : bs.length = (JJ.rowsFc u d ns (JJ.fN u d) bs.length).length := JJ.rowsFc_len.symm
  have hcl9 := cellsA_len hrl9
  have hK := F.half
  refine ⟨trivial, ?_⟩
  change WSs _ _ [_, _, _, _, _, _, _, _, _, _, _, _] _ _
  refine wss_cons ?_
  refine ws_setF 7 sc.nd rfl (.inl rfl) ?_
  refine wf_lst ?_
  refine wd_nil ?_
  refine ⟨szl (by simp), ?_⟩
  change WSs _ _ [_, _, _, _, _, _, _, _, _, _, _, _] _ _
  refine wss_cons ?_
  obtain ⟨M0, hM0⟩ : ∃ M0, M0 = (some (Cell.dR (JJ.kvsF u d ns bs)) :: cellsA bs (JJ.rowsFc u d ns (JJ.fN u d) bs.length)) := ⟨_, rfl⟩
  have hl0 : M0.length = 1 + bs.length := by rw [hM0, List.length_cons, hcl9, Nat.add_comm]
  rw [← hM0, hl0]
  refine ws_frzR 0 (JJ.kvsF u d ns bs) (List.range' 1 bs.length) (JJ.rowsFc u d ns (JJ.fN u d) bs.length) (by rw [hM0]; rfl) (fun h => by have := List.mem_range'_1.mp h; omega) (List.nodup_range' ..) (by rw [List.length_range', JJ.kvsF_len]) (by rw [JJ.rowsFc_len, JJ.kvsF_len]) (fun i j b r h1 h2 h3 => by
    rw [JJ.kvsF_snd] at h2
    have hib := (List.getElem?_eq_some_iff.mp h2).1
    rw [List.getElem?_range' hib] at h1
    obtain rfl : j = 1 + i := by have := Option.some.inj h1; omega
    rw [List.getElem?_append_left (by omega), hM0]
    exact JJ.row_one hrl9 h2 h3) ?_
  obtain ⟨M1, hM1⟩ : ∃ M1, M1 = (killAll (M0 ++ [some (Cell.lst [])]) (List.range' 1 bs.length)).set 0 (some (.dD (frzKv (JJ.kvsF u d ns bs) (JJ.rowsFc u d ns (JJ.fN u d) bs.length)))) := ⟨_, rfl⟩
  have hl1 : M1.length = 2 + bs.length := by rw [hM1, List.length_set, JJ.killAll_len, List.length_append, hl0, List.length_cons, List.length_nil]; omega
  have h10 : M1[0]? = some (some (.dD (frzKv (JJ.kvsF u d ns bs) (JJ.rowsFc u d ns (JJ.fN u d) bs.length)))) := by rw [hM1, List.getElem?_set_self (by rw [JJ.killAll_len, List.length_append, hl0]; omega)]
  have h1f : M1[1 + bs.length]? = some (some (.lst [])) := by rw [hM1, List.getElem?_set_ne (by omega), killAll_out (fun h => by have := List.mem_range'_1.mp h; omega), List.getElem?_append_right (by omega), hl0, Nat.sub_self]; rfl
  rw [← hM1]
  refine ws_for PassesOwn.never rfl ?_
  refine wi_valsN ?_
  refine wv_name 4 rfl (.inl rfl) rfl ?_
  refine ⟨0, _, rfl, h10, ?_⟩
  rw [JJ.frz_vals]
  refine ⟨fun i L m => ∃ (y4 y5 y6 y8 : Option PV), L = [some (.d (MM.matD u d ns)), some (.d (.list ((JJ.spA u d).map .int))), some (.d (.list ((JJ.spB u d).map .int))), some (.d (.list (JJ.barsL u d ns ns.length))), y4, y5, y6, some (.ref (1 + bs.length)), y8, none, none, none] ∧ m.length = 2 + bs.length ∧ m[1 + bs.length]? = some (some (.lst ((List.range i).map (JJ.triD u d ns)))), ?_, fun i x L m hx hI => ?_, fun L m hI => ?_⟩
  ·
    exact ⟨_, _, _, _, rfl, by rw [List.length_set, hl1], by rw [List.getElem?_set_ne (by omega), h1f]; rfl⟩
  ·
    obtain ⟨y4, y5, y6, y8, rfl, hml, hmf⟩ := hI
    obtain ⟨r9, hr9, rfl⟩ := JJ.mapL_get hx
    have hib : i < bs.length := by have := (List.getElem?_eq_some_iff.mp hr9).1; rwa [JJ.rowsFc_len] at this
    rw [JJ.rowsFc_at hib] at hr9
    obtain rfl := Option.some.inj hr9
    have hij : i ≤ JJ.fK u d ns := by omega
    obtain ⟨t9, ht9⟩ := F.row_fst hij
    refine ⟨trivial, ?_⟩
    refine wg_name 6 sc.nd rfl (.inr rfl) ?_
    change WSs _ _ [_, _, _, _, _, _, _, _, _, _, _, _] _ _
    refine wss_cons ?_
    refine ws_set 8 sc.nd rfl (.inl rfl) ?_
    refine we_tuple1 m_tuple ?_
    refine wv_we ?_
    refine we_wf ?_
    refine wf_lc1 [("_law_gap", 10)] (.nm 10) rfl sc.nd (blkOk_by (own := [("_law_gap", 10)]) (N := ["_law_mat_here", "_law_above", "_law_below", "_law_bars_here", "_law_table", "_law_spot", "_law_group", "_law_found", "_law_up", "_law_bar", "_law_gap", "_law_one"]) (by rfl)) (fun _ _ _ _ _ => pg_nm sc.nd rfl (.inl rfl) (.inr rfl)) (by decide) ?_
    refine wi_rng1 m_range ?_
    refine we_add ?_
    refine we_ix ?_
    refine wv_name 0 rfl (.inl rfl) rfl ?_
    refine we_int ?_
    refine ⟨_, _, _, rfl, rfl, rfl, ?_⟩
    refine we_int ?_
    refine ⟨_, _, rfl, rfl, ?_⟩
    refine ⟨_, rfl, by omega, by omega, ?_⟩
    refine ⟨szl (by rw [rgD_len]; omega), fun g9 ys m9 => m9 = m ∧ ys = ((List.range g9).filter fun g => decide (JJ.nmF u d ns g = i)).map fun g : Nat => .int g, ?_, fun g9 x ys m9 hx9 hy9 hI9 => ?_, fun ys m9 hy9 hI9 => ?_⟩
    ·
      exact ⟨rfl, rfl⟩
    ·
      obtain ⟨rfl, rfl⟩ := hI9
      obtain ⟨hg9, rfl⟩ := rgD_get hx9
      have hgu : g9 < u.toNat + 1 := by omega
      rw [show (0 : Int) + (g9 : Int) = g9 by omega]
      refine ⟨trivial, _, rfl, ?_⟩
      intro sb Hb Cb clb fpb
      refine wt_inI (by rfl) ?_
      refine we_ix ?_
      refine wv_name 1 rfl (by first | exact .inr (.inl rfl) | exact .inr (.inr rfl)) rfl ?_
      refine we_name 10 rfl (.inl rfl) rfl ?_
      refine ⟨_, _, _, rfl, rfl, atI_nat (by unfold JJ.spA; rw [List.getElem?_map, List.getElem?_map, List.getElem?_range hgu]; rfl), ?_⟩
      refine we_name 6 rfl (by first | exact .inr (.inl rfl) | exact .inr (.inr rfl)) rfl ?_
      refine ⟨_, JJ.rowFc u d ns (JJ.fN u d) i, rfl, .inr rfl, ?_⟩
      refine ⟨fun hlcif1 => ?_, fun hlcif1 => ?_⟩
      ·
        intro sb Hb Cb clb fpb
        refine we_name 10 rfl (.inl rfl) rfl ?_
        have hc9 := (F.in_up hgu).mp (of_decide_eq_true hlcif1)
        exact ⟨rfl, by rw [JJ.up_take, if_pos hc9]⟩
      ·
        have hc9 := fun z => of_decide_eq_false hlcif1 ((F.in_up hgu).mpr z)
        exact ⟨rfl, by rw [JJ.up_take, if_neg hc9, List.append_nil]⟩
    obtain ⟨e9, rfl⟩ := hI9
    obtain rfl : m = m9 := e9.symm
    rw [rgD_len, show (u + 1 - 0).toNat = u.toNat + 1 by omega]
    refine ⟨trivial, ?_⟩
    refine ⟨_, rfl, ?_⟩
    change WSs _ _ [_, _, _, _, _, _, _, _, _, _, _, _] _ _
    refine wss_one ?_
    refine ws_expr ?_
    refine we_append ?_
    refine wv_name 7 rfl (.inl rfl) rfl ?_
    refine ⟨_, _, rfl, hmf, ?_⟩
    refine we_tup ?_
    refine wd_cons ?_
    refine we_name 8 rfl (.inl rfl) rfl ?_
    refine wd_cons ?_
    refine we_tuple1 m_tuple ?_
    refine wv_we ?_
    refine we_wf ?_
    refine wf_lc1 [("_law_gap", 10)] (.nm 10) rfl sc.nd (blkOk_by (own := [("_law_gap", 10)]) (N := ["_law_mat_here", "_law_above", "_law_below", "_law_bars_here", "_law_table", "_law_spot", "_law_group", "_law_found", "_law_up", "_law_bar", "_law_gap", "_law_one"]) (by rfl)) (fun _ _ _ _ _ => pg_nm sc.nd rfl (.inl rfl) (.inr rfl)) (by decide) ?_
    refine wi_rng1 m_range ?_
    refine we_add ?_
    refine we_ix ?_
    refine wv_name 0 rfl (.inl rfl) rfl ?_
    refine we_int ?_
    refine ⟨_, _, _, rfl, rfl, rfl, ?_⟩
    refine we_int ?_
    refine ⟨_, _, rfl, rfl, ?_⟩
    refine ⟨_, rfl, by omega, by omega, ?_⟩
    refine ⟨szl (by rw [rgD_len]; omega), fun g9 ys m9 => m9 = m ∧ ys = ((List.range g9).filter fun g => decide (JJ.nmF u d ns (JJ.fN u d - g) = i)).map fun g : Nat => .int g, ?_, fun g9 x ys m9 hx9 hy9 hI9 => ?_, fun ys m9 hy9 hI9 => ?_⟩
    ·
      exact ⟨rfl, rfl⟩
    ·
      obtain ⟨rfl, rfl⟩ := hI9
      obtain ⟨hg9, rfl⟩ := rgD_get hx9
      have hgu : g9 < d.toNat + 1 := by omega
      rw [show (0 : Int) + (g9 : Int) = g9 by omega]
      refine ⟨trivial, _, rfl, ?_⟩
      intro sb Hb Cb clb fpb
      refine wt_inI (by rfl) ?_
      refine we_ix ?_
      refine wv_name 2 rfl (by first | exact .inr (.inl rfl) | exact .inr (.inr rfl)) rfl ?_
      refine we_name 10 rfl (.inl rfl) rfl ?_
      refine ⟨_, _, _, rfl, rfl, atI_nat (by unfold JJ.spB; rw [List.getElem?_map, List.getElem?_map, List.getElem?_range hgu]; rfl), ?_⟩
      refine we_name 6 rfl (by first | exact .inr (.inl rfl) | exact .inr (.inr rfl)) rfl ?_
      refine ⟨_, JJ.rowFc u d ns (JJ.fN u d) i, rfl, .inr rfl, ?_⟩
      refine ⟨fun hlcif2 => ?_, fun hlcif2 => ?_⟩
      ·
        intro sb Hb Cb clb fpb
        refine we_name 10 rfl (.inl rfl) rfl ?_
        have hc9 := (F.in_dn hgu).mp (of_decide_eq_true hlcif2)
        exact ⟨rfl, by rw [JJ.dn_take, if_pos hc9]⟩
      ·
        have hc9 := fun z => of_decide_eq_false hlcif2 ((F.in_dn hgu).mpr z)
        exact ⟨rfl, by rw [JJ.dn_take, if_neg hc9, List.append_nil]⟩
    obtain ⟨e9, rfl⟩ := hI9
    obtain rfl : m = m9 := e9.symm
    rw [rgD_len, show (d + 1 - 0).toNat = d.toNat + 1 by omega]
    refine ⟨trivial, ?_⟩
    refine ⟨_, rfl, ?_⟩
    refine wd_cons ?_
    refine we_ix ?_
    refine wv_name 6 rfl (.inr (.inl rfl)) rfl ?_
    refine we_int ?_
    rw [ht9, List.map_cons]
    refine ⟨_, _, _, rfl, rfl, atI_nat (j := 0) List.getElem?_cons_zero, ?_⟩
    refine wd_nil ?_
    refine ⟨szl (by simp), ?_⟩
    refine ⟨_, hmf, szlt (by rw [List.length_map, List.length_range]; omega), ?_⟩
    exact ⟨_, _, .same (by (repeat (first | exact WkL.nil | refine WkL.kd ?_ | (refine WkL.kr ?_ ?_; focus (first | (simp [setAll_len, setAll_nil]; done) | (rw [List.length_set, hml]; omega))) | refine WkL.kw ?_ | refine WkL.drop ?_))) (by simp [setAll_len]), _, _, _, _, rfl, by rw [List.length_set, hml], by rw [List.getElem?_set_self (by omega), JJ.tri_take]; rfl⟩
  rw [List.length_map, JJ.rowsFc_len] at hI
  obtain ⟨y4, y5, y6, y8, rfl, hml, hmf⟩ := hI
  rw [show List.range bs.length = List.range (JJ.fK u d ns + 1) by rw [hbk]] at hmf
  refine ⟨trivial, ?_⟩
  change WSs _ _ [_, _, _, _, _, _, _, _, _, _, _, _] _ _
  refine wss_cons ?_
  refine ws_setF 7 sc.nd rfl (.inl rfl) ?_
  refine wf_sortedD (by (first | exact hr.units | exact units65 hr | exact units1 hr)) m_sorted ?_
  refine wv_name 7 rfl (.inl rfl) rfl ?_
  refine ⟨_, JJ.lstP_of hmf, JJ.srtOk_tri.1, JJ.srtOk_tri.2.1, JJ.srtOk_tri.2.2, ?_⟩
  rw [F.srt_tri]
  have hfd : lstP (m ++ [some (.lst ((JJ.ordF u d ns).map (JJ.triD u d ns)))]) (.ref m.length) = some ((JJ.ordF u d ns).map (JJ.triD u d ns)) := JJ.lstP_last
  change WSs _ _ [_, _, _, _, _, _, _, _, _, _, _, _] _ _
  refine wss_one ?_
  refine ws_ret ?_
  refine we_tup ?_
  refine wd_cons ?_
  refine we_wf ?_
  refine wf_lc [("_law_one", 11)] (.nm 11) rfl sc.nd (blkOk_by (own := [("_law_one", 11)]) (N := ["_law_mat_here", "_law_above", "_law_below", "_law_bars_here", "_law_table", "_law_spot", "_law_group", "_law_found", "_law_up", "_law_bar", "_law_gap", "_law_one"]) (by rfl)) (fun _ _ _ _ _ => pg_nm sc.nd rfl (.inl rfl) (.inr rfl)) (by decide) ?_
  refine wi_list ?_
  refine wv_name 7 rfl (.inl rfl) rfl ?_
  refine ⟨_, hfd, ?_⟩
  refine lcP (szl (by rw [List.length_map, F.ord_len]; omega)) hfd (fun i => JJ.rmD u d ns ((JJ.ordF u d ns).getD i 0)) (fun i x hx => ?_) ?_
  ·
    obtain ⟨j9, hj9, rfl⟩ := JJ.mapL_get hx
    have hgj : (JJ.ordF u d ns).getD i 0 = j9 := by rw [List.getD_eq_getElem?_getD, hj9]; rfl
    refine ⟨_, rfl, ?_⟩
    intro sb Hb Cb clb fpb
    refine we_sliceT ?_
    refine we_name 11 rfl (.inl rfl) rfl ?_
    refine wo_none ?_
    refine wo_some ?_
    refine we_int ?_
    refine ⟨_, rfl, ?_⟩
    refine ⟨_, rfl, ?_⟩
    exact ⟨by rw [hgj]; rfl, rfl⟩
  refine wd_cons ?_
  refine we_wf ?_
  refine wf_lc [("_law_one", 11)] (.nm 11) rfl sc.nd (blkOk_by (own := [("_law_one", 11)]) (N := ["_law_mat_here", "_law_above", "_law_below", "_law_bars_here", "_law_table", "_law_spot", "_law_group", "_law_found", "_law_up", "_law_bar", "_law_gap", "_law_one"]) (by rfl)) (fun _ _ _ _ _ => pg_nm sc.nd rfl (.inl rfl) (.inr rfl)) (by decide) ?_
  refine wi_list ?_
  refine wv_name 7 rfl (.inl rfl) rfl ?_
  refine ⟨_, hfd, ?_⟩
  refine lcP (szl (by rw [List.length_map, F.ord_len]; omega)) hfd (fun i => .int (2 * (JJ.fstG u d ns ((JJ.ordF u d ns).getD i 0) : Int))) (fun i x hx => ?_) ?_
  ·
    obtain ⟨j9, hj9, rfl⟩ := JJ.mapL_get hx
    have hgj : (JJ.ordF u d ns).getD i 0 = j9 := by rw [List.getD_eq_getElem?_getD, hj9]; rfl
    refine ⟨_, rfl, ?_⟩
    intro sb Hb Cb clb fpb
    refine we_ix ?_
    refine wv_name 11 rfl (.inl rfl) rfl ?_
    refine we_int ?_
    refine ⟨_, _, _, rfl, rfl, rfl, ?_⟩
    exact ⟨by rw [hgj], rfl⟩
  refine wd_nil ?_
  refine ⟨szl (by simp), ?_⟩
  rw [List.length_map, MM.range_getD (JJ.rmD u d ns) 0 (JJ.ordF u d ns), MM.range_getD (fun j => PyData.int (2 * (JJ.fstG u d ns j : Int))) 0 (JJ.ordF u d ns), F.ord_map]
  unfold JJ.spotF at kq
  rw [List.map_map] at kq
  exact ⟨Nat.zero_le _, .inl ⟨_, rfl, by simpa [Function.comp_def] using kq⟩⟩
end
section
variable {P : Program} {w : World} {K : PySem.W.Frag} {mg : Str → Option Value} {base : Heap}
theorem ok_l_told {f : Addr} {fd : FuncData} (F : Fun K "_law_told" "_law_told" s_l_told f fd) {f_upside_down : Addr} {fd_upside_down : FuncData} (F_upside_down : FnOk P w K mg base CX0 5 f_upside_down fd_upside_down ["mat"] (toSp K (MM.spMove MM.flipP true))) (m_upside_down : mg "upside_down" = some (.ref f_upside_down)) (k_upside_down : PySem.W.keepIn K (.ref f_upside_down) = true) (b_upside_down : Binds K fd_upside_down ["mat"] []) {f__law_tap : Addr} {fd__law_tap : FuncData} (F__law_tap : FnOk P w K mg base CX0 1 f__law_tap fd__law_tap ["_law_cask_here", "_law_many"] (toSp K JJ.spNext)) (m__law_tap : mg "_law_tap" = some (.ref f__law_tap)) (k__law_tap : PySem.W.keepIn K (.ref f__law_tap) = true) (b__law_tap : Binds K fd__law_tap ["_law_cask_here", "_law_many"] []) : FnOk P w K mg base CX0 6 f fd ["_law_cask_here", "_law_mat_here"] (toSp K JJ.spToldF) := by
  have sc := sc_l_told
  refine fn_pp F sc (fun pvs m q h => ?_) (fun cdv A outer s H E hr pvs m q h => ?_)
  · obtain ⟨_, _, _, _, _, rfl, _⟩ := h
    rfl
  obtain ⟨xs, c, u, d, ns, rfl, rfl, hw, hc, hM, hud, kq⟩ := h
  have I0 := MM.Is.own hM
  have hu0 := I0.hu
  have hd0 := I0.hd
  have hln := I0.len
  change WSs _ _ [_, _] [_] _
  refine wss_one ?_
  refine ws_ret ?_
  refine we_if ?_
  refine wt_eqI ?_
  refine we_call [0] F__law_tap (hr.mono (by omega)) m__law_tap k__law_tap b__law_tap ?_
  refine wa_cons ?_
  refine wv_name 0 rfl (.inl rfl) rfl ?_
  refine wa_d ?_
  refine we_int ?_
  refine wa_nil ?_
  refine ⟨by decide, by (simp [setAll_len, setAll_nil]), by (simp [refsIn, setAll_len, setAll_nil, permL]), _, _, 3, rfl, rfl, hw, by omega, by omega, by omega, fun r1 xsr1 hr1a hr1b hr1 => ⟨_, rfl, rfl, ?_⟩⟩
  refine we_int ?_
  refine ⟨_, _, rfl, rfl, ?_⟩
  refine ⟨fun hif1 => ?_, fun hif1 => ?_⟩
  ·
    refine we_call [] F_upside_down (hr.mono (by omega)) m_upside_down k_upside_down b_upside_down ?_
    refine wa_d ?_
    refine we_call [] F_upside_down (hr.mono (by omega)) m_upside_down k_upside_down b_upside_down ?_
    refine wa_d ?_
    refine we_name 1 rfl (.inl rfl) rfl ?_
    refine wa_nil ?_
    refine ⟨by decide, by (simp [setAll_len, setAll_nil]), by (simp [refsIn, setAll_len, setAll_nil, permL]), u, d, ns, rfl, rfl, by omega, by omega, by omega, hM, fun k1 hk1 mk1 => ⟨_, rfl, rfl, ?_⟩⟩
    have I1 := I0.flip hk1 mk1
    refine wa_nil ?_
    refine ⟨by decide, by (simp [setAll_len, setAll_nil]), by (simp [refsIn, setAll_len, setAll_nil, permL]), d, u, k1, rfl, rfl, by omega, by omega, by omega, I1.mat, fun k2 hk2 mk2 => ⟨_, rfl, rfl, ?_⟩⟩
    rw [show k2 = ns from JJ.flip2 hM I1 (I1.flip hk2 mk2)]
    exact ⟨by simp [setAll_len], .inl ⟨_, rfl, kq _ (hr1.mono (by omega))⟩⟩
  ·
    refine we_name 1 rfl (.inl rfl) rfl ?_
    exact ⟨by simp [setAll_len], .inl ⟨_, rfl, kq _ (hr1.mono (by omega))⟩⟩
end
section
variable {P : Program} {w : World} {K : PySem.W.Frag} {mg : Str → Option Value} {base : Heap}
theorem ok_strings {f : Addr} {fd : FuncData} (F : Fun K "strings" "strings" s_strings f fd) {f_check_mat : Addr} {fd_check_mat : FuncData} (F_check_mat : FnOk P w K mg base CX0 4 f_check_mat fd_check_mat ["mat"] (toSp K MM.spCheck)) (m_check_mat : mg "check_mat" = some (.ref f_check_mat)) (k_check_mat : PySem.W.keepIn K (.ref f_check_mat) = true) (b_check_mat : Binds K fd_check_mat ["mat"] []) {f__strings : Addr} {fd__strings : FuncData} (F__strings : FnOk P w K mg base CX0 1 f__strings fd__strings ["mat"] (toSp K MM.spStr)) (m__strings : mg "_strings" = some (.ref f__strings)) (k__strings : PySem.W.keepIn K (.ref f__strings) = true) (b__strings : Binds K fd__strings ["mat"] []) : FnOk P w K mg base CX0 5 f fd ["mat"] (toSp K JJ.spStrings) := by
  have sc := sc_strings
  refine fn_pp F sc (fun pvs m q h => ?_) (fun cdv A outer s H E hr pvs m q h => ?_)
  · obtain ⟨_, _, _, rfl, _⟩ := h
    rfl
  obtain ⟨u, d, ns, rfl, rfl, hu1, hd1, hl, hb, kq⟩ := h
  change WSs _ _ [_] [] _
  refine wss_cons ?_
  refine ws_expr ?_
  refine we_call [] F_check_mat (hr.mono (by omega)) m_check_mat k_check_mat b_check_mat ?_
  refine wa_d ?_
  refine we_name 0 rfl (.inl rfl) rfl ?_
  refine wa_nil ?_
  refine ⟨by decide, by (simp [setAll_len, setAll_nil]), by (simp [refsIn, setAll_len, setAll_nil, permL]), u, d, ns, rfl, rfl, hu1, hd1, hl, hb, _, rfl, rfl, ?_⟩
  change WSs _ _ [_] [] _
  refine wss_one ?_
  refine ws_retF ?_
  refine wf_call [] F__strings (hr.mono (by omega)) m__strings k__strings b__strings ?_
  refine wa_d ?_
  refine we_name 0 rfl (.inl rfl) rfl ?_
  refine wa_nil ?_
  refine ⟨by decide, by (simp [setAll_len, setAll_nil]), by (simp [refsIn, setAll_len, setAll_nil, permL]), u, d, ns, rfl, rfl, hl, [], _, rfl, rfl, rfl, ?_⟩
  exact ⟨Nat.zero_le _, .inr (.inr ⟨_, _, rfl, Nat.le_refl _, rfl, kq⟩)⟩
end
section
variable {P : Program} {w : World} {K : PySem.W.Frag} {mg : Str → Option Value} {base : Heap}
theorem ok_cut_string {f : Addr} {fd : FuncData} (F : Fun K "cut_string" "cut_string" s_cut_string f fd) {f_check_mat : Addr} {fd_check_mat : FuncData} (F_check_mat : FnOk P w K mg base CX0 4 f_check_mat fd_check_mat ["mat"] (toSp K MM.spCheck)) (m_check_mat : mg "check_mat" = some (.ref f_check_mat)) (k_check_mat : PySem.W.keepIn K (.ref f_check_mat) = true) (b_check_mat : Binds K fd_check_mat ["mat"] []) {f__string_of : Addr} {fd__string_of : FuncData} (F__string_of : FnOk P w K mg base CX0 1 f__string_of fd__string_of ["mat", "peg"] (toSp K JJ.spStrF)) (m__string_of : mg "_string_of" = some (.ref f__string_of)) (k__string_of : PySem.W.keepIn K (.ref f__string_of) = true) (b__string_of : Binds K fd__string_of ["mat", "peg"] []) {f_mat_of_pairs : Addr} {fd_mat_of_pairs : FuncData} (F_mat_of_pairs : FnOk P w K mg base CX0 1 f_mat_of_pairs fd_mat_of_pairs ["n", "m", "pairs"] (toSp K MM.spOf)) (m_mat_of_pairs : mg "mat_of_pairs" = some (.ref f_mat_of_pairs)) (k_mat_of_pairs : PySem.W.keepIn K (.ref f_mat_of_pairs) = true) (b_mat_of_pairs : Binds K fd_mat_of_pairs ["n", "m", "pairs"] []) {f_strings : Addr} {fd_strings : FuncData} (F_strings : FnOk P w K mg base CX0 5 f_strings fd_strings ["mat"] (toSp K JJ.spStrings)) (m_strings : mg "strings" = some (.ref f_strings)) (k_strings : PySem.W.keepIn K (.ref f_strings) = true) (b_strings : Binds K fd_strings ["mat"] []) (m_len : mg "len" = none) (m_range : mg "range" = none) : FnOk P w K mg base CX0 6 f fd ["mat", "peg"] (toSp K JJ.spCutF) := by
  have sc := sc_cut_string
  refine fn_pp F sc (fun pvs m q h => ?_) (fun cdv A outer s H E hr pvs m q h => ?_)
  · obtain ⟨_, _, _, _, rfl, _⟩ := h
    rfl
  obtain ⟨u, d, ns, p, rfl, rfl, hM, hud, hp0, hp1, h2, kq⟩ := h
  have F := JJ.fc_of hM
  have hu0 := F.u0
  have hd0 := F.d0
  have h00 := F.h0
  have hln := F.len
  have hrl := F.rl
  have hfN : (JJ.fN u d : Int) = u + d := by unfold JJ.fN; omega
  have hcs := JJ.cut_sum (u := u) (d := d) (ns := ns) (p := p)
  have hkl := F.kp_len ⟨hp0, hp1⟩
  have hI := F.cut_is hM ⟨hp0, hp1⟩ h2
  have hIu := hI.hu
  have hId := hI.hd
  change WSs _ _ [_, _, _, _, _, _, _, _, _, _, _, _] [] _
  refine wss_cons ?_
  refine ws_expr ?_
  refine we_call [] F_check_mat (hr.mono (by omega)) m_check_mat k_check_mat b_check_mat ?_
  refine wa_d ?_
  refine we_name 0 rfl (.inl rfl) rfl ?_
  refine wa_nil ?_
  refine ⟨by decide, by (simp [setAll_len, setAll_nil]), by (simp [refsIn, setAll_len, setAll_nil, permL]), u, d, ns, rfl, rfl, by omega, by omega, by omega, hM, _, rfl, rfl, ?_⟩
  change WSs _ _ [_, _, _, _, _, _, _, _, _, _, _, _] [] _
  refine wss_cons ?_
  refine ws_asg ?_
  refine we_name 0 rfl (.inl rfl) rfl ?_
  refine wg_tup rfl ?_
  refine ⟨_, rfl, rfl, ?_⟩
  refine wgn_cons ?_
  refine wg_name 2 sc.nd rfl (.inr rfl) ?_
  refine wgn_cons ?_
  refine wg_name 3 sc.nd rfl (.inl rfl) ?_
  refine wgn_cons ?_
  refine wg_name 4 sc.nd rfl (.inl rfl) ?_
  refine wgn_nil ?_
  change WSs _ _ [_, _, _, _, _, _, _, _, _, _, _, _] [] _
  refine wss_cons ?_
  refine ws_if ?_
  refine wt_not ?_
  apply VT.use
  ·
    apply vt_chain op_le op_lt (by rfl)
    ·
      intro Q hQ
      refine we_int ?_
      exact hQ
    ·
      intro Q hQ
      refine we_name 1 rfl (.inl rfl) rfl ?_
      exact hQ
    intro hg1
    intro Q hQ
    refine we_add ?_
    refine we_name 2 rfl (.inr (.inl rfl)) rfl ?_
    refine we_name 3 rfl (.inl rfl) rfl ?_
    refine ⟨_, _, rfl, rfl, ?_⟩
    exact hQ
  refine ⟨fun hif1 => ?_, fun hif1 => ?_⟩
  ·
    exfalso
    simp at hif1
    omega --done
  ·
    refine wss_nil ?_
    change WSs _ _ [_, _, _, _, _, _, _, _, _, _, _, _] [] _
    refine wss_cons ?_
    refine ws_set 5 sc.nd rfl (.inr rfl) ?_
    refine we_call [] F__string_of (hr.mono (by omega)) m__string_of k__string_of b__string_of ?_
    refine wa_d ?_
    refine we_name 0 rfl (.inl rfl) rfl ?_
    refine wa_d ?_
    refine we_name 1 rfl (.inl rfl) rfl ?_
    refine wa_nil ?_
    refine ⟨by decide, by (simp [setAll_len, setAll_nil]), by (simp [refsIn, setAll_len, setAll_nil, permL]), u, d, ns, p, rfl, rfl, hp0, by omega, _, rfl, rfl, ?_⟩
    change WSs _ _ [_, _, _, _, _, _, _, _, _, _, _, _] [] _
    refine wss_cons ?_
    refine ws_if ?_
    refine wt_eqI ?_
    refine we_add ?_
    refine we_name 2 rfl (.inr (.inl rfl)) rfl ?_
    refine we_name 3 rfl (.inl rfl) rfl ?_
    refine ⟨_, _, rfl, rfl, ?_⟩
    refine we_int ?_
    refine ⟨_, _, rfl, rfl, ?_⟩
    refine ⟨fun hif2 => ?_, fun hif2 => ?_⟩
    ·
      exfalso
      have := of_decide_eq_true hif2
      omega --done
    ·
      refine wss_nil ?_
      change WSs _ _ [_, _, _, _, _, _, _, _, _, _, _, _] [] _
      refine wss_cons ?_
      refine ws_set 6 sc.nd rfl (.inr rfl) ?_
      refine we_wf ?_
      refine wf_lc1 [("other", 9)] (.nm 9) rfl sc.nd (blkOk_by (own := [("other", 9)]) (N := ["mat", "peg", "n", "m", "_", "cut", "kept", "above", "pairs", "other", "p", "q"]) (by rfl)) (fun _ _ _ _ _ => pg_nm sc.nd rfl (.inl rfl) (.inr rfl)) (by decide) ?_
      refine wi_rng1 m_range ?_
      refine we_add ?_
      refine we_name 2 rfl (.inr (.inl rfl)) rfl ?_
      refine we_name 3 rfl (.inl rfl) rfl ?_
      refine ⟨_, _, rfl, rfl, ?_⟩
      refine ⟨_, rfl, by omega, by omega, ?_⟩
      refine ⟨szl (by rw [rgD_len]; omega), fun q ys m9 => m9 = [] ∧ ys = (((JJ.rngI 0 (u + d)).take q).filter (JJ.kpB ns p)).map .int, ?_, fun q x ys m9 hx9 hy9 hI9 => ?_, fun ys m9 hy9 hI9 => ?_⟩
      ·
        exact ⟨rfl, rfl⟩
      ·
        obtain ⟨rfl, rfl⟩ := hI9
        rw [JJ.rg_rng] at hx9
        obtain ⟨x9, hx8, rfl⟩ := JJ.mapL_get hx9
        refine ⟨(by first | exact trivial | rfl), _, rfl, ?_⟩
        intro sb Hb Cb clb fpb
        refine wt_notinI (by rfl) ?_
        refine we_name 9 rfl (.inl rfl) rfl ?_
        refine we_name 5 rfl (by first | exact .inr (.inl rfl) | exact .inr (.inr rfl)) rfl ?_
        refine ⟨_, ([if MM.mu ns p < p then MM.mu ns p else p, if p < MM.mu ns p then MM.mu ns p else p] : List Int), rfl, .inl rfl, ?_⟩
        rw [F.not_cut ⟨hp0, hp1⟩]
        refine ⟨fun hlcif1 => ?_, fun hlcif1 => ?_⟩
        ·
          intro sb Hb Cb clb fpb
          refine we_name 9 rfl (.inl rfl) rfl ?_
          exact ⟨rfl, by rw [JJ.take_at hx8, List.filter_append, List.map_append, List.filter_cons_of_pos (by exact hlcif1)]; rfl⟩
        ·
          exact ⟨rfl, by rw [JJ.take_at hx8, List.filter_append, List.map_append, List.filter_cons_of_neg (by rw [hlcif1]; decide)]; simp⟩
      obtain ⟨rfl, rfl⟩ := hI9
      rw [JJ.rg_rng, List.length_map, List.take_length, ← JJ.kpL_filter hu0 hd0]
      refine ⟨(by first | exact trivial | rfl), ?_⟩
      change WSs _ _ [_, _, _, _, _, _, _, _, _, _, _, _] [] _
      refine wss_cons ?_
      refine ws_set 7 sc.nd rfl (.inl rfl) ?_
      refine we_len m_len ?_
      refine wv_we ?_
      refine we_wf ?_
      refine wf_lc1 [("other", 9)] (.nm 9) rfl sc.nd (blkOk_by (own := [("other", 9)]) (N := ["mat", "peg", "n", "m", "_", "cut", "kept", "above", "pairs", "other", "p", "q"]) (by rfl)) (fun _ _ _ _ _ => pg_nm sc.nd rfl (.inl rfl) (.inr rfl)) (by decide) ?_
      refine wi_list ?_
      refine wv_name 6 rfl (.inr (.inl rfl)) rfl ?_
      refine ⟨_, rfl, ?_⟩
      refine ⟨szl (by rw [List.length_map]; omega), fun q ys m9 => m9 = [] ∧ ys = (((JJ.kpL u d ns p).take q).filter (fun x => decide (x < u))).map .int, ?_, fun q x ys m9 hx9 hy9 hI9 => ?_, fun ys m9 hy9 hI9 => ?_⟩
      ·
        exact ⟨rfl, rfl⟩
      ·
        obtain ⟨rfl, rfl⟩ := hI9
        obtain ⟨x9, hx8, rfl⟩ := JJ.mapL_get hx9
        refine ⟨(by first | exact trivial | rfl), _, rfl, ?_⟩
        intro sb Hb Cb clb fpb
        refine wt_lt ?_
        refine we_name 9 rfl (.inl rfl) rfl ?_
        refine we_name 2 rfl (by first | exact .inr (.inl rfl) | exact .inr (.inr rfl)) rfl ?_
        refine ⟨_, _, rfl, rfl, ?_⟩
        refine ⟨fun hlcif2 => ?_, fun hlcif2 => ?_⟩
        ·
          intro sb Hb Cb clb fpb
          refine we_name 9 rfl (.inl rfl) rfl ?_
          exact ⟨rfl, by rw [JJ.take_at hx8, List.filter_append, List.map_append, List.filter_cons_of_pos (by exact hlcif2)]; rfl⟩
        ·
          exact ⟨rfl, by rw [JJ.take_at hx8, List.filter_append, List.map_append, List.filter_cons_of_neg (by rw [hlcif2]; decide)]; simp⟩
      obtain ⟨rfl, rfl⟩ := hI9
      rw [List.length_map, List.take_length, JJ.kp_above hu0 hd0]
      refine ⟨(by first | exact trivial | rfl), ?_⟩
      refine ⟨_, rfl, ?_⟩
      rw [List.length_map, show ((JJ.kpA u ns p).length : Int) = JJ.cutU u ns p from rfl]
      change WSs _ _ [_, _, _, _, _, _, _, _, _, _, _, _] [] _
      refine wss_cons ?_
      refine ws_setLc1 8 [("p", 10), ("q", 11)] (.tp [10, 11]) rfl sc.nd rfl rfl (sw_true rfl rfl rfl (by decide +kernel)) (blkOk_by (own := [("p", 10), ("q", 11)]) (N := ["mat", "peg", "n", "m", "_", "cut", "kept", "above", "pairs", "other", "p", "q"]) (by rfl)) (fun _ _ _ _ _ => pg_tp2 sc.nd rfl (.inl rfl) (.inr rfl) rfl (.inl rfl) (.inr rfl)) (by decide) ?_
      refine wi_new ?_
      refine wf_call [] F_strings (hr.mono (by omega)) m_strings k_strings b_strings ?_
      refine wa_d ?_
      refine we_name 0 rfl (.inl rfl) rfl ?_
      refine wa_nil ?_
      refine ⟨by decide, by (simp [setAll_len, setAll_nil]), by (simp [refsIn, setAll_len, setAll_nil, permL]), u, d, ns, rfl, rfl, by omega, by omega, by omega, hM, [], _, rfl, rfl, rfl, ?_⟩
      refine ⟨szl (by rw [List.length_map]; have := MM.strI_len (ns := ns) (i := ns.length); omega), fun q ys m9 => m9 = [] ∧ ys = (((MM.strI ns ns.length).take q).filter fun s => JJ.kpB ns p s.1).map (fun s => MM.nPair (JJ.kpN u d ns p s.1, JJ.kpN u d ns p s.2)), ?_, fun q x ys m9 hx9 hy9 hI9 => ?_, fun ys m9 hy9 hI9 => ?_⟩
      ·
        exact ⟨rfl, rfl⟩
      ·
        obtain ⟨rfl, rfl⟩ := hI9
        obtain ⟨s9, hs9, rfl⟩ := JJ.mapL_get hx9
        have hsm := List.mem_of_getElem? hs9
        obtain ⟨es, sm1, sm2, _⟩ := F.str hsm
        refine ⟨(by first | exact trivial | rfl), _, rfl, ?_⟩
        intro sb Hb Cb clb fpb
        refine wt_neI ?_
        refine we_name 10 rfl (.inl rfl) rfl ?_
        refine we_ix ?_
        refine wv_name 5 rfl (by first | exact .inr (.inl rfl) | exact .inr (.inr rfl)) rfl ?_
        refine we_int ?_
        refine ⟨_, _, _, rfl, rfl, rfl, ?_⟩
        refine ⟨_, _, rfl, rfl, ?_⟩
        refine ⟨fun hlcif3 => ?_, fun hlcif3 => ?_⟩
        ·
          intro sb Hb Cb clb fpb
          refine we_tup ?_
          refine wd_cons ?_
          refine we_index (by (first | exact hr.units | exact units65 hr | exact units1 hr)) ?_
          refine wv_name 6 rfl (by first | exact .inr (.inl rfl) | exact .inr (.inr rfl)) rfl ?_
          refine ⟨⟨_, rfl⟩, ?_⟩
          refine we_name 10 rfl (.inl rfl) rfl ?_
          have hk : JJ.kpB ns p s9.1 = true := by rw [← F.cut_low ⟨hp0, hp1⟩ hsm]; simpa using hlcif3
          have hk2 : JJ.kpB ns p s9.2 = true := by rw [es, F.kp_mu ⟨hp0, hp1⟩ (F.in_.mp sm1)]; exact hk
          refine JJ.ix_nd rfl rfl (JJ.kp_in hu0 hd0 (F.in_.mp sm1) hk) ?_
          refine wd_cons ?_
          refine we_index (by (first | exact hr.units | exact units65 hr | exact units1 hr)) ?_
          refine wv_name 6 rfl (by first | exact .inr (.inl rfl) | exact .inr (.inr rfl)) rfl ?_
          refine ⟨⟨_, rfl⟩, ?_⟩
          refine we_name 11 rfl (.inl rfl) rfl ?_
          refine JJ.ix_nd rfl rfl (JJ.kp_in hu0 hd0 (F.in_.mp sm2) hk2) ?_
          refine wd_nil ?_
          refine ⟨szl (by simp), ?_⟩
          exact ⟨rfl, by rw [JJ.take_at hs9, List.filter_append, List.map_append, List.filter_cons_of_pos (by exact hk)]; rfl⟩
        ·
          have hk : JJ.kpB ns p s9.1 = false := by rw [← F.cut_low ⟨hp0, hp1⟩ hsm]; simpa using hlcif3
          exact ⟨rfl, by rw [JJ.take_at hs9, List.filter_append, List.map_append, List.filter_cons_of_neg (by rw [hk]; decide)]; simp⟩
      obtain ⟨rfl, rfl⟩ := hI9
      rw [List.length_map, List.take_length, show ((MM.strI ns ns.length).filter fun s => JJ.kpB ns p s.1).map (fun s => MM.nPair (JJ.kpN u d ns p s.1, JJ.kpN u d ns p s.2)) = (JJ.cutP u d ns p).map MM.nPair by unfold JJ.cutP; rw [List.map_map]; rfl]
      refine ⟨(by first | exact trivial | rfl), ?_⟩
      refine .inl ?_
      change WSs _ _ [_, _, _, _, _, _, _, _, _, _, _, _] [] _
      refine wss_one ?_
      refine ws_ret ?_
      refine we_call [] F_mat_of_pairs (hr.mono (by omega)) m_mat_of_pairs k_mat_of_pairs b_mat_of_pairs ?_
      refine wa_d ?_
      refine we_name 7 rfl (.inl rfl) rfl ?_
      refine wa_d ?_
      refine we_sub ?_
      refine we_len m_len ?_
      refine wv_name 6 rfl (.inr (.inl rfl)) rfl ?_
      refine ⟨_, rfl, ?_⟩
      rw [List.length_map, ← hcs]
      refine we_name 7 rfl (.inl rfl) rfl ?_
      refine ⟨_, _, rfl, rfl, ?_⟩
      refine wa_d ?_
      refine we_name 8 rfl (.inl rfl) rfl ?_
      refine wa_nil ?_
      rw [show JJ.cutU u ns p + JJ.cutD' u d ns p - JJ.cutU u ns p = JJ.cutD' u d ns p by omega]
      refine ⟨by decide, by (simp [setAll_len, setAll_nil]), by (simp [refsIn, setAll_len, setAll_nil, permL]), JJ.cutU u ns p, JJ.cutD' u d ns p, JJ.cutP u d ns p, rfl, rfl, hIu, by omega, hId, by omega, hI.M.nd, hI.in, fun rs hl9 W9 => ⟨_, rfl, rfl, ?_⟩⟩
      rw [F.cut_one hM ⟨hp0, hp1⟩ h2 hl9 W9]
      exact ⟨Nat.zero_le _, .inl ⟨_, rfl, kq⟩⟩
end
section
variable {P : Program} {w : World} {K : PySem.W.Frag} {mg : Str → Option Value} {base : Heap}
theorem okx_cut_string {f : Addr} {fd : FuncData} (F : Fun K "cut_string" "cut_string" s_cut_string f fd) {c_InvalidString : Addr} (E_InvalidString : EOk P w K mg base "InvalidString" c_InvalidString (spIn K)) {f_check_mat : Addr} {fd_check_mat : FuncData} (F_check_mat : FnOk P w K mg base CX0 4 f_check_mat fd_check_mat ["mat"] (toSp K MM.spCheck)) (m_check_mat : mg "check_mat" = some (.ref f_check_mat)) (k_check_mat : PySem.W.keepIn K (.ref f_check_mat) = true) (b_check_mat : Binds K fd_check_mat ["mat"] []) {f__string_of : Addr} {fd__string_of : FuncData} (F__string_of : FnOk P w K mg base CX0 1 f__string_of fd__string_of ["mat", "peg"] (toSp K JJ.spStrF)) (m__string_of : mg "_string_of" = some (.ref f__string_of)) (k__string_of : PySem.W.keepIn K (.ref f__string_of) = true) (b__string_of : Binds K fd__string_of ["mat", "peg"] []) {f_mat_of_pairs : Addr} {fd_mat_of_pairs : FuncData} (F_mat_of_pairs : FnOk P w K mg base CX0 1 f_mat_of_pairs fd_mat_of_pairs ["n", "m", "pairs"] (toSp K MM.spOf)) (m_mat_of_pairs : mg "mat_of_pairs" = some (.ref f_mat_of_pairs)) (k_mat_of_pairs : PySem.W.keepIn K (.ref f_mat_of_pairs) = true) (b_mat_of_pairs : Binds K fd_mat_of_pairs ["n", "m", "pairs"] []) {f_strings : Addr} {fd_strings : FuncData} (F_strings : FnOk P w K mg base CX0 5 f_strings fd_strings ["mat"] (toSp K JJ.spStrings)) (m_strings : mg "strings" = some (.ref f_strings)) (k_strings : PySem.W.keepIn K (.ref f_strings) = true) (b_strings : Binds K fd_strings ["mat"] []) (m_len : mg "len" = none) (m_range : mg "range" = none) : FnOk P w K mg base (L2N.CX P w) 6 f fd ["mat", "peg"] (toSpX K (JJ.spxCutF c_InvalidString)) := by
  have sc := sc_cut_string
  refine fnx_pp F sc (fun pvs m q h => ?_) (fun cdv A outer s H E hr hpo pvs m q h => ?_)
  · obtain ⟨_, _, _, _, rfl, _⟩ := h
    rfl
  obtain ⟨u, d, ns, p, rfl, rfl, hM, hud, hp0, hp1, kq⟩ := h
  have F := JJ.fc_of hM
  have hu0 := F.u0
  have hd0 := F.d0
  have h00 := F.h0
  have hln := F.len
  have hrl := F.rl
  have hfN : (JJ.fN u d : Int) = u + d := by unfold JJ.fN; omega
  change WSsX _ _ [_, _, _, _, _, _, _, _, _, _, _, _] [] _ _
  refine wssx_pre ?_
  refine ws_expr ?_
  refine we_call [] F_check_mat (hr.mono (by omega)) m_check_mat k_check_mat b_check_mat ?_
  refine wa_d ?_
  refine we_name 0 rfl (.inl rfl) rfl ?_
  refine wa_nil ?_
  refine ⟨by decide, by (simp [setAll_len, setAll_nil]), by (simp [refsIn, setAll_len, setAll_nil, permL]), u, d, ns, rfl, rfl, by omega, by omega, by omega, hM, _, rfl, rfl, ?_⟩
  change WSsX _ _ [_, _, _, _, _, _, _, _, _, _, _, _] [] _ _
  refine wssx_pre ?_
  refine ws_asg ?_
  refine we_name 0 rfl (.inl rfl) rfl ?_
  refine wg_tup rfl ?_
  refine ⟨_, rfl, rfl, ?_⟩
  refine wgn_cons ?_
  refine wg_name 2 sc.nd rfl (.inr rfl) ?_
  refine wgn_cons ?_
  refine wg_name 3 sc.nd rfl (.inl rfl) ?_
  refine wgn_cons ?_
  refine wg_name 4 sc.nd rfl (.inl rfl) ?_
  refine wgn_nil ?_
  change WSsX _ _ [_, _, _, _, _, _, _, _, _, _, _, _] [] _ _
  refine wssx_cons ?_
  refine wsx_if ?_
  refine wt_not ?_
  apply VT.use
  ·
    apply vt_chain op_le op_lt (by rfl)
    ·
      intro Q hQ
      refine we_int ?_
      exact hQ
    ·
      intro Q hQ
      refine we_name 1 rfl (.inl rfl) rfl ?_
      exact hQ
    intro hg1
    intro Q hQ
    refine we_add ?_
    refine we_name 2 rfl (.inr (.inl rfl)) rfl ?_
    refine we_name 3 rfl (.inl rfl) rfl ?_
    refine ⟨_, _, rfl, rfl, ?_⟩
    exact hQ
  refine ⟨fun hif1 => ?_, fun hif1 => ?_⟩
  ·
    exfalso
    simp at hif1
    omega --done
  ·
    refine wssx_nil ?_
    change WSsX _ _ [_, _, _, _, _, _, _, _, _, _, _, _] [] _ _
    refine wssx_pre ?_
    refine ws_set 5 sc.nd rfl (.inr rfl) ?_
    refine we_call [] F__string_of (hr.mono (by omega)) m__string_of k__string_of b__string_of ?_
    refine wa_d ?_
    refine we_name 0 rfl (.inl rfl) rfl ?_
    refine wa_d ?_
    refine we_name 1 rfl (.inl rfl) rfl ?_
    refine wa_nil ?_
    refine ⟨by decide, by (simp [setAll_len, setAll_nil]), by (simp [refsIn, setAll_len, setAll_nil, permL]), u, d, ns, p, rfl, rfl, hp0, by omega, _, rfl, rfl, ?_⟩
    rw [F.two_mu ⟨hp0, hp1⟩ hud]
    change WSsX _ _ [_, _, _, _, _, _, _, _, _, _, _, _] [] _ _
    refine wssx_cons ?_
    refine wsx_if ?_
    refine wt_eqI ?_
    refine we_add ?_
    refine we_name 2 rfl (.inr (.inl rfl)) rfl ?_
    refine we_name 3 rfl (.inl rfl) rfl ?_
    refine ⟨_, _, rfl, rfl, ?_⟩
    refine we_int ?_
    refine ⟨_, _, rfl, rfl, ?_⟩
    refine ⟨fun hif2 => ?_, fun hif2 => ?_⟩
    ·
      change WSsX _ _ [_, _, _, _, _, _, _, _, _, _, _, _] [] _ _
      refine wssx_one ?_
      refine wsx_raise rfl E_InvalidString (hr.mono (by omega)) ?_
      refine we_name 5 rfl (.inr (.inl rfl)) rfl ?_
      exact ⟨Nat.zero_le _, kq⟩
    ·
      exfalso
      have := of_decide_eq_false hif2
      omega --done
end
section
variable {P : Program} {w : World} {K : PySem.W.Frag} {mg : Str → Option Value} {base : Heap}
theorem ok_l_cut {f : Addr} {fd : FuncData} (F : Fun K "_law_cut" "_law_cut" s_l_cut f fd) (m_len : mg "len" = none) (m_tuple : mg "tuple" = none) (m_range : mg "range" = none) : FnOk P w K mg base CX0 1 f fd ["_law_mat_here", "_law_peg"] (toSp K JJ.spCutLaw) := by
  have sc := sc_l_cut
  refine fn_pp F sc (fun pvs m q h => ?_) (fun cdv A outer s H E hr pvs m q h => ?_)
  · obtain ⟨_, _, _, _, rfl, _⟩ := h
    rfl
  obtain ⟨u, d, ns, p, rfl, rfl, hM, hud, hp0, hp1, h2, kq⟩ := h
  have F := JJ.fc_of hM
  have hu0 := F.u0
  have hd0 := F.d0
  have h00 := F.h0
  have hln := F.len
  have hrl := F.rl
  have hfN : (JJ.fN u d : Int) = u + d := by unfold JJ.fN; omega
  have hcs := JJ.cut_sum (u := u) (d := d) (ns := ns) (p := p)
  have hkl := F.kp_len ⟨hp0, hp1⟩
  have hnd := JJ.kpL_nd (u := u) (d := d) (ns := ns) (p := p) hu0 hd0
  have hka : (JJ.kpA u ns p).length + (JJ.kpD u d ns p).length = (JJ.kpL u d ns p).length := by unfold JJ.kpL; rw [List.length_append]
  change WSs _ _ [_, _, _, _, _, _] [] _
  refine wss_cons ?_
  refine ws_setLc1 2 [("_law_p", 5)] (.nm 5) rfl sc.nd rfl rfl (sw_true rfl rfl rfl (by decide +kernel)) (blkOk_by (own := [("_law_p", 5)]) (N := ["_law_mat_here", "_law_peg", "_law_above", "_law_below", "_law_numbers", "_law_p"]) (by rfl)) (fun _ _ _ _ _ => pg_nm sc.nd rfl (.inl rfl) (.inr rfl)) (by decide) ?_
  refine wi_rng1 m_range ?_
  refine we_ix ?_
  refine wv_name 0 rfl (.inr (.inl rfl)) rfl ?_
  refine we_int ?_
  refine ⟨_, _, _, rfl, rfl, rfl, ?_⟩
  refine ⟨_, rfl, by omega, by omega, ?_⟩
  refine ⟨szl (by rw [rgD_len]; omega), fun q ys m9 => m9 = [] ∧ ys = (((JJ.rngI (0) (u)).take q).filter (JJ.kpB ns p)).map .int, ?_, fun q x ys m9 hx9 hy9 hI9 => ?_, fun ys m9 hy9 hI9 => ?_⟩
  ·
    exact ⟨rfl, rfl⟩
  ·
    obtain ⟨rfl, rfl⟩ := hI9
    rw [JJ.rg_rng] at hx9
    obtain ⟨x9, hx8, rfl⟩ := JJ.mapL_get hx9
    have hxr := JJ.rngI_mem.mp (List.mem_of_getElem? hx8)
    refine ⟨(by first | exact trivial | rfl), _, rfl, ?_⟩
    intro sb Hb Cb clb fpb
    refine wt_notinI (by rfl) ?_
    refine we_name 1 rfl (by first | exact .inr (.inl rfl) | exact .inr (.inr rfl)) rfl ?_
    refine we_tup ?_
    refine wd_cons ?_
    refine we_name 5 rfl (.inl rfl) rfl ?_
    refine wd_cons ?_
    refine we_ix ?_
    refine wv_we ?_
    refine we_ix ?_
    refine wv_name 0 rfl (by first | exact .inr (.inl rfl) | exact .inr (.inr rfl)) rfl ?_
    refine we_int ?_
    refine ⟨_, _, _, rfl, rfl, rfl, ?_⟩
    refine we_name 5 rfl (.inl rfl) rfl ?_
    refine ⟨_, _, _, rfl, rfl, JJ.row_at (by omega) (by omega), ?_⟩
    refine wd_nil ?_
    refine ⟨szl (by simp), ?_⟩
    refine ⟨_, [x9, MM.mu ns x9], rfl, .inl rfl, ?_⟩
    rw [← decide_not, F.peg_not ⟨hp0, hp1⟩ (by omega)]
    refine ⟨fun hlcif1 => ?_, fun hlcif1 => ?_⟩
    ·
      intro sb Hb Cb clb fpb
      refine we_name 5 rfl (.inl rfl) rfl ?_
      exact ⟨rfl, by rw [JJ.take_at hx8, List.filter_append, List.map_append, List.filter_cons_of_pos (by exact hlcif1)]; rfl⟩
    ·
      exact ⟨rfl, by rw [JJ.take_at hx8, List.filter_append, List.map_append, List.filter_cons_of_neg (by rw [hlcif1]; decide)]; simp⟩
  obtain ⟨rfl, rfl⟩ := hI9
  rw [JJ.rg_rng, List.length_map, List.take_length]
  refine ⟨(by first | exact trivial | rfl), ?_⟩
  rw [show (JJ.rngI 0 u).filter (JJ.kpB ns p) = JJ.kpA u ns p from rfl]
  refine .inl ?_
  change WSs _ _ [_, _, _, _, _, _] [] _
  refine wss_cons ?_
  refine ws_setLc1 3 [("_law_p", 5)] (.nm 5) rfl sc.nd rfl rfl (sw_true rfl rfl rfl (by decide +kernel)) (blkOk_by (own := [("_law_p", 5)]) (N := ["_law_mat_here", "_law_peg", "_law_above", "_law_below", "_law_numbers", "_law_p"]) (by rfl)) (fun _ _ _ _ _ => pg_nm sc.nd rfl (.inl rfl) (.inr rfl)) (by decide) ?_
  refine wi_rng2 m_range ?_
  refine we_ix ?_
  refine wv_name 0 rfl (.inr (.inl rfl)) rfl ?_
  refine we_int ?_
  refine ⟨_, _, _, rfl, rfl, rfl, ?_⟩
  refine we_add ?_
  refine we_ix ?_
  refine wv_name 0 rfl (.inr (.inl rfl)) rfl ?_
  refine we_int ?_
  refine ⟨_, _, _, rfl, rfl, rfl, ?_⟩
  refine we_ix ?_
  refine wv_name 0 rfl (.inr (.inl rfl)) rfl ?_
  refine we_int ?_
  refine ⟨_, _, _, rfl, rfl, rfl, ?_⟩
  refine ⟨_, _, rfl, rfl, ?_⟩
  refine ⟨_, _, rfl, rfl, ⟨by omega, by omega, by omega, by omega⟩, ?_⟩
  refine ⟨szl (by rw [rgD_len]; omega), fun q ys m9 => m9 = [] ∧ ys = (((JJ.rngI (u) (u + d)).take q).filter (JJ.kpB ns p)).map .int, ?_, fun q x ys m9 hx9 hy9 hI9 => ?_, fun ys m9 hy9 hI9 => ?_⟩
  ·
    exact ⟨rfl, rfl⟩
  ·
    obtain ⟨rfl, rfl⟩ := hI9
    rw [JJ.rg_rng] at hx9
    obtain ⟨x9, hx8, rfl⟩ := JJ.mapL_get hx9
    have hxr := JJ.rngI_mem.mp (List.mem_of_getElem? hx8)
    refine ⟨(by first | exact trivial | rfl), _, rfl, ?_⟩
    intro sb Hb Cb clb fpb
    refine wt_notinI (by rfl) ?_
    refine we_name 1 rfl (by first | exact .inr (.inl rfl) | exact .inr (.inr rfl)) rfl ?_
    refine we_tup ?_
    refine wd_cons ?_
    refine we_name 5 rfl (.inl rfl) rfl ?_
    refine wd_cons ?_
    refine we_ix ?_
    refine wv_we ?_
    refine we_ix ?_
    refine wv_name 0 rfl (by first | exact .inr (.inl rfl) | exact .inr (.inr rfl)) rfl ?_
    refine we_int ?_
    refine ⟨_, _, _, rfl, rfl, rfl, ?_⟩
    refine we_name 5 rfl (.inl rfl) rfl ?_
    refine ⟨_, _, _, rfl, rfl, JJ.row_at (by omega) (by omega), ?_⟩
    refine wd_nil ?_
    refine ⟨szl (by simp), ?_⟩
    refine ⟨_, [x9, MM.mu ns x9], rfl, .inl rfl, ?_⟩
    rw [← decide_not, F.peg_not ⟨hp0, hp1⟩ (by omega)]
    refine ⟨fun hlcif2 => ?_, fun hlcif2 => ?_⟩
    ·
      intro sb Hb Cb clb fpb
      refine we_name 5 rfl (.inl rfl) rfl ?_
      exact ⟨rfl, by rw [JJ.take_at hx8, List.filter_append, List.map_append, List.filter_cons_of_pos (by exact hlcif2)]; rfl⟩
    ·
      exact ⟨rfl, by rw [JJ.take_at hx8, List.filter_append, List.map_append, List.filter_cons_of_neg (by rw [hlcif2]; decide)]; simp⟩
  obtain ⟨rfl, rfl⟩ := hI9
  rw [JJ.rg_rng, List.length_map, List.take_length]
  refine ⟨(by first | exact trivial | rfl), ?_⟩
  rw [show (JJ.rngI u (u + d)).filter (JJ.kpB ns p) = JJ.kpD u d ns p from rfl]
  refine .inl ?_
  change WSs _ _ [_, _, _, _, _, _] [] _
  refine wss_cons ?_
  refine ws_setD 4 sc.nd rfl (.inr rfl) ?_
  change WSs _ _ [_, _, _, _, _, _] [_] _
  refine wss_cons ?_
  refine ws_for PassesOwn.never rfl ?_
  refine wi_new ?_
  refine wf_cat ?_
  refine wv_name 2 rfl (.inl rfl) rfl ?_
  refine wv_name 3 rfl (.inl rfl) rfl ?_
  refine ⟨_, _, rfl, rfl, szl (by rw [List.length_map, List.length_map]; omega), ?_⟩
  rw [← List.map_append, show JJ.kpA u ns p ++ JJ.kpD u d ns p = JJ.kpL u d ns p from rfl]
  refine ⟨fun i L m => ∃ y5, L = [some (.d (MM.matD u d ns)), some (.d (.int p)), some (.d (.list ((JJ.kpA u ns p).map .int))), some (.d (.list ((JJ.kpD u d ns p).map .int))), some (.ref 0), y5] ∧ m = [some (.dK (JJ.kvN (JJ.kpL u d ns p) i))], ?_, fun i x L m hx hI => ?_, fun L m hI => ?_⟩
  ·
    exact ⟨_, rfl, rfl⟩
  ·
    obtain ⟨y5, rfl, rfl⟩ := hI
    obtain ⟨x9, hx9, rfl⟩ := JJ.mapL_get hx
    have hil := (List.getElem?_eq_some_iff.mp hx9).1
    have hgx : (JJ.kpL u d ns p).getD i 0 = x9 := by rw [List.getD_eq_getElem?_getD, hx9]; rfl
    have hput := JJ.kvN_put hnd hil
    rw [hgx] at hput
    refine ⟨(by first | exact trivial | rfl), ?_⟩
    refine wg_name 5 sc.nd rfl (.inl rfl) ?_
    change WSs _ _ [_, _, _, _, _, _] [_] _
    refine wss_one ?_
    refine ws_asg ?_
    refine we_lenD m_len ?_
    refine wv_name 4 rfl (.inr (.inl rfl)) rfl ?_
    refine ⟨_, _, rfl, rfl, ?_⟩
    rw [JJ.kvN_len]
    refine wg_subD (by (first | exact hr.units | exact units65 hr | exact units1 hr)) ?_
    refine wv_name 4 rfl (.inr (.inl rfl)) rfl ?_
    refine we_name 5 rfl (.inl rfl) rfl ?_
    refine ⟨_, .inl _, _, rfl, rfl, rfl, szlt (by rw [JJ.kvN_len]; omega), ?_⟩
    exact ⟨_, _, .same (by (repeat (first | exact WkL.nil | refine WkL.kd ?_ | (refine WkL.kr ?_ ?_; focus (simp [setAll_len, setAll_nil]; done)) | refine WkL.kw ?_ | refine WkL.drop ?_))) (by simp [setAll_len]), _, rfl, by rw [← hput]; rfl⟩
  rw [List.length_map] at hI
  obtain ⟨y5, rfl, rfl⟩ := hI
  refine ⟨(by first | exact trivial | rfl), ?_⟩
  change WSs _ _ [_, _, _, _, _, _] [_] _
  refine wss_one ?_
  refine ws_ret ?_
  refine we_tup ?_
  refine wd_cons ?_
  refine we_len m_len ?_
  refine wv_name 2 rfl (.inl rfl) rfl ?_
  refine ⟨_, rfl, ?_⟩
  rw [List.length_map, show ((JJ.kpA u ns p).length : Int) = JJ.cutU u ns p from rfl]
  refine wd_cons ?_
  refine we_len m_len ?_
  refine wv_name 3 rfl (.inl rfl) rfl ?_
  refine ⟨_, rfl, ?_⟩
  rw [List.length_map, show ((JJ.kpD u d ns p).length : Int) = JJ.cutD' u d ns p from rfl]
  refine wd_cons ?_
  refine we_tuple1 m_tuple ?_
  refine wv_we ?_
  refine we_wf ?_
  refine wf_lc [("_law_p", 5)] (.nm 5) rfl sc.nd (blkOk_by (own := [("_law_p", 5)]) (N := ["_law_mat_here", "_law_peg", "_law_above", "_law_below", "_law_numbers", "_law_p"]) (by rfl)) (fun _ _ _ _ _ => pg_nm sc.nd rfl (.inl rfl) (.inr rfl)) (by decide) ?_
  refine wi_new ?_
  refine wf_cat ?_
  refine wv_name 2 rfl (.inl rfl) rfl ?_
  refine wv_name 3 rfl (.inl rfl) rfl ?_
  refine ⟨_, _, rfl, rfl, szl (by rw [List.length_map, List.length_map]; omega), ?_⟩
  rw [← List.map_append, show JJ.kpA u ns p ++ JJ.kpD u d ns p = JJ.kpL u d ns p from rfl]
  refine lcP (szl (by rw [List.length_map]; omega)) trivial (fun i => .int (JJ.kpN u d ns p (MM.mu ns ((JJ.kpL u d ns p).getD i 0)))) (fun i x hx => ?_) ?_
  ·
    obtain ⟨x9, hx9, rfl⟩ := JJ.mapL_get hx
    have hgx : (JJ.kpL u d ns p).getD i 0 = x9 := by rw [List.getD_eq_getElem?_getD, hx9]; rfl
    have hxm := List.mem_of_getElem? hx9
    have hxk := (JJ.kpL_mem hu0 hd0).mp hxm
    have hmi := F.in_.mp (F.I.mem x9 (F.in_.mpr hxk.1))
    have hmk : MM.mu ns x9 ∈ (JJ.kpL u d ns p) := JJ.kp_in hu0 hd0 hmi (by rw [F.kp_mu ⟨hp0, hp1⟩ hxk.1]; exact decide_eq_true hxk.2)
    refine ⟨_, rfl, ?_⟩
    intro sb Hb Cb clb fpb
    refine we_ixD (by (first | exact hr.units | exact units65 hr | exact units1 hr)) ?_
    refine wv_name 4 rfl (by first | exact .inr (.inl rfl) | exact .inr (.inr rfl)) rfl ?_
    refine we_ix ?_
    refine wv_we ?_
    refine we_ix ?_
    refine wv_name 0 rfl (by first | exact .inr (.inl rfl) | exact .inr (.inr rfl)) rfl ?_
    refine we_int ?_
    refine ⟨_, _, _, rfl, rfl, rfl, ?_⟩
    refine we_name 5 rfl (.inl rfl) rfl ?_
    refine ⟨_, _, _, rfl, rfl, JJ.row_at (by omega) (by omega), ?_⟩
    refine ⟨_, .inl _, _, _, rfl, rfl, rfl, JJ.kvN_idx hnd hmk, ?_⟩
    exact ⟨by rw [hgx]; rfl, rfl⟩
  refine ⟨_, rfl, ?_⟩
  rw [List.length_map, MM.range_getD (fun x => PyData.int (JJ.kpN u d ns p (MM.mu ns x))) 0 (JJ.kpL u d ns p)]
  refine wd_nil ?_
  refine ⟨szl (by simp), ?_⟩
  unfold JJ.cutM' JJ.cutR at kq
  unfold MM.matD at kq
  rw [List.map_map] at kq
  exact ⟨by simp, .inl ⟨_, rfl, by simpa [Function.comp_def] using kq⟩⟩
end
section
variable {P : Program} {w : World} {K : PySem.W.Frag} {mg : Str → Option Value} {base : Heap}
theorem ok_l_asked_N {f : Addr} {fd : FuncData} (F : Fun K "_law_asked" "_law_asked" s_l_asked f fd) {f__law_told : Addr} {fd__law_told : FuncData} (F__law_told : FnOk P w K mg base CX0 6 f__law_told fd__law_told ["_law_cask_here", "_law_mat_here"] (toSp K JJ.spToldF)) (m__law_told : mg "_law_told" = some (.ref f__law_told)) (k__law_told : PySem.W.keepIn K (.ref f__law_told) = true) (b__law_told : Binds K fd__law_told ["_law_cask_here", "_law_mat_here"] []) {f_cut_string : Addr} {fd_cut_string : FuncData} (F_cut_string : FnOk P w K mg base CX0 6 f_cut_string fd_cut_string ["mat", "peg"] (toSp K JJ.spCutF)) (m_cut_string : mg "cut_string" = some (.ref f_cut_string)) (k_cut_string : PySem.W.keepIn K (.ref f_cut_string) = true) (b_cut_string : Binds K fd_cut_string ["mat", "peg"] []) {f__law_tap : Addr} {fd__law_tap : FuncData} (F__law_tap : FnOk P w K mg base CX0 1 f__law_tap fd__law_tap ["_law_cask_here", "_law_many"] (toSp K JJ.spNext)) (m__law_tap : mg "_law_tap" = some (.ref f__law_tap)) (k__law_tap : PySem.W.keepIn K (.ref f__law_tap) = true) (b__law_tap : Binds K fd__law_tap ["_law_cask_here", "_law_many"] []) (bR0_cut_string_peg_mat : KBr K fd_cut_string ["mat", "peg"] 0 ["peg", "mat"] [1, 0]) : FnOk P w K mg base CX0 7 f fd ["_law_cask_here", "_law_mat_here", "_law_peg"] (toSp K JJ.spAsk71) := by
  have sc := sc_l_asked
  refine fn_pp F sc (fun pvs m q h => ?_) (fun cdv A outer s H E hr pvs m q h => ?_)
  · obtain ⟨_, _, _, _, _, _, rfl, _⟩ := h
    rfl
  obtain ⟨xs, c, u, d, ns, p, rfl, rfl, hw, hc, hM, hud, hp0, hp1, h2, kq⟩ := h
  change WSs _ _ [_, _, _, _, _, _, _] [_] _
  refine wss_cons ?_
  refine ws_par3 3 4 5 rfl sc.nd rfl rfl rfl (by decide) (by decide) (by decide) rfl rfl rfl ?_
  refine wa_d ?_
  refine we_none ?_
  refine wa_d ?_
  refine we_none ?_
  refine wa_d ?_
  refine we_call [0] F__law_told (hr.mono (by omega)) m__law_told k__law_told b__law_told ?_
  refine wa_cons ?_
  refine wv_name 0 rfl (.inl rfl) rfl ?_
  refine wa_d ?_
  refine we_name 1 rfl (.inl rfl) rfl ?_
  refine wa_nil ?_
  refine ⟨by decide, by (simp [setAll_len, setAll_nil]), by (simp [refsIn, setAll_len, setAll_nil, permL]), _, _, u, d, ns, rfl, rfl, hw, by omega, hM, by omega, fun xsw1 hw1 => ⟨_, rfl, rfl, ?_⟩⟩
  refine wa_nil ?_
  refine ⟨_, _, _, rfl, ?_⟩
  change WSs _ _ [_, _, _, _, _, _, _] [_] _
  refine wss_cons ?_
  refine ws_tryN ?_
  change WSs _ _ [_, _, _, _, _, _, _] [_] _
  refine wss_one ?_
  refine ws_set 3 sc.nd rfl (.inl rfl) ?_
  refine we_if ?_
  refine wt_eqI ?_
  refine we_call [0] F__law_tap (hr.mono (by omega)) m__law_tap k__law_tap b__law_tap ?_
  refine wa_cons ?_
  refine wv_name 0 rfl (.inl rfl) rfl ?_
  refine wa_d ?_
  refine we_int ?_
  refine wa_nil ?_
  refine ⟨by decide, by (simp [setAll_len, setAll_nil]), by (simp [refsIn, setAll_len, setAll_nil, permL]), _, _, 2, rfl, rfl, hw1, by omega, by omega, by omega, fun r2 xsr2 hr2a hr2b hr2 => ⟨_, rfl, rfl, ?_⟩⟩
  refine we_int ?_
  refine ⟨_, _, rfl, rfl, ?_⟩
  refine ⟨fun hif1 => ?_, fun hif1 => ?_⟩
  ·
    refine we_call [] F_cut_string (hr.mono (by omega)) m_cut_string k_cut_string b_cut_string ?_
    refine wa_d ?_
    refine we_name 5 rfl (.inl rfl) rfl ?_
    refine wa_d ?_
    refine we_name 2 rfl (.inl rfl) rfl ?_
    refine wa_nil ?_
    refine ⟨by decide, by (simp [setAll_len, setAll_nil]), by (simp [refsIn, setAll_len, setAll_nil, permL]), u, d, ns, p, rfl, rfl, hM, by omega, hp0, hp1, h2, _, rfl, rfl, ?_⟩
    change WSs _ _ [_, _, _, _, _, _, _] [_] _
    refine wss_one ?_
    refine ws_ret ?_
    refine we_tup ?_
    refine wd_cons ?_
    refine we_name 3 rfl (.inl rfl) rfl ?_
    refine wd_cons ?_
    refine we_name 4 rfl (.inl rfl) rfl ?_
    refine wd_nil ?_
    refine ⟨szl (by simp), ?_⟩
    exact ⟨by simp [setAll_len], .inl ⟨_, rfl, kq _ (hr2.mono (by omega))⟩⟩
  ·
    refine we_callR0 [] F_cut_string (hr.mono (by omega)) m_cut_string k_cut_string bR0_cut_string_peg_mat ?_
    refine wk_d ?_
    refine we_name 2 rfl (.inl rfl) rfl ?_
    refine wk_d ?_
    refine we_name 5 rfl (.inl rfl) rfl ?_
    refine wk_nil ?_
    refine ⟨rfl, rfl, ?_⟩
    refine ⟨by decide, by (simp [setAll_len, setAll_nil]), by (simp [refsIn, setAll_len, setAll_nil, permL]), u, d, ns, p, rfl, rfl, hM, by omega, hp0, hp1, h2, _, rfl, rfl, ?_⟩
    change WSs _ _ [_, _, _, _, _, _, _] [_] _
    refine wss_one ?_
    refine ws_ret ?_
    refine we_tup ?_
    refine wd_cons ?_
    refine we_name 3 rfl (.inl rfl) rfl ?_
    refine wd_cons ?_
    refine we_name 4 rfl (.inl rfl) rfl ?_
    refine wd_nil ?_
    refine ⟨szl (by simp), ?_⟩
    exact ⟨by simp [setAll_len], .inl ⟨_, rfl, kq _ (hr2.mono (by omega))⟩⟩
end
section
variable {P : Program} {w : World} {K : PySem.W.Frag} {mg : Str → Option Value} {base : Heap}
theorem ok_l_asked_X {f : Addr} {fd : FuncData} (F : Fun K "_law_asked" "_law_asked" s_l_asked f fd) {c_InvalidString : Addr} (E_InvalidString : EOk P w K mg base "InvalidString" c_InvalidString (spIn K)) (sb_InvalidString_InvalidString : PySem.W.subIn K (.ref c_InvalidString) (.ref c_InvalidString) = some true) {f__law_told : Addr} {fd__law_told : FuncData} (F__law_told : FnOk P w K mg base CX0 6 f__law_told fd__law_told ["_law_cask_here", "_law_mat_here"] (toSp K JJ.spToldF)) (m__law_told : mg "_law_told" = some (.ref f__law_told)) (k__law_told : PySem.W.keepIn K (.ref f__law_told) = true) (b__law_told : Binds K fd__law_told ["_law_cask_here", "_law_mat_here"] []) {f_cut_string : Addr} {fd_cut_string : FuncData} (F_cut_string : FnOk P w K mg base CX0 6 f_cut_string fd_cut_string ["mat", "peg"] (toSp K JJ.spCutF)) (FX_cut_string : FnOk P w K mg base (L2N.CX P w) 6 f_cut_string fd_cut_string ["mat", "peg"] (toSpX K (JJ.spxCutF c_InvalidString))) (m_cut_string : mg "cut_string" = some (.ref f_cut_string)) (k_cut_string : PySem.W.keepIn K (.ref f_cut_string) = true) (b_cut_string : Binds K fd_cut_string ["mat", "peg"] []) {f__law_tap : Addr} {fd__law_tap : FuncData} (F__law_tap : FnOk P w K mg base CX0 1 f__law_tap fd__law_tap ["_law_cask_here", "_law_many"] (toSp K JJ.spNext)) (m__law_tap : mg "_law_tap" = some (.ref f__law_tap)) (k__law_tap : PySem.W.keepIn K (.ref f__law_tap) = true) (b__law_tap : Binds K fd__law_tap ["_law_cask_here", "_law_many"] []) (bR0_cut_string_peg_mat : KBr K fd_cut_string ["mat", "peg"] 0 ["peg", "mat"] [1, 0]) : FnOk P w K mg base CX0 7 f fd ["_law_cask_here", "_law_mat_here", "_law_peg"] (toSp K JJ.spAsk71X) := by
  have sc := sc_l_asked
  refine fn_pp F sc (fun pvs m q h => ?_) (fun cdv A outer s H E hr pvs m q h => ?_)
  · obtain ⟨_, _, _, _, _, _, rfl, _⟩ := h
    rfl
  obtain ⟨xs, c, u, d, ns, p, rfl, rfl, hw, hc, hM, hud, hp0, hp1, kq⟩ := h
  change WSs _ _ [_, _, _, _, _, _, _] [_] _
  refine wss_cons ?_
  refine ws_par3 3 4 5 rfl sc.nd rfl rfl rfl (by decide) (by decide) (by decide) rfl rfl rfl ?_
  refine wa_d ?_
  refine we_none ?_
  refine wa_d ?_
  refine we_none ?_
  refine wa_d ?_
  refine we_call [0] F__law_told (hr.mono (by omega)) m__law_told k__law_told b__law_told ?_
  refine wa_cons ?_
  refine wv_name 0 rfl (.inl rfl) rfl ?_
  refine wa_d ?_
  refine we_name 1 rfl (.inl rfl) rfl ?_
  refine wa_nil ?_
  refine ⟨by decide, by (simp [setAll_len, setAll_nil]), by (simp [refsIn, setAll_len, setAll_nil, permL]), _, _, u, d, ns, rfl, rfl, hw, by omega, hM, by omega, fun xsw1 hw1 => ⟨_, rfl, rfl, ?_⟩⟩
  refine wa_nil ?_
  refine ⟨_, _, _, rfl, ?_⟩
  change WSs _ _ [_, _, _, _, _, _, _] [_] _
  refine wss_cons ?_
  refine ws_tryX rfl rfl sc.nd rfl (fun pn xe hpo => ?_)
  change WSsX _ _ [_, _, _, _, _, _, _] [_] _ _
  refine wssx_one ?_
  refine wsx_set 3 sc.nd rfl (.inl rfl) ?_
  refine wex_if ?_
  refine wt_eqI ?_
  refine we_call [0] F__law_tap (hr.mono (by omega)) m__law_tap k__law_tap b__law_tap ?_
  refine wa_cons ?_
  refine wv_name 0 rfl (.inl rfl) rfl ?_
  refine wa_d ?_
  refine we_int ?_
  refine wa_nil ?_
  refine ⟨by decide, by (simp [setAll_len, setAll_nil]), by (simp [refsIn, setAll_len, setAll_nil, permL]), _, _, 2, rfl, rfl, hw1, by omega, by omega, by omega, fun r2 xsr2 hr2a hr2b hr2 => ⟨_, rfl, rfl, ?_⟩⟩
  refine we_int ?_
  refine ⟨_, _, rfl, rfl, ?_⟩
  refine ⟨fun hif1 => ?_, fun hif1 => ?_⟩
  ·
    refine wex_call [] FX_cut_string (hr.mono (by omega)) m_cut_string k_cut_string b_cut_string ?_
    refine wa_d ?_
    refine we_name 5 rfl (.inl rfl) rfl ?_
    refine wa_d ?_
    refine we_name 2 rfl (.inl rfl) rfl ?_
    refine wa_nil ?_
    refine ⟨by decide, by (simp [setAll_len, setAll_nil]), by (simp [refsIn, setAll_len, setAll_nil, permL]), u, d, ns, p, rfl, rfl, hM, hud, hp0, hp1, rfl, ?_⟩
    refine hq_as 6 rfl rfl ⟨by rfl, by decide, .inl E_InvalidString.m⟩ (exm_of E_InvalidString.toExOk (by first | exact sb_InvalidString_InvalidString)) (fun a0 pn0 => ?_)
    change WSs _ _ [_, _, _, _, _, _, _] [_] _
    refine wss_one ?_
    refine ws_set 4 sc.nd rfl (.inl rfl) ?_
    refine we_exv ?_
    refine wv_name 6 rfl (.inl rfl) rfl ?_
    refine ⟨_, _, rfl, (by first | exact E_InvalidString.toExOk), ?_⟩
    change WSs _ _ [_, _, _, _, _, _, _] [_] _
    refine wss_one ?_
    refine ws_ret ?_
    refine we_tup ?_
    refine wd_cons ?_
    refine we_name 3 rfl (.inl rfl) rfl ?_
    refine wd_cons ?_
    refine we_name 4 rfl (.inl rfl) rfl ?_
    refine wd_nil ?_
    refine ⟨szl (by simp), ?_⟩
    exact ⟨by simp [setAll_len], .inl ⟨_, rfl, kq _ (hr2.mono (by omega))⟩⟩
  ·
    refine wex_callR0 [] FX_cut_string (hr.mono (by omega)) m_cut_string k_cut_string bR0_cut_string_peg_mat ?_
    refine wk_d ?_
    refine we_name 2 rfl (.inl rfl) rfl ?_
    refine wk_d ?_
    refine we_name 5 rfl (.inl rfl) rfl ?_
    refine wk_nil ?_
    refine ⟨rfl, rfl, ?_⟩
    refine ⟨by decide, by (simp [setAll_len, setAll_nil]), by (simp [refsIn, setAll_len, setAll_nil, permL]), u, d, ns, p, rfl, rfl, hM, hud, hp0, hp1, rfl, ?_⟩
    refine hq_as 6 rfl rfl ⟨by rfl, by decide, .inl E_InvalidString.m⟩ (exm_of E_InvalidString.toExOk (by first | exact sb_InvalidString_InvalidString)) (fun a0 pn0 => ?_)
    change WSs _ _ [_, _, _, _, _, _, _] [_] _
    refine wss_one ?_
    refine ws_set 4 sc.nd rfl (.inl rfl) ?_
    refine we_exv ?_
    refine wv_name 6 rfl (.inl rfl) rfl ?_
    refine ⟨_, _, rfl, (by first | exact E_InvalidString.toExOk), ?_⟩
    change WSs _ _ [_, _, _, _, _, _, _] [_] _
    refine wss_one ?_
    refine ws_ret ?_
    refine we_tup ?_
    refine wd_cons ?_
    refine we_name 3 rfl (.inl rfl) rfl ?_
    refine wd_cons ?_
    refine we_name 4 rfl (.inl rfl) rfl ?_
    refine wd_nil ?_
    refine ⟨szl (by simp), ?_⟩
    exact ⟨by simp [setAll_len], .inl ⟨_, rfl, kq _ (hr2.mono (by omega))⟩⟩
end
section
variable {P : Program} {w : World} {K : PySem.W.Frag} {mg : Str → Option Value} {base : Heap}
theorem ok_law {f : Addr} {fd : FuncData} (F : Fun K "law" "law" s_law f fd) {f__law_cask : Addr} {fd__law_cask : FuncData} (F__law_cask : FnOk P w K mg base CX0 1 f__law_cask fd__law_cask ["_law_script", "_law_place"] (toSp K JJ.spCask)) (m__law_cask : mg "_law_cask" = some (.ref f__law_cask)) (k__law_cask : PySem.W.keepIn K (.ref f__law_cask) = true) (b__law_cask : Binds K fd__law_cask ["_law_script", "_law_place"] []) {f__law_sizes : Addr} {fd__law_sizes : FuncData} (F__law_sizes : FnOk P w K mg base CX0 2 f__law_sizes fd__law_sizes ["_law_cask_here", "_law_most"] (toSp K JJ.spSzC)) (m__law_sizes : mg "_law_sizes" = some (.ref f__law_sizes)) (k__law_sizes : PySem.W.keepIn K (.ref f__law_sizes) = true) (b__law_sizes : Binds K fd__law_sizes ["_law_cask_here", "_law_most"] []) {f__law_mat : Addr} {fd__law_mat : FuncData} (F__law_mat : FnOk P w K mg base CX0 2 f__law_mat fd__law_mat ["_law_cask_here", "_law_n", "_law_m"] (toSp K JJ.spMatC)) (m__law_mat : mg "_law_mat" = some (.ref f__law_mat)) (k__law_mat : PySem.W.keepIn K (.ref f__law_mat) = true) (b__law_mat : Binds K fd__law_mat ["_law_cask_here", "_law_n", "_law_m"] []) {f__law_tap : Addr} {fd__law_tap : FuncData} (F__law_tap : FnOk P w K mg base CX0 1 f__law_tap fd__law_tap ["_law_cask_here", "_law_many"] (toSp K JJ.spNext)) (m__law_tap : mg "_law_tap" = some (.ref f__law_tap)) (k__law_tap : PySem.W.keepIn K (.ref f__law_tap) = true) (b__law_tap : Binds K fd__law_tap ["_law_cask_here", "_law_many"] []) {f__law_cut : Addr} {fd__law_cut : FuncData} (F__law_cut : FnOk P w K mg base CX0 1 f__law_cut fd__law_cut ["_law_mat_here", "_law_peg"] (toSp K JJ.spCutLaw)) (m__law_cut : mg "_law_cut" = some (.ref f__law_cut)) (k__law_cut : PySem.W.keepIn K (.ref f__law_cut) = true) (b__law_cut : Binds K fd__law_cut ["_law_mat_here", "_law_peg"] []) {f__law_asked : Addr} {fd__law_asked : FuncData} (F__law_asked : FnOk P w K mg base CX0 7 f__law_asked fd__law_asked ["_law_cask_here", "_law_mat_here", "_law_peg"] (toSp K (fun pvs m q => JJ.spAsk71 pvs m q ∨ JJ.spAsk71X pvs m q))) (m__law_asked : mg "_law_asked" = some (.ref f__law_asked)) (k__law_asked : PySem.W.keepIn K (.ref f__law_asked) = true) (b__law_asked : Binds K fd__law_asked ["_law_cask_here", "_law_mat_here", "_law_peg"] []) {f__law_alike : Addr} {fd__law_alike : FuncData} (F__law_alike : FnOk P w K mg base CX0 6 f__law_alike fd__law_alike ["_law_told_here", "_law_due"] (toSp K JJ.spAkE)) (m__law_alike : mg "_law_alike" = some (.ref f__law_alike)) (k__law_alike : PySem.W.keepIn K (.ref f__law_alike) = true) (b__law_alike : Binds K fd__law_alike ["_law_told_here", "_law_due"] []) {f_rooms : Addr} {fd_rooms : FuncData} (F_rooms : FnOk P w K mg base CX0 5 f_rooms fd_rooms ["mat"] (toSp K JJ.spRoomsS)) (m_rooms : mg "rooms" = some (.ref f_rooms)) (k_rooms : PySem.W.keepIn K (.ref f_rooms) = true) (b_rooms : Binds K fd_rooms ["mat"] []) {f__law_rooms : Addr} {fd__law_rooms : FuncData} (F__law_rooms : FnOk P w K mg base CX0 3 f__law_rooms fd__law_rooms ["_law_mat_here"] (toSp K JJ.spRoomsLaw)) (m__law_rooms : mg "_law_rooms" = some (.ref f__law_rooms)) (k__law_rooms : PySem.W.keepIn K (.ref f__law_rooms) = true) (b__law_rooms : Binds K fd__law_rooms ["_law_mat_here"] []) (m_range : mg "range" = none) (m_max : mg "max" = none) (m_min : mg "min" = none) (m_len : mg "len" = none) : FnOk P w K mg base CX0 8 f fd ["_law_script"] (toSp K spLaw) := by
  have sc := sc_law
  refine fn_pp F sc (fun pvs m q h => ?_) (fun cdv A outer s H E hr pvs m q h => ?_)
  · obtain ⟨_, rfl, _⟩ := h
    rfl
  obtain ⟨ns, rfl, rfl, hl, hns, kq⟩ := h
  have hlm : (ns.map PyData.int).length = ns.length := List.length_map ..
  change WSs _ _ [_, _, _, _, _, _, _, _, _, _] [] _
  refine wss_cons ?_
  refine ws_for PassesOwn.never rfl ?_
  refine wi_rng1 m_range ?_
  refine we_max2 rfl m_max ?_
  refine we_int ?_
  refine we_min2 rfl m_min ?_
  refine we_len m_len ?_
  refine wv_name 0 rfl (.inl rfl) rfl ?_
  refine ⟨_, rfl, ?_⟩
  refine we_int ?_
  refine ⟨_, _, rfl, rfl, ?_⟩
  refine ⟨_, _, rfl, rfl, ?_⟩
  refine ⟨_, rfl, by split <;> (try split) <;> omega, by split <;> (try split) <;> omega, ?_⟩
  refine ⟨fun i L m => ∃ y1 y2 y3 y4 y5 y6 y7 y8 y9, L = [some (.raw (ns.map .int)), y1, y2, y3, y4, y5, y6, y7, y8, y9] ∧ m = [], ?_, fun i x L m hx hI => ?_, fun L m hI => ?_⟩
  ·
    exact ⟨_, _, _, _, _, _, _, _, _, rfl, rfl⟩
  ·
    obtain ⟨y1, y2, y3, y4, y5, y6, y7, y8, y9, rfl, rfl⟩ := hI
    obtain ⟨hi, rfl⟩ := rgD_get hx
    have hi2 : i < 100 := by
      revert hi
      split <;> (try split) <;> omega
    refine ⟨trivial, ?_⟩
    refine wg_name 1 sc.nd rfl (.inl rfl) ?_
    change WSs _ _ [_, _, _, _, _, _, _, _, _, _] [] _
    refine wss_cons ?_
    refine ws_setF 2 sc.nd rfl (.inl rfl) ?_
    refine wf_call [] F__law_cask (hr.mono (by omega)) m__law_cask k__law_cask b__law_cask ?_
    refine wa_cons ?_
    refine wv_name 0 rfl (.inl rfl) rfl ?_
    refine wa_d ?_
    refine we_name 1 rfl (.inl rfl) rfl ?_
    refine wa_nil ?_
    refine ⟨by decide, by (simp [setAll_len, setAll_nil]), by (simp [refsIn, setAll_len, setAll_nil, permL]), ns, i, by simp [ren], rfl, hl, hns, by omega, fun xs1 hw1 => ⟨[], _, rfl, rfl, rfl, ?_⟩⟩
    change WSs _ _ [_, _, _, _, _, _, _, _, _, _] [_] _
    refine wss_cons ?_
    refine ws_asg ?_
    refine we_call [0] F__law_sizes (hr.mono (by omega)) m__law_sizes k__law_sizes b__law_sizes ?_
    refine wa_cons ?_
    refine wv_name 2 rfl (.inl rfl) rfl ?_
    refine wa_d ?_
    refine we_int ?_
    refine wa_nil ?_
    refine ⟨by decide, by (simp [setAll_len, setAll_nil]), by (simp [refsIn, setAll_len, setAll_nil, permL]), _, _, 16, rfl, rfl, hw1, by omega, by omega, by omega, fun xs2 u d hw2 hu0 hd0 hp hle he => ⟨_, rfl, rfl, ?_⟩⟩
    refine wg_tup rfl ?_
    refine ⟨_, rfl, rfl, ?_⟩
    refine wgn_cons ?_
    refine wg_name 3 sc.nd rfl (.inl rfl) ?_
    refine wgn_cons ?_
    refine wg_name 4 sc.nd rfl (.inl rfl) ?_
    refine wgn_nil ?_
    change WSs _ _ [_, _, _, _, _, _, _, _, _, _] [_] _
    refine wss_cons ?_
    refine ws_set 5 sc.nd rfl (.inl rfl) ?_
    refine we_call [0] F__law_mat (hr.mono (by omega)) m__law_mat k__law_mat b__law_mat ?_
    refine wa_cons ?_
    refine wv_name 2 rfl (.inl rfl) rfl ?_
    refine wa_d ?_
    refine we_name 3 rfl (.inl rfl) rfl ?_
    refine wa_d ?_
    refine we_name 4 rfl (.inl rfl) rfl ?_
    refine wa_nil ?_
    refine ⟨by decide, by (simp [setAll_len, setAll_nil]), by (simp [refsIn, setAll_len, setAll_nil, permL]), _, _, u, d, rfl, rfl, hw2, by omega, hu0, by omega, hd0, by omega, hp, he, fun xs3 rs hw3 hM0 => ⟨_, rfl, rfl, ?_⟩⟩
    change WSs _ _ [_, _, _, _, _, _, _, _, _, _] [_] _
    refine wss_cons ?_
    refine ws_for PassesOwn.never rfl ?_
    refine wi_rng1 m_range ?_
    refine we_sub ?_
    refine we_fdiv ?_
    refine we_add ?_
    refine we_name 3 rfl (.inl rfl) rfl ?_
    refine we_name 4 rfl (.inl rfl) rfl ?_
    refine ⟨_, _, rfl, rfl, ?_⟩
    refine we_int ?_
    refine ⟨_, _, rfl, rfl, ⟨by decide, by decide⟩, ?_⟩
    refine we_int ?_
    refine ⟨_, _, rfl, rfl, ?_⟩
    refine ⟨_, rfl, by omega, by omega, ?_⟩
    refine ⟨fun j L m => ∃ (xs : List PyData) (v w : Int) (ks : List Int) (y6 y7 y8 y9 : Option PV), L = [some (.raw (ns.map .int)), some (.d (.int (0 + (i : Int)))), some (.ref 0), some (.d (.int u)), some (.d (.int d)), some (.d (MM.matD v w ks)), y6, y7, y8, y9] ∧ m = [some (.lst xs)] ∧ JJ.WS (4000 + 20 * j) xs ∧ MM.isMatB v w ks = true ∧ v + w = u + d - 2 * (j : Int), ?_, fun j x L m hx hI => ?_, fun L m hI => ?_⟩
    ·
      exact ⟨_, u, d, rs, _, _, _, _, rfl, rfl, hw3.mono (by omega), hM0, by omega⟩
    ·
      obtain ⟨xs8, v, w, ks, y6, y7, y8, y9, rfl, rfl, hw8, hM, hsum⟩ := hI
      obtain ⟨hj, rfl⟩ := rgD_get hx
      have h2 : 2 < v + w := by omega
      have F := JJ.fc_of hM
      have hj9 : j < 16 := by omega
      refine ⟨(by first | exact trivial | rfl), ?_⟩
      refine wg_name 6 sc.nd rfl (.inl rfl) ?_
      change WSs _ _ [_, _, _, _, _, _, _, _, _, _] [_] _
      refine wss_cons ?_
      refine ws_set 7 sc.nd rfl (.inl rfl) ?_
      refine we_call [0] F__law_tap (hr.mono (by omega)) m__law_tap k__law_tap b__law_tap ?_
      refine wa_cons ?_
      refine wv_name 2 rfl (.inl rfl) rfl ?_
      refine wa_d ?_
      refine we_add ?_
      refine we_ix ?_
      refine wv_name 5 rfl (.inl rfl) rfl ?_
      refine we_int ?_
      refine ⟨_, _, _, rfl, rfl, rfl, ?_⟩
      refine we_ix ?_
      refine wv_name 5 rfl (.inl rfl) rfl ?_
      refine we_int ?_
      refine ⟨_, _, _, rfl, rfl, rfl, ?_⟩
      refine ⟨_, _, rfl, rfl, ?_⟩
      refine wa_nil ?_
      refine ⟨by decide, by (simp [setAll_len, setAll_nil]), by (simp [refsIn, setAll_len, setAll_nil, permL]), _, _, _, rfl, rfl, hw8, by omega, by omega, by omega, fun r5 xsr5 hr5a hr5b hr5 => ⟨_, rfl, rfl, ?_⟩⟩
      have hI9 := F.cut_is hM ⟨by omega, by omega⟩ h2
      have hcs := JJ.cut_sum (u := v) (d := w) (ns := ks) (p := r5)
      have hkl := F.kp_len (p := r5) ⟨by omega, by omega⟩
      have hu9 := hI9.hu
      have hd9 := hI9.hd
      have F2 := JJ.fc_of hI9.mat
      have hK2 := F2.half
      have hfN2 : (JJ.fN (JJ.cutU v ks r5) (JJ.cutD' v w ks r5) : Int) = (JJ.cutU v ks r5) + (JJ.cutD' v w ks r5) := by unfold JJ.fN; omega
      obtain ⟨hm0, hm1⟩ := F.in_.mp (F.I.mem r5 (F.in_.mpr ⟨by omega, by omega⟩))
      have hkl9 := F.len
      change WSs _ _ [_, _, _, _, _, _, _, _, _, _] [_] _
      refine wss_cons ?_
      refine ws_set 8 sc.nd rfl (.inl rfl) ?_
      refine we_call [] F__law_cut (hr.mono (by omega)) m__law_cut k__law_cut b__law_cut ?_
      refine wa_d ?_
      refine we_name 5 rfl (.inl rfl) rfl ?_
      refine wa_d ?_
      refine we_name 7 rfl (.inl rfl) rfl ?_
      refine wa_nil ?_
      refine ⟨by decide, by (simp [setAll_len, setAll_nil]), by (simp [refsIn, setAll_len, setAll_nil, permL]), v, w, ks, r5, rfl, rfl, hM, by omega, by omega, by omega, h2, _, rfl, rfl, ?_⟩
      change WSs _ _ [_, _, _, _, _, _, _, _, _, _] [_] _
      refine wss_cons ?_
      refine ws_set 9 sc.nd rfl (.inl rfl) ?_
      refine we_call [0] F__law_asked (hr.mono (by omega)) m__law_asked k__law_asked b__law_asked ?_
      refine wa_cons ?_
      refine wv_name 2 rfl (.inl rfl) rfl ?_
      refine wa_d ?_
      refine we_name 5 rfl (.inl rfl) rfl ?_
      refine wa_d ?_
      refine we_name 7 rfl (.inl rfl) rfl ?_
      refine wa_nil ?_
      refine ⟨by decide, by (simp [setAll_len, setAll_nil]), by (simp [refsIn, setAll_len, setAll_nil, permL]), .inl ⟨_, _, v, w, ks, r5, rfl, rfl, hr5, by omega, hM, by omega, by omega, by omega, h2, fun xs4 hw4 => ⟨_, rfl, rfl, ?_⟩⟩⟩
      change WSs _ _ [_, _, _, _, _, _, _, _, _, _] [_] _
      refine wss_cons ?_
      refine ws_if ?_
      refine wt_ww ?_
      refine ww_or ?_
      refine wt_not ?_
      refine wt_val ?_
      refine we_call [] F__law_alike (hr.mono (by omega)) m__law_alike k__law_alike b__law_alike ?_
      refine wa_d ?_
      refine we_name 9 rfl (.inl rfl) rfl ?_
      refine wa_d ?_
      refine we_tup ?_
      refine wd_cons ?_
      refine we_name 8 rfl (.inl rfl) rfl ?_
      refine wd_cons ?_
      refine we_none ?_
      refine wd_nil ?_
      refine ⟨szl (by simp), ?_⟩
      refine wa_nil ?_
      refine ⟨by decide, by (simp [setAll_len, setAll_nil]), by (simp [refsIn, setAll_len, setAll_nil, permL]), .inl ⟨_, rfl, rfl, JJ.dl_cutN (by omega), _, rfl, rfl, ?_⟩⟩
      refine ⟨_, rfl, ?_⟩
      refine ⟨fun heb1 => ?_, fun heb1 => ?_⟩
      ·
        exfalso
        simp at heb1 --done
      ·
        refine ww_or1 ?_
        refine wt_not ?_
        refine wt_val ?_
        refine we_call [] F__law_alike (hr.mono (by omega)) m__law_alike k__law_alike b__law_alike ?_
        refine wa_d ?_
        refine we_call [0] F__law_asked (hr.mono (by omega)) m__law_asked k__law_asked b__law_asked ?_
        refine wa_cons ?_
        refine wv_name 2 rfl (.inl rfl) rfl ?_
        refine wa_d ?_
        refine we_name 5 rfl (.inl rfl) rfl ?_
        refine wa_d ?_
        refine we_ix ?_
        refine wv_we ?_
        refine we_ix ?_
        refine wv_name 5 rfl (.inl rfl) rfl ?_
        refine we_int ?_
        refine ⟨_, _, _, rfl, rfl, rfl, ?_⟩
        refine we_name 7 rfl (.inl rfl) rfl ?_
        refine ⟨_, _, _, rfl, rfl, JJ.row_at (by omega) (by omega), ?_⟩
        refine wa_nil ?_
        refine ⟨by decide, by (simp [setAll_len, setAll_nil]), by (simp [refsIn, setAll_len, setAll_nil, permL]), .inl ⟨_, _, v, w, ks, MM.mu ks r5, rfl, rfl, hw4, by omega, hM, by omega, by omega, by omega, h2, fun xs5 hw5 => ⟨_, rfl, rfl, ?_⟩⟩⟩
        rw [F.cut_mu ⟨by omega, by omega⟩]
        refine wa_d ?_
        refine we_tup ?_
        refine wd_cons ?_
        refine we_name 8 rfl (.inl rfl) rfl ?_
        refine wd_cons ?_
        refine we_none ?_
        refine wd_nil ?_
        refine ⟨szl (by simp), ?_⟩
        refine wa_nil ?_
        refine ⟨by decide, by (simp [setAll_len, setAll_nil]), by (simp [refsIn, setAll_len, setAll_nil, permL]), .inl ⟨_, rfl, rfl, JJ.dl_cutN (by omega), _, rfl, rfl, ?_⟩⟩
        refine ⟨_, rfl, ?_⟩
        refine ⟨fun hif1 => ?_, fun hif1 => ?_⟩
        ·
          exfalso
          simp at hif1 --done
        ·
          refine wss_nil ?_
          change WSs _ _ [_, _, _, _, _, _, _, _, _, _] [_] _
          refine wss_cons ?_
          refine ws_if ?_
          refine wt_not ?_
          refine wt_val ?_
          refine we_call [] F__law_alike (hr.mono (by omega)) m__law_alike k__law_alike b__law_alike ?_
          refine wa_d ?_
          refine we_wf ?_
          refine wf_call [] F_rooms (hr.mono (by omega)) m_rooms k_rooms b_rooms ?_
          refine wa_d ?_
          refine we_ix ?_
          refine wv_name 9 rfl (.inl rfl) rfl ?_
          refine we_int ?_
          refine ⟨_, _, _, rfl, rfl, rfl, ?_⟩
          refine wa_nil ?_
          refine ⟨by decide, by (simp [setAll_len, setAll_nil]), by (simp [refsIn, setAll_len, setAll_nil, permL]), (JJ.cutU v ks r5), (JJ.cutD' v w ks r5), (JJ.cutR v w ks r5), rfl, rfl, hI9.mat, by omega, [], _, rfl, rfl, rfl, ?_⟩
          refine wa_d ?_
          refine we_ix ?_
          refine wv_we ?_
          refine we_call [] F__law_rooms (hr.mono (by omega)) m__law_rooms k__law_rooms b__law_rooms ?_
          refine wa_d ?_
          refine we_name 8 rfl (.inl rfl) rfl ?_
          refine wa_nil ?_
          refine ⟨by decide, by (simp [setAll_len, setAll_nil]), by (simp [refsIn, setAll_len, setAll_nil, permL]), (JJ.cutU v ks r5), (JJ.cutD' v w ks r5), (JJ.cutR v w ks r5), rfl, rfl, hI9.mat, by omega, _, rfl, rfl, ?_⟩
          refine we_int ?_
          refine ⟨_, _, _, rfl, rfl, rfl, ?_⟩
          refine wa_nil ?_
          refine ⟨by decide, by (simp [setAll_len, setAll_nil]), by (simp [refsIn, setAll_len, setAll_nil, permL]), .inl ⟨_, rfl, rfl, .lst (by rw [F2.srt_len]; omega) (F2.srt_dl (by omega) (by omega)), _, rfl, rfl, ?_⟩⟩
          refine ⟨_, rfl, ?_⟩
          refine ⟨fun hif2 => ?_, fun hif2 => ?_⟩
          ·
            exfalso
            cases hif2 --done
          ·
            refine wss_nil ?_
            change WSs _ _ [_, _, _, _, _, _, _, _, _, _] [_] _
            refine wss_one ?_
            refine ws_set 5 sc.nd rfl (.inl rfl) ?_
            refine we_name 8 rfl (.inl rfl) rfl ?_
            exact ⟨_, _, .same (by (repeat (first | exact WkL.nil | refine WkL.kd ?_ | (refine WkL.kr ?_ ?_; focus (simp [setAll_len, setAll_nil]; done)) | refine WkL.kw ?_ | refine WkL.drop ?_))) (by simp [setAll_len]), _, (JJ.cutU v ks r5), (JJ.cutD' v w ks r5), (JJ.cutR v w ks r5), _, _, _, _, rfl, rfl, hw5.mono (by omega), hI9.mat, by omega⟩
    rw [rgD_len] at hI
    obtain ⟨xs8, v, w, ks, y6, y7, y8, y9, rfl, rfl, hw8, hM, hsum⟩ := hI
    have h2 : v + w = 2 := by omega
    refine ⟨(by first | exact trivial | rfl), ?_⟩
    change WSs _ _ [_, _, _, _, _, _, _, _, _, _] [_] _
    refine wss_one ?_
    refine ws_if ?_
    refine wt_not ?_
    refine wt_val ?_
    refine we_call [] F__law_alike (hr.mono (by omega)) m__law_alike k__law_alike b__law_alike ?_
    refine wa_d ?_
    refine we_call [0] F__law_asked (hr.mono (by omega)) m__law_asked k__law_asked b__law_asked ?_
    refine wa_cons ?_
    refine wv_name 2 rfl (.inl rfl) rfl ?_
    refine wa_d ?_
    refine we_name 5 rfl (.inl rfl) rfl ?_
    refine wa_d ?_
    refine we_call [0] F__law_tap (hr.mono (by omega)) m__law_tap k__law_tap b__law_tap ?_
    refine wa_cons ?_
    refine wv_name 2 rfl (.inl rfl) rfl ?_
    refine wa_d ?_
    refine we_int ?_
    refine wa_nil ?_
    refine ⟨by decide, by (simp [setAll_len, setAll_nil]), by (simp [refsIn, setAll_len, setAll_nil, permL]), _, _, 2, rfl, rfl, hw8, by omega, by omega, by omega, fun r7 xsr7 hr7a hr7b hr7 => ⟨_, rfl, rfl, ?_⟩⟩
    refine wa_nil ?_
    refine ⟨by decide, by (simp [setAll_len, setAll_nil]), by (simp [refsIn, setAll_len, setAll_nil, permL]), .inr ⟨_, _, v, w, ks, r7, rfl, rfl, hr7, by omega, hM, h2, by omega, by omega, fun xs9 hw9 => ⟨_, rfl, rfl, ?_⟩⟩⟩
    refine wa_d ?_
    refine we_tup ?_
    refine wd_cons ?_
    refine we_none ?_
    refine wd_cons ?_
    refine we_tup ?_
    refine wd_cons ?_
    refine we_int ?_
    refine wd_cons ?_
    refine we_int ?_
    refine wd_nil ?_
    refine ⟨szl (by simp), ?_⟩
    refine wd_nil ?_
    refine ⟨szl (by simp), ?_⟩
    refine wa_nil ?_
    refine ⟨by decide, by (simp [setAll_len, setAll_nil]), by (simp [refsIn, setAll_len, setAll_nil, permL]), .inl ⟨_, rfl, rfl, JJ.dl_last2, _, rfl, rfl, ?_⟩⟩
    refine ⟨_, rfl, ?_⟩
    refine ⟨fun hif3 => ?_, fun hif3 => ?_⟩
    ·
      exfalso
      cases hif3 --done
    ·
      refine wss_nil ?_
      exact ⟨_, _, .cut (by (repeat (first | exact WkL.nil | refine WkL.kd ?_ | (refine WkL.kr ?_ ?_; focus (simp [setAll_len, setAll_nil]; done)) | refine WkL.kw ?_ | refine WkL.drop ?_))), _, _, _, _, _, _, _, _, _, rfl, rfl⟩
  obtain ⟨y1, y2, y3, y4, y5, y6, y7, y8, y9, rfl, rfl⟩ := hI
  refine ⟨trivial, ?_⟩
  change WSs _ _ [_, _, _, _, _, _, _, _, _, _] [] _
  refine wss_one ?_
  refine ws_ret ?_
  refine we_bool ?_
  exact ⟨Nat.zero_le _, .inl ⟨_, rfl, kq⟩⟩
end
theorem all_mk {l : PySem.W.OpenLaw} {w : World} {K : PySem.W.Frag} {h : Heap} {mg : Str → Option Value} {fa f1 f2 f3 f4 f5 f6 f7 f8 f9 f10 f11 f12 f13 f14 f15 f16 f17 f18 f19 f20 f21 f22 f23 f24 f25 f26 f27 f28 f29 f30 f31 : Addr} (X : K.In h) (G : h.Ns mainGlobals mg) (hfa : mg "law" = some (.ref fa))
    {od1 an1 od2 an2 od3 an3 od4 an4 od5 an5 od6 an6 od7 an7 od8 an8 od9 an9 od10 an10 od11 an11 od12 an12 od13 an13 od14 an14 od15 an15 od16 an16 od17 an17 od18 an18 od19 an19 od20 an20 od21 an21 od22 an22 od23 an23 od24 an24 od25 an25 od26 an26 od27 an27 od28 an28 od29 an29 od30 an30 od31 an31 : Option Addr} {sl1 sl2 sl3 sl4 sl5 sl6 sl7 sl8 sl9 sl10 sl11 sl12 sl13 sl14 sl15 sl16 sl17 sl18 sl19 sl20 sl21 sl22 sl23 sl24 sl25 sl26 sl27 sl28 sl29 sl30 sl31 : Array (Option Value)} {oc1 kV1 dc1 pm1 cd1 ct1 oc2 kV2 dc2 pm2 cd2 ct2 oc3 kV3 dc3 pm3 cd3 ct3 oc4 kV4 dc4 pm4 cd4 ct4 oc5 kV5 dc5 pm5 cd5 ct5 oc6 kV6 dc6 pm6 cd6 ct6 oc7 kV7 dc7 pm7 cd7 ct7 oc8 kV8 dc8 pm8 cd8 ct8 oc9 kV9 dc9 pm9 cd9 ct9 oc10 kV10 dc10 pm10 cd10 ct10 oc11 kV11 dc11 pm11 cd11 ct11 oc12 kV12 dc12 pm12 cd12 ct12 oc13 kV13 dc13 pm13 cd13 ct13 oc14 kV14 dc14 pm14 cd14 ct14 oc15 kV15 dc15 pm15 cd15 ct15 oc16 kV16 dc16 pm16 cd16 ct16 oc17 kV17 dc17 pm17 cd17 ct17 oc18 kV18 dc18 pm18 cd18 ct18 oc19 kV19 dc19 pm19 cd19 ct19 oc20 kV20 dc20 pm20 cd20 ct20 oc21 kV21 dc21 pm21 cd21 ct21 oc22 kV22 dc22 pm22 cd22 ct22 oc23 kV23 dc23 pm23 cd23 ct23 oc24 kV24 dc24 pm24 cd24 ct24 oc25 kV25 dc25 pm25 cd25 ct25 oc26 kV26 dc26 pm26 cd26 ct26 oc27 kV27 dc27 pm27 cd27 ct27 oc28 kV28 dc28 pm28 cd28 ct28 oc29 kV29 dc29 pm29 cd29 ct29 oc30 kV30 dc30 pm30 cd30 ct30 oc31 kV31 dc31 pm31 cd31 ct31 : Value}
    (a1 : PySem.W.nsIn K mainGlobals "check_mat" = some (some (.ref f1))) (l1 : K.lookup f1 = some ⟨oc1, od1, .func (PySem.W.fnOf "check_mat" "check_mat" (defArgs s_check_mat) (defBody s_check_mat) (defScope s_check_mat) .none kV1 dc1 pm1 an1 cd1 ct1), sl1⟩) (c1 : PySem.W.codeIn K cd1 "check_mat" = true) (k1 : PySem.W.keepIn K (.ref f1) = true)
    (a2 : PySem.W.nsIn K mainGlobals "round_about" = some (some (.ref f2))) (l2 : K.lookup f2 = some ⟨oc2, od2, .func (PySem.W.fnOf "round_about" "round_about" (defArgs s_round_about) (defBody s_round_about) (defScope s_round_about) .none kV2 dc2 pm2 an2 cd2 ct2), sl2⟩) (c2 : PySem.W.codeIn K cd2 "round_about" = true) (k2 : PySem.W.keepIn K (.ref f2) = true)
    (a3 : PySem.W.nsIn K mainGlobals "_are_mates" = some (some (.ref f3))) (l3 : K.lookup f3 = some ⟨oc3, od3, .func (PySem.W.fnOf "_are_mates" "_are_mates" (defArgs s_p_are_mates) (defBody s_p_are_mates) (defScope s_p_are_mates) .none kV3 dc3 pm3 an3 cd3 ct3), sl3⟩) (c3 : PySem.W.codeIn K cd3 "_are_mates" = true) (k3 : PySem.W.keepIn K (.ref f3) = true)
    (a4 : PySem.W.nsIn K mainGlobals "_none_cross" = some (some (.ref f4))) (l4 : K.lookup f4 = some ⟨oc4, od4, .func (PySem.W.fnOf "_none_cross" "_none_cross" (defArgs s_p_none_cross) (defBody s_p_none_cross) (defScope s_p_none_cross) .none kV4 dc4 pm4 an4 cd4 ct4), sl4⟩) (c4 : PySem.W.codeIn K cd4 "_none_cross" = true) (k4 : PySem.W.keepIn K (.ref f4) = true)
    (a5 : PySem.W.nsIn K mainGlobals "is_mat" = some (some (.ref f5))) (l5 : K.lookup f5 = some ⟨oc5, od5, .func (PySem.W.fnOf "is_mat" "is_mat" (defArgs s_is_mat) (defBody s_is_mat) (defScope s_is_mat) .none kV5 dc5 pm5 an5 cd5 ct5), sl5⟩) (c5 : PySem.W.codeIn K cd5 "is_mat" = true) (k5 : PySem.W.keepIn K (.ref f5) = true)
    (a6 : PySem.W.nsIn K mainGlobals "mat_of_pairs" = some (some (.ref f6))) (l6 : K.lookup f6 = some ⟨oc6, od6, .func (PySem.W.fnOf "mat_of_pairs" "mat_of_pairs" (defArgs s_mat_of_pairs) (defBody s_mat_of_pairs) (defScope s_mat_of_pairs) .none kV6 dc6 pm6 an6 cd6 ct6), sl6⟩) (c6 : PySem.W.codeIn K cd6 "mat_of_pairs" = true) (k6 : PySem.W.keepIn K (.ref f6) = true)
    (a7 : PySem.W.nsIn K mainGlobals "pairs_moved" = some (some (.ref f7))) (l7 : K.lookup f7 = some ⟨oc7, od7, .func (PySem.W.fnOf "pairs_moved" "pairs_moved" (defArgs s_pairs_moved) (defBody s_pairs_moved) (defScope s_pairs_moved) .none kV7 dc7 pm7 an7 cd7 ct7), sl7⟩) (c7 : PySem.W.codeIn K cd7 "pairs_moved" = true) (k7 : PySem.W.keepIn K (.ref f7) = true)
    (a8 : PySem.W.nsIn K mainGlobals "upside_down" = some (some (.ref f8))) (l8 : K.lookup f8 = some ⟨oc8, od8, .func (PySem.W.fnOf "upside_down" "upside_down" (defArgs s_upside_down) (defBody s_upside_down) (defScope s_upside_down) .none kV8 dc8 pm8 an8 cd8 ct8), sl8⟩) (c8 : PySem.W.codeIn K cd8 "upside_down" = true) (k8 : PySem.W.keepIn K (.ref f8) = true)
    (a9 : PySem.W.nsIn K mainGlobals "_upside_down" = some (some (.ref f9))) (l9 : K.lookup f9 = some ⟨oc9, od9, .func (PySem.W.fnOf "_upside_down" "_upside_down" (defArgs s_p_upside_down) (defBody s_p_upside_down) (defScope s_p_upside_down) .none kV9 dc9 pm9 an9 cd9 ct9), sl9⟩) (c9 : PySem.W.codeIn K cd9 "_upside_down" = true) (k9 : PySem.W.keepIn K (.ref f9) = true)
    (a10 : PySem.W.nsIn K mainGlobals "_strings" = some (some (.ref f10))) (l10 : K.lookup f10 = some ⟨oc10, od10, .func (PySem.W.fnOf "_strings" "_strings" (defArgs s_p_strings) (defBody s_p_strings) (defScope s_p_strings) .none kV10 dc10 pm10 an10 cd10 ct10), sl10⟩) (c10 : PySem.W.codeIn K cd10 "_strings" = true) (k10 : PySem.W.keepIn K (.ref f10) = true)
    (a11 : PySem.W.nsIn K mainGlobals "strings" = some (some (.ref f11))) (l11 : K.lookup f11 = some ⟨oc11, od11, .func (PySem.W.fnOf "strings" "strings" (defArgs s_strings) (defBody s_strings) (defScope s_strings) .none kV11 dc11 pm11 an11 cd11 ct11), sl11⟩) (c11 : PySem.W.codeIn K cd11 "strings" = true) (k11 : PySem.W.keepIn K (.ref f11) = true)
    (a12 : PySem.W.nsIn K mainGlobals "_string_of" = some (some (.ref f12))) (l12 : K.lookup f12 = some ⟨oc12, od12, .func (PySem.W.fnOf "_string_of" "_string_of" (defArgs s_p_string_of) (defBody s_p_string_of) (defScope s_p_string_of) .none kV12 dc12 pm12 an12 cd12 ct12), sl12⟩) (c12 : PySem.W.codeIn K cd12 "_string_of" = true) (k12 : PySem.W.keepIn K (.ref f12) = true)
    (a13 : PySem.W.nsIn K mainGlobals "_round" = some (some (.ref f13))) (l13 : K.lookup f13 = some ⟨oc13, od13, .func (PySem.W.fnOf "_round" "_round" (defArgs s_p_round) (defBody s_p_round) (defScope s_p_round) .none kV13 dc13 pm13 an13 cd13 ct13), sl13⟩) (c13 : PySem.W.codeIn K cd13 "_round" = true) (k13 : PySem.W.keepIn K (.ref f13) = true)
    (a14 : PySem.W.nsIn K mainGlobals "_places" = some (some (.ref f14))) (l14 : K.lookup f14 = some ⟨oc14, od14, .func (PySem.W.fnOf "_places" "_places" (defArgs s_p_places) (defBody s_p_places) (defScope s_p_places) .none kV14 dc14 pm14 an14 cd14 ct14), sl14⟩) (c14 : PySem.W.codeIn K cd14 "_places" = true) (k14 : PySem.W.keepIn K (.ref f14) = true)
    (a15 : PySem.W.nsIn K mainGlobals "_rows_of_gaps" = some (some (.ref f15))) (l15 : K.lookup f15 = some ⟨oc15, od15, .func (PySem.W.fnOf "_rows_of_gaps" "_rows_of_gaps" (defArgs s_p_rows_of_gaps) (defBody s_p_rows_of_gaps) (defScope s_p_rows_of_gaps) .none kV15 dc15 pm15 an15 cd15 ct15), sl15⟩) (c15 : PySem.W.codeIn K cd15 "_rows_of_gaps" = true) (k15 : PySem.W.keepIn K (.ref f15) = true)
    (a16 : PySem.W.nsIn K mainGlobals "_rooms" = some (some (.ref f16))) (l16 : K.lookup f16 = some ⟨oc16, od16, .func (PySem.W.fnOf "_rooms" "_rooms" (defArgs s_p_rooms) (defBody s_p_rooms) (defScope s_p_rooms) .none kV16 dc16 pm16 an16 cd16 ct16), sl16⟩) (c16 : PySem.W.codeIn K cd16 "_rooms" = true) (k16 : PySem.W.keepIn K (.ref f16) = true)
    (a17 : PySem.W.nsIn K mainGlobals "rooms" = some (some (.ref f17))) (l17 : K.lookup f17 = some ⟨oc17, od17, .func (PySem.W.fnOf "rooms" "rooms" (defArgs s_rooms) (defBody s_rooms) (defScope s_rooms) .none kV17 dc17 pm17 an17 cd17 ct17), sl17⟩) (c17 : PySem.W.codeIn K cd17 "rooms" = true) (k17 : PySem.W.keepIn K (.ref f17) = true)
    (a18 : PySem.W.nsIn K mainGlobals "cut_string" = some (some (.ref f18))) (l18 : K.lookup f18 = some ⟨oc18, od18, .func (PySem.W.fnOf "cut_string" "cut_string" (defArgs s_cut_string) (defBody s_cut_string) (defScope s_cut_string) .none kV18 dc18 pm18 an18 cd18 ct18), sl18⟩) (c18 : PySem.W.codeIn K cd18 "cut_string" = true) (k18 : PySem.W.keepIn K (.ref f18) = true)
    (a19 : PySem.W.nsIn K mainGlobals "law" = some (some (.ref f19))) (l19 : K.lookup f19 = some ⟨oc19, od19, .func (PySem.W.fnOf "law" "law" (defArgs s_law) (defBody s_law) (defScope s_law) .none kV19 dc19 pm19 an19 cd19 ct19), sl19⟩) (c19 : PySem.W.codeIn K cd19 "law" = true) (k19 : PySem.W.keepIn K (.ref f19) = true)
    (a20 : PySem.W.nsIn K mainGlobals "_law_cask" = some (some (.ref f20))) (l20 : K.lookup f20 = some ⟨oc20, od20, .func (PySem.W.fnOf "_law_cask" "_law_cask" (defArgs s_l_cask) (defBody s_l_cask) (defScope s_l_cask) .none kV20 dc20 pm20 an20 cd20 ct20), sl20⟩) (c20 : PySem.W.codeIn K cd20 "_law_cask" = true) (k20 : PySem.W.keepIn K (.ref f20) = true)
    (a21 : PySem.W.nsIn K mainGlobals "_law_tap" = some (some (.ref f21))) (l21 : K.lookup f21 = some ⟨oc21, od21, .func (PySem.W.fnOf "_law_tap" "_law_tap" (defArgs s_l_tap) (defBody s_l_tap) (defScope s_l_tap) .none kV21 dc21 pm21 an21 cd21 ct21), sl21⟩) (c21 : PySem.W.codeIn K cd21 "_law_tap" = true) (k21 : PySem.W.keepIn K (.ref f21) = true)
    (a22 : PySem.W.nsIn K mainGlobals "_law_alike" = some (some (.ref f22))) (l22 : K.lookup f22 = some ⟨oc22, od22, .func (PySem.W.fnOf "_law_alike" "_law_alike" (defArgs s_l_alike) (defBody s_l_alike) (defScope s_l_alike) .none kV22 dc22 pm22 an22 cd22 ct22), sl22⟩) (c22 : PySem.W.codeIn K cd22 "_law_alike" = true) (k22 : PySem.W.keepIn K (.ref f22) = true)
    (a23 : PySem.W.nsIn K mainGlobals "_law_around" = some (some (.ref f23))) (l23 : K.lookup f23 = some ⟨oc23, od23, .func (PySem.W.fnOf "_law_around" "_law_around" (defArgs s_l_around) (defBody s_l_around) (defScope s_l_around) .none kV23 dc23 pm23 an23 cd23 ct23), sl23⟩) (c23 : PySem.W.codeIn K cd23 "_law_around" = true) (k23 : PySem.W.keepIn K (.ref f23) = true)
    (a24 : PySem.W.nsIn K mainGlobals "_law_mat" = some (some (.ref f24))) (l24 : K.lookup f24 = some ⟨oc24, od24, .func (PySem.W.fnOf "_law_mat" "_law_mat" (defArgs s_l_mat) (defBody s_l_mat) (defScope s_l_mat) .none kV24 dc24 pm24 an24 cd24 ct24), sl24⟩) (c24 : PySem.W.codeIn K cd24 "_law_mat" = true) (k24 : PySem.W.keepIn K (.ref f24) = true)
    (a25 : PySem.W.nsIn K mainGlobals "_law_sizes" = some (some (.ref f25))) (l25 : K.lookup f25 = some ⟨oc25, od25, .func (PySem.W.fnOf "_law_sizes" "_law_sizes" (defArgs s_l_sizes) (defBody s_l_sizes) (defScope s_l_sizes) .none kV25 dc25 pm25 an25 cd25 ct25), sl25⟩) (c25 : PySem.W.codeIn K cd25 "_law_sizes" = true) (k25 : PySem.W.keepIn K (.ref f25) = true)
    (a26 : PySem.W.nsIn K mainGlobals "_law_spots" = some (some (.ref f26))) (l26 : K.lookup f26 = some ⟨oc26, od26, .func (PySem.W.fnOf "_law_spots" "_law_spots" (defArgs s_l_spots) (defBody s_l_spots) (defScope s_l_spots) .none kV26 dc26 pm26 an26 cd26 ct26), sl26⟩) (c26 : PySem.W.codeIn K cd26 "_law_spots" = true) (k26 : PySem.W.keepIn K (.ref f26) = true)
    (a27 : PySem.W.nsIn K mainGlobals "_law_bars" = some (some (.ref f27))) (l27 : K.lookup f27 = some ⟨oc27, od27, .func (PySem.W.fnOf "_law_bars" "_law_bars" (defArgs s_l_bars) (defBody s_l_bars) (defScope s_l_bars) .none kV27 dc27 pm27 an27 cd27 ct27), sl27⟩) (c27 : PySem.W.codeIn K cd27 "_law_bars" = true) (k27 : PySem.W.keepIn K (.ref f27) = true)
    (a28 : PySem.W.nsIn K mainGlobals "_law_rooms" = some (some (.ref f28))) (l28 : K.lookup f28 = some ⟨oc28, od28, .func (PySem.W.fnOf "_law_rooms" "_law_rooms" (defArgs s_l_rooms) (defBody s_l_rooms) (defScope s_l_rooms) .none kV28 dc28 pm28 an28 cd28 ct28), sl28⟩) (c28 : PySem.W.codeIn K cd28 "_law_rooms" = true) (k28 : PySem.W.keepIn K (.ref f28) = true)
    (a29 : PySem.W.nsIn K mainGlobals "_law_cut" = some (some (.ref f29))) (l29 : K.lookup f29 = some ⟨oc29, od29, .func (PySem.W.fnOf "_law_cut" "_law_cut" (defArgs s_l_cut) (defBody s_l_cut) (defScope s_l_cut) .none kV29 dc29 pm29 an29 cd29 ct29), sl29⟩) (c29 : PySem.W.codeIn K cd29 "_law_cut" = true) (k29 : PySem.W.keepIn K (.ref f29) = true)
    (a30 : PySem.W.nsIn K mainGlobals "_law_told" = some (some (.ref f30))) (l30 : K.lookup f30 = some ⟨oc30, od30, .func (PySem.W.fnOf "_law_told" "_law_told" (defArgs s_l_told) (defBody s_l_told) (defScope s_l_told) .none kV30 dc30 pm30 an30 cd30 ct30), sl30⟩) (c30 : PySem.W.codeIn K cd30 "_law_told" = true) (k30 : PySem.W.keepIn K (.ref f30) = true)
    (a31 : PySem.W.nsIn K mainGlobals "_law_asked" = some (some (.ref f31))) (l31 : K.lookup f31 = some ⟨oc31, od31, .func (PySem.W.fnOf "_law_asked" "_law_asked" (defArgs s_l_asked) (defBody s_l_asked) (defScope s_l_asked) .none kV31 dc31 pm31 an31 cd31 ct31), sl31⟩) (c31 : PySem.W.codeIn K cd31 "_law_asked" = true) (k31 : PySem.W.keepIn K (.ref f31) = true)
    {fI : Addr}
    {c_InvalidString d_InvalidString N_InvalidString : Addr} {nm_InvalidString q_InvalidString : Str} {bs_InvalidString : List Value} {sn_InvalidString : List Str} {su_InvalidString : List Value} {ab_InvalidString : Bool} {col_InvalidString : Option Bool} {dd_InvalidString : Option Addr} {m0_InvalidString m1_InvalidString m2_InvalidString m3_InvalidString m5_InvalidString : Option Value}
    (aC_InvalidString : PySem.W.nsIn K mainGlobals "InvalidString" = some (some (.ref c_InvalidString))) (xC_InvalidString : K.lookup c_InvalidString = some (excClassObj nm_InvalidString q_InvalidString c_InvalidString N_InvalidString bs_InvalidString [.ref d_InvalidString, .type "ValueError", .type "Exception", .type "BaseException", .type "object"] true sn_InvalidString su_InvalidString ab_InvalidString col_InvalidString dd_InvalidString m0_InvalidString m1_InvalidString m2_InvalidString m3_InvalidString m5_InvalidString "ValueError.__new__"))
    (sa_InvalidString : PySem.W.findIn K (.ref c_InvalidString) "__setattr__" = some (some (.builtin "object.__setattr__"))) (gg_InvalidString : PySem.W.findIn K (.ref c_InvalidString) "__getattribute__" = some (some (.builtin "BaseException.__getattribute__"))) (gn_InvalidString : PySem.W.findIn K (.ref c_InvalidString) "__getattr__" = some none) (nv_InvalidString : PySem.W.findIn K (.ref c_InvalidString) "value" = some none)
    (iC_InvalidString : PySem.W.findIn K (.ref c_InvalidString) "__init__" = some (some (.ref fI))) (kC_InvalidString : PySem.W.keepIn K (.ref c_InvalidString) = true) (eC_InvalidString : PySem.W.subIn K (.ref c_InvalidString) (.type "BaseException") = some true) (tC_InvalidString : PySem.W.typeIn K (.ref c_InvalidString) = some (.type "type")) (hC_InvalidString : PySem.W.hasDictIn K c_InvalidString = true)
    (cc_InvalidString : PySem.W.findIn K (.ref c_InvalidString) "__class__" = some (some (.builtin "object.__class__"))) (ob_InvalidString : PySem.W.mroIn K c_InvalidString (.type "object") = some true) (me_InvalidString : PySem.W.subIn K (.ref c_InvalidString) (.ref c_InvalidString) = some true)
    {cdI ctI dcI pmI : Value} {odI anI : Option Addr} {slI : Array (Option Value)} {kVI ocI : Value} (tI : PySem.W.typeIn K (.ref fI) = some (.type "function")) (lI : K.lookup fI = some ⟨ocI, odI, .func (PySem.W.fnOf "__init__" "MatError.__init__" (defArgs s_init) (defBody s_init) (defScope s_init) .none kVI dcI pmI anI cdI ctI), slI⟩) (oI : PySem.W.codeIn K cdI "MatError.__init__" = true) (qI : PySem.W.keepIn K (.ref fI) = true)
    (gtI : PySem.W.specialIn K (.builtin "object.__class__") "__get__" = some (some (.builtin "getset_descriptor.__get__"))) (tkI : PySem.W.takesIn K (.builtin "object.__class__") = some true)
    (sb_InvalidString_InvalidString : PySem.W.subIn K (.ref c_InvalidString) (.ref c_InvalidString) = some true)
    (z_list : PySem.W.nsIn K mainGlobals "list" = some none)
    (z_range : PySem.W.nsIn K mainGlobals "range" = some none)
    (z_len : PySem.W.nsIn K mainGlobals "len" = some none)
    (z_all : PySem.W.nsIn K mainGlobals "all" = some none)
    (z_enumerate : PySem.W.nsIn K mainGlobals "enumerate" = some none)
    (z_tuple : PySem.W.nsIn K mainGlobals "tuple" = some none)
    (z_min : PySem.W.nsIn K mainGlobals "min" = some none)
    (z_max : PySem.W.nsIn K mainGlobals "max" = some none)
    (z_sorted : PySem.W.nsIn K mainGlobals "sorted" = some none)
    (z_int : PySem.W.nsIn K mainGlobals "int" = some none)
    (z_isinstance : PySem.W.nsIn K mainGlobals "isinstance" = some none)
    (z_bool : PySem.W.nsIn K mainGlobals "bool" = some none)
    (z_str : PySem.W.nsIn K mainGlobals "str" = some none)
    (z_zip : PySem.W.nsIn K mainGlobals "zip" = some none)
    (z_set : PySem.W.nsIn K mainGlobals "set" = some none)
    : ∃ fd : FuncData, (∀ (s : Shared) (v : Value), BindsTo s fd ⟨[v], []⟩ [("_law_script", v)]) ∧ ∀ base : Heap, K.In base → base.Ns mainGlobals mg → FnOk l.prog w K mg base CX0 8 fa fd ["_law_script"] (toSp K spLaw) := by
  have e := hfa.symm.trans (PySem.W.mg_of X G a19)
  cases e
  have FI := fun_mk (st := s_init) lI oI qI
  have bI := FI.binds (ps := ["self", "value"]) fun _ _ _ _ _ _ us hl => match us, hl with | [_, _], _ => rfl
  have F1 := fun_mk (st := s_check_mat) l1 c1 k1
  have F2 := fun_mk (st := s_round_about) l2 c2 k2
  have F3 := fun_mk (st := s_p_are_mates) l3 c3 k3
  have F4 := fun_mk (st := s_p_none_cross) l4 c4 k4
  have F5 := fun_mk (st := s_is_mat) l5 c5 k5
  have F6 := fun_mk (st := s_mat_of_pairs) l6 c6 k6
  have F7 := fun_mk (st := s_pairs_moved) l7 c7 k7
  have F8 := fun_mk (st := s_upside_down) l8 c8 k8
  have F9 := fun_mk (st := s_p_upside_down) l9 c9 k9
  have F10 := fun_mk (st := s_p_strings) l10 c10 k10
  have F11 := fun_mk (st := s_strings) l11 c11 k11
  have F12 := fun_mk (st := s_p_string_of) l12 c12 k12
  have F13 := fun_mk (st := s_p_round) l13 c13 k13
  have F14 := fun_mk (st := s_p_places) l14 c14 k14
  have F15 := fun_mk (st := s_p_rows_of_gaps) l15 c15 k15
  have F16 := fun_mk (st := s_p_rooms) l16 c16 k16
  have F17 := fun_mk (st := s_rooms) l17 c17 k17
  have F18 := fun_mk (st := s_cut_string) l18 c18 k18
  have F19 := fun_mk (st := s_law) l19 c19 k19
  have F20 := fun_mk (st := s_l_cask) l20 c20 k20
  have F21 := fun_mk (st := s_l_tap) l21 c21 k21
  have F22 := fun_mk (st := s_l_alike) l22 c22 k22
  have F23 := fun_mk (st := s_l_around) l23 c23 k23
  have F24 := fun_mk (st := s_l_mat) l24 c24 k24
  have F25 := fun_mk (st := s_l_sizes) l25 c25 k25
  have F26 := fun_mk (st := s_l_spots) l26 c26 k26
  have F27 := fun_mk (st := s_l_bars) l27 c27 k27
  have F28 := fun_mk (st := s_l_rooms) l28 c28 k28
  have F29 := fun_mk (st := s_l_cut) l29 c29 k29
  have F30 := fun_mk (st := s_l_told) l30 c30 k30
  have F31 := fun_mk (st := s_l_asked) l31 c31 k31
  have b1 := F1.binds (ps := ["mat"]) fun _ _ _ _ _ _ us hl => match us, hl with | [_], _ => rfl
  have b2 := F2.binds (ps := ["n", "m"]) fun _ _ _ _ _ _ us hl => match us, hl with | [_, _], _ => rfl
  have b3 := F3.binds (ps := ["mates"]) fun _ _ _ _ _ _ us hl => match us, hl with | [_], _ => rfl
  have b4 := F4.binds (ps := ["n", "m", "mates"]) fun _ _ _ _ _ _ us hl => match us, hl with | [_, _, _], _ => rfl
  have b5 := F5.binds (ps := ["told"]) fun _ _ _ _ _ _ us hl => match us, hl with | [_], _ => rfl
  have b6 := F6.binds (ps := ["n", "m", "pairs"]) fun _ _ _ _ _ _ us hl => match us, hl with | [_, _, _], _ => rfl
  have b7 := F7.binds (ps := ["mat", "places"]) fun _ _ _ _ _ _ us hl => match us, hl with | [_, _], _ => rfl
  have b8 := F8.binds (ps := ["mat"]) fun _ _ _ _ _ _ us hl => match us, hl with | [_], _ => rfl
  have b9 := F9.binds (ps := ["mat"]) fun _ _ _ _ _ _ us hl => match us, hl with | [_], _ => rfl
  have b10 := F10.binds (ps := ["mat"]) fun _ _ _ _ _ _ us hl => match us, hl with | [_], _ => rfl
  have b11 := F11.binds (ps := ["mat"]) fun _ _ _ _ _ _ us hl => match us, hl with | [_], _ => rfl
  have b12 := F12.binds (ps := ["mat", "peg"]) fun _ _ _ _ _ _ us hl => match us, hl with | [_, _], _ => rfl
  have b13 := F13.binds (ps := ["mat"]) fun _ _ _ _ _ _ us hl => match us, hl with | [_], _ => rfl
  have b14 := F14.binds (ps := ["row", "number"]) fun _ _ _ _ _ _ us hl => match us, hl with | [_, _], _ => rfl
  have b15 := F15.binds (ps := ["mat"]) fun _ _ _ _ _ _ us hl => match us, hl with | [_], _ => rfl
  have b16 := F16.binds (ps := ["mat"]) fun _ _ _ _ _ _ us hl => match us, hl with | [_], _ => rfl
  have b17 := F17.binds (ps := ["mat"]) fun _ _ _ _ _ _ us hl => match us, hl with | [_], _ => rfl
  have b18 := F18.binds (ps := ["mat", "peg"]) fun _ _ _ _ _ _ us hl => match us, hl with | [_, _], _ => rfl
  have b20 := F20.binds (ps := ["_law_script", "_law_place"]) fun _ _ _ _ _ _ us hl => match us, hl with | [_, _], _ => rfl
  have b21 := F21.binds (ps := ["_law_cask_here", "_law_many"]) fun _ _ _ _ _ _ us hl => match us, hl with | [_, _], _ => rfl
  have b22 := F22.binds (ps := ["_law_told_here", "_law_due"]) fun _ _ _ _ _ _ us hl => match us, hl with | [_, _], _ => rfl
  have b23 := F23.binds (ps := ["_law_n", "_law_m"]) fun _ _ _ _ _ _ us hl => match us, hl with | [_, _], _ => rfl
  have b24 := F24.binds (ps := ["_law_cask_here", "_law_n", "_law_m"]) fun _ _ _ _ _ _ us hl => match us, hl with | [_, _, _], _ => rfl
  have b25 := F25.binds (ps := ["_law_cask_here", "_law_most"]) fun _ _ _ _ _ _ us hl => match us, hl with | [_, _], _ => rfl
  have b26 := F26.binds (ps := ["_law_n", "_law_m"]) fun _ _ _ _ _ _ us hl => match us, hl with | [_, _], _ => rfl
  have b27 := F27.binds (ps := ["_law_mat_here"]) fun _ _ _ _ _ _ us hl => match us, hl with | [_], _ => rfl
  have b28 := F28.binds (ps := ["_law_mat_here"]) fun _ _ _ _ _ _ us hl => match us, hl with | [_], _ => rfl
  have b29 := F29.binds (ps := ["_law_mat_here", "_law_peg"]) fun _ _ _ _ _ _ us hl => match us, hl with | [_, _], _ => rfl
  have b30 := F30.binds (ps := ["_law_cask_here", "_law_mat_here"]) fun _ _ _ _ _ _ us hl => match us, hl with | [_, _], _ => rfl
  have b31 := F31.binds (ps := ["_law_cask_here", "_law_mat_here", "_law_peg"]) fun _ _ _ _ _ _ us hl => match us, hl with | [_, _, _], _ => rfl
  have bR0_18_peg_mat := fun_kbr F18 (ps := ["mat", "peg"]) 0 ["peg", "mat"] [1, 0] (by decide) fun _ _ _ _ _ _ us ws h1 h2 => match us, ws, h1, h2 with | [], [_, _], _, _ => rfl
  have bR0_18_peg_mat := fun_kbr F18 (ps := ["mat", "peg"]) 0 ["peg", "mat"] [1, 0] (by decide) fun _ _ _ _ _ _ us ws h1 h2 => match us, ws, h1, h2 with | [], [_, _], _, _ => rfl
  refine ⟨PySem.W.fnOf "law" "law" (defArgs s_law) (defBody s_law) (defScope s_law) .none kV19 dc19 pm19 an19 cd19 ct19, fun s v => .of_eq rfl, fun base _ _ => ?_⟩
  have E_InvalidString : EOk l.prog w K mg base "InvalidString" c_InvalidString (spIn K) := ⟨⟨⟨⟨_, _, _, _, _, _, _, _, _, _, _, _, _, _, _, xC_InvalidString, by first | rfl | decide +kernel⟩, sa_InvalidString, eC_InvalidString, tC_InvalidString, kC_InvalidString⟩, ⟨gg_InvalidString, gn_InvalidString, eC_InvalidString, hC_InvalidString⟩, nv_InvalidString, cc_InvalidString, gtI, tkI, ob_InvalidString, me_InvalidString⟩, PySem.W.mg_of X G aC_InvalidString, fI, _, iC_InvalidString, tI, ok_init FI, bI⟩
  have G22 := ok_l_alikeE (P := l.prog) (w := w) (mg := mg) (base := base) F22 (m__law_alike := PySem.W.mg_of X G a22) (k__law_alike := k22) (b__law_alike := b22) (m_isinstance := PySem.W.mg_none_of X G z_isinstance) (m_list := PySem.W.mg_none_of X G z_list) (m_tuple := PySem.W.mg_none_of X G z_tuple) (m_bool := PySem.W.mg_none_of X G z_bool) (m_str := PySem.W.mg_none_of X G z_str) (m_int := PySem.W.mg_none_of X G z_int) (m_all := PySem.W.mg_none_of X G z_all) (m_len := PySem.W.mg_none_of X G z_len) (m_zip := PySem.W.mg_none_of X G z_zip)
  have G2 := ok_round_about (P := l.prog) (w := w) (mg := mg) (base := base) F2 (m_list := PySem.W.mg_none_of X G z_list) (m_range := PySem.W.mg_none_of X G z_range)
  have G3 := ok_p_are_mates (P := l.prog) (w := w) (mg := mg) (base := base) F3 (m_len := PySem.W.mg_none_of X G z_len) (m_all := PySem.W.mg_none_of X G z_all) (m_enumerate := PySem.W.mg_none_of X G z_enumerate)
  have G6 := ok_mat_of_pairs (P := l.prog) (w := w) (mg := mg) (base := base) F6 (m_tuple := PySem.W.mg_none_of X G z_tuple)
  have G10 := ok_p_strings (P := l.prog) (w := w) (mg := mg) (base := base) F10 (m_enumerate := PySem.W.mg_none_of X G z_enumerate)
  have G12 := ok_p_string_of (P := l.prog) (w := w) (mg := mg) (base := base) F12 (m_min := PySem.W.mg_none_of X G z_min) (m_max := PySem.W.mg_none_of X G z_max)
  have G14 := ok_p_places (P := l.prog) (w := w) (mg := mg) (base := base) F14 (m_tuple := PySem.W.mg_none_of X G z_tuple) (m_enumerate := PySem.W.mg_none_of X G z_enumerate)
  have G20 := ok_l_cask (P := l.prog) (w := w) (mg := mg) (base := base) F20 (m_int := PySem.W.mg_none_of X G z_int) (m_max := PySem.W.mg_none_of X G z_max) (m_len := PySem.W.mg_none_of X G z_len)
  have G21 := ok_l_tap (P := l.prog) (w := w) (mg := mg) (base := base) F21 (m_int := PySem.W.mg_none_of X G z_int)
  have G23 := ok_l_around (P := l.prog) (w := w) (mg := mg) (base := base) F23 (m_list := PySem.W.mg_none_of X G z_list) (m_range := PySem.W.mg_none_of X G z_range)
  have G26 := ok_l_spots (P := l.prog) (w := w) (mg := mg) (base := base) F26 (m_int := PySem.W.mg_none_of X G z_int) (m_range := PySem.W.mg_none_of X G z_range)
  have G29 := ok_l_cut (P := l.prog) (w := w) (mg := mg) (base := base) F29 (m_len := PySem.W.mg_none_of X G z_len) (m_tuple := PySem.W.mg_none_of X G z_tuple) (m_range := PySem.W.mg_none_of X G z_range)
  have G4 := ok_p_none_cross (P := l.prog) (w := w) (mg := mg) (base := base) F4 (F_round_about := G2) (m_round_about := PySem.W.mg_of X G a2) (k_round_about := k2) (b_round_about := b2)
  have G7 := ok_pairs_moved (P := l.prog) (w := w) (mg := mg) (base := base) F7 (F__strings := G10) (m__strings := PySem.W.mg_of X G a10) (k__strings := k10) (b__strings := b10)
  have G13 := ok_p_round (P := l.prog) (w := w) (mg := mg) (base := base) F13 (F_round_about := G2) (m_round_about := PySem.W.mg_of X G a2) (k_round_about := k2) (b_round_about := b2) (F__string_of := G12) (m__string_of := PySem.W.mg_of X G a12) (k__string_of := k12) (b__string_of := b12) (m_len := PySem.W.mg_none_of X G z_len)
  have G24 := ok_l_mat (P := l.prog) (w := w) (mg := mg) (base := base) F24 (F__law_tap := G21) (m__law_tap := PySem.W.mg_of X G a21) (k__law_tap := k21) (b__law_tap := b21) (F__law_around := G23) (m__law_around := PySem.W.mg_of X G a23) (k__law_around := k23) (b__law_around := b23) (m_enumerate := PySem.W.mg_none_of X G z_enumerate) (m_tuple := PySem.W.mg_none_of X G z_tuple) (m_int := PySem.W.mg_none_of X G z_int) (m_len := PySem.W.mg_none_of X G z_len)
  have G25 := ok_l_sizes (P := l.prog) (w := w) (mg := mg) (base := base) F25 (F__law_tap := G21) (m__law_tap := PySem.W.mg_of X G a21) (k__law_tap := k21) (b__law_tap := b21)
  have G27 := ok_l_bars (P := l.prog) (w := w) (mg := mg) (base := base) F27 (F__law_around := G23) (m__law_around := PySem.W.mg_of X G a23) (k__law_around := k23) (b__law_around := b23) (m_enumerate := PySem.W.mg_none_of X G z_enumerate) (m_sorted := PySem.W.mg_none_of X G z_sorted)
  have G5 := ok_is_mat (P := l.prog) (w := w) (mg := mg) (base := base) F5 (F__are_mates := G3) (m__are_mates := PySem.W.mg_of X G a3) (k__are_mates := k3) (b__are_mates := b3) (F__none_cross := G4) (m__none_cross := PySem.W.mg_of X G a4) (k__none_cross := k4) (b__none_cross := b4) (m_len := PySem.W.mg_none_of X G z_len)
  have G9 := ok_p_upside_down (P := l.prog) (w := w) (mg := mg) (base := base) F9 (F_mat_of_pairs := G6) (m_mat_of_pairs := PySem.W.mg_of X G a6) (k_mat_of_pairs := k6) (b_mat_of_pairs := b6) (F_pairs_moved := G7) (m_pairs_moved := PySem.W.mg_of X G a7) (k_pairs_moved := k7) (b_pairs_moved := b7) (m_list := PySem.W.mg_none_of X G z_list) (m_range := PySem.W.mg_none_of X G z_range)
  have G15 := ok_p_rows_of_gaps (P := l.prog) (w := w) (mg := mg) (base := base) F15 (F__round := G13) (m__round := PySem.W.mg_of X G a13) (k__round := k13) (b__round := b13) (m_range := PySem.W.mg_none_of X G z_range)
  have G28 := ok_l_rooms (P := l.prog) (w := w) (mg := mg) (base := base) F28 (F__law_spots := G26) (m__law_spots := PySem.W.mg_of X G a26) (k__law_spots := k26) (b__law_spots := b26) (F__law_bars := G27) (m__law_bars := PySem.W.mg_of X G a27) (k__law_bars := k27) (b__law_bars := b27) (m_sorted := PySem.W.mg_none_of X G z_sorted) (m_set := PySem.W.mg_none_of X G z_set) (m_tuple := PySem.W.mg_none_of X G z_tuple) (m_int := PySem.W.mg_none_of X G z_int) (m_range := PySem.W.mg_none_of X G z_range)
  have G1 := ok_check_mat (P := l.prog) (w := w) (mg := mg) (base := base) F1 (F_is_mat := G5) (m_is_mat := PySem.W.mg_of X G a5) (k_is_mat := k5) (b_is_mat := b5)
  have G16 := ok_p_rooms (P := l.prog) (w := w) (mg := mg) (base := base) F16 (F__rows_of_gaps := G15) (m__rows_of_gaps := PySem.W.mg_of X G a15) (k__rows_of_gaps := k15) (b__rows_of_gaps := b15) (F__places := G14) (m__places := PySem.W.mg_of X G a14) (k__places := k14) (b__places := b14) (m_range := PySem.W.mg_none_of X G z_range) (m_max := PySem.W.mg_none_of X G z_max)
  have G8 := ok_upside_down (P := l.prog) (w := w) (mg := mg) (base := base) F8 (F_check_mat := G1) (m_check_mat := PySem.W.mg_of X G a1) (k_check_mat := k1) (b_check_mat := b1) (F__upside_down := G9) (m__upside_down := PySem.W.mg_of X G a9) (k__upside_down := k9) (b__upside_down := b9)
  have G11 := ok_strings (P := l.prog) (w := w) (mg := mg) (base := base) F11 (F_check_mat := G1) (m_check_mat := PySem.W.mg_of X G a1) (k_check_mat := k1) (b_check_mat := b1) (F__strings := G10) (m__strings := PySem.W.mg_of X G a10) (k__strings := k10) (b__strings := b10)
  have G17 := ok_rooms (P := l.prog) (w := w) (mg := mg) (base := base) F17 (F_check_mat := G1) (m_check_mat := PySem.W.mg_of X G a1) (k_check_mat := k1) (b_check_mat := b1) (F__rooms := G16) (m__rooms := PySem.W.mg_of X G a16) (k__rooms := k16) (b__rooms := b16) (m_sorted := PySem.W.mg_none_of X G z_sorted)
  have G18 := ok_cut_string (P := l.prog) (w := w) (mg := mg) (base := base) F18 (F_check_mat := G1) (m_check_mat := PySem.W.mg_of X G a1) (k_check_mat := k1) (b_check_mat := b1) (F__string_of := G12) (m__string_of := PySem.W.mg_of X G a12) (k__string_of := k12) (b__string_of := b12) (F_mat_of_pairs := G6) (m_mat_of_pairs := PySem.W.mg_of X G a6) (k_mat_of_pairs := k6) (b_mat_of_pairs := b6) (F_strings := G11) (m_strings := PySem.W.mg_of X G a11) (k_strings := k11) (b_strings := b11) (m_len := PySem.W.mg_none_of X G z_len) (m_range := PySem.W.mg_none_of X G z_range)
  have G30 := ok_l_told (P := l.prog) (w := w) (mg := mg) (base := base) F30 (F_upside_down := G8) (m_upside_down := PySem.W.mg_of X G a8) (k_upside_down := k8) (b_upside_down := b8) (F__law_tap := G21) (m__law_tap := PySem.W.mg_of X G a21) (k__law_tap := k21) (b__law_tap := b21)
  have GX18 := okx_cut_string (P := l.prog) (w := w) (mg := mg) (base := base) F18 (E_InvalidString := E_InvalidString) (F_check_mat := G1) (m_check_mat := PySem.W.mg_of X G a1) (k_check_mat := k1) (b_check_mat := b1) (F__string_of := G12) (m__string_of := PySem.W.mg_of X G a12) (k__string_of := k12) (b__string_of := b12) (F_mat_of_pairs := G6) (m_mat_of_pairs := PySem.W.mg_of X G a6) (k_mat_of_pairs := k6) (b_mat_of_pairs := b6) (F_strings := G11) (m_strings := PySem.W.mg_of X G a11) (k_strings := k11) (b_strings := b11) (m_len := PySem.W.mg_none_of X G z_len) (m_range := PySem.W.mg_none_of X G z_range)
  have G31 := fnok_or (ok_l_asked_N (P := l.prog) (w := w) (mg := mg) (base := base) F31 (F__law_told := G30) (m__law_told := PySem.W.mg_of X G a30) (k__law_told := k30) (b__law_told := b30) (F_cut_string := G18) (m_cut_string := PySem.W.mg_of X G a18) (k_cut_string := k18) (b_cut_string := b18) (F__law_tap := G21) (m__law_tap := PySem.W.mg_of X G a21) (k__law_tap := k21) (b__law_tap := b21) (bR0_cut_string_peg_mat := bR0_18_peg_mat)) (ok_l_asked_X (P := l.prog) (w := w) (mg := mg) (base := base) F31 (E_InvalidString := E_InvalidString) (sb_InvalidString_InvalidString := sb_InvalidString_InvalidString) (F__law_told := G30) (m__law_told := PySem.W.mg_of X G a30) (k__law_told := k30) (b__law_told := b30) (F_cut_string := G18) (FX_cut_string := GX18) (m_cut_string := PySem.W.mg_of X G a18) (k_cut_string := k18) (b_cut_string := b18) (F__law_tap := G21) (m__law_tap := PySem.W.mg_of X G a21) (k__law_tap := k21) (b__law_tap := b21) (bR0_cut_string_peg_mat := bR0_18_peg_mat))
  exact ok_law (P := l.prog) (w := w) (mg := mg) (base := base) F19 (F__law_cask := G20) (m__law_cask := PySem.W.mg_of X G a20) (k__law_cask := k20) (b__law_cask := b20) (F__law_sizes := G25) (m__law_sizes := PySem.W.mg_of X G a25) (k__law_sizes := k25) (b__law_sizes := b25) (F__law_mat := G24) (m__law_mat := PySem.W.mg_of X G a24) (k__law_mat := k24) (b__law_mat := b24) (F__law_tap := G21) (m__law_tap := PySem.W.mg_of X G a21) (k__law_tap := k21) (b__law_tap := b21) (F__law_cut := G29) (m__law_cut := PySem.W.mg_of X G a29) (k__law_cut := k29) (b__law_cut := b29) (F__law_asked := G31) (m__law_asked := PySem.W.mg_of X G a31) (k__law_asked := k31) (b__law_asked := b31) (F__law_alike := G22) (m__law_alike := PySem.W.mg_of X G a22) (k__law_alike := k22) (b__law_alike := b22) (F_rooms := G17) (m_rooms := PySem.W.mg_of X G a17) (k_rooms := k17) (b_rooms := b17) (F__law_rooms := G28) (m__law_rooms := PySem.W.mg_of X G a28) (k__law_rooms := k28) (b__law_rooms := b28) (m_range := PySem.W.mg_none_of X G z_range) (m_max := PySem.W.mg_none_of X G z_max) (m_min := PySem.W.mg_none_of X G z_min) (m_len := PySem.W.mg_none_of X G z_len)
end K71
open PySem PySem.W PyProof.Rows
set_option maxHeartbeats 0 in
theorem PySem.Challenge.cw_hookmats_k71_whole_strings_cut_one_by_on_holds : PySem.Challenge.rw_hookmats_k71_whole_strings_cut_one_by_on.Holds := by
  w_on; o_law; k_head; (case hw => w_witness2)
  k_fill
  refine L2.walk_ofB (l := PySem.Challenge.rw_hookmats_k71_whole_strings_cut_one_by_on) (n := 63) (k := 8) (x := "_law_script") (CX := fun _ => L2.CX0) (sp := fun w => PP.toSp _ PP.spLaw) rfl (by decide) rfl ⟨rfl, by decide, by decide⟩ (fun w h Y => PySem.W.kIn_of Y) ?F (fun _ _ a ns hl hb _ hS => PP.law_sp hl hb hS) (fun _ _ _ _ _ h => h)
  case F =>
    intro w mg fa h KX G hmg
    refine' K71.all_mk KX G hmg ?a1 ?l1 ?c1 ?k1 ?a2 ?l2 ?c2 ?k2 ?a3 ?l3 ?c3 ?k3 ?a4 ?l4 ?c4 ?k4 ?a5 ?l5 ?c5 ?k5 ?a6 ?l6 ?c6 ?k6 ?a7 ?l7 ?c7 ?k7 ?a8 ?l8 ?c8 ?k8 ?a9 ?l9 ?c9 ?k9 ?a10 ?l10 ?c10 ?k10 ?a11 ?l11 ?c11 ?k11 ?a12 ?l12 ?c12 ?k12 ?a13 ?l13 ?c13 ?k13 ?a14 ?l14 ?c14 ?k14 ?a15 ?l15 ?c15 ?k15 ?a16 ?l16 ?c16 ?k16 ?a17 ?l17 ?c17 ?k17 ?a18 ?l18 ?c18 ?k18 ?a19 ?l19 ?c19 ?k19 ?a20 ?l20 ?c20 ?k20 ?a21 ?l21 ?c21 ?k21 ?a22 ?l22 ?c22 ?k22 ?a23 ?l23 ?c23 ?k23 ?a24 ?l24 ?c24 ?k24 ?a25 ?l25 ?c25 ?k25 ?a26 ?l26 ?c26 ?k26 ?a27 ?l27 ?c27 ?k27 ?a28 ?l28 ?c28 ?k28 ?a29 ?l29 ?c29 ?k29 ?a30 ?l30 ?c30 ?k30 ?a31 ?l31 ?c31 ?k31 ?aC_InvalidString ?xC_InvalidString ?sa_InvalidString ?gg_InvalidString ?gn_InvalidString ?nv_InvalidString ?iC_InvalidString ?kC_InvalidString ?eC_InvalidString ?tC_InvalidString ?hC_InvalidString ?cc_InvalidString ?ob_InvalidString ?me_InvalidString ?tI ?lI ?oI ?qI ?gtI ?tkI ?sb_InvalidString_InvalidString ?z_list ?z_range ?z_len ?z_all ?z_enumerate ?z_tuple ?z_min ?z_max ?z_sorted ?z_int ?z_isinstance ?z_bool ?z_str ?z_zip ?z_set
    (case a1 => k_is); (case l1 => k_is); (case c1 => k_is); (case k1 => k_is); (case a2 => k_is); (case l2 => k_is); (case c2 => k_is); (case k2 => k_is); (case a3 => k_is); (case l3 => k_is); (case c3 => k_is); (case k3 => k_is); (case a4 => k_is); (case l4 => k_is); (case c4 => k_is); (case k4 => k_is); (case a5 => k_is); (case l5 => k_is); (case c5 => k_is); (case k5 => k_is); (case a6 => k_is); (case l6 => k_is); (case c6 => k_is); (case k6 => k_is); (case a7 => k_is); (case l7 => k_is); (case c7 => k_is); (case k7 => k_is); (case a8 => k_is); (case l8 => k_is); (case c8 => k_is); (case k8 => k_is); (case a9 => k_is); (case l9 => k_is); (case c9 => k_is); (case k9 => k_is); (case a10 => k_is); (case l10 => k_is); (case c10 => k_is); (case k10 => k_is); (case a11 => k_is); (case l11 => k_is); (case c11 => k_is); (case k11 => k_is); (case a12 => k_is); (case l12 => k_is); (case c12 => k_is); (case k12 => k_is); (case a13 => k_is); (case l13 => k_is); (case c13 => k_is); (case k13 => k_is); (case a14 => k_is); (case l14 => k_is); (case c14 => k_is); (case k14 => k_is); (case a15 => k_is); (case l15 => k_is); (case c15 => k_is); (case k15 => k_is); (case a16 => k_is); (case l16 => k_is); (case c16 => k_is); (case k16 => k_is); (case a17 => k_is); (case l17 => k_is); (case c17 => k_is); (case k17 => k_is); (case a18 => k_is); (case l18 => k_is); (case c18 => k_is); (case k18 => k_is); (case a19 => k_is); (case l19 => k_is); (case c19 => k_is); (case k19 => k_is); (case a20 => k_is); (case l20 => k_is); (case c20 => k_is); (case k20 => k_is); (case a21 => k_is); (case l21 => k_is); (case c21 => k_is); (case k21 => k_is); (case a22 => k_is); (case l22 => k_is); (case c22 => k_is); (case k22 => k_is); (case a23 => k_is); (case l23 => k_is); (case c23 => k_is); (case k23 => k_is); (case a24 => k_is); (case l24 => k_is); (case c24 => k_is); (case k24 => k_is); (case a25 => k_is); (case l25 => k_is); (case c25 => k_is); (case k25 => k_is); (case a26 => k_is); (case l26 => k_is); (case c26 => k_is); (case k26 => k_is); (case a27 => k_is); (case l27 => k_is); (case c27 => k_is); (case k27 => k_is); (case a28 => k_is); (case l28 => k_is); (case c28 => k_is); (case k28 => k_is); (case a29 => k_is); (case l29 => k_is); (case c29 => k_is); (case k29 => k_is); (case a30 => k_is); (case l30 => k_is); (case c30 => k_is); (case k30 => k_is); (case a31 => k_is); (case l31 => k_is); (case c31 => k_is); (case k31 => k_is); (case aC_InvalidString => k_is); (case xC_InvalidString => k_is); (case sa_InvalidString => k_is); (case gg_InvalidString => k_is); (case gn_InvalidString => k_is); (case nv_InvalidString => k_is); (case iC_InvalidString => k_is); (case kC_InvalidString => k_is); (case eC_InvalidString => k_is); (case tC_InvalidString => k_is); (case hC_InvalidString => k_is); (case cc_InvalidString => k_is); (case ob_InvalidString => k_is); (case me_InvalidString => first | rfl | k_is); (case tI => k_is); (case lI => k_is); (case oI => k_is); (case qI => k_is); (case gtI => k_is); (case tkI => k_is); (case sb_InvalidString_InvalidString => first | rfl | k_is); (case z_list => k_is); (case z_range => k_is); (case z_len => k_is); (case z_all => k_is); (case z_enumerate => k_is); (case z_tuple => k_is); (case z_min => k_is); (case z_max => k_is); (case z_sorted => k_is); (case z_int => k_is); (case z_isinstance => k_is); (case z_bool => k_is); (case z_str => k_is); (case z_zip => k_is); (case z_set => k_is)
