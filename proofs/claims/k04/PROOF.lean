import PyProof.Rows.All
import Wide.All
import OpenK.AllK
import Wide.FinOn
import HandS.ForMost
import HandS.Wide
import HandS.Conv
import HandS.Flow
import KE.GoesEnum
import HandS.Rev
import HandS.Zip
import HandS.IsInst
import HandS.Deep
import HandS.Style
import HandS.More
import HandS.TupAny
import HandS.TryOnly
import HandS.EndBits
import HandS.DictComp
import KE.DataMinMax
import KE.SortData
import HandS.SortInts
import HandS.TupMul
import HandS.List
import KE.KDictZip
import HandS.Dict
import HandS.DictSub
import KE.KMathGC
import KE.KTupSum
import HandS.SetFor
import KE.BitLaws
import HandS.RevRange
import HandS.WideBits
import KE.GoesEnumKw
import HandS.ForExc
import HandS.ExcInit
import HandS.ExcField
import HandS.ExcIs
import KE.KExcIs
import PySem.Challenge.RW_hookmats_k04_whole_straight_hooks_and_st
set_option Elab.async false
set_option linter.all false
set_option maxRecDepth 100000
set_option maxHeartbeats 8000000
set_option autoImplicit false
namespace PP
open PySem PySem.Spec PyProof.Rows L2
def Sub (F F' : Hp) : Prop := ∀ a o, F a = some o → F' a = some o
theorem Sub.refl (F : Hp) : Sub F F := fun _ _ h => h
theorem Sub.trans {F G H : Hp} (a : Sub F G) (b : Sub G H) : Sub F H := fun x o h => b x o (a x o h)
theorem Sub.upd {F : Hp} {p : Addr} {o : HO} (h : F p = none) : Sub F (upd F p o) := fun a u e => by
  rw [upd_ne (ne_of_none e h)]; exact e
theorem Sub.none {F F' : Hp} (e : Sub F F') {p : Addr} (h : F' p = none) : F p = none := by
  cases q : F p with
  | none => rfl
  | some o => rw [e p o q] at h; cases h
theorem Sub.rd {F F' : Hp} (e : Sub F F') {a : Addr} {u : HO} (h : Rd F a u) : Rd F' a u := by
  rcases h with h | ⟨o, h⟩
  · exact .inl (e _ _ h)
  · exact .inr ⟨o, e _ _ h⟩
theorem Sub.sql {K : PySem.W.Frag} {F F' : Hp} (e : Sub F F') {a : Addr} {xs : List V} (h : SqL K F a xs) : SqL K F' a xs := h.imp e.rd id
theorem Sub.sqt {K : PySem.W.Frag} {F F' : Hp} (e : Sub F F') {a : Addr} {xs : List V} (h : SqT K F a xs) : SqT K F' a xs := h.imp e.rd id
mutual
inductive DP (K : PySem.W.Frag) (F : Hp) : V → PyData → Prop
  | non : DP K F .non .none
  | bl (b : Bool) : DP K F (.bl b) (.bool b)
  | int (i : Int) : DP K F (.int i) (.int i)
  | str (x : Str) : DP K F (.str x) (.str x)
  | lst {a : Addr} {xs : List V} {ds : List PyData} : F a = some (.lst xs) → DPs K F xs ds → DP K F (.ref a) (.list ds)
  | tup {a : Addr} {xs : List V} {ds : List PyData} : SqT K F a xs → DPs K F xs ds → DP K F (.ref a) (.tuple ds)
inductive DPs (K : PySem.W.Frag) (F : Hp) : List V → List PyData → Prop
  | nil : DPs K F [] []
  | cons {v : V} {vs : List V} {d : PyData} {ds : List PyData} : DP K F v d → DPs K F vs ds → DPs K F (v :: vs) (d :: ds)
end
mutual
theorem DP.toDp {K : PySem.W.Frag} {F : Hp} : ∀ (d : PyData) (v : V), DP K F v d → Dp K F v d
  | .none, _, h => by cases h; exact .non
  | .bool b, _, h => by cases h; exact .bl b
  | .int i, _, h => by cases h; exact .int i
  | .str x, _, h => by cases h; exact .str x
  | .list ds, _, h => by
    cases h with
    | lst hs ha => exact .lst (.of hs) (DPs.toDp ds _ ha)
  | .tuple ds, _, h => by
    cases h with
    | tup hs ha => exact .tup hs (DPs.toDp ds _ ha)
  | .dict _, _, h => by cases h
theorem DPs.toDp {K : PySem.W.Frag} {F : Hp} : ∀ (ds : List PyData) (vs : List V), DPs K F vs ds → DpAll K F vs ds
  | [], _, h => by cases h; exact .nil
  | d :: ds, _, h => by
    cases h with
    | cons h1 h2 => exact .cons (DP.toDp d _ h1) (DPs.toDp ds _ h2)
end
mutual
theorem dp_mono {K : PySem.W.Frag} {F F' : Hp} (e : Sub F F') : ∀ (d : PyData) (v : V), DP K F v d → DP K F' v d
  | .none, _, h => by cases h; exact .non
  | .bool b, _, h => by cases h; exact .bl b
  | .int i, _, h => by cases h; exact .int i
  | .str x, _, h => by cases h; exact .str x
  | .list ds, _, h => by
    cases h with
    | lst hs ha => exact .lst (e _ _ hs) (dpa_mono e ds _ ha)
  | .tuple ds, _, h => by
    cases h with
    | tup hs ha => exact .tup (e.sqt hs) (dpa_mono e ds _ ha)
  | .dict _, _, h => by cases h
theorem dpa_mono {K : PySem.W.Frag} {F F' : Hp} (e : Sub F F') : ∀ (ds : List PyData) (vs : List V), DPs K F vs ds → DPs K F' vs ds
  | [], _, h => by cases h; exact .nil
  | d :: ds, _, h => by
    cases h with
    | cons h1 h2 => exact .cons (dp_mono e d _ h1) (dpa_mono e ds _ h2)
end
section
variable {K : PySem.W.Frag} {F : Hp}
theorem dpa_len : ∀ {vs : List V} {ds : List PyData}, DPs K F vs ds → vs.length = ds.length
  | _, _, .nil => rfl
  | _, _, .cons _ t => by rw [List.length_cons, List.length_cons, dpa_len t]
theorem dpa_get : ∀ {vs : List V} {ds : List PyData} {i : Nat} {d : PyData}, DPs K F vs ds → ds[i]? = some d → ∃ v, vs[i]? = some v ∧ DP K F v d
  | _, _, _, _, .nil, e => by simp at e
  | _, _, 0, _, .cons r _, e => by simp at e; subst e; exact ⟨_, rfl, r⟩
  | _, _, i + 1, _, .cons _ t, e => by
    obtain ⟨v, h1, h2⟩ := dpa_get (i := i) t (by simpa using e)
    exact ⟨v, by simpa using h1, h2⟩
theorem dpa_app : ∀ {vs : List V} {ds : List PyData} {ws : List V} {es : List PyData}, DPs K F vs ds → DPs K F ws es → DPs K F (vs ++ ws) (ds ++ es)
  | _, _, _, _, .nil, s => s
  | _, _, _, _, .cons r t, s => .cons r (dpa_app t s)
theorem dpa_take : ∀ {vs : List V} {ds : List PyData} (n : Nat), DPs K F vs ds → DPs K F (vs.take n) (ds.take n)
  | _, _, 0, _ => .nil
  | _, _, _ + 1, .nil => .nil
  | _, _, n + 1, .cons r t => .cons r (dpa_take n t)
theorem dpa_drop : ∀ {vs : List V} {ds : List PyData} (n : Nat), DPs K F vs ds → DPs K F (vs.drop n) (ds.drop n)
  | _, _, 0, r => r
  | _, _, _ + 1, .nil => .nil
  | _, _, n + 1, .cons _ t => dpa_drop n t
theorem dpa_set {v : V} {d : PyData} (r : DP K F v d) : ∀ {vs : List V} {ds : List PyData} (i : Nat), DPs K F vs ds → DPs K F (vs.set i v) (ds.set i d)
  | _, _, _, .nil => .nil
  | _, _, 0, .cons _ t => .cons r t
  | _, _, i + 1, .cons q t => .cons q (dpa_set r i t)
theorem dpa_erase : ∀ {vs : List V} {ds : List PyData} (i : Nat), DPs K F vs ds → DPs K F (vs.eraseIdx i) (ds.eraseIdx i)
  | _, _, _, .nil => .nil
  | _, _, 0, .cons _ t => t
  | _, _, i + 1, .cons q t => .cons q (dpa_erase i t)
theorem dpa_dropLast {vs : List V} {ds : List PyData} (h : DPs K F vs ds) : DPs K F vs.dropLast ds.dropLast := by
  rw [List.dropLast_eq_take, List.dropLast_eq_take, dpa_len h]
  exact dpa_take _ h
theorem dpa_rep {vs : List V} {ds : List PyData} (h : DPs K F vs ds) : ∀ k : Nat, DPs K F (List.replicate k vs).flatten (List.replicate k ds).flatten
  | 0 => .nil
  | k + 1 => by
    rw [List.replicate_succ, List.replicate_succ, List.flatten_cons, List.flatten_cons]
    exact dpa_app h (dpa_rep h k)
theorem dpa_ints : ∀ (ns : List Int), DPs K F (ns.map V.int) (ns.map PyData.int)
  | [] => .nil
  | n :: ns => .cons (.int n) (dpa_ints ns)
theorem dp_int {v : V} {i : Int} (h : DP K F v (.int i)) : v = .int i := by cases h; rfl
theorem dp_bool {v : V} {i : Bool} (h : DP K F v (.bool i)) : v = .bl i := by cases h; rfl
theorem dp_none {v : V} (h : DP K F v .none) : v = .non := by cases h; rfl
theorem dp_list {v : V} {ds : List PyData} (h : DP K F v (.list ds)) : ∃ a vs, v = .ref a ∧ F a = some (.lst vs) ∧ DPs K F vs ds := by
  cases h with
  | lst hs ha => exact ⟨_, _, rfl, hs, ha⟩
theorem dp_tuple {v : V} {ds : List PyData} (h : DP K F v (.tuple ds)) : ∃ a vs, v = .ref a ∧ SqT K F a vs ∧ DPs K F vs ds := by
  cases h with
  | tup hs ha => exact ⟨_, _, rfl, hs, ha⟩
theorem dpa_ints_inv : ∀ {vs : List V} {ns : List Int}, DPs K F vs (ns.map PyData.int) → vs = ns.map V.int
  | _, [], h => by cases h; rfl
  | _, n :: ns, h => by
    cases h with
    | cons h1 h2 => rw [dp_int h1, dpa_ints_inv h2]; rfl
end
inductive PV where
  | d (x : PyData)
  | ref (k : Nat)
  | raw (xs : List PyData)
  | exc (C : Addr) (x : PyData)
def exH (a C d : Addr) : HO := .ext fun h => ∃ (oe : Obj) (vs : Array Value), h.get? a = some oe ∧ oe.cls = .ref C ∧ oe.dict = some d ∧ oe.data = .fields vs
inductive Cell where
  | lst (xs : List PyData)
  | dK (kvs : List (Key × PyData))
  /-- a list of the cell just ahead and three numbers -/
  | own (a b c : Int)
abbrev Mem := List (Option Cell)
abbrev Loc := List (Option PV)
structure Wd where
  A : List Addr
  T : List (Addr × HO)
  F : Hp
structure Wd.le0 (w w' : Wd) : Prop where
  pre : ∃ more, w'.A = w.A ++ more
  sub : Sub w.F w'.F
structure Wd.le (w w' : Wd) : Prop extends toLe0 : Wd.le0 w w' where
  hid : w'.T = w.T
theorem Wd.le0.refl (w : Wd) : w.le0 w := ⟨⟨[], by simp⟩, Sub.refl _⟩
theorem Wd.le.refl (w : Wd) : w.le w := ⟨.refl w, rfl⟩
theorem Wd.le0.trans {a b c : Wd} (h : a.le0 b) (g : b.le0 c) : a.le0 c := by
  obtain ⟨m1, e1⟩ := h.pre
  obtain ⟨m2, e2⟩ := g.pre
  exact ⟨⟨m1 ++ m2, by rw [e2, e1, List.append_assoc]⟩, h.sub.trans g.sub⟩
theorem Wd.le.trans {a b c : Wd} (h : a.le b) (g : b.le c) : a.le c := ⟨h.toLe0.trans g.toLe0, g.hid.trans h.hid⟩
theorem Wd.le0.at {a b : Wd} (h : a.le0 b) {k : Nat} {x : Addr} (e : a.A[k]? = some x) : b.A[k]? = some x := by
  obtain ⟨m, em⟩ := h.pre
  rw [em, List.getElem?_append_left (List.getElem?_eq_some_iff.mp e).1]
  exact e
section
variable (K : PySem.W.Frag)
def RV (w : Wd) (v : V) : PV → Prop
  | .d x => DP K w.F v x
  | .ref k => ∃ a, w.A[k]? = some a ∧ v = .ref a
  | .raw xs => ∃ a vs, v = .ref a ∧ SqL K w.F a vs ∧ DPs K w.F vs xs
  | .exc C x => ∃ (a d : Addr) (vv : V), v = .ref a ∧ w.F a = some (exH a C d) ∧ w.F d = some (.xd [("value", vv)]) ∧ DP K w.F vv x
abbrev RVs (w : Wd) : List V → List PV → Prop := Paired (RV K w)
def CR (w : Wd) (k : Nat) : Cell → HO → Prop
  | .lst ds, o => ∃ vs, o = .lst vs ∧ DPs K w.F vs ds
  | .dK kvs, o => ∃ us, o = .dK us ∧ Paired (fun (p : Key × V) (q : Key × PyData) => p.1 = q.1 ∧ DP K w.F p.2 q.2) us kvs
  | .own a b c, o => ∃ j q, k = j + 1 ∧ w.A[j]? = some q ∧ o = .lst [V.ref q, V.int a, V.int b, V.int c]
structure HR (w : Wd) (m : Mem) (H : Hp) : Prop where
  fz : Sub w.F H
  len : w.A.length = m.length
  nd : w.A.Nodup
  sep : ∀ (k : Nat) (a : Addr) (c : Cell), w.A[k]? = some a → m[k]? = some (some c) → w.F a = none
  occ : ∀ a : Addr, a ∈ w.A → H a ≠ none
  tp : ∀ p : Addr × HO, p ∈ w.T → H p.1 = some p.2 ∧ w.F p.1 = none ∧ p.1 ∉ w.A
  tnd : (w.T.map (·.1)).Nodup
  cell : ∀ (k : Nat) (c : Cell), m[k]? = some (some c) → ∃ (a : Addr) (o : HO), w.A[k]? = some a ∧ H a = some o ∧ CR K w k c o
structure Rep (w : Wd) (L : Loc) (m : Mem) (σ : L2.St) (H : Hp) : Prop extends toHR : HR K w m H where
  sl : σ.length = L.length
  loc : ∀ (i : Nat) (p : PV), L[i]? = some (some p) → ∃ v, σ[i]? = some (some v) ∧ RV K w v p
end
section
variable {K : PySem.W.Frag} {w w' : Wd} {L : Loc} {m m' : Mem} {σ : L2.St} {H H' : Hp} {v : V} {p : PV}
theorem RV.mono (h : RV K w v p) (l : w.le0 w') : RV K w' v p := by
  cases p with
  | d x => exact dp_mono l.sub x v h
  | ref k => obtain ⟨a, e, r⟩ := h; exact ⟨a, l.at e, r⟩
  | raw u => obtain ⟨a, vs, e, s, d⟩ := h; exact ⟨a, vs, e, l.sub.sql s, dpa_mono l.sub _ _ d⟩
  | exc C x => obtain ⟨a, d, vv, e, h1, h2, h3⟩ := h; exact ⟨a, d, vv, e, l.sub _ _ h1, l.sub _ _ h2, dp_mono l.sub _ _ h3⟩
theorem RVs.mono : ∀ {vs : List V} {ps : List PV}, RVs K w vs ps → w.le0 w' → RVs K w' vs ps
  | _, _, .nil, _ => .nil
  | _, _, .cons r t, l => .cons (r.mono l) (RVs.mono t l)
theorem CR.mono {k : Nat} {c : Cell} {o : HO} (h : CR K w k c o) (l : Sub w.F w'.F) (la : ∀ j a, j < k → w.A[j]? = some a → w'.A[j]? = some a := by exact fun _ _ _ z => z) : CR K w' k c o := by
  cases c with
  | lst ds => obtain ⟨vs, e, r⟩ := h; exact ⟨vs, e, dpa_mono l _ _ r⟩
  | dK kvs => obtain ⟨us, e, r⟩ := h; exact ⟨us, e, L2.Paired.mapP r fun a b z => ⟨z.1, dp_mono l _ _ z.2⟩⟩
  | own a b c => obtain ⟨j, q, e1, e2, e3⟩ := h; exact ⟨j, q, e1, la j q (by omega) e2, e3⟩
theorem Rep.go (h : Rep K w L m σ H) (l : w.le w') (r : HR K w' m' H') : Rep K w' L m' σ H' :=
  ⟨r, h.sl, fun i p e => let ⟨v, e1, q⟩ := h.loc i p e; ⟨v, e1, q.mono l.toLe0⟩⟩
def Wd.fz (w : Wd) (p : Addr) (o : HO) : Wd := { w with F := upd w.F p o }
theorem HR.fnone (h : HR K w m H) {p : Addr} (hp : H p = none) : w.F p = none := h.fz.none hp
theorem HR.fnew (h : HR K w m H) {p : Addr} {o : HO} (hp : H p = none) : w.le (w.fz p o) ∧ HR K (w.fz p o) m (upd H p o) := by
  have hF := h.fnone hp
  have hA : p ∉ w.A := fun z => h.occ p z hp
  have hs : Sub w.F (upd w.F p o) := Sub.upd hF
  refine ⟨⟨⟨⟨[], by simp [Wd.fz]⟩, hs⟩, rfl⟩, ?_, h.len, h.nd, fun k a c e1 e2 => ?_, fun a ha => ?_, fun q hq => ?_, h.tnd, fun k c e => ?_⟩
  · intro a u e
    by_cases ha : a = p
    · subst ha; rw [show (w.fz a o).F a = some o from upd_same] at e; rw [upd_same]; exact e
    · rw [show (w.fz p o).F a = w.F a from upd_ne ha] at e; rw [upd_ne ha]; exact h.fz a u e
  · have hne : a ≠ p := fun z => hA (z ▸ List.mem_of_getElem? e1)
    show upd w.F p o a = none
    rw [upd_ne hne]; exact h.sep k a c e1 e2
  · by_cases hne : a = p
    · subst hne; rw [upd_same]; exact fun z => by cases z
    · rw [upd_ne hne]; exact h.occ a ha
  · obtain ⟨e1, e2, e3⟩ := h.tp q hq
    have hne : q.1 ≠ p := fun z => by rw [z, hp] at e1; cases e1
    refine ⟨by rw [upd_ne hne]; exact e1, ?_, e3⟩
    show upd w.F p o q.1 = none
    rw [upd_ne hne]; exact e2
  · obtain ⟨a, u, e1, e2, r⟩ := h.cell k c e
    have hne : a ≠ p := fun z => by rw [z, hp] at e2; cases e2
    exact ⟨a, u, e1, by rw [upd_ne hne]; exact e2, r.mono hs⟩
structure Un1 (w : Wd) (p : Addr) : Prop where
  f : w.F p = none
  a : p ∉ w.A
  t : p ∉ w.T.map (·.1)
theorem HR.un (h : HR K w m H) {p : Addr} {o : HO} (hp : H p = none) : HR K w m (upd H p o) ∧ Un1 w p := by
  have hF := h.fnone hp
  have hA : p ∉ w.A := fun z => h.occ p z hp
  have hT : p ∉ w.T.map (·.1) := fun z => by
    obtain ⟨q, hq, e⟩ := List.mem_map.mp z
    have := (h.tp q hq).1
    rw [e, hp] at this; cases this
  have hq : ∀ a, H a ≠ none → upd H p o a = H a := fun a ha => upd_ne fun z => ha (z ▸ hp)
  refine ⟨⟨fun a u e => ?_, h.len, h.nd, h.sep, fun a ha => ?_, fun q hq' => ?_, h.tnd, fun k c e => ?_⟩, hF, hA, hT⟩
  · have e' := h.fz a u e
    rw [hq a (by rw [e']; exact fun z => by cases z)]; exact e'
  · rw [hq a (h.occ a ha)]; exact h.occ a ha
  · obtain ⟨e1, e2, e3⟩ := h.tp q hq'
    exact ⟨by rw [hq q.1 (by rw [e1]; exact fun z => by cases z)]; exact e1, e2, e3⟩
  · obtain ⟨a, u, e1, e2, r⟩ := h.cell k c e
    exact ⟨a, u, e1, by rw [hq a (by rw [e2]; exact fun z => by cases z)]; exact e2, r⟩
theorem HR.freeze (h : HR K w m H) {p : Addr} {o : HO} (u : Un1 w p) (e : H p = some o) : w.le (w.fz p o) ∧ HR K (w.fz p o) m H := by
  have hs : Sub w.F (upd w.F p o) := Sub.upd u.f
  refine ⟨⟨⟨⟨[], by simp [Wd.fz]⟩, hs⟩, rfl⟩, ?_, h.len, h.nd, fun k a c e1 e2 => ?_, h.occ, fun q hq => ?_, h.tnd, fun k c e => ?_⟩
  · intro a x ea
    by_cases ha : a = p
    · subst ha; rw [show (w.fz a o).F a = some o from upd_same] at ea; rw [← ea]; exact e
    · rw [show (w.fz p o).F a = w.F a from upd_ne ha] at ea; exact h.fz a x ea
  · have hne : a ≠ p := fun z => u.a (z ▸ List.mem_of_getElem? e1)
    show upd w.F p o a = none
    rw [upd_ne hne]; exact h.sep k a c e1 e2
  · obtain ⟨e1, e2, e3⟩ := h.tp q hq
    have hne : q.1 ≠ p := fun z => u.t (z ▸ List.mem_map_of_mem hq)
    refine ⟨e1, ?_, e3⟩
    show upd w.F p o q.1 = none
    rw [upd_ne hne]; exact e2
  · obtain ⟨a, x, e1, e2, r⟩ := h.cell k c e
    exact ⟨a, x, e1, e2, r.mono hs⟩
def Wd.push (w : Wd) (p : Addr) : Wd := { w with A := w.A ++ [p] }
theorem HR.adopt (h : HR K w m H) {p : Addr} {o : HO} {c : Cell} (u : Un1 w p) (e : H p = some o) (r : CR K w m.length c o) : w.le (w.push p) ∧ HR K (w.push p) (m ++ [some c]) H := by
  refine ⟨⟨⟨⟨[p], rfl⟩, Sub.refl _⟩, rfl⟩, h.fz, ?_, ?_, fun k a c' e1 e2 => ?_, fun a ha => ?_, fun q hq => ?_, h.tnd, fun k c' e' => ?_⟩
  · show (w.A ++ [p]).length = _
    rw [List.length_append, List.length_append, h.len]; rfl
  · show (w.A ++ [p]).Nodup
    refine List.nodup_append.mpr ⟨h.nd, by simp, fun a ha b hb z => ?_⟩
    have hb' : b = p := by simpa using hb
    exact u.a (hb' ▸ z ▸ ha)
  · have e1' : (w.A ++ [p])[k]? = some a := e1
    by_cases hk : k < w.A.length
    · rw [List.getElem?_append_left hk] at e1'
      rw [List.getElem?_append_left (by rw [← h.len]; exact hk)] at e2
      exact h.sep k a c' e1' e2
    · have hk2 := (List.getElem?_eq_some_iff.mp e1').1
      rw [List.length_append] at hk2
      have hk3 : k = w.A.length := by simp at hk2; omega
      subst hk3
      rw [List.getElem?_append_right (Nat.le_refl _)] at e1'
      simp at e1'
      rw [← e1']; exact u.f
  · rcases List.mem_append.mp ha with z | z
    · exact h.occ a z
    · have : a = p := by simpa using z
      rw [this, e]; exact fun z => by cases z
  · obtain ⟨e1, e2, e3⟩ := h.tp q hq
    refine ⟨e1, e2, fun z => ?_⟩
    rcases List.mem_append.mp z with z | z
    · exact e3 z
    · have : q.1 = p := by simpa using z
      exact u.t (this ▸ List.mem_map_of_mem hq)
  · by_cases hk : k < m.length
    · rw [List.getElem?_append_left hk] at e'
      obtain ⟨a, x, e1, e2, r'⟩ := h.cell k c' e'
      refine ⟨a, x, ?_, e2, r'.mono (Sub.refl _) fun j b hj z => by
        show (w.A ++ [p])[j]? = some b
        rw [List.getElem?_append_left (List.getElem?_eq_some_iff.mp z).1]; exact z⟩
      show (w.A ++ [p])[k]? = some a
      rw [List.getElem?_append_left (by rw [h.len]; exact hk)]; exact e1
    · have hk2 := (List.getElem?_eq_some_iff.mp e').1
      rw [List.length_append] at hk2
      have hk3 : k = m.length := by simp at hk2; omega
      subst hk3
      rw [List.getElem?_append_right (Nat.le_refl _)] at e'
      simp at e'
      refine ⟨p, o, ?_, e, by rw [← e']; exact r.mono (Sub.refl _) fun j b hj z => (by
        show (w.A ++ [p])[j]? = some b
        rw [List.getElem?_append_left (List.getElem?_eq_some_iff.mp z).1]; exact z)⟩
      show (w.A ++ [p])[m.length]? = some p
      rw [← h.len, List.getElem?_append_right (Nat.le_refl _)]; simp
theorem nodup_at {A : List Addr} (nd : A.Nodup) {i j : Nat} {a : Addr} (h1 : A[i]? = some a) (h2 : A[j]? = some a) : i = j := by
  obtain ⟨l1, e1⟩ := List.getElem?_eq_some_iff.mp h1
  obtain ⟨l2, e2⟩ := List.getElem?_eq_some_iff.mp h2
  exact (List.getElem_inj nd).mp (e1.trans e2.symm)
theorem HR.write (h : HR K w m H) {k : Nat} {a : Addr} {c : Cell} {o : HO} {c' : Cell} (ea : w.A[k]? = some a) (ec : m[k]? = some (some c)) (r : CR K w k c' o) : HR K w (m.set k (some c')) (upd H a o) := by
  have hk : k < m.length := (List.getElem?_eq_some_iff.mp ec).1
  refine ⟨fun b u e => ?_, by rw [List.length_set]; exact h.len, h.nd, fun j b c2 e1 e2 => ?_, fun b hb => ?_, fun q hq => ?_, h.tnd, fun j c2 e => ?_⟩
  · have hne : b ≠ a := fun z => by rw [z, h.sep k a c ea ec] at e; cases e
    rw [upd_ne hne]; exact h.fz b u e
  · by_cases hj : j = k
    · subst hj; rw [ea] at e1; cases e1; exact h.sep _ _ _ ea ec
    · rw [List.getElem?_set_ne (Ne.symm hj)] at e2; exact h.sep j b c2 e1 e2
  · by_cases hne : b = a
    · subst hne; rw [upd_same]; exact fun z => by cases z
    · rw [upd_ne hne]; exact h.occ b hb
  · obtain ⟨e1, e2, e3⟩ := h.tp q hq
    have hne : q.1 ≠ a := fun z => e3 (z ▸ List.mem_of_getElem? ea)
    exact ⟨by rw [upd_ne hne]; exact e1, e2, e3⟩
  · by_cases hj : j = k
    · subst hj
      rw [List.getElem?_set_self hk] at e
      cases e
      exact ⟨a, o, ea, upd_same, r⟩
    · rw [List.getElem?_set_ne (Ne.symm hj)] at e
      obtain ⟨b, x, e1, e2, r'⟩ := h.cell j c2 e
      have hne : b ≠ a := fun z => hj (nodup_at h.nd (z ▸ e1) ea)
      exact ⟨b, x, e1, by rw [upd_ne hne]; exact e2, r'⟩
def Wd.cut (w : Wd) (n : Nat) : Wd := { w with A := w.A.take n }
theorem HR.cut (h : HR K w m H) (n : Nat) : HR K (w.cut n) (m.take n) H := by
  refine ⟨h.fz, ?_, h.nd.sublist (List.take_sublist _ _), fun k a c e1 e2 => ?_, fun a ha => h.occ a (List.mem_of_mem_take ha), fun q hq => ?_, h.tnd, fun k c e => ?_⟩
  · show (w.A.take n).length = _
    rw [List.length_take, List.length_take, h.len]
  · have e1' : (w.A.take n)[k]? = some a := e1
    rw [List.getElem?_take] at e1' e2
    split at e1' <;> simp_all
    exact h.sep k a c e1' e2
  · obtain ⟨e1, e2, e3⟩ := h.tp q hq
    exact ⟨e1, e2, fun z => e3 (List.mem_of_mem_take z)⟩
  · rw [List.getElem?_take] at e
    split at e
    · rename_i hk
      obtain ⟨a, o, e1, e2, r⟩ := h.cell k c e
      refine ⟨a, o, ?_, e2, r.mono (Sub.refl _) fun j b hj z => by
        show (w.A.take n)[j]? = some b
        rw [List.getElem?_take, if_pos (by omega)]; exact z⟩
      show (w.A.take n)[k]? = some a
      rw [List.getElem?_take, if_pos hk]; exact e1
    · cases e
theorem Wd.le.cut {w w' : Wd} (h : w.le w') {n : Nat} (hn : w.A.length ≤ n) : w.le (w'.cut n) := by
  obtain ⟨mo, e⟩ := h.pre
  refine ⟨⟨⟨mo.take (n - w.A.length), ?_⟩, h.sub⟩, h.hid⟩
  show w'.A.take n = _
  rw [e, List.take_append, List.take_of_length_le hn]
end
end PP
namespace PP
open PySem PySem.Spec PyProof.Rows L2
section
variable (X : Cx)
def tU (e : Expr) : TE := fun σ H Q => ∀ (pins : List (Addr × Obj)) (s : Shared), Inv X pins σ H s → wpAny (model X.prog X.w) X.A (eval e X.env) (EP X pins σ Q) X.xe s
def tUT (e : Expr) : TT := fun σ H Q => ∀ (pins : List (Addr × Obj)) (s : Shared), Inv X pins σ H s → wpAny (model X.prog X.w) X.A (isTrue e X.env (eval e X.env)) (TP X pins σ Q) X.xe s
def tUW (e : Expr) : TT := fun σ H Q => ∀ (wh : Sem Value) (pins : List (Addr × Obj)) (s : Shared), Inv X pins σ H s → wpAny (model X.prog X.w) X.A (isTrue e X.env wh) (TP X pins σ Q) X.xe s
def tUA (es : List Expr) : TA := fun σ H Q => ∀ (pos : Pos) (pins : List (Addr × Obj)) (s : Shared), Inv X pins σ H s → wpAny (model X.prog X.w) X.A (spliced (backTo pos (starEach es X.env))) (AP X pins σ Q) X.xe s
def tUS (st : Stmt) : TS := fun D σ H => ∀ (pins : List (Addr × Obj)) (s : Shared), Inv X pins σ H s → wpAny (model X.prog X.w) X.A (exec st X.env) (SP X pins D) X.xe s
def tUSs (st : List Stmt) : TS := fun D σ H => ∀ (pins : List (Addr × Obj)) (s : Shared), Inv X pins σ H s → wpAny (model X.prog X.w) X.A (execs st X.env) (SP X pins D) X.xe s
def tUI (tg iter : Expr) : TI := fun σ H R => ∀ (pins : List (Addr × Obj)) (s : Shared), Inv X pins σ H s → wpAny (model X.prog X.w) X.A (eval iter X.env) (fun v s1 => wpAny (model X.prog X.w) X.A (pyIter v) (PIE X pins σ tg R) X.xe s1) X.xe s
def tUO (o : Option Expr) : TO := fun σ H Q => ∀ (pins : List (Addr × Obj)) (s : Shared), Inv X pins σ H s → wpAny (model X.prog X.w) X.A (evalPart o X.env) (fun u s' => ∃ i H', Inv X pins σ H' s' ∧ IsPart u i ∧ Q i H') X.xe s
def tUG (tg : Expr) : TG := fun v σ H Q => ∀ (pins : List (Addr × Obj)) (s : Shared) (u : Value), Inv X pins σ H s → RelV v u → wpAny (model X.prog X.w) X.A (assign tg X.env u) (fun _ s' => ∃ σ' H', Inv X pins σ' H' s' ∧ Q σ' H') X.xe s
variable {X}
theorem peU (e : Expr) : PE X e (tU X e) := ⟨fun pins s _ _ _ I h => h pins s I⟩
theorem ptU (e : Expr) : PT X e (tUT X e) := ⟨fun pins s _ _ _ I h => h pins s I⟩
theorem pwU (e : Expr) : PW X e (tUW X e) := ⟨fun wh pins s _ _ _ I h => h wh pins s I⟩
theorem paU (es : List Expr) : PA X es (tUA X es) := ⟨fun pos pins s _ _ _ I h => h pos pins s I⟩
theorem psU (st : Stmt) : PS X st (tUS X st) := ⟨fun pins s _ _ _ I h => h pins s I⟩
theorem pssU (st : List Stmt) : PSs X st (tUSs X st) := ⟨fun pins s _ _ _ I h => h pins s I⟩
theorem piU (tg iter : Expr) : PI X tg iter (tUI X tg iter) := ⟨fun pins s _ _ _ I h => h pins s I⟩
theorem pgU (tg : Expr) : PG X tg (tUG X tg) := ⟨fun pins s _ _ _ u _ I r h => h pins s u I r⟩
theorem poU (o : Option Expr) : L2.PO X o (tUO X o) := ⟨fun pins s _ _ _ I h => h pins s I⟩
theorem tUO_mono {e : Option Expr} {σ : L2.St} {H : Hp} {Q Q' : Option Int → Hp → Prop} (h : tUO X e σ H Q) (k : ∀ v H', Q v H' → Q' v H') : tUO X e σ H Q' := fun pins s I =>
  thn (h pins s I) fun b _ ⟨i, H', I', p, q⟩ => ⟨i, H', I', p, k i H' q⟩
theorem tU_mono {e : Expr} {σ : L2.St} {H : Hp} {Q Q' : VK} (h : tU X e σ H Q) (k : ∀ v H', Q v H' → Q' v H') : tU X e σ H Q' := fun pins s I =>
  thn (h pins s I) fun _ _ ⟨v, H', I', r, q⟩ => ⟨v, H', I', r, k v H' q⟩
theorem tUT_mono {e : Expr} {σ : L2.St} {H : Hp} {Q Q' : Bool → Hp → Prop} (h : tUT X e σ H Q) (k : ∀ v H', Q v H' → Q' v H') : tUT X e σ H Q' := fun pins s I =>
  thn (h pins s I) fun b _ ⟨H', I', q⟩ => ⟨H', I', k b H' q⟩
theorem tUW_mono {e : Expr} {σ : L2.St} {H : Hp} {Q Q' : Bool → Hp → Prop} (h : tUW X e σ H Q) (k : ∀ v H', Q v H' → Q' v H') : tUW X e σ H Q' := fun wh pins s I =>
  thn (h wh pins s I) fun b _ ⟨H', I', q⟩ => ⟨H', I', k b H' q⟩
theorem tUA_mono {es : List Expr} {σ : L2.St} {H : Hp} {Q Q' : List V → Hp → Prop} (h : tUA X es σ H Q) (k : ∀ v H', Q v H' → Q' v H') : tUA X es σ H Q' := fun pos pins s I =>
  thn (h pos pins s I) fun _ _ ⟨v, H', I', r, q⟩ => ⟨v, H', I', r, k v H' q⟩
theorem tUI_mono {tg e : Expr} {σ : L2.St} {H : Hp} {Q Q' : It → Hp → Prop} (h : tUI X tg e σ H Q) (k : ∀ v H', Q v H' → Q' v H') : tUI X tg e σ H Q' := fun pins s I =>
  thn (h pins s I) fun v s1 h1 => thn h1 fun itv s2 ⟨it, fp, tn, J, H', e, I', T, st, f, q⟩ => ⟨it, fp, tn, J, H', e, I', T, st, f, k J H' q⟩
theorem tUG_mono {tg : Expr} {v : V} {σ : L2.St} {H : Hp} {Q Q' : L2.St → Hp → Prop} (h : tUG X tg v σ H Q) (k : ∀ σ' H', Q σ' H' → Q' σ' H') : tUG X tg v σ H Q' := fun pins s u I r =>
  thn (h pins s u I r) fun _ s' ⟨σ', H', I', q⟩ => ⟨σ', H', I', k σ' H' q⟩
theorem sp_mono {pins : List (Addr × Obj)} {D D' : Ends} {f : Flow} {s : Shared} (h : SP X pins D f s) (n : ∀ σ H, D.nx σ H → D'.nx σ H) (r : ∀ v H, D.rt v H → D'.rt v H) (b : ∀ σ H, D.bk σ H → D'.bk σ H) (c : ∀ σ H, D.ct σ H → D'.ct σ H) : SP X pins D' f s := by
  cases f with
  | next => obtain ⟨σ', H', I, q⟩ := h; exact ⟨σ', H', I, n _ _ q⟩
  | brk => obtain ⟨σ', H', I, q⟩ := h; exact ⟨σ', H', I, b _ _ q⟩
  | cont => obtain ⟨σ', H', I, q⟩ := h; exact ⟨σ', H', I, c _ _ q⟩
  | ret u => obtain ⟨v, σ', H', I, rr, q⟩ := h; exact ⟨v, σ', H', I, rr, r _ _ q⟩
theorem tUS_mono {st : Stmt} {D D' : Ends} {σ : L2.St} {H : Hp} (h : tUS X st D σ H) (n : ∀ σ H, D.nx σ H → D'.nx σ H) (r : ∀ v H, D.rt v H → D'.rt v H) (b : ∀ σ H, D.bk σ H → D'.bk σ H) (c : ∀ σ H, D.ct σ H → D'.ct σ H) : tUS X st D' σ H := fun pins s I =>
  thn (h pins s I) fun _ _ q => sp_mono q n r b c
theorem tUSs_mono {st : List Stmt} {D D' : Ends} {σ : L2.St} {H : Hp} (h : tUSs X st D σ H) (n : ∀ σ H, D.nx σ H → D'.nx σ H) (r : ∀ v H, D.rt v H → D'.rt v H) (b : ∀ σ H, D.bk σ H → D'.bk σ H) (c : ∀ σ H, D.ct σ H → D'.ct σ H) : tUSs X st D' σ H := fun pins s I =>
  thn (h pins s I) fun _ _ q => sp_mono q n r b c
end
abbrev QE := PyData → Mem → Prop
section
variable (K : PySem.W.Frag) (w : Wd)
def POE (Q : QE) : VK := fun v H => ∃ w' x m, w.le w' ∧ HR K w' m H ∧ DP K w'.F v x ∧ Q x m
def PF (Q : List PyData → Mem → Prop) : VK := fun v H => ∃ w' xs m p vs, v = .ref p ∧ w.le w' ∧ HR K w' m H ∧ H p = some (.lst vs) ∧ Un1 w' p ∧ DPs K w'.F vs xs ∧ Q xs m
def POV (Q : PV → Mem → Prop) : VK := fun v H => ∃ w' x m, w.le w' ∧ HR K w' m H ∧ RV K w' v x ∧ Q x m
def POT (Q : Bool → Mem → Prop) : Bool → Hp → Prop := fun b H => ∃ w' m, w.le w' ∧ HR K w' m H ∧ Q b m
def POA (Q : List PV → Mem → Prop) : List V → Hp → Prop := fun vs H => ∃ w' ps m, w.le w' ∧ HR K w' m H ∧ RVs K w' vs ps ∧ Q ps m
structure PEnds where
  nx : Loc → Mem → Prop
  rt : PV → Mem → Prop
  bk : Loc → Mem → Prop := fun _ _ => False
  ct : Loc → Mem → Prop := fun _ _ => False
def POS (Q : Loc → Mem → Prop) : L2.St → Hp → Prop := fun σ H => ∃ w' L m, w.le w' ∧ Rep K w' L m σ H ∧ Q L m
def toE (D : PEnds) : Ends := { nx := POS K w D.nx, rt := POV K w D.rt, bk := POS K w D.bk, ct := POS K w D.ct }
end
section
variable (X : Cx)
def WE (e : Expr) (L : Loc) (m : Mem) (Q : QE) : Prop := ∀ (w : Wd) (σ : L2.St) (H : Hp), Rep X.K w L m σ H → tU X e σ H (POE X.K w Q)
def WF (e : Expr) (L : Loc) (m : Mem) (Q : List PyData → Mem → Prop) : Prop := ∀ (w : Wd) (σ : L2.St) (H : Hp), Rep X.K w L m σ H → tU X e σ H (PF X.K w Q)
def WV (e : Expr) (L : Loc) (m : Mem) (Q : PV → Mem → Prop) : Prop := ∀ (w : Wd) (σ : L2.St) (H : Hp), Rep X.K w L m σ H → tU X e σ H (POV X.K w Q)
def WT (e : Expr) (L : Loc) (m : Mem) (Q : Bool → Mem → Prop) : Prop := ∀ (w : Wd) (σ : L2.St) (H : Hp), Rep X.K w L m σ H → tUT X e σ H (POT X.K w Q)
def WW (e : Expr) (L : Loc) (m : Mem) (Q : Bool → Mem → Prop) : Prop := ∀ (w : Wd) (σ : L2.St) (H : Hp), Rep X.K w L m σ H → tUW X e σ H (POT X.K w Q)
def WO (o : Option Expr) (L : Loc) (m : Mem) (Q : Option Int → Mem → Prop) : Prop := ∀ (w : Wd) (σ : L2.St) (H : Hp), Rep X.K w L m σ H → tUO X o σ H fun i H' => ∃ w' m', w.le w' ∧ HR X.K w' m' H' ∧ Q i m'
def WA (es : List Expr) (L : Loc) (m : Mem) (Q : List PV → Mem → Prop) : Prop := ∀ (w : Wd) (σ : L2.St) (H : Hp), Rep X.K w L m σ H → tUA X es σ H (POA X.K w Q)
def WS (st : Stmt) (L : Loc) (m : Mem) (D : PEnds) : Prop := ∀ (w : Wd) (σ : L2.St) (H : Hp), Rep X.K w L m σ H → tUS X st (toE X.K w D) σ H
def WSs (st : List Stmt) (L : Loc) (m : Mem) (D : PEnds) : Prop := ∀ (w : Wd) (σ : L2.St) (H : Hp), Rep X.K w L m σ H → tUSs X st (toE X.K w D) σ H
def WG (tg : Expr) (x : PyData) (L : Loc) (m : Mem) (Q : Loc → Mem → Prop) : Prop := ∀ (w : Wd) (σ : L2.St) (H : Hp) (v : V), Rep X.K w L m σ H → DP X.K w.F v x → tUG X tg v σ H (POS X.K w Q)
end
section
variable {K : PySem.W.Frag} {w w1 : Wd}
theorem POE.back {Q : QE} {v : V} {H : Hp} (l : w.le w1) (h : POE K w1 Q v H) : POE K w Q v H := let ⟨w', x, m, l', r⟩ := h; ⟨w', x, m, l.trans l', r⟩
theorem PF.back {Q : List PyData → Mem → Prop} {v : V} {H : Hp} (l : w.le w1) (h : PF K w1 Q v H) : PF K w Q v H := let ⟨w', x, m, p, vs, e, l', r⟩ := h; ⟨w', x, m, p, vs, e, l.trans l', r⟩
theorem POV.back {Q : PV → Mem → Prop} {v : V} {H : Hp} (l : w.le w1) (h : POV K w1 Q v H) : POV K w Q v H := let ⟨w', x, m, l', r⟩ := h; ⟨w', x, m, l.trans l', r⟩
theorem POT.back {Q : Bool → Mem → Prop} {b : Bool} {H : Hp} (l : w.le w1) (h : POT K w1 Q b H) : POT K w Q b H := let ⟨w', m, l', r⟩ := h; ⟨w', m, l.trans l', r⟩
theorem POA.back {Q : List PV → Mem → Prop} {vs : List V} {H : Hp} (l : w.le w1) (h : POA K w1 Q vs H) : POA K w Q vs H := let ⟨w', x, m, l', r⟩ := h; ⟨w', x, m, l.trans l', r⟩
theorem POS.back {Q : Loc → Mem → Prop} {σ : L2.St} {H : Hp} (l : w.le w1) (h : POS K w1 Q σ H) : POS K w Q σ H := let ⟨w', x, m, l', r⟩ := h; ⟨w', x, m, l.trans l', r⟩
end
section
variable {X : Cx} {L : Loc} {m : Mem} {e a b : Expr} {pos : Pos}
theorem WE.mono {Q Q' : QE} (h : WE X e L m Q) (k : ∀ x m', Q x m' → Q' x m') : WE X e L m Q' := fun w σ H r => tU_mono (h w σ H r) fun _ _ ⟨w', x, m', l, hr, d, q⟩ => ⟨w', x, m', l, hr, d, k _ _ q⟩
theorem WF.mono {Q Q' : List PyData → Mem → Prop} (h : WF X e L m Q) (k : ∀ x m', Q x m' → Q' x m') : WF X e L m Q' := fun w σ H r => tU_mono (h w σ H r) fun _ _ ⟨w', x, m', p, vs, e1, l, hr, hp, u, d, q⟩ => ⟨w', x, m', p, vs, e1, l, hr, hp, u, d, k _ _ q⟩
theorem WT.mono {Q Q' : Bool → Mem → Prop} (h : WT X e L m Q) (k : ∀ x m', Q x m' → Q' x m') : WT X e L m Q' := fun w σ H r => tUT_mono (h w σ H r) fun _ _ ⟨w', m', l, hr, q⟩ => ⟨w', m', l, hr, k _ _ q⟩
theorem we_of {t : TE} {Q : QE} (h : PE X e t) (k : ∀ (w : Wd) (σ : L2.St) (H : Hp), Rep X.K w L m σ H → t σ H (POE X.K w Q)) : WE X e L m Q := fun w σ H r pins s I => h.run pins s σ H _ I (k w σ H r)
theorem wf_of {t : TE} {Q : List PyData → Mem → Prop} (h : PE X e t) (k : ∀ (w : Wd) (σ : L2.St) (H : Hp), Rep X.K w L m σ H → t σ H (PF X.K w Q)) : WF X e L m Q := fun w σ H r pins s I => h.run pins s σ H _ I (k w σ H r)
theorem wt_of {t : TT} {Q : Bool → Mem → Prop} (h : PT X e t) (k : ∀ (w : Wd) (σ : L2.St) (H : Hp), Rep X.K w L m σ H → t σ H (POT X.K w Q)) : WT X e L m Q := fun w σ H r pins s I => h.run pins s σ H _ I (k w σ H r)
theorem ws_of {st : Stmt} {t : TS} {D : PEnds} (h : PS X st t) (k : ∀ (w : Wd) (σ : L2.St) (H : Hp), Rep X.K w L m σ H → t (toE X.K w D) σ H) : WS X st L m D := fun w σ H r pins s I => h.run pins s σ H _ I (k w σ H r)
theorem wss_of {st : List Stmt} {t : TS} {D : PEnds} (h : PSs X st t) (k : ∀ (w : Wd) (σ : L2.St) (H : Hp), Rep X.K w L m σ H → t (toE X.K w D) σ H) : WSs X st L m D := fun w σ H r pins s I => h.run pins s σ H _ I (k w σ H r)
theorem WE.go {Q : QE} (h : WE X e L m Q) {w : Wd} {σ : L2.St} {H : Hp} (r : Rep X.K w L m σ H) {R : VK} (k : ∀ (w' : Wd) (v : V) (x : PyData) (m' : Mem) (H' : Hp), w.le w' → Rep X.K w' L m' σ H' → DP X.K w'.F v x → Q x m' → R v H') : tU X e σ H R :=
  tU_mono (h w σ H r) fun v H' ⟨w', x, m', l, hr, d, q⟩ => k w' v x m' H' l (r.go l hr) d q
theorem WF.go {Q : List PyData → Mem → Prop} (h : WF X e L m Q) {w : Wd} {σ : L2.St} {H : Hp} (r : Rep X.K w L m σ H) {R : VK} (k : ∀ (w' : Wd) (p : Addr) (vs : List V) (xs : List PyData) (m' : Mem) (H' : Hp), w.le w' → Rep X.K w' L m' σ H' → H' p = some (.lst vs) → Un1 w' p → DPs X.K w'.F vs xs → Q xs m' → R (.ref p) H') : tU X e σ H R :=
  tU_mono (h w σ H r) fun v H' ⟨w', xs, m', p, vs, e1, l, hr, hp, u, d, q⟩ => e1 ▸ k w' p vs xs m' H' l (r.go l hr) hp u d q
theorem WV.go {Q : PV → Mem → Prop} (h : WV X e L m Q) {w : Wd} {σ : L2.St} {H : Hp} (r : Rep X.K w L m σ H) {R : VK} (k : ∀ (w' : Wd) (v : V) (x : PV) (m' : Mem) (H' : Hp), w.le w' → Rep X.K w' L m' σ H' → RV X.K w' v x → Q x m' → R v H') : tU X e σ H R :=
  tU_mono (h w σ H r) fun v H' ⟨w', x, m', l, hr, d, q⟩ => k w' v x m' H' l (r.go l hr) d q
theorem WT.go {Q : Bool → Mem → Prop} (h : WT X e L m Q) {w : Wd} {σ : L2.St} {H : Hp} (r : Rep X.K w L m σ H) {R : Bool → Hp → Prop} (k : ∀ (w' : Wd) (b : Bool) (m' : Mem) (H' : Hp), w.le w' → Rep X.K w' L m' σ H' → Q b m' → R b H') : tUT X e σ H R :=
  tUT_mono (h w σ H r) fun b H' ⟨w', m', l, hr, q⟩ => k w' b m' H' l (r.go l hr) q
theorem WW.go {Q : Bool → Mem → Prop} (h : WW X e L m Q) {w : Wd} {σ : L2.St} {H : Hp} (r : Rep X.K w L m σ H) {R : Bool → Hp → Prop} (k : ∀ (w' : Wd) (b : Bool) (m' : Mem) (H' : Hp), w.le w' → Rep X.K w' L m' σ H' → Q b m' → R b H') : tUW X e σ H R :=
  tUW_mono (h w σ H r) fun b H' ⟨w', m', l, hr, q⟩ => k w' b m' H' l (r.go l hr) q
theorem WO.go {o : Option Expr} {Q : Option Int → Mem → Prop} (h : WO X o L m Q) {w : Wd} {σ : L2.St} {H : Hp} (r : Rep X.K w L m σ H) {R : Option Int → Hp → Prop} (k : ∀ (w' : Wd) (b : Option Int) (m' : Mem) (H' : Hp), w.le w' → Rep X.K w' L m' σ H' → Q b m' → R b H') : tUO X o σ H R :=
  tUO_mono (h w σ H r) fun b H' ⟨w', m', l, hr, q⟩ => k w' b m' H' l (r.go l hr) q
theorem WA.go {es : List Expr} {Q : List PV → Mem → Prop} (h : WA X es L m Q) {w : Wd} {σ : L2.St} {H : Hp} (r : Rep X.K w L m σ H) {R : List V → Hp → Prop} (k : ∀ (w' : Wd) (vs : List V) (ps : List PV) (m' : Mem) (H' : Hp), w.le w' → Rep X.K w' L m' σ H' → RVs X.K w' vs ps → Q ps m' → R vs H') : tUA X es σ H R :=
  tUA_mono (h w σ H r) fun v H' ⟨w', x, m', l, hr, d, q⟩ => k w' v x m' H' l (r.go l hr) d q
theorem we_name {Q : QE} {x : Str} {y : PyData} (i : Nat) (hN : X.N[i]? = some x) (hv : Vis X.env.scope x) (hL : L[i]? = some (some (.d y))) (q : Q y m) (hd : (x == ("__debug__" : Str)) = false := by decide) (hcd : (x == ("__classdict__" : Str)) = false := by decide) : WE X (.Name x pos) L m Q :=
  we_of (pe_var hN hv hd hcd) fun w σ H r => let ⟨v, e1, d⟩ := r.loc i _ hL; ⟨v, e1, w, y, m, .refl w, r.toHR, d, q⟩
theorem wv_name {Q : PV → Mem → Prop} {x : Str} {y : PV} (i : Nat) (hN : X.N[i]? = some x) (hv : Vis X.env.scope x) (hL : L[i]? = some (some y)) (q : Q y m) (hd : (x == ("__debug__" : Str)) = false := by decide) (hcd : (x == ("__classdict__" : Str)) = false := by decide) : WV X (.Name x pos) L m Q := fun w σ H r pins s I =>
  (pe_var hN hv hd hcd).run pins s σ H _ I (let ⟨v, e1, d⟩ := r.loc i _ hL; ⟨v, e1, w, y, m, .refl w, r.toHR, d, q⟩)
theorem wv_we {Q : PV → Mem → Prop} (h : WE X e L m fun x m' => Q (.d x) m') : WV X e L m Q := fun w σ H r => tU_mono (h w σ H r) fun _ _ ⟨w', x, m', l, hr, d, q⟩ => ⟨w', .d x, m', l, hr, d, q⟩
theorem we_int {Q : QE} {i : Int} {j : Nat} (q : Q (.int i) m) : WE X (.Constant (.int i) j pos) L m Q := we_of pe_int fun w _ _ r => ⟨w, _, m, .refl w, r.toHR, .int i, q⟩
theorem we_bool {Q : QE} {i : Bool} {j : Nat} (q : Q (.bool i) m) : WE X (.Constant (.bool i) j pos) L m Q := we_of pe_bl fun w _ _ r => ⟨w, _, m, .refl w, r.toHR, .bl i, q⟩
theorem we_none {Q : QE} {j : Nat} (q : Q .none m) : WE X (.Constant .none j pos) L m Q := we_of pe_non fun w _ _ r => ⟨w, _, m, .refl w, r.toHR, .non, q⟩
theorem we_str {Q : QE} {x : Str} {j : Nat} (q : Q (.str x) m) : WE X (.Constant (.str x) j pos) L m Q := we_of pe_str fun w _ _ r => ⟨w, _, m, .refl w, r.toHR, .str x, q⟩
def OpW (X : Cx) (r : R2) (x y : PyData) (m : Mem) (Q : QE) : Prop := ∀ (w0 w : Wd) (H : Hp) (v u : V), w0.le w → HR X.K w m H → DP X.K w.F v x → DP X.K w.F u y → r v u H (POE X.K w0 Q)
theorem two {r : R2} {w : Wd} {σ : L2.St} {H : Hp} {Q : VK} {Qr : PyData → PyData → Mem → Prop} (rp : Rep X.K w L m σ H) (h : WE X a L m fun x m1 => WE X b L m1 fun y m2 => Qr x y m2)
    (k : ∀ (w' : Wd) (v u : V) (x y : PyData) (m' : Mem) (H' : Hp), w.le w' → Rep X.K w' L m' σ H' → DP X.K w'.F v x → DP X.K w'.F u y → Qr x y m' → r v u H' Q) : tOp r (tU X a) (tU X b) σ H Q :=
  h.go rp fun w1 v x m1 H1 l1 r1 d1 q1 => q1.go r1 fun w2 u y m2 H2 l2 r2 d2 q2 => k w2 v u x y m2 H2 (l1.trans l2) r2 (dp_mono l2.sub _ _ d1) d2 q2
theorem we_op {op : Operator} {r : R2} {Q : QE} (ho : OpR X (binaryOp op) r) (h : WE X a L m fun x m1 => WE X b L m1 fun y m2 => OpW X r x y m2 Q) : WE X (.BinOp a op b pos) L m Q :=
  we_of (pe_op ho (peU a) (peU b)) fun w _ _ rp => two rp h fun w' v u _ _ _ H' l rp' d1 d2 q => q w w' H' v u l rp'.toHR d1 d2
theorem we_cmp {op : CmpOp} {r : R2} {Q : QE} (ho : OpR X (compareOp op) r) (h : WE X a L m fun x m1 => WE X b L m1 fun y m2 => OpW X r x y m2 Q) (hm : behindInMarks op b = false) : WE X (.Compare a [op] [b] pos) L m Q :=
  we_of (pe_cmpR ho (peU a) (peU b) hm) fun w _ _ rp => two rp h fun w' v u _ _ _ H' l rp' d1 d2 q => q w w' H' v u l rp'.toHR d1 d2
theorem wt_cmp {op : CmpOp} {r : R2} {Q : Bool → Mem → Prop} (ho : OpR X (compareOp op) r) (h : WE X a L m fun x m1 => WE X b L m1 fun y m2 => OpW X r x y m2 fun z m3 => ∃ c, z = .bool c ∧ Q c m3) (hm : behindInMarks op b = false)
    (rm : ∀ (v u : V) (H : Hp) (Q Q' : VK), (∀ z H', Q z H' → Q' z H') → r v u H Q → r v u H Q') : WT X (.Compare a [op] [b] pos) L m Q :=
  wt_of (pt_cmpR ho (peU a) (peU b) hm) fun w _ _ rp => two rp h fun w' v u _ _ _ H' l rp' d1 d2 q => rm _ _ _ _ _ (fun z H2 ⟨w2, x, m2, l2, hr, d, c, e, q2⟩ => by
    subst e
    exact ⟨c, dp_bool d, w2, m2, l2, hr, q2⟩) (q w w' H' v u l rp'.toHR d1 d2)
section
variable {w0 w : Wd} {H : Hp} {Q : QE}
theorem po_int (l : w0.le w) (h : HR X.K w m H) {i : Int} (q : Q (.int i) m) : POE X.K w0 Q (.int i) H := ⟨w, _, m, l, h, .int i, q⟩
theorem po_bool (l : w0.le w) (h : HR X.K w m H) {i : Bool} (q : Q (.bool i) m) : POE X.K w0 Q (.bl i) H := ⟨w, _, m, l, h, .bl i, q⟩
end
variable {Q : QE} {x y : PyData}
theorem opw_I0 {g : Int → Int → Int} (h : ∃ i j, x = .int i ∧ y = .int j ∧ Q (.int (g i j)) m) : OpW X (rI0 fun i j => .int (g i j)) x y m Q := by
  obtain ⟨i, j, rfl, rfl, q⟩ := h
  exact fun w0 w H v u l hr d1 d2 => ⟨i, j, dp_int d1, dp_int d2, po_int l hr q⟩
theorem opw_I {C : Int → Int → Prop} {g : Int → Int → Int} (h : ∃ i j, x = .int i ∧ y = .int j ∧ C i j ∧ Q (.int (g i j)) m) : OpW X (rI C fun i j => .int (g i j)) x y m Q := by
  obtain ⟨i, j, rfl, rfl, c, q⟩ := h
  exact fun w0 w H v u l hr d1 d2 => ⟨i, j, dp_int d1, dp_int d2, c, po_int l hr q⟩
theorem opw_B0 {g : Int → Int → Bool} (h : ∃ i j, x = .int i ∧ y = .int j ∧ Q (.bool (g i j)) m) : OpW X (rI0 fun i j => .bl (g i j)) x y m Q := by
  obtain ⟨i, j, rfl, rfl, q⟩ := h
  exact fun w0 w H v u l hr d1 d2 => ⟨i, j, dp_int d1, dp_int d2, po_bool l hr q⟩
theorem rI0_mono {g : Int → Int → V} : ∀ (v u : V) (H : Hp) (Q Q' : VK), (∀ z H', Q z H' → Q' z H') → rI0 g v u H Q → rI0 g v u H Q' := fun _ _ _ _ _ k ⟨i, j, e1, e2, q⟩ => ⟨i, j, e1, e2, k _ _ q⟩
abbrev AskI (x y : PyData) (R : Int → Int → Prop) : Prop := ∃ i j, x = .int i ∧ y = .int j ∧ R i j
theorem we_add (h : WE X a L m fun x m1 => WE X b L m1 fun y m2 => AskI x y fun i j => Q (.int (i + j)) m2) : WE X (.BinOp a .Add b pos) L m Q := we_op op_add (h.mono fun _ _ h => h.mono fun _ _ q => opw_I0 q)
theorem we_sub (h : WE X a L m fun x m1 => WE X b L m1 fun y m2 => AskI x y fun i j => Q (.int (i - j)) m2) : WE X (.BinOp a .Sub b pos) L m Q := we_op op_sub (h.mono fun _ _ h => h.mono fun _ _ q => opw_I0 q)
theorem we_mul (h : WE X a L m fun x m1 => WE X b L m1 fun y m2 => AskI x y fun i j => CMulW i j ∧ Q (.int (i * j)) m2) : WE X (.BinOp a .Mult b pos) L m Q := we_op op_mulW (h.mono fun _ _ h => h.mono fun _ _ q => opw_I q)
theorem we_fdiv (h : WE X a L m fun x m1 => WE X b L m1 fun y m2 => AskI x y fun i j => CDivW i j ∧ Q (.int (i / j)) m2) : WE X (.BinOp a .FloorDiv b pos) L m Q := we_op op_fdivW (h.mono fun _ _ h => h.mono fun _ _ q => opw_I q)
theorem we_mod (h : WE X a L m fun x m1 => WE X b L m1 fun y m2 => AskI x y fun i j => 0 < j ∧ Q (.int (i % j)) m2) : WE X (.BinOp a .Mod b pos) L m Q := we_op op_mod (h.mono fun _ _ h => h.mono fun _ _ q => opw_I q)
section
variable {QT : Bool → Mem → Prop}
theorem wt_int {op : CmpOp} {g : Int → Int → Bool} (ho : OpR X (compareOp op) (rI0 fun i j => .bl (g i j))) (hm : behindInMarks op b = false) (h : WE X a L m fun x m1 => WE X b L m1 fun y m2 => AskI x y fun i j => QT (g i j) m2) : WT X (.Compare a [op] [b] pos) L m QT :=
  wt_cmp ho (h.mono fun _ _ h => h.mono fun _ _ ⟨i, j, e1, e2, q⟩ => opw_B0 ⟨i, j, e1, e2, _, rfl, q⟩) hm rI0_mono
theorem wt_lt (h : WE X a L m fun x m1 => WE X b L m1 fun y m2 => AskI x y fun i j => QT (decide (i < j)) m2) : WT X (.Compare a [.Lt] [b] pos) L m QT := wt_int op_lt (nomark _) h
theorem wt_gt (h : WE X a L m fun x m1 => WE X b L m1 fun y m2 => AskI x y fun i j => QT (decide (j < i)) m2) : WT X (.Compare a [.Gt] [b] pos) L m QT := wt_int op_gt (nomark _) h
theorem we_gt (h : WE X a L m fun x m1 => WE X b L m1 fun y m2 => AskI x y fun i j => Q (.bool (decide (j < i))) m2) : WE X (.Compare a [.Gt] [b] pos) L m Q := we_cmp op_gt (h.mono fun _ _ h => h.mono fun _ _ q => opw_B0 q) (nomark _)
end
abbrev shp (d : PyData) : Prop := SeqAt.shaped d = true
theorem we_eq (hu : X.A.units + 64 < cLine) (h : WE X a L m fun x m1 => WE X b L m1 fun y m2 => shp x ∧ shp y ∧ Q (.bool (PyData.eqv x y)) m2) : WE X (.Compare a [.Eq] [b] pos) L m Q :=
  we_cmp (op_eqD hu) (h.mono fun _ _ h => h.mono fun _ _ ⟨s1, s2, q⟩ w0 w H v u l hr d1 d2 => ⟨_, _, dp_mono hr.fz _ _ d1 |>.toDp _ _, dp_mono hr.fz _ _ d2 |>.toDp _ _, s1, s2, po_bool l hr q⟩) (nomark _)
theorem rEqD_mono {K : PySem.W.Frag} : ∀ (v u : V) (H : Hp) (Q Q' : VK), (∀ z H', Q z H' → Q' z H') → rEqD K v u H Q → rEqD K v u H Q' := fun _ _ _ _ _ k ⟨d, e, a, b, c, f, q⟩ => ⟨d, e, a, b, c, f, k _ _ q⟩
theorem rNeD_mono {K : PySem.W.Frag} : ∀ (v u : V) (H : Hp) (Q Q' : VK), (∀ z H', Q z H' → Q' z H') → rNeD K v u H Q → rNeD K v u H Q' := fun _ _ _ _ _ k ⟨d, e, a, b, c, f, q⟩ => ⟨d, e, a, b, c, f, k _ _ q⟩
section
variable {QT : Bool → Mem → Prop}
theorem wt_eq (hu : X.A.units + 64 < cLine) (h : WE X a L m fun x m1 => WE X b L m1 fun y m2 => shp x ∧ shp y ∧ QT (PyData.eqv x y) m2) : WT X (.Compare a [.Eq] [b] pos) L m QT :=
  wt_cmp (op_eqD hu) (h.mono fun _ _ h => h.mono fun _ _ ⟨s1, s2, q⟩ w0 w H v u l hr d1 d2 => ⟨_, _, dp_mono hr.fz _ _ d1 |>.toDp _ _, dp_mono hr.fz _ _ d2 |>.toDp _ _, s1, s2, po_bool l hr ⟨_, rfl, q⟩⟩) (nomark _) rEqD_mono
theorem wt_ne (hu : X.A.units + 64 < cLine) (h : WE X a L m fun x m1 => WE X b L m1 fun y m2 => shp x ∧ shp y ∧ QT (!PyData.eqv x y) m2) : WT X (.Compare a [.NotEq] [b] pos) L m QT :=
  wt_cmp (op_neD hu) (h.mono fun _ _ h => h.mono fun _ _ ⟨s1, s2, q⟩ w0 w H v u l hr d1 d2 => ⟨_, _, dp_mono hr.fz _ _ d1 |>.toDp _ _, dp_mono hr.fz _ _ d2 |>.toDp _ _, s1, s2, po_bool l hr ⟨_, rfl, q⟩⟩) (nomark _) rNeD_mono
theorem wt_eqI (h : WE X a L m fun x m1 => WE X b L m1 fun y m2 => AskI x y fun i j => QT (decide (i = j)) m2) : WT X (.Compare a [.Eq] [b] pos) L m QT := by
  refine wt_of (pt_cmp (pc_eqI (peU a) (peU b))) fun w σ H rp => ?_
  refine h.go rp fun w1 v x m1 H1 l1 r1 d1 q1 => q1.go r1 fun w2 u y m2 H2 l2 r2 d2 ⟨i, j, e1, e2, q⟩ => ?_
  subst e1; subst e2
  exact ⟨i, j, dp_int (dp_mono l2.sub _ _ d1), dp_int d2, _, rfl, w2, m2, l1.trans l2, r2.toHR, q⟩
theorem wt_neI (h : WE X a L m fun x m1 => WE X b L m1 fun y m2 => AskI x y fun i j => QT (!decide (i = j)) m2) : WT X (.Compare a [.NotEq] [b] pos) L m QT := by
  refine wt_of (pt_cmp (pc_neI (peU a) (peU b))) fun w σ H rp => ?_
  refine h.go rp fun w1 v x m1 H1 l1 r1 d1 q1 => q1.go r1 fun w2 u y m2 H2 l2 r2 d2 ⟨i, j, e1, e2, q⟩ => ?_
  subst e1; subst e2
  exact ⟨i, j, dp_int (dp_mono l2.sub _ _ d1), dp_int d2, _, rfl, w2, m2, l1.trans l2, r2.toHR, q⟩
theorem wt_chain {op op' : CmpOp} {c : Expr} {g g' : Int → Int → Bool} (ho : OpR X (compareOp op) (rI0 fun i j => .bl (g i j))) (ho' : OpR X (compareOp op') (rI0 fun i j => .bl (g' i j))) (hm : lastMarks [op, op'] [b, c] = false)
    (h : WE X a L m fun x m1 => WE X b L m1 fun y m2 => AskI x y fun i j => if g i j = true then WE X c L m2 fun z m3 => ∃ k, z = .int k ∧ QT (g' j k) m3 else QT false m2) : WT X (.Compare a [op, op'] [b, c] pos) L m QT := by
  refine wt_of (pt_chain ho ho' (peU a) (peU b) (peU c) hm) fun w σ H rp => ?_
  refine h.go rp fun w1 v x m1 H1 l1 r1 d1 q1 => q1.go r1 fun w2 u y m2 H2 l2 r2 d2 ⟨i, j, e1, e2, q⟩ => ?_
  subst e1; subst e2
  have d1' := dp_int (dp_mono l2.sub _ _ d1)
  have d2' := dp_int d2
  refine ⟨i, j, d1', d2', _, rfl, ?_⟩
  have q : if g i j = true then WE X c L m2 fun z m3 => ∃ k, z = PyData.int k ∧ QT (g' j k) m3 else QT false m2 := q
  by_cases hg : g i j = true
  · rw [if_pos hg] at q
    rw [if_pos hg]
    refine q.go r2 fun w3 v3 z m3 H3 l3 r3 d3 ⟨k, e3, q3⟩ => ?_
    subst e3
    exact ⟨j, k, d2', dp_int d3, _, rfl, w3, m3, (l1.trans l2).trans l3, r3.toHR, q3⟩
  · rw [if_neg hg] at q
    rw [if_neg hg]
    exact ⟨_, rfl, w2, m2, l1.trans l2, r2.toHR, q⟩
end
end
end PP
namespace PP
open PySem PySem.Spec PyProof.Rows L2
section
variable {X : Cx} {L : Loc} {m : Mem} {e a b c : Expr} {rest es : List Expr} {pos : Pos} {Q : QE} {QT : Bool → Mem → Prop}
theorem wt_ww (h : WW X e L m QT) : WT X e L m QT := fun w σ H r pins s I => h w σ H r _ pins s I
theorem wt_val (h : WE X e L m fun x m' => ∃ c, x = .bool c ∧ QT c m') (he : ∀ whole, isTrue e X.env whole = (do let v ← whole; standAt e.pos; holding [v] (truthy v)) := by intro _; rfl) : WT X e L m QT :=
  wt_of (pt_val (peU e) he) fun w σ H rp => h.go rp fun w1 v x m1 H1 l1 r1 d1 ⟨c, e1, q⟩ => by
    subst e1
    exact ⟨c, dp_bool d1, w1, m1, l1, r1.toHR, q⟩
theorem ww_and1 (h : WT X a L m QT) : WW X (.BoolOp .And [a] pos) L m QT := fun w σ H r wh pins s I => (pw_and1 (ptU a)).run wh pins s σ H _ I (h w σ H r)
theorem ww_or1 (h : WT X a L m QT) : WW X (.BoolOp .Or [a] pos) L m QT := fun w σ H r wh pins s I => (pw_or1 (ptU a)).run wh pins s σ H _ I (h w σ H r)
theorem ww_and (h : WT X a L m fun c m1 => (c = true → WW X (.BoolOp .And (b :: rest) pos) L m1 QT) ∧ (c = false → QT false m1)) : WW X (.BoolOp .And (a :: b :: rest) pos) L m QT := fun w σ H r wh pins s I =>
  (pw_and (ptU a) (pwU _)).run wh pins s σ H _ I (h.go r fun w1 c m1 H1 l1 r1 ⟨q1, q2⟩ => by
    cases c with
    | true =>
      rw [if_pos rfl]
      exact (q1 rfl).go r1 fun w2 d m2 H2 l2 r2 q => ⟨w2, m2, l1.trans l2, r2.toHR, q⟩
    | false =>
      rw [if_neg Bool.false_ne_true]
      exact ⟨w1, m1, l1, r1.toHR, q2 rfl⟩)
theorem ww_or (h : WT X a L m fun c m1 => (c = true → QT true m1) ∧ (c = false → WW X (.BoolOp .Or (b :: rest) pos) L m1 QT)) : WW X (.BoolOp .Or (a :: b :: rest) pos) L m QT := fun w σ H r wh pins s I =>
  (pw_or (ptU a) (pwU _)).run wh pins s σ H _ I (h.go r fun w1 c m1 H1 l1 r1 ⟨q1, q2⟩ => by
    cases c with
    | true =>
      rw [if_pos rfl]
      exact ⟨w1, m1, l1, r1.toHR, q1 rfl⟩
    | false =>
      rw [if_neg Bool.false_ne_true]
      exact (q2 rfl).go r1 fun w2 d m2 H2 l2 r2 q => ⟨w2, m2, l1.trans l2, r2.toHR, q⟩)
theorem wt_not (h : WT X a L m fun c m1 => QT (!c) m1) : WT X (.UnaryOp .Not a pos) L m QT :=
  wt_of (pt_not (ptU a)) fun w σ H r => h.go r fun w1 c m1 H1 l1 r1 q => ⟨w1, m1, l1, r1.toHR, q⟩
theorem we_one {op : BoolOp} (h : WE X a L m Q) : WE X (.BoolOp op [a] pos) L m Q := we_of (pe_one (peU a)) fun w σ H r => h w σ H r
theorem we_andV (h : WE X a L m fun x m1 => ∃ c, x = .bool c ∧ (c = true → WE X (.BoolOp .And (b :: rest) pos) L m1 Q) ∧ (c = false → Q (.bool false) m1)) : WE X (.BoolOp .And (a :: b :: rest) pos) L m Q :=
  we_of (pe_and (peU a) (peU _)) fun w σ H r => h.go r fun w1 v x m1 H1 l1 r1 d1 ⟨c, e1, q1, q2⟩ => by
    subst e1
    refine ⟨c, dp_bool d1, ?_⟩
    cases c with
    | true =>
      rw [if_pos rfl]
      exact (q1 rfl).go r1 fun w2 u y m2 H2 l2 r2 d2 q => ⟨w2, y, m2, l1.trans l2, r2.toHR, d2, q⟩
    | false =>
      rw [if_neg Bool.false_ne_true]
      exact ⟨w1, _, m1, l1, r1.toHR, .bl false, q2 rfl⟩
theorem we_neg (h : WE X a L m fun x m1 => ∃ i, x = .int i ∧ Q (.int (-i)) m1) : WE X (.UnaryOp .USub a pos) L m Q :=
  we_of (pe_un un_neg (peU a)) fun w σ H r => h.go r fun w1 v x m1 H1 l1 r1 d1 ⟨i, e1, q⟩ => by
    subst e1
    exact ⟨i, dp_int d1, w1, _, m1, l1, r1.toHR, .int _, q⟩
theorem we_wf (h : WF X e L m fun xs m1 => Q (.list xs) m1) : WE X e L m Q := fun w σ H r => tU_mono (h w σ H r) fun v H' ⟨w', xs, m', p, vs, e1, l, hr, hp, u, d, q⟩ => by
  obtain ⟨l2, hr2⟩ := hr.freeze u hp
  exact ⟨_, _, m', l.trans l2, hr2, e1 ▸ .lst upd_same (dpa_mono l2.sub _ _ d), q⟩
theorem wa_nil {Q : List PV → Mem → Prop} (q : Q [] m) : WA X [] L m Q := fun w σ H r pos pins s I => pa_nil.run pos pins s σ H _ I ⟨w, [], m, .refl w, r.toHR, .nil, q⟩
theorem wa_cons {Q : List PV → Mem → Prop} (h : WV X e L m fun x m1 => WA X es L m1 fun xs m2 => Q (x :: xs) m2) (hs : starEach (e :: es) X.env = (false, eval e X.env) :: starEach es X.env := by rfl) : WA X (e :: es) L m Q := fun w σ H r pos pins s I =>
  (pa_cons (peU e) (paU es) hs).run pos pins s σ H _ I (h.go r fun w1 v x m1 H1 l1 r1 d1 q1 => q1.go r1 fun w2 vs xs m2 H2 l2 r2 d2 q2 => ⟨w2, x :: xs, m2, l1.trans l2, r2.toHR, .cons (d1.mono l2.toLe0) d2, q2⟩)
theorem wa_d {Q : List PV → Mem → Prop} (h : WE X e L m fun x m1 => WA X es L m1 fun xs m2 => Q (.d x :: xs) m2) (hs : starEach (e :: es) X.env = (false, eval e X.env) :: starEach es X.env := by rfl) : WA X (e :: es) L m Q := wa_cons (wv_we h) hs
def WD (X : Cx) (es : List Expr) (L : Loc) (m : Mem) (Q : List PyData → Mem → Prop) : Prop := WA X es L m fun ps m' => ∃ xs, ps = xs.map .d ∧ Q xs m'
theorem wd_nil {Q : List PyData → Mem → Prop} (q : Q [] m) : WD X [] L m Q := wa_nil ⟨[], rfl, q⟩
theorem wd_cons {Q : List PyData → Mem → Prop} (h : WE X e L m fun x m1 => WD X es L m1 fun xs m2 => Q (x :: xs) m2) (hs : starEach (e :: es) X.env = (false, eval e X.env) :: starEach es X.env := by rfl) : WD X (e :: es) L m Q :=
  wa_d (h.mono fun x m1 q w σ H r => tUA_mono (q w σ H r) fun vs H' ⟨w', ps, m', l, hr, d, xs, e1, q⟩ => ⟨w', ps, m', l, hr, d, x :: xs, by rw [e1]; rfl, q⟩) hs
theorem rvs_d {K : PySem.W.Frag} {w : Wd} : ∀ {vs : List V} {xs : List PyData}, RVs K w vs (xs.map .d) → DPs K w.F vs xs
  | _, [], h => by cases h; exact .nil
  | _, x :: xs, h => by
    cases h with
    | cons h1 h2 => exact .cons h1 (rvs_d h2)
theorem WD.go {Q : List PyData → Mem → Prop} (h : WD X es L m Q) {w : Wd} {σ : L2.St} {H : Hp} (r : Rep X.K w L m σ H) {R : List V → Hp → Prop} (k : ∀ (w' : Wd) (vs : List V) (xs : List PyData) (m' : Mem) (H' : Hp), w.le w' → Rep X.K w' L m' σ H' → DPs X.K w'.F vs xs → Q xs m' → R vs H') : tUA X es σ H R :=
  WA.go h r fun w' vs ps m' H' l r' d ⟨xs, e1, q⟩ => k w' vs xs m' H' l r' (rvs_d (e1 ▸ d)) q
theorem we_tup {x1 : Nat} (h : WD X es L m fun xs m1 => xs.length ≤ sizeLine ∧ Q (.tuple xs) m1) : WE X (.Tuple es x1 pos) L m Q :=
  we_of (pe_tup (paU es)) fun w σ H r => h.go r fun w1 vs xs m1 H1 l1 r1 d1 ⟨hz, q⟩ => ⟨by rw [dpa_len d1]; exact hz, fun p hp => by
    obtain ⟨l2, hr2⟩ := r1.toHR.fnew (o := .tup vs) hp
    exact ⟨_, _, m1, l1.trans l2, hr2, .tup (.of upd_same) (dpa_mono l2.sub _ _ d1), q⟩⟩
theorem wf_lst {Q : List PyData → Mem → Prop} (h : WD X es L m fun xs m1 => xs.length ≤ sizeLine ∧ Q xs m1) : WF X (.List es pos) L m Q :=
  wf_of (pe_lst (paU es)) fun w σ H r => h.go r fun w1 vs xs m1 H1 l1 r1 d1 ⟨hz, q⟩ => ⟨by rw [dpa_len d1]; exact hz, fun p hp => by
    obtain ⟨hr2, u⟩ := r1.toHR.un (o := .lst vs) hp
    exact ⟨w1, xs, m1, p, vs, rfl, l1, hr2, upd_same, u, d1, q⟩⟩
def seqP (m : Mem) : PV → Option (List PyData)
  | .d (.list xs) => some xs
  | .d (.tuple xs) => some xs
  | .ref k => match m[k]? with
    | some (some (.lst xs)) => some xs
    | _ => none
  | .raw xs => some xs
  | _ => none
theorem seqP_ok {K : PySem.W.Frag} {w : Wd} {H : Hp} {v : V} {p : PV} {xs : List PyData} (hr : HR K w m H) (r : RV K w v p) (h : seqP m p = some xs) : ∃ a vs, v = .ref a ∧ (SqL K H a vs ∨ SqT K H a vs) ∧ DPs K w.F vs xs := by
  cases p with
  | d x =>
    cases x with
    | list ds =>
      have e : ds = xs := Option.some.inj h
      subst e
      obtain ⟨a, vs, e1, e2, d⟩ := dp_list r
      exact ⟨a, vs, e1, .inl (.of (hr.fz _ _ e2)), d⟩
    | tuple ds =>
      have e : ds = xs := Option.some.inj h
      subst e
      obtain ⟨a, vs, e1, e2, d⟩ := dp_tuple r
      exact ⟨a, vs, e1, .inr (hr.fz.sqt e2), d⟩
    | none => cases h
    | bool _ => cases h
    | int _ => cases h
    | str _ => cases h
    | dict _ => cases h
  | ref k =>
    have h' : (match m[k]? with | some (some (.lst xs)) => some xs | _ => none) = some xs := h
    split at h'
    · rename_i ys hk
      cases h'
      obtain ⟨a, o, ea, eo, vs, rfl, d⟩ := hr.cell k _ hk
      obtain ⟨a', ea', rfl⟩ := r
      rw [ea] at ea'; cases ea'
      exact ⟨a, vs, rfl, .inl (.of eo), d⟩
    · cases h'
  | raw u =>
    cases h
    obtain ⟨a, vs, e, s, d⟩ := r
    exact ⟨a, vs, e, .inl (hr.fz.sql s), d⟩
  | exc C x => cases h
theorem atI_dpa {K : PySem.W.Frag} {F : Hp} {vs : List V} {xs : List PyData} {i : Int} {x : PyData} (d : DPs K F vs xs) (h : atI xs i = some x) : ∃ v, atI vs i = some v ∧ DP K F v x := by
  unfold atI at h ⊢
  rw [dpa_len d]
  cases q : ixN xs.length i with
  | none => rw [q] at h; cases h
  | some j =>
    rw [q] at h
    exact dpa_get d h
theorem we_ix (h : WV X a L m fun p m1 => WE X b L m1 fun y m2 => ∃ i xs x, y = .int i ∧ seqP m2 p = some xs ∧ atI xs i = some x ∧ Q x m2) (hs : PlainIx b := by exact fun _ _ => rfl) : WE X (.Subscript a b pos) L m Q :=
  we_of (pe_ix ix_seq (peU a) (peU b) hs) fun w σ H r => h.go r fun w1 v p m1 H1 l1 r1 d1 q1 => q1.go r1 fun w2 u y m2 H2 l2 r2 d2 ⟨i, xs, x, e1, e2, e3, q⟩ => by
    subst e1
    obtain ⟨ad, vs, rfl, hh, d⟩ := seqP_ok r2.toHR (d1.mono l2.toLe0) e2
    obtain ⟨z, ez, dz⟩ := atI_dpa d e3
    rcases hh with hh | hh
    · exact .inl ⟨ad, vs, i, z, rfl, dp_int d2, hh, ez, w2, x, m2, l1.trans l2, r2.toHR, dz, q⟩
    · exact .inr (.inl ⟨ad, vs, i, z, rfl, dp_int d2, hh, ez, w2, x, m2, l1.trans l2, r2.toHR, dz, q⟩)
theorem wo_none {Q : Option Int → Mem → Prop} (q : Q none m) : WO X none L m Q := fun w σ H r pins s I => po_none.run pins s σ H _ I ⟨w, m, .refl w, r.toHR, q⟩
theorem wo_some {Q : Option Int → Mem → Prop} (h : WE X e L m fun x m1 => ∃ i, x = .int i ∧ Q (some i) m1) : WO X (some e) L m Q := fun w σ H r pins s I =>
  (po_some (peU e)).run pins s σ H _ I (h.go r fun w1 v x m1 H1 l1 r1 d1 ⟨i, e1, q⟩ => by
    subst e1
    exact ⟨i, dp_int d1, w1, m1, l1, r1.toHR, q⟩)
def cutD (xs : List PyData) (lo hi : Option Int) : List PyData := (xs.drop (HT.sIx xs.length 0 lo)).take (HT.sIx xs.length xs.length hi - HT.sIx xs.length 0 lo)
theorem cut_dpa {K : PySem.W.Frag} {F : Hp} {vs : List V} {xs : List PyData} (d : DPs K F vs xs) (lo hi : Option Int) : DPs K F (cutV vs lo hi) (cutD xs lo hi) := by
  unfold cutV cutD
  rw [dpa_len d]
  exact dpa_take _ (dpa_drop _ d)
def lstP (m : Mem) : PV → Option (List PyData)
  | .d (.list xs) => some xs
  | .ref k => match m[k]? with
    | some (some (.lst xs)) => some xs
    | _ => none
  | _ => none
theorem lstP_ok {K : PySem.W.Frag} {w : Wd} {H : Hp} {v : V} {p : PV} {xs : List PyData} (hr : HR K w m H) (r : RV K w v p) (h : lstP m p = some xs) : ∃ a vs, v = .ref a ∧ H a = some (.lst vs) ∧ DPs K w.F vs xs := by
  cases p with
  | d x =>
    cases x with
    | list ds =>
      have e : ds = xs := Option.some.inj h
      subst e
      obtain ⟨a, vs, e1, e2, d⟩ := dp_list r
      exact ⟨a, vs, e1, hr.fz _ _ e2, d⟩
    | tuple ds => cases h
    | none => cases h
    | bool _ => cases h
    | int _ => cases h
    | str _ => cases h
    | dict _ => cases h
  | ref k =>
    have h' : (match m[k]? with | some (some (.lst xs)) => some xs | _ => none) = some xs := h
    split at h'
    · rename_i ys hk
      cases h'
      obtain ⟨a, o, ea, eo, vs, rfl, d⟩ := hr.cell k _ hk
      obtain ⟨a', ea', rfl⟩ := r
      rw [ea] at ea'; cases ea'
      exact ⟨a, vs, rfl, eo, d⟩
    · cases h'
  | raw u => cases h
  | exc C x => cases h
theorem wf_slice {lo hi : Option Expr} {p2 : Pos} {Q : List PyData → Mem → Prop} (h : WV X a L m fun p m1 => WO X lo L m1 fun i m2 => WO X hi L m2 fun j m3 => ∃ xs, lstP m3 p = some xs ∧ Q (cutD xs i j) m3) : WF X (.Subscript a (.Slice lo hi none p2) pos) L m Q :=
  wf_of (pe_slice sl_list (peU a) (poU lo) (poU hi)) fun w σ H r => h.go r fun w1 v p m1 H1 l1 r1 d1 q1 => q1.go r1 fun w2 i m2 H2 l2 r2 q2 => q2.go r2 fun w3 j m3 H3 l3 r3 ⟨xs, e1, q⟩ => by
    obtain ⟨ad, vs, rfl, hh, d⟩ := lstP_ok r3.toHR ((d1.mono l2.toLe0).mono l3.toLe0) e1
    refine ⟨ad, vs, rfl, .of hh, fun p hp => ?_⟩
    obtain ⟨hr2, u⟩ := r3.toHR.un (o := .lst (cutV vs i j)) hp
    exact ⟨w3, _, m3, p, _, rfl, (l1.trans l2).trans l3, hr2, upd_same, u, cut_dpa d i j, q⟩
theorem wf_cat {Q : List PyData → Mem → Prop} (h : WV X a L m fun p m1 => WV X b L m1 fun p' m2 => ∃ xs ys, lstP m2 p = some xs ∧ lstP m2 p' = some ys ∧ xs.length + ys.length ≤ sizeLine ∧ Q (xs ++ ys) m2) : WF X (.BinOp a .Add b pos) L m Q :=
  wf_of (pe_op op_cat (peU a) (peU b)) fun w σ H r => h.go r fun w1 v p m1 H1 l1 r1 d1 q1 => q1.go r1 fun w2 u p' m2 H2 l2 r2 d2 ⟨xs, ys, e1, e2, hz, q⟩ => by
    obtain ⟨a1, vs, rfl, hh, d⟩ := lstP_ok r2.toHR (d1.mono l2.toLe0) e1
    obtain ⟨a2, us, rfl, hh', d'⟩ := lstP_ok r2.toHR d2 e2
    refine ⟨a1, a2, vs, us, rfl, rfl, hh, hh', by rw [dpa_len d, dpa_len d']; exact hz, fun p hp => ?_⟩
    obtain ⟨hr2, u⟩ := r2.toHR.un (o := .lst (vs ++ us)) hp
    exact ⟨w2, _, m2, p, _, rfl, l1.trans l2, hr2, upd_same, u, dpa_app d d', q⟩
theorem wf_rep {Q : List PyData → Mem → Prop} (h : WV X a L m fun p m1 => WE X b L m1 fun y m2 => ∃ k xs, y = .int k ∧ lstP m2 p = some xs ∧ -(2 ^ 63) ≤ k ∧ k < 2 ^ 63 ∧ xs.length * k.toNat ≤ sizeLine ∧ Q (List.replicate k.toNat xs).flatten m2) : WF X (.BinOp a .Mult b pos) L m Q :=
  wf_of (pe_op op_rep (peU a) (peU b)) fun w σ H r => h.go r fun w1 v p m1 H1 l1 r1 d1 q1 => q1.go r1 fun w2 u y m2 H2 l2 r2 d2 ⟨k, xs, e0, e1, k1, k2, hz, q⟩ => by
    subst e0
    obtain ⟨a1, vs, rfl, hh, d⟩ := lstP_ok r2.toHR (d1.mono l2.toLe0) e1
    refine ⟨a1, k, vs, rfl, dp_int d2, hh, k1, k2, by rw [dpa_len d]; exact hz, fun p hp => ?_⟩
    obtain ⟨hr2, u⟩ := r2.toHR.un (o := .lst (List.replicate k.toNat vs).flatten) hp
    exact ⟨w2, _, m2, p, _, rfl, l1.trans l2, hr2, upd_same, u, dpa_rep d _, q⟩
theorem sqv {K : PySem.W.Frag} {H : Hp} {a : Addr} {vs : List V} (h : SqL K H a vs ∨ SqT K H a vs) : SqL K H a vs ∨ SqT K H a vs := h
theorem we_len {p : Pos} (hm : X.mg "len" = none) (h : WV X a L m fun p m1 => ∃ xs, seqP m1 p = some xs ∧ Q (.int xs.length) m1) (hg : Gl X "len" := by rfl) (he : starEach [a] X.env = (false, eval a X.env) :: starEach [] X.env := by rfl)
    (hpl : (backTo pos (starEach [] X.env)).any (·.1) = false := by rfl) : WE X (.Call (.Name "len" p) [a] [] pos) L m Q :=
  we_of (pe_callB call_len_seq hg hm boot_len (paU [a]) (he := he) (hpl := hpl)) fun w σ H r => WA.go (X := X) (Q := fun ps m1 => ∃ p, ps = [p] ∧ ∃ xs, seqP m1 p = some xs ∧ Q (.int xs.length) m1) (wa_cons (h := fun w σ H r => tU_mono (h w σ H r) fun _ _ ⟨w', x, m', l, hr, d, q⟩ => ⟨w', x, m', l, hr, d, wa_nil ⟨x, rfl, q⟩⟩) he) r fun w1 vs ps m1 H1 l1 r1 d1 ⟨p, e1, xs, e2, q⟩ => by
    subst e1
    cases d1 with
    | cons d1 d2 =>
      cases d2
      obtain ⟨ad, vs, rfl, hh, d⟩ := seqP_ok r1.toHR d1 e2
      refine ⟨ad, vs, rfl, sqv hh, w1, _, m1, l1, r1.toHR, .int _, ?_⟩
      rw [dpa_len d]
      exact q
theorem wa1 {Q : PV → Mem → Prop} (h : WV X a L m Q) (he : starEach [a] X.env = (false, eval a X.env) :: starEach [] X.env) : WA X [a] L m fun ps m1 => ∃ p, ps = [p] ∧ Q p m1 :=
  wa_cons (h := fun w σ H r => tU_mono (h w σ H r) fun _ _ ⟨w', x, m', l, hr, d, q⟩ => ⟨w', x, m', l, hr, d, wa_nil ⟨x, rfl, q⟩⟩) he
theorem wd1 {Q : PyData → Mem → Prop} (h : WE X a L m Q) (he : starEach [a] X.env = (false, eval a X.env) :: starEach [] X.env) : WA X [a] L m fun ps m1 => ∃ x, ps = [.d x] ∧ Q x m1 :=
  wa_d (h := h.mono fun x m1 q => wa_nil ⟨x, rfl, q⟩) he
theorem wd2 {Q : PyData → PyData → Mem → Prop} (h : WE X a L m fun x m1 => WE X b L m1 fun y m2 => Q x y m2) (he : starEach [a, b] X.env = (false, eval a X.env) :: starEach [b] X.env) (he2 : starEach [b] X.env = (false, eval b X.env) :: starEach [] X.env) : WA X [a, b] L m fun ps m1 => ∃ x y, ps = [.d x, .d y] ∧ Q x y m1 :=
  wa_d (h := h.mono fun x m1 h => wa_d (h := h.mono fun y m2 q => wa_nil ⟨x, y, rfl, q⟩) he2) he
theorem rvs1 {K : PySem.W.Frag} {w : Wd} {vs : List V} {p : PV} (h : RVs K w vs [p]) : ∃ v, vs = [v] ∧ RV K w v p := by
  cases h with
  | cons h1 h2 => cases h2; exact ⟨_, rfl, h1⟩
theorem rvs2 {K : PySem.W.Frag} {w : Wd} {vs : List V} {p q : PV} (h : RVs K w vs [p, q]) : ∃ v u, vs = [v, u] ∧ RV K w v p ∧ RV K w u q := by
  cases h with
  | cons h1 h2 =>
    obtain ⟨u, e, r⟩ := rvs1 h2
    exact ⟨_, u, by rw [e], h1, r⟩
theorem we_max2 {p : Pos} (hc : X.calm = true) (hm : X.mg "max" = none) (h : WE X a L m fun x m1 => WE X b L m1 fun y m2 => AskI x y fun i j => Q (.int (if j > i then j else i)) m2) (hg : Gl X "max" := by rfl) (he : starEach [a, b] X.env = (false, eval a X.env) :: starEach [b] X.env := by rfl)
    (he2 : starEach [b] X.env = (false, eval b X.env) :: starEach [] X.env := by rfl) (hpl : (backTo pos (starEach [b] X.env)).any (·.1) = false := by rfl) : WE X (.Call (.Name "max" p) [a, b] [] pos) L m Q :=
  we_of (pe_callB (call_max2 hc) hg hm (by decide +kernel) (paU [a, b]) (he := he) (hpl := hpl)) fun w σ H r => WA.go (wd2 h he he2) r fun w1 vs ps m1 H1 l1 r1 d1 ⟨x, y, e1, i, j, e2, e3, q⟩ => by
    subst e1; subst e2; subst e3
    obtain ⟨v, u, rfl, d1, d2⟩ := rvs2 d1
    exact ⟨i, j, by rw [dp_int d1, dp_int d2], w1, _, m1, l1, r1.toHR, .int _, q⟩
theorem we_min2 {p : Pos} (hc : X.calm = true) (hm : X.mg "min" = none) (h : WE X a L m fun x m1 => WE X b L m1 fun y m2 => AskI x y fun i j => Q (.int (if j < i then j else i)) m2) (hg : Gl X "min" := by rfl) (he : starEach [a, b] X.env = (false, eval a X.env) :: starEach [b] X.env := by rfl)
    (he2 : starEach [b] X.env = (false, eval b X.env) :: starEach [] X.env := by rfl) (hpl : (backTo pos (starEach [b] X.env)).any (·.1) = false := by rfl) : WE X (.Call (.Name "min" p) [a, b] [] pos) L m Q :=
  we_of (pe_callB (call_min2 hc) hg hm (by decide +kernel) (paU [a, b]) (he := he) (hpl := hpl)) fun w σ H r => WA.go (wd2 h he he2) r fun w1 vs ps m1 H1 l1 r1 d1 ⟨x, y, e1, i, j, e2, e3, q⟩ => by
    subst e1; subst e2; subst e3
    obtain ⟨v, u, rfl, d1, d2⟩ := rvs2 d1
    exact ⟨i, j, by rw [dp_int d1, dp_int d2], w1, _, m1, l1, r1.toHR, .int _, q⟩
theorem we_int1 {p : Pos} (hm : X.mg "int" = none) (h : WE X a L m fun x m1 => (∃ i, x = .int i ∧ Q (.int i) m1) ∨ (∃ k, x = .bool k ∧ Q (.int (if k then 1 else 0)) m1)) (hg : Gl X "int" := by rfl) (he : starEach [a] X.env = (false, eval a X.env) :: starEach [] X.env := by rfl)
    (hpl : (backTo pos (starEach [] X.env)).any (·.1) = false := by rfl) : WE X (.Call (.Name "int" p) [a] [] pos) L m Q :=
  we_of (pe_callTy call_int1 hg hm (by decide +kernel) (paU [a]) (he := he) (hpl := hpl)) fun w σ H r => WA.go (wd1 h he) r fun w1 vs ps m1 H1 l1 r1 d1 ⟨x, e1, q⟩ => by
    subst e1
    obtain ⟨v, rfl, d2⟩ := rvs1 d1
    rcases q with ⟨i, e, q⟩ | ⟨k, e, q⟩
    · subst e
      exact .inl ⟨i, by rw [dp_int d2], w1, _, m1, l1, r1.toHR, .int _, q⟩
    · subst e
      exact .inr ⟨k, by rw [dp_bool d2], w1, _, m1, l1, r1.toHR, .int _, q⟩
theorem we_tuple1 {p : Pos} (hm : X.mg "tuple" = none) (h : WV X a L m fun p m1 => ∃ xs, seqP m1 p = some xs ∧ Q (.tuple xs) m1) (hg : Gl X "tuple" := by rfl) (he : starEach [a] X.env = (false, eval a X.env) :: starEach [] X.env := by rfl)
    (hpl : (backTo pos (starEach [] X.env)).any (·.1) = false := by rfl) : WE X (.Call (.Name "tuple" p) [a] [] pos) L m Q :=
  we_of (pe_callTy call_tuple_of hg hm (by decide +kernel) (paU [a]) (he := he) (hpl := hpl)) fun w σ H r => WA.go (wa1 h he) r fun w1 vs ps m1 H1 l1 r1 d1 ⟨p, e1, xs, e2, q⟩ => by
    subst e1
    obtain ⟨v, rfl, d2⟩ := rvs1 d1
    by_cases ht : p = .d (.tuple xs)
    · subst ht
      obtain ⟨ad, vs, e3, e4, d⟩ := dp_tuple d2
      subst e3
      exact ⟨ad, vs, rfl, .inr ⟨r1.toHR.fz.sqt e4, w1, _, m1, l1, r1.toHR, d2, q⟩⟩
    · have e3 : ∃ ad vs, v = .ref ad ∧ SqL X.K H1 ad vs ∧ DPs X.K w1.F vs xs := by
        have key : ∀ p', p' = p → lstP m1 p' = some xs → ∃ ad vs, v = .ref ad ∧ SqL X.K H1 ad vs ∧ DPs X.K w1.F vs xs := fun p' e3 e4 => by
          subst e3
          obtain ⟨ad, vs, e5, hh, d⟩ := lstP_ok r1.toHR d2 e4
          exact ⟨ad, vs, e5, .of hh, d⟩
        cases p with
        | d x =>
          cases x <;> first | exact key _ rfl e2 | (cases e2; exact absurd rfl ht) | cases e2
        | ref k => exact key _ rfl e2
        | raw u =>
          cases e2
          obtain ⟨a, vs, e, s, d⟩ := d2
          exact ⟨a, vs, e, r1.toHR.fz.sql s, d⟩
        | exc C x => cases e2
      obtain ⟨ad, vs, rfl, hh, d⟩ := e3
      refine ⟨ad, vs, rfl, .inl ⟨hh, fun l hl => ?_⟩⟩
      obtain ⟨l2, hr2⟩ := r1.toHR.fnew (o := .tup vs) hl
      exact ⟨_, _, m1, l1.trans l2, hr2, .tup (.of upd_same) (dpa_mono l2.sub _ _ d), q⟩
def rgD (a b : Int) : List PyData := (List.range (b - a).toNat).map fun i => PyData.int (a + (i : Nat))
theorem rg_dpa {K : PySem.W.Frag} {F : Hp} (a b : Int) : DPs K F (rgV a b) (rgD a b) := by
  unfold rgV rgD
  generalize List.range (b - a).toNat = l
  induction l with
  | nil => exact .nil
  | cons i l ih => exact .cons (.int _) ih
theorem wf_listRg1 {p q pq : Pos} {Q : List PyData → Mem → Prop} (hc : X.calm = true) (hm : X.mg "list" = none) (hmr : X.mg "range" = none) (h : WE X a L m fun x m1 => ∃ n, x = .int n ∧ RgOk 0 n ∧ Q (rgD 0 n) m1) (hg : Gl X "list" := by rfl) (hgr : Gl X "range" := by rfl)
    (na : starEach [a] X.env = (false, eval a X.env) :: starEach [] X.env := by rfl) (na2 : starEach [.Call (.Name "range" q) [a] [] pq] X.env = (false, eval (.Call (.Name "range" q) [a] [] pq) X.env) :: starEach [] X.env := by rfl) : WF X (.Call (.Name "list" p) [.Call (.Name "range" q) [a] [] pq] [] pos) L m Q :=
  wf_of (pe_listRg hc hg hm (prg_1 hgr hmr (peU a) na) na2) fun w σ H r => h.go r fun w1 v x m1 H1 l1 r1 d1 ⟨n, e1, ok, qq⟩ => by
    subst e1
    refine ⟨n, dp_int d1, ok, fun p hp => ?_⟩
    obtain ⟨hr2, u⟩ := r1.toHR.un (o := .lst (rgV 0 n)) hp
    exact ⟨w1, _, m1, p, _, rfl, l1, hr2, upd_same, u, rg_dpa 0 n, qq⟩
def rgV3 (a c : Int) (n : Nat) : List V := (List.range n).map fun i => V.int (a + (i : Nat) * c)
def rgD3 (a c : Int) (n : Nat) : List PyData := (List.range n).map fun i => PyData.int (a + (i : Nat) * c)
theorem rg3_dpa {K : PySem.W.Frag} {F : Hp} (a c : Int) (n : Nat) : DPs K F (rgV3 a c n) (rgD3 a c n) := by
  unfold rgV3 rgD3
  generalize List.range n = l
  induction l with
  | nil => exact .nil
  | cons i l ih => exact .cons (.int _) ih
theorem vals_rg3 {a c : Int} {n : Nat} {acc : Array Value} (h : ItemsOf (fun i v => ∃ t, v = .int (a + i * c) t) acc n) : Vals (rgV3 a c n) acc.toList := by
  have e : acc.toList.length = n := by rw [Array.length_toList]; exact h.1
  unfold rgV3
  rw [← e]
  refine vals_of_get acc.toList _ fun j u hj => ?_
  obtain ⟨t, rfl⟩ := h.2 j u (by rw [← hj, Array.getElem?_toList])
  exact ⟨t, rfl⟩
theorem pe_listRg3 {ta : TA} {p q pq : Pos} (hc : X.calm = true) (hg : Gl X "list") (hm : X.mg "list" = none) (hgr : Gl X "range") (hmr : X.mg "range" = none) (ha : PA X [a, b, c] ta)
    (hs : starEach [a, b, c] X.env = (false, eval a X.env) :: starEach [b, c] X.env) (hpl : (backTo pq (starEach [b, c] X.env)).any (·.1) = false)
    (na : starEach [.Call (.Name "range" q) [a, b, c] [] pq] X.env = (false, eval (.Call (.Name "range" q) [a, b, c] [] pq) X.env) :: starEach [] X.env) :
    PE X (.Call (.Name "list" p) [.Call (.Name "range" q) [a, b, c] [] pq] [] pos) (fun σ H Q => ta σ H fun vs H1 => ∃ (i j k : Int) (n : Nat), vs = [.int i, .int j, .int k] ∧ RgC i j k n ∧ n ≤ 2 ^ 24 ∧ ∀ q, H1 q = none → Q (.ref q) (upd H1 q (.lst (rgV3 i k n)))) := by
  refine ⟨fun pins s σ H Q I h => ?_⟩
  refine Call_ (ld_blt I hg hm boot_list (PyProof.Rows.callWith_type1 (args_cons (thn (Q := fun x s' => ∃ r i j k t u v H' n, x = .ref r ∧ IsRange s'.heap r i j k t u v ∧ Inv X pins σ H' s' ∧ RgC i j k n ∧ n ≤ 2 ^ 24 ∧ ∀ q, H' q = none → Q (.ref q) (upd H' q (.lst (rgV3 i k n)))) ?_ fun x s1 ⟨r, i, j, k, t, u, v, H1, n, ex, hr, I1, rg, b5, q⟩ => args_nil ?_) na) na))
  · refine Call_ (ld_blt I hgr hmr boot_range (PyProof.Rows.callWith_type1 (thn (ha.run pq pins s σ H _ I h) fun us s1 ⟨vs, H1, I1, r1, q1⟩ => ?_) hs hpl))
    obtain ⟨i, j, k, n, e, rg, hn, q⟩ := q1
    subst e
    cases r1 with
    | cons r rr =>
      cases rr with
      | cons r' rr =>
        cases rr with
        | cons r'' rr =>
          cases rr
          obtain ⟨t, rfl⟩ := r
          obtain ⟨t', rfl⟩ := r'
          obtain ⟨t'', rfl⟩ := r''
          exact call_range_3 rg.1 ⟨_, i, j, k, _, _, _, H1, n, rfl, IsRange.new _ _ _ _ _ _ _, I1.kept fun b u e => Heap.get?_push_of_some _ e, rg, hn, q⟩ (.inl (PyProof.noPylong_small rg.2.1))
  · subst ex
    refine call_list_range (n := n) (I1.ok.hd hc) hr rg.2.2.1 rg.2.2.2 b5 fun h' tk acc c' hk e' hi => ?_
    refine ⟨.ref s1.heap.objs.size, upd H1 s1.heap.objs.size (.lst (rgV3 i k n)), I1.laid hk (Nat.le_refl _) (show ObjOk X.prog X.w _ _ _ (.lst (rgV3 i k n)) from ⟨?_, acc.toList, c', vals_rg3 hi, ?_⟩), rfl, q _ (I1.hok.fresh (Nat.le_refl _))⟩
    · unfold rgV3; rw [List.length_map, List.length_range, sizeLine_eq]; omega
    · rw [Array.toArray_toList]; exact e'
theorem wd3 {Q : PyData → PyData → PyData → Mem → Prop} (h : WE X a L m fun x m1 => WE X b L m1 fun y m2 => WE X c L m2 fun z m3 => Q x y z m3) (he : starEach [a, b, c] X.env = (false, eval a X.env) :: starEach [b, c] X.env) (he2 : starEach [b, c] X.env = (false, eval b X.env) :: starEach [c] X.env) (he3 : starEach [c] X.env = (false, eval c X.env) :: starEach [] X.env) : WA X [a, b, c] L m fun ps m1 => ∃ x y z, ps = [.d x, .d y, .d z] ∧ Q x y z m1 :=
  wa_d (h := h.mono fun x m1 h => wa_d (h := h.mono fun y m2 h => wa_d (h := h.mono fun z m3 q => wa_nil ⟨x, y, z, rfl, q⟩) he3) he2) he
theorem rvs3 {K : PySem.W.Frag} {w : Wd} {vs : List V} {p q r : PV} (h : RVs K w vs [p, q, r]) : ∃ v u z, vs = [v, u, z] ∧ RV K w v p ∧ RV K w u q ∧ RV K w z r := by
  cases h with
  | cons h1 h2 =>
    obtain ⟨u, z, e, r⟩ := rvs2 h2
    exact ⟨_, u, z, by rw [e], h1, r⟩
theorem wf_listRg3 {p q pq : Pos} {Q : List PyData → Mem → Prop} (hc : X.calm = true) (hm : X.mg "list" = none) (hmr : X.mg "range" = none) (h : WE X a L m fun x m1 => WE X b L m1 fun y m2 => WE X c L m2 fun z m3 => ∃ i j k n, x = .int i ∧ y = .int j ∧ z = .int k ∧ RgC i j k n ∧ n ≤ 2 ^ 24 ∧ Q (rgD3 i k n) m3) (hg : Gl X "list" := by rfl) (hgr : Gl X "range" := by rfl)
    (na : starEach [a, b, c] X.env = (false, eval a X.env) :: starEach [b, c] X.env := by rfl) (nb : starEach [b, c] X.env = (false, eval b X.env) :: starEach [c] X.env := by rfl) (nc : starEach [c] X.env = (false, eval c X.env) :: starEach [] X.env := by rfl) (hpl : (backTo pq (starEach [b, c] X.env)).any (·.1) = false := by rfl)
    (na2 : starEach [.Call (.Name "range" q) [a, b, c] [] pq] X.env = (false, eval (.Call (.Name "range" q) [a, b, c] [] pq) X.env) :: starEach [] X.env := by rfl) : WF X (.Call (.Name "list" p) [.Call (.Name "range" q) [a, b, c] [] pq] [] pos) L m Q :=
  wf_of (pe_listRg3 hc hg hm hgr hmr (paU [a, b, c]) na hpl na2) fun w σ H r => WA.go (wd3 h na nb nc) r fun w1 vs ps m1 H1 l1 r1 d1 ⟨x, y, z, e0, i, j, k, n, e1, e2, e3, rg, hn, qq⟩ => by
    subst e0; subst e1; subst e2; subst e3
    obtain ⟨v, u, z, rfl, d1, d2, d3⟩ := rvs3 d1
    refine ⟨i, j, k, n, by rw [dp_int d1, dp_int d2, dp_int d3], rg, hn, fun p hp => ?_⟩
    obtain ⟨hr2, u⟩ := r1.toHR.un (o := .lst (rgV3 i k n)) hp
    exact ⟨w1, _, m1, p, _, rfl, l1, hr2, upd_same, u, rg3_dpa i k n, qq⟩
end
end PP
namespace PP
open PySem PySem.Spec PyProof.Rows L2
section
variable {X : Cx} {L : Loc} {m : Mem} {e a b c : Expr} {es : List Expr} {pos : Pos} {D : PEnds} {st : Stmt} {rest body : List Stmt}
theorem RV.backE {K : PySem.W.Frag} {w w1 : Wd} (l : w.le w1) (D : PEnds) : (∀ σ H, (toE K w1 D).nx σ H → (toE K w D).nx σ H) ∧ (∀ v H, (toE K w1 D).rt v H → (toE K w D).rt v H) ∧ (∀ σ H, (toE K w1 D).bk σ H → (toE K w D).bk σ H) ∧ (∀ σ H, (toE K w1 D).ct σ H → (toE K w D).ct σ H) :=
  ⟨fun _ _ h => POS.back l h, fun _ _ h => POV.back l h, fun _ _ h => POS.back l h, fun _ _ h => POS.back l h⟩
theorem tUSs_back {w w1 : Wd} {σ : L2.St} {H : Hp} (l : w.le w1) (h : tUSs X body (toE X.K w1 D) σ H) : tUSs X body (toE X.K w D) σ H := let ⟨a, b, c, d⟩ := RV.backE l D; tUSs_mono h a b c d
theorem WSs.imp {D' : PEnds} (h : WSs X body L m D) (n : ∀ L m, D.nx L m → D'.nx L m) (r : ∀ p m, D.rt p m → D'.rt p m) (b : ∀ L m, D.bk L m → D'.bk L m) (k : ∀ L m, D.ct L m → D'.ct L m) : WSs X body L m D' := fun w σ H rp =>
  tUSs_mono (h w σ H rp) (fun _ _ ⟨w', L, m, l, r', q⟩ => ⟨w', L, m, l, r', n _ _ q⟩) (fun _ _ ⟨w', p, m, l, hr, d, q⟩ => ⟨w', p, m, l, hr, d, r _ _ q⟩) (fun _ _ ⟨w', L, m, l, r', q⟩ => ⟨w', L, m, l, r', b _ _ q⟩) (fun _ _ ⟨w', L, m, l, r', q⟩ => ⟨w', L, m, l, r', k _ _ q⟩)
theorem WS.imp {D' : PEnds} (h : WS X st L m D) (n : ∀ L m, D.nx L m → D'.nx L m) (r : ∀ p m, D.rt p m → D'.rt p m) (b : ∀ L m, D.bk L m → D'.bk L m) (k : ∀ L m, D.ct L m → D'.ct L m) : WS X st L m D' := fun w σ H rp =>
  tUS_mono (h w σ H rp) (fun _ _ ⟨w', L, m, l, r', q⟩ => ⟨w', L, m, l, r', n _ _ q⟩) (fun _ _ ⟨w', p, m, l, hr, d, q⟩ => ⟨w', p, m, l, hr, d, r _ _ q⟩) (fun _ _ ⟨w', L, m, l, r', q⟩ => ⟨w', L, m, l, r', b _ _ q⟩) (fun _ _ ⟨w', L, m, l, r', q⟩ => ⟨w', L, m, l, r', k _ _ q⟩)
theorem wss_nil (q : D.nx L m) : WSs X [] L m D := wss_of pss_nil fun w σ H r => ⟨w, L, m, .refl w, r, q⟩
theorem wss_cons (h : WS X st L m { D with nx := fun L1 m1 => WSs X rest L1 m1 D }) : WSs X (st :: rest) L m D :=
  wss_of (pss_cons (psU st) (pssU rest)) fun w σ H r => tUS_mono (h w σ H r) (fun σ' H' ⟨w', L', m', l, r', q⟩ => tUSs_back l (q w' σ' H' r')) (fun _ _ h => h) (fun _ _ h => h) (fun _ _ h => h)
theorem wss_one (h : WS X st L m D) : WSs X [st] L m D := wss_of (pss_one (psU st)) fun w σ H r => h w σ H r
theorem ws_expr (h : WE X e L m fun _ m1 => D.nx L m1) (hs : swapsWith e none pos.line X.env = pure false := by rfl) : WS X (.Expr e pos) L m D := ws_of (ps_expr (peU e) hs) fun w σ H r => h.go r fun w1 v x m1 H1 l1 r1 d1 q => ⟨w1, L, m1, l1, r1, q⟩
theorem ws_ret (h : WE X e L m fun x m1 => D.rt (.d x) m1) : WS X (.Return (some e) pos) L m D := ws_of (ps_ret (peU e)) fun w σ H r => h.go r fun w1 v x m1 H1 l1 r1 d1 q => ⟨w1, .d x, m1, l1, r1.toHR, d1, q⟩
theorem ws_retV (h : WV X e L m fun x m1 => D.rt x m1) : WS X (.Return (some e) pos) L m D := ws_of (ps_ret (peU e)) fun w σ H r => h.go r fun w1 v x m1 H1 l1 r1 d1 q => ⟨w1, x, m1, l1, r1.toHR, d1, q⟩
theorem ws_retF (h : WF X e L m fun xs m1 => D.rt (.ref m1.length) (m1 ++ [some (.lst xs)])) : WS X (.Return (some e) pos) L m D := ws_of (ps_ret (peU e)) fun w σ H r => h.go r fun w1 p vs xs m1 H1 l1 r1 hp u d q => by
  obtain ⟨l2, hr2⟩ := r1.toHR.adopt (c := .lst xs) u hp ⟨vs, rfl, d⟩
  refine ⟨_, .ref m1.length, _, l1.trans l2, hr2, ⟨p, ?_, rfl⟩, q⟩
  show (w1.A ++ [p])[m1.length]? = some p
  rw [← r1.toHR.len, List.getElem?_append_right (Nat.le_refl _)]; simp
theorem ws_if {t f : List Stmt} (h : WT X c L m fun k m1 => (k = true → WSs X t L m1 D) ∧ (k = false → WSs X f L m1 D)) : WS X (.If c t f pos) L m D :=
  ws_of (ps_if (ptU c) (pssU t) (pssU f)) fun w σ H r => h.go r fun w1 k m1 H1 l1 r1 ⟨q1, q2⟩ => by
    cases k with
    | true =>
      rw [if_pos rfl]
      exact tUSs_back l1 (q1 rfl _ _ _ r1)
    | false =>
      rw [if_neg Bool.false_ne_true]
      exact tUSs_back l1 (q2 rfl _ _ _ r1)
theorem Rep.set {K : PySem.W.Frag} {w : Wd} {σ : L2.St} {H : Hp} {i : Nat} {v : V} {p : PV} (r : Rep K w L m σ H) (d : RV K w v p) : Rep K w (L.set i (some p)) m (σ.set i (some v)) H :=
  ⟨r.toHR, by rw [List.length_set, List.length_set]; exact r.sl, fun j q e => by
    by_cases hj : i = j
    · subst hj
      by_cases hi : i < L.length
      · rw [List.getElem?_set_self hi] at e
        cases e
        exact ⟨v, by rw [List.getElem?_set_self (by rw [r.sl]; exact hi)], d⟩
      · rw [List.getElem?_eq_none (by rw [List.length_set]; omega)] at e; cases e
    · rw [List.getElem?_set_ne hj] at e
      obtain ⟨u, e1, r1⟩ := r.loc j q e
      exact ⟨u, by rw [List.getElem?_set_ne hj]; exact e1, r1⟩⟩
section
variable {i : Nat} {x : Str} {pos' : Pos}
theorem ws_set (i : Nat) (hN : X.N.Nodup) (hi : X.N[i]? = some x) (hx : L2.Loc X.env.scope x) (h : WE X e L m fun y m1 => D.nx (L.set i (some (.d y))) m1) (hs : swapsWith e (some (.Name x pos')) pos.line X.env = pure false := by rfl) (hf : X.fn x = true ∨ X.env.scope.names.lookup x = some .local := by first | exact .inl rfl | exact .inr rfl | assumption) :
    WS X (.Assign [.Name x pos'] e pos) L m D := ws_of (ps_set hN hi hx (peU e) hs hf) fun w σ H r => h.go r fun w1 v y m1 H1 l1 r1 d1 q => ⟨w1, _, m1, l1, r1.set (p := .d y) d1, q⟩
theorem ws_setV (i : Nat) (hN : X.N.Nodup) (hi : X.N[i]? = some x) (hx : L2.Loc X.env.scope x) (h : WV X e L m fun y m1 => D.nx (L.set i (some y)) m1) (hs : swapsWith e (some (.Name x pos')) pos.line X.env = pure false := by rfl) (hf : X.fn x = true ∨ X.env.scope.names.lookup x = some .local := by first | exact .inl rfl | exact .inr rfl | assumption) :
    WS X (.Assign [.Name x pos'] e pos) L m D := ws_of (ps_set hN hi hx (peU e) hs hf) fun w σ H r => h.go r fun w1 v y m1 H1 l1 r1 d1 q => ⟨w1, _, m1, l1, r1.set d1, q⟩
end
theorem wg_of {tg : Expr} {t : TG} {x : PyData} {Q : Loc → Mem → Prop} (h : PG X tg t) (k : ∀ (w : Wd) (σ : L2.St) (H : Hp) (v : V), Rep X.K w L m σ H → DP X.K w.F v x → t v σ H (POS X.K w Q)) : WG X tg x L m Q := fun w σ H v r d pins s u I rv => h.run pins s σ H v u _ I rv (k w σ H v r d)
theorem wg_name {x : Str} {y : PyData} {Q : Loc → Mem → Prop} (i : Nat) (hN : X.N.Nodup) (hi : X.N[i]? = some x) (hx : L2.Loc X.env.scope x) (q : Q (L.set i (some (.d y))) m) (hf : X.fn x = true ∨ X.env.scope.names.lookup x = some .local := by first | exact .inl rfl | exact .inr rfl | assumption) : WG X (.Name x pos) y L m Q :=
  wg_of (pg_name hN hi hx hf) fun w σ H v r d => ⟨w, _, m, .refl w, r.set (p := .d y) d, q⟩
end
def tUGs (X : Cx) (ts : List Expr) : TGs := fun vs σ H Q => ∀ (pins : List (Addr × Obj)) (s : Shared) (us : List Value), Inv X pins σ H s → Vals vs us → wpAny (model X.prog X.w) X.A (assignInOrder ((assignEach ts X.env).map (·.2)) us) (fun _ s' => ∃ σ' H', Inv X pins σ' H' s' ∧ Q σ' H') X.xe s
theorem pgsU {X : Cx} (ts : List Expr) : PGs X ts (tUGs X ts) := ⟨fun pins s _ _ _ us _ I r h => h pins s us I r⟩
def WGn (X : Cx) (es : List Expr) (xs : List PyData) (L : Loc) (m : Mem) (Q : Loc → Mem → Prop) : Prop := ∀ (w : Wd) (σ : L2.St) (H : Hp) (vs : List V), Rep X.K w L m σ H → DPs X.K w.F vs xs → tUGs X es vs σ H (POS X.K w Q)
section
variable {X : Cx} {L : Loc} {m : Mem} {e a b c tg : Expr} {es : List Expr} {pos : Pos} {D : PEnds} {st : Stmt} {rest body : List Stmt} {Q : Loc → Mem → Prop}
theorem wgn_nil (q : Q L m) : WGn X [] [] L m Q := fun w σ H vs r d pins s us I rv => pgs_nil.run pins s σ H vs us _ I rv (by cases d; exact ⟨rfl, w, L, m, .refl w, r, q⟩)
theorem wgn_cons {x : PyData} {xs : List PyData} (h : WG X e x L m fun L1 m1 => WGn X es xs L1 m1 Q) (hs : (assignEach (e :: es) X.env).map (·.2) = assign e X.env :: (assignEach es X.env).map (·.2) := by rfl) : WGn X (e :: es) (x :: xs) L m Q := fun w σ H vs r d pins s us I rv =>
  (pgs_cons (pgU e) (pgsU es) hs).run pins s σ H vs us _ I rv (by
    cases d with
    | cons d1 d2 =>
      refine ⟨_, _, rfl, tUG_mono (h w σ H _ r d1) fun σ' H' ⟨w', L', m', l, r', q⟩ => ?_⟩
      intro pins s us I rv
      exact thn (q w' σ' H' _ r' (dpa_mono l.sub _ _ d2) pins s us I rv) fun _ s' ⟨σ2, H2, I2, q2⟩ => ⟨σ2, H2, I2, POS.back l q2⟩)
theorem wg_tup {k n : Nat} {x : PyData} (hc : X.calm = true) (h : ∃ xs, x = .tuple xs ∧ xs.length = n ∧ WGn X es xs L m Q) (hn : (assignEach es X.env).length = n := by rfl) (hst : (assignEach es X.env).findIdx? (·.1) = none := by rfl) : WG X (.Tuple es k pos) x L m Q := by
  obtain ⟨xs, rfl, hl, h⟩ := h
  refine wg_of (pg_tup hc (pgsU es) hn hst) fun w σ H v r d => ?_
  obtain ⟨a, vs, rfl, e1, d1⟩ := dp_tuple d
  exact ⟨a, vs, rfl, r.toHR.fz.sqt e1, by rw [dpa_len d1]; exact hl, h w σ H vs r d1⟩
theorem wg_sub {x : PyData} (h : WV X a L m fun p m1 => WE X b L m1 fun y m2 => ∃ k i xs j, p = .ref k ∧ y = .int i ∧ m2[k]? = some (some (.lst xs)) ∧ ixN xs.length i = some j ∧ Q L (m2.set k (some (.lst (xs.set j x)))))
    (ha : ∀ v, assign (.Subscript a b pos) X.env v = (do
      let ov ← holding [v] (eval a X.env)
      let iv ← holding [v, ov] (eval b X.env)
      standAt pos
      holding [v, ov, iv] (setItem ov iv v)
      release [v, ov, iv] []) := by intro _; rfl) : WG X (.Subscript a b pos) x L m Q := by
  refine wg_of (pg_sub (peU a) (peU b) set_list ha) fun w σ H v r d => ?_
  refine h.go r fun w1 ov p m1 H1 l1 r1 d1 q1 => q1.go r1 fun w2 iv y m2 H2 l2 r2 d2 ⟨k, i, xs, j, e1, e2, e3, e4, q⟩ => ?_
  subst e1; subst e2
  obtain ⟨ad, o, ea, eo, vs, rfl, dv⟩ := r2.cell k _ e3
  obtain ⟨ad', ea', rfl⟩ := d1.mono l2.toLe0
  rw [ea] at ea'; cases ea'
  have dd := dp_mono (l1.trans l2).sub _ _ d
  have hr3 := r2.toHR.write (c' := .lst (xs.set j x)) (o := .lst (vs.set j v)) ea e3 ⟨_, rfl, dpa_set dd j dv⟩
  exact ⟨ad, vs, i, j, rfl, dp_int d2, eo, by rw [dpa_len dv]; exact e4, w2, L, _, l1.trans l2, r2.go (.refl w2) hr3, q⟩
theorem ws_asg (h : WE X e L m fun x m1 => WG X tg x L m1 D.nx) (hs : swapsWithSole [tg] e pos.line X.env = pure false := by rfl) (hw : swappedStores [tg] e X.env = pure none := by rfl)
    (h1 : (assignEach [tg] X.env).map (·.2) = [assign tg X.env] := by rfl) : WS X (.Assign [tg] e pos) L m D :=
  ws_of (ps_asg (peU e) (pgU tg) hs hw h1) fun w σ H r => h.go r fun w1 v x m1 H1 l1 r1 d1 q => tUG_mono (q w1 σ H1 v r1 d1) fun σ' H' q => POS.back l1 q
theorem ws_par {x y : Str} {px py pt : Pos} {kt k2 pt2} (i j : Nat) (hc : X.calm = true) (hN : X.N.Nodup) (hi : X.N[i]? = some x) (hj : X.N[j]? = some y) (hij : i ≠ j)
    (hx : X.env.scope.names.lookup x = some .local) (hy : X.env.scope.names.lookup y = some .local) (h : WA X [a, b] L m fun ps m1 => ∃ p q, ps = [p, q] ∧ D.nx ((L.set i (some p)).set j (some q)) m1)
    (hw : swappedStores [.Tuple [.Name x px, .Name y py] kt pt] (.Tuple [a, b] k2 pt2) X.env = pure (some [x, y]) := by rfl)
    (hs : swapsWithSole [.Tuple [.Name x px, .Name y py] kt pt] (.Tuple [a, b] k2 pt2) pos.line X.env = pure false := by rfl) :
    WS X (.Assign [.Tuple [.Name x px, .Name y py] kt pt] (.Tuple [a, b] k2 pt2) pos) L m D :=
  ws_of (ps_par hc hN hi hj hij hx hy (paU [a, b]) hw hs) fun w σ H r => h.go r fun w1 vs ps m1 H1 l1 r1 d1 ⟨p, q, e1, qq⟩ => by
    subst e1
    obtain ⟨v, u, rfl, d1, d2⟩ := rvs2 d1
    exact ⟨v, u, rfl, w1, _, m1, l1, (r1.set d1).set d2, qq⟩
structure JOk (K : PySem.W.Frag) (w1 : Wd) (J : It) (xs : List PyData) (g : Mem → Prop) : Prop where
  go : ∀ (w' : Wd) (m' : Mem) (H' : Hp) (i : Nat) (x : PyData), w1.le0 w' → HR K w' m' H' → g m' → xs[i]? = some x → J.go i H' ∧ ∀ v H'', J.yld i H' v H'' → ∃ w'', w'.le w'' ∧ HR K w'' m' H'' ∧ DP K w''.F v x
  stop : ∀ (w' : Wd) (m' : Mem) (H' : Hp) (i : Nat), w1.le0 w' → HR K w' m' H' → g m' → xs.length ≤ i → J.stop i H'
def WI (X : Cx) (tg iter : Expr) (L : Loc) (m : Mem) (Q : List PyData → (Mem → Prop) → Mem → Prop) : Prop := ∀ (w : Wd) (σ : L2.St) (H : Hp), Rep X.K w L m σ H → tUI X tg iter σ H fun J H1 => ∃ w1 m1 xs g, w.le w1 ∧ HR X.K w1 m1 H1 ∧ JOk X.K w1 J xs g ∧ Q xs g m1
theorem WI.go {iter : Expr} {Q : List PyData → (Mem → Prop) → Mem → Prop} (h : WI X tg iter L m Q) {w : Wd} {σ : L2.St} {H : Hp} (r : Rep X.K w L m σ H) {R : It → Hp → Prop} (k : ∀ (w' : Wd) (J : It) (xs : List PyData) (g : Mem → Prop) (m' : Mem) (H' : Hp), w.le w' → Rep X.K w' L m' σ H' → JOk X.K w' J xs g → Q xs g m' → R J H') : tUI X tg iter σ H R :=
  tUI_mono (h w σ H r) fun J H' ⟨w', m', xs, g, l, hr, j, q⟩ => k w' J xs g m' H' l (r.go l hr) j q
structure Wk (n : Nat) (L : Loc) (m : Mem) (L' : Loc) (m' : Mem) : Prop where
  ln : L'.length = L.length
  lc : ∀ (i : Nat) (p : PV), L'[i]? = some (some p) → L[i]? = some (some p) ∧ ∀ k, p = .ref k → k < m'.length
  mm : ∃ j, n ≤ j ∧ m' = m.take j
theorem Wk.refl {n : Nat} (h : n ≤ m.length) (hl : ∀ (i k : Nat), L[i]? = some (some (.ref k)) → k < m.length) : Wk n L m L m := ⟨rfl, fun i p e => ⟨e, fun k e2 => hl i k (e2 ▸ e)⟩, m.length, h, by rw [List.take_length]⟩
theorem Wk.rep {K : PySem.W.Frag} {n : Nat} {L' : Loc} {m' : Mem} {w : Wd} {σ : L2.St} {H : Hp} (k : Wk n L m L' m') (r : Rep K w L m σ H) : ∃ w', Rep K w' L' m' σ H ∧ ∀ w0 : Wd, w0.A.length ≤ n → w0.le w → w0.le w' := by
  obtain ⟨j, hj, rfl⟩ := k.mm
  refine ⟨w.cut j, ⟨r.toHR.cut j, by rw [k.ln]; exact r.sl, fun i p e => ?_⟩, fun w0 h0 l => l.cut (Nat.le_trans h0 hj)⟩
  obtain ⟨e1, hk⟩ := k.lc i p e
  obtain ⟨v, e2, d⟩ := r.loc i p e1
  refine ⟨v, e2, ?_⟩
  cases p with
  | d x => exact d
  | raw u => exact d
  | exc C x => exact d
  | ref kk =>
    obtain ⟨ad, ea, ev⟩ := d
    refine ⟨ad, ?_, ev⟩
    have h1 := hk kk rfl
    show (w.A.take j)[kk]? = some ad
    have : kk < j := by
      rw [List.length_take] at h1
      exact Nat.lt_of_lt_of_le h1 (Nat.min_le_left _ _)
    rw [List.getElem?_take, if_pos this]
    exact ea
theorem ws_for {iter : Expr} (hp : PassesOwn (model X.prog X.w) X.A X.env X.xe) (hc : X.calm = true)
    (h : WI X tg iter L m fun xs g m1 => ∃ I : Nat → Loc → Mem → Prop, I 0 L m1 ∧ (∀ (i : Nat) (x : PyData) (L' : Loc) (m' : Mem), xs[i]? = some x → I i L' m' → g m' ∧ WG X tg x L' m' fun L2 m2 =>
        WSs X body L2 m2 { D with nx := fun L3 m3 => ∃ L4 m4, Wk m'.length L3 m3 L4 m4 ∧ I (i + 1) L4 m4, ct := fun L3 m3 => ∃ L4 m4, Wk m'.length L3 m3 L4 m4 ∧ I (i + 1) L4 m4, bk := D.nx }) ∧ (∀ L' m', I xs.length L' m' → g m' ∧ D.nx L' m'))
    (hs : ∀ x, foldedSetIterable iter X.env x = pure x := by intro _; rfl) : WS X (.For tg iter body [] pos) L m D := by
  refine ws_of (ps_for hp hc (piU tg iter) (pgU tg) (pssU body) hs) fun w σ H r => ?_
  refine h.go r fun w1 J xs g m1 H1 l1 r1 jo ⟨I, i0, it, ie⟩ => ?_
  refine ⟨fun i n σ' H' => n = xs.length - i ∧ i ≤ xs.length ∧ ∃ w' L' m', w1.le w' ∧ Rep X.K w' L' m' σ' H' ∧ I i L' m', ⟨xs.length, by simp, Nat.zero_le _, w1, L, m1, .refl w1, r1, i0⟩, ?_⟩
  rintro i n σ' H' ⟨rfl, hi, w', L', m', l', r', q⟩
  by_cases hlt : i < xs.length
  · refine .inr ?_
    have hx : xs[i]? = some xs[i] := List.getElem?_eq_getElem hlt
    obtain ⟨gm, wg⟩ := it i _ L' m' hx q
    obtain ⟨jg, jy⟩ := jo.go w' m' H' i _ l'.toLe0 r'.toHR gm hx
    refine ⟨jg, fun σ2 H2 => ∃ w2 L2 m2, w1.le w2 ∧ Rep X.K w2 L2 m2 σ2 H2 ∧ I (i + 1) L2 m2, fun σ2 H2 ⟨w2, L2, m2, l2, r2, q2⟩ => ⟨xs.length - (i + 1), by omega, rfl, hlt, w2, L2, m2, l2, r2, q2⟩, fun v H'' y => ?_⟩
    obtain ⟨w2, l2, hr2, d2⟩ := jy v H'' y
    have r2 := r'.go l2 hr2
    have nxt : ∀ (w3 : Wd) (σ3 : L2.St) (H3 : Hp), w2.le w3 → POS X.K w3 (fun L3 m3 => ∃ L4 m4, Wk m'.length L3 m3 L4 m4 ∧ I (i + 1) L4 m4) σ3 H3 → ∃ w2 L2 m2, w1.le w2 ∧ Rep X.K w2 L2 m2 σ3 H3 ∧ I (i + 1) L2 m2 := fun w3 σ3 H3 l3 ⟨w4, L3, m3, l4, r3, L4, m4, k, q4⟩ => by
      obtain ⟨w5, r5, h5⟩ := k.rep r3
      have l24 : w'.le w4 := (l2.trans l3).trans l4
      have : w'.le w5 := h5 w' (by rw [r'.toHR.len]; exact Nat.le_refl _) l24
      exact ⟨w5, L4, m4, l'.trans this, r5, q4⟩
    refine tUG_mono (wg w2 σ' H'' v r2 d2) fun σ3 H3 ⟨w3, L3, m3, l3, r3, q3⟩ => ?_
    refine tUSs_mono (q3 w3 σ3 H3 r3) ?_ ?_ ?_ ?_
    · exact fun σ4 H4 q4 => nxt w3 σ4 H4 l3 q4
    · exact fun v H4 q4 => POV.back (((l1.trans l').trans l2).trans l3) q4
    · exact fun σ4 H4 q4 => POS.back (((l1.trans l').trans l2).trans l3) q4
    · exact fun σ4 H4 q4 => nxt w3 σ4 H4 l3 q4
  · have e : i = xs.length := by omega
    subst e
    obtain ⟨gm, qd⟩ := ie L' m' q
    exact .inl ⟨jo.stop w' m' H' _ l'.toLe0 r'.toHR gm (Nat.le_refl _), w', L', m', l1.trans l', r', qd⟩
end
end PP
namespace PP
open PySem PySem.Spec PyProof.Rows L2
section
variable {X : Cx} {L : Loc} {m : Mem} {e a b c tg : Expr} {pos : Pos} {QI : List PyData → (Mem → Prop) → Mem → Prop}
theorem WV.mono {Q Q' : PV → Mem → Prop} (h : WV X e L m Q) (k : ∀ x m', Q x m' → Q' x m') : WV X e L m Q' := fun w σ H r => tU_mono (h w σ H r) fun _ _ ⟨w', x, m', l, hr, d, q⟩ => ⟨w', x, m', l, hr, d, k _ _ q⟩
theorem wi_of {iter : Expr} {t : TI} (h : PI X tg iter t) (k : ∀ (w : Wd) (σ : L2.St) (H : Hp), Rep X.K w L m σ H → t σ H fun J H1 => ∃ w1 m1 xs g, w.le w1 ∧ HR X.K w1 m1 H1 ∧ JOk X.K w1 J xs g ∧ QI xs g m1) : WI X tg iter L m QI := fun w σ H r pins s I => h.run pins s σ H _ I (k w σ H r)
theorem jok_list {K : PySem.W.Frag} {w : Wd} {a : Addr} {p : PV} {xs : List PyData} (r : RV K w (.ref a) p) : JOk K w (Itl K a) xs fun m => lstP m p = some xs where
  go := fun w' m' H' i x l hr g hx => by
    obtain ⟨ad, vs, e1, e2, d⟩ := lstP_ok hr (r.mono l) g
    cases e1
    obtain ⟨v, hv, dv⟩ := dpa_get d hx
    refine ⟨⟨vs, v, .of e2, hv⟩, fun u H'' ⟨e3, y⟩ => ?_⟩
    subst e3
    have : u = v := Option.some.inj ((y vs (.of e2)).symm.trans hv)
    subst this
    exact ⟨w', .refl w', hr, dv⟩
  stop := fun w' m' H' i l hr g hi => by
    obtain ⟨ad, vs, e1, e2, d⟩ := lstP_ok hr (r.mono l) g
    cases e1
    exact ⟨vs, .of e2, by rw [dpa_len d]; exact hi⟩
theorem wi_list (h : WV X e L m fun p m1 => ∃ xs, lstP m1 p = some xs ∧ QI xs (fun m2 => lstP m2 p = some xs) m1) : WI X tg e L m QI :=
  wi_of (pi_list (peU e)) fun w σ H r => h.go r fun w1 v p m1 H1 l1 r1 d1 ⟨xs, e1, q⟩ => by
    obtain ⟨ad, vs, rfl, e2, d⟩ := lstP_ok r1.toHR d1 e1
    exact ⟨ad, rfl, ⟨vs, .of e2⟩, w1, m1, xs, _, l1, r1.toHR, jok_list d1, q⟩
theorem wi_new (h : WF X e L m fun xs m1 => QI xs (fun _ => True) m1) : WI X tg e L m QI :=
  wi_of (pi_list (peU e)) fun w σ H r => (we_wf (Q := fun x m1 => ∃ xs, x = .list xs ∧ QI xs (fun _ => True) m1) (h.mono fun xs m1 q => ⟨xs, rfl, q⟩)).go r fun w1 v p m1 H1 l1 r1 d1 ⟨xs, e1, q⟩ => by
    subst e1
    obtain ⟨ad, vs, rfl, e2, d⟩ := lstP_ok (p := .d (.list xs)) r1.toHR d1 rfl
    have j := jok_list (K := X.K) (w := w1) (a := ad) (p := .d (.list xs)) (xs := xs) d1
    exact ⟨ad, rfl, ⟨vs, .of e2⟩, w1, m1, xs, fun _ => True, l1, r1.toHR, ⟨fun w' m' H' i x l hr _ hx => j.go w' m' H' i x l hr rfl hx, fun w' m' H' i l hr _ hi => j.stop w' m' H' i l hr rfl hi⟩, q⟩
theorem rgD3_get {a c : Int} {n i : Nat} {x : PyData} (h : (rgD3 a c n)[i]? = some x) : i < n ∧ x = .int (a + i * c) := by
  unfold rgD3 at h
  rw [List.getElem?_map] at h
  by_cases hi : i < n
  · rw [List.getElem?_range hi] at h
    cases h
    exact ⟨hi, rfl⟩
  · rw [List.getElem?_eq_none (by rw [List.length_range]; omega)] at h; cases h
theorem rgD3_len {a c : Int} {n : Nat} : (rgD3 a c n).length = n := by unfold rgD3; rw [List.length_map, List.length_range]
theorem rgD_get {a b : Int} {i : Nat} {x : PyData} (h : (rgD a b)[i]? = some x) : i < (b - a).toNat ∧ x = .int (a + i) := by
  unfold rgD at h
  rw [List.getElem?_map] at h
  by_cases hi : i < (b - a).toNat
  · rw [List.getElem?_range hi] at h
    cases h
    exact ⟨hi, rfl⟩
  · rw [List.getElem?_eq_none (by rw [List.length_range]; omega)] at h; cases h
theorem rgD_len {a b : Int} : (rgD a b).length = (b - a).toNat := by unfold rgD; rw [List.length_map, List.length_range]
theorem jok_rng {K : PySem.W.Frag} {w : Wd} {a b : Int} : JOk K w (Itr a (b - a).toNat) (rgD a b) fun _ => True where
  go := fun w' m' H' i x l hr g hx => by
    obtain ⟨hi, rfl⟩ := rgD_get hx
    refine ⟨hi, fun u H'' ⟨e3, y⟩ => ?_⟩
    subst e3; subst y
    exact ⟨w', .refl w', hr, .int _⟩
  stop := fun w' m' H' i l hr g hi => by rw [rgD_len] at hi; exact hi
theorem jok_rng3 {K : PySem.W.Frag} {w : Wd} {a c : Int} {n : Nat} : JOk K w (Itc a c n) (rgD3 a c n) fun _ => True where
  go := fun w' m' H' i x l hr g hx => by
    obtain ⟨hi, rfl⟩ := rgD3_get hx
    refine ⟨hi, fun u H'' ⟨e3, y⟩ => ?_⟩
    subst e3; subst y
    exact ⟨w', .refl w', hr, .int _⟩
  stop := fun w' m' H' i l hr g hi => by rw [rgD3_len] at hi; exact hi
theorem wi_rng1 {p : Pos} (hm : X.mg "range" = none) (h : WE X a L m fun x m1 => ∃ n, x = .int n ∧ -(2 ^ 62) ≤ n ∧ n < 2 ^ 62 ∧ QI (rgD 0 n) (fun _ => True) m1) (hg : Gl X "range" := by rfl) (hs : starEach [a] X.env = [(false, eval a X.env)] := by rfl)
    (he : starEach [a] X.env = (false, eval a X.env) :: starEach [] X.env := by rfl) : WI X tg (.Call (.Name "range" p) [a] [] pos) L m QI :=
  wi_of (pi_range1 hg hm (paU [a]) hs) fun w σ H r => WA.go (wd1 h he) r fun w1 vs ps m1 H1 l1 r1 d1 ⟨x, e1, n, e2, n1, n2, q⟩ => by
    subst e1; subst e2
    obtain ⟨v, rfl, d2⟩ := rvs1 d1
    refine ⟨n, by rw [dp_int d2], n1, n2, w1, m1, rgD 0 n, _, l1, r1.toHR, ?_, q⟩
    have := jok_rng (K := X.K) (w := w1) (a := 0) (b := n)
    rwa [Int.sub_zero] at this
theorem wi_rng3 {p : Pos} (hm : X.mg "range" = none) (h : WE X a L m fun x m1 => WE X b L m1 fun y m2 => WE X c L m2 fun z m3 => ∃ i j k n, x = .int i ∧ y = .int j ∧ z = .int k ∧ RgC i j k n ∧ QI (rgD3 i k n) (fun _ => True) m3) (hg : Gl X "range" := by rfl)
    (na : starEach [a, b, c] X.env = (false, eval a X.env) :: starEach [b, c] X.env := by rfl) (nb : starEach [b, c] X.env = (false, eval b X.env) :: starEach [c] X.env := by rfl) (nc : starEach [c] X.env = (false, eval c X.env) :: starEach [] X.env := by rfl) (hpl : (backTo pos (starEach [b, c] X.env)).any (·.1) = false := by rfl) : WI X tg (.Call (.Name "range" p) [a, b, c] [] pos) L m QI :=
  wi_of (pi_range3 hg hm (paU [a, b, c]) na hpl) fun w σ H r => WA.go (wd3 h na nb nc) r fun w1 vs ps m1 H1 l1 r1 d1 ⟨x, y, z, e0, i, j, k, n, e1, e2, e3, rg, q⟩ => by
    subst e0; subst e1; subst e2; subst e3
    obtain ⟨v, u, z, rfl, d1, d2, d3⟩ := rvs3 d1
    exact ⟨i, j, k, n, by rw [dp_int d1, dp_int d2, dp_int d3], rg, w1, m1, _, _, l1, r1.toHR, jok_rng3, q⟩
end
def enD (xs : List PyData) : List PyData := xs.zipIdx.map fun p => .tuple [.int (p.2 : Int), p.1]
theorem enD_get {xs : List PyData} {i : Nat} {x : PyData} (h : (enD xs)[i]? = some x) : ∃ y, xs[i]? = some y ∧ x = .tuple [.int (i : Int), y] := by
  unfold enD at h
  rw [List.getElem?_map, List.getElem?_zipIdx] at h
  cases e : xs[i]? with
  | none => rw [e] at h; cases h
  | some y => rw [e] at h; simp at h; exact ⟨y, rfl, h.symm⟩
theorem enD_len {xs : List PyData} : (enD xs).length = xs.length := by unfold enD; rw [List.length_map, List.length_zipIdx]
theorem HR.pair {K : PySem.W.Frag} {w : Wd} {m : Mem} {H : Hp} {T : Addr} {v u : V} {x y : PyData} (hr : HR K w m H) (hT : H T = none) (d1 : DP K w.F v x) (d2 : DP K w.F u y) : ∃ w', w.le w' ∧ HR K w' m (upd H T (.tup [v, u])) ∧ DP K w'.F (.ref T) (.tuple [x, y]) := by
  obtain ⟨l, hr2⟩ := hr.fnew (o := .tup [v, u]) hT
  exact ⟨_, l, hr2, .tup (.of upd_same) (.cons (dp_mono l.sub _ _ d1) (.cons (dp_mono l.sub _ _ d2) .nil))⟩
set_option maxHeartbeats 1000000 in
theorem meets_enumerate_new1 {v : Value} {o : Obj} {H : Heap → Prop} (B : Begins v o H) :
    Meets (Builtin.«enumerate.__new__» ⟨[.type "enumerate", v], []⟩) (fun _ R s => H s.heap ∧
      R (.ok (.ret (.ref (s.heap.push o).objs.size))) { s with heap := (s.heap.push o).push { cls := .type "enumerate", data := .fields #[.none, .bool false, .ref s.heap.objs.size, rawInt 0, .none, .none] } }) :=
  .of_wp fun prog w A R s h => by
    obtain ⟨hp, g, d, tk, os⟩ := s; obtain ⟨h1, h⟩ := h
    have hsub := sub_enumerate
    have q1 : ∀ {A' : Around} {E : Value → Shared → Prop} {Q : Value → Shared → Prop}, Q (.ref hp.objs.size) ⟨hp.push o, g, d, tk, os⟩ → wpAny (model prog w) A' (pyIter v) Q E ⟨hp, g, d, tk, os⟩ :=
      fun q => B.iter prog w _ _ ⟨hp, g, d, tk, os⟩ _ h1 q
    wp_walk using q1
    refine wpAny_stack_any fun st => wpAny_pure ?_
    split
    · rename_i c _ _ _ _ _
      cases (c == Value.type "enumerate")
      · wp_walk using q1
        exact ⟨_, rfl, h⟩
      · wp_walk using q1
        exact ⟨_, rfl, h⟩
    · wp_walk using q1
      exact ⟨_, rfl, h⟩
section
variable {prog : Program} {w : World} {A : Around} {E : Value → Shared → Prop} {s : Shared}
theorem enum_begins1 {v : Value} {o : Obj} {H : Heap → Prop} {Q : Value → Shared → Prop} (B : Begins v o H) (h1 : H s.heap)
    (h : ∀ h', IsEnum h' (s.heap.objs.size + 1) s.heap.objs.size 0 .none → h'.get? s.heap.objs.size = some o → h'.objs.size = s.heap.objs.size + 2 →
      (∀ b o, s.heap.get? b = some o → h'.get? b = some o) → Q (.ref (s.heap.objs.size + 1)) { s with heap := h' }) :
    wpAny (model prog w) A (call (.type "enumerate") [v]) Q E s := by
  refine callType_new F.called_enumerate (by decide) (F.typeCall_enumerate_1 _) (F.newCall_enumerate_1 _) (fun obj => F.args_object_init_2 obj _) F.entry_enumerate_new
    (meets_enumerate_new1 B) ⟨h1, ?_⟩
  have hz : (s.heap.push o).objs.size = s.heap.objs.size + 1 := Heap.size_push ..
  show _ ∧ _
  rw [hz]
  have he : IsEnum ((s.heap.push o).push { cls := .type "enumerate", data := .fields #[.none, .bool false, .ref s.heap.objs.size, rawInt 0, .none, .none] }) (s.heap.objs.size + 1) s.heap.objs.size 0 .none := by
    have := Heap.get?_push_size (s.heap.push o) (o := { cls := .type "enumerate", data := .fields #[.none, .bool false, .ref s.heap.objs.size, rawInt 0, .none, .none] }) rfl
    rw [hz] at this; exact this
  refine ⟨⟨_, he, rfl⟩, h _ he (Heap.get?_push_of_some _ (Heap.get?_push_size _ B.free)) (by rw [Heap.size_push, hz]) fun b o x => Heap.get?_push_of_some _ (Heap.get?_push_of_some _ x)⟩
end
def IteT (K : PySem.W.Frag) (a : Addr) : It :=
  ⟨fun i H => ∃ (xs : List V) (x : V), SqT K H a xs ∧ xs[i]? = some x, fun i H v H' => ∃ T x, v = .ref T ∧ H T = none ∧ H' = upd H T (.tup [.int (i : Nat), x]) ∧ ∀ xs, SqT K H a xs → xs[i]? = some x, fun i H => ∃ xs : List V, SqT K H a xs ∧ xs.length ≤ i⟩
theorem turn_enumT {P : Program} {w : World} {K : PySem.W.Frag} {elts : List Expr} {kk : Nat} {tpos : Pos} (a e it : Addr) (items : Array Value) :
    Turn P w K (.Tuple elts kk tpos) (IteT K a) [e, it] e (fun i h => (∃ old, IsEnum h e it ((i : Nat) : Int) old) ∧ h.IsTupleIter it a i ∧ e ≠ it) where
  mem := by simp
  obj := fun i h st b hb => by
    obtain ⟨⟨old, he⟩, ⟨o, ho, hc, hd⟩, _⟩ := st
    have e' : b = e ∨ b = it := by simpa using hb
    rcases e' with z | z
    · rw [z]; exact ⟨_, he, fun v q => nomatch q⟩
    · rw [z]; exact ⟨o, ho, fun v q => by rw [hd] at q; cases q⟩
  keep := fun i h h' st k => let ⟨⟨old, he⟩, hi, hne⟩ := st; ⟨⟨old, k e (by simp) _ he⟩, hi.at fun o q => k it (by simp) o q, hne⟩
  item := by
    intro X hP hw hK hc i pins s σ H E I hf st hg
    subst hP hw hK
    obtain ⟨⟨old, he⟩, hit, hne⟩ := st
    obtain ⟨xs, x, hq, hx⟩ := hg
    obtain ⟨its, rv, p, hz⟩ := I.tuple hq
    obtain ⟨u, hu, ru⟩ := rv.get hx
    have hel : e < s.heap.objs.size := Heap.lt_size he
    have hil : it < s.heap.objs.size := by obtain ⟨_, q, _⟩ := hit; exact Heap.lt_size q
    have hpt : s.heap.IsTuple a its.toArray := p
    obtain ⟨oa, hoa, hca, na, hda⟩ := hpt
    have hne2 : a ≠ it := fun z => by
      obtain ⟨oi, hoi, hci, hdi⟩ := hit
      rw [z, hoi] at hoa; cases hoa; rw [hdi] at hda; cases hda
    have hea : e ≠ a := fun z => by
      have he2 : s.heap.get? e = _ := he
      rw [z, hoa] at he2
      have := Option.some.inj he2
      rw [this] at hda
      cases hda
    have D := Draws.tuple (prog := X.prog) (w := X.w) (A := X.A.in1) (I.ok.hd hc) it a hne2 its.toArray
    refine wpAny_pyNext_enum_itemD D he ⟨hit, p⟩ (by rw [List.size_toArray]; exact (List.getElem?_eq_some_iff.mp hu).1) hne (by simp [hne, hea]) fun y h' tk hy ho hst' hT hsz hk => ?_
    have ey : y = u := by
      have hy' : its[i]? = some y := by simpa using hy
      rw [hu] at hy'; exact (Option.some.inj hy').symm
    subst ey
    refine ⟨_, rfl, wpAny_letOwnedTupleGo_enum (s := { s with heap := h', toks := tk + 1 }) ho fun h'' he' sb => ?_⟩
    have hT2 : h''.get? s.heap.objs.size = some { cls := .type "tuple", data := .seq #[.int i tk, y] } := (sb.2 _ (Nat.ne_of_gt hel)).trans hT
    have new : ObjOk X.prog X.w (upd H s.heap.objs.size (.tup [.int (i : Nat), x])) h'' s.heap.objs.size (.tup [.int (i : Nat), x]) :=
      ⟨by show 2 ≤ sizeLine; decide, [.int i tk, y], .cons ⟨_, rfl⟩ (.cons ru .nil), ⟨_, hT2, rfl, _, rfl⟩⟩
    have I1 : Inv X pins σ (upd H s.heap.objs.size (.tup [.int (i : Nat), x])) { s with heap := h'', toks := tk + 1 } :=
      I.turnedNew (ch := [e, it]) (fun b ob hb q => (sb.2 b (fun z => hb (by simp [z]))).trans (hk b ob (fun z => hb (by simp [z])) (fun z => hb (by simp [z])) q)) hf (Nat.le_refl _) new
    refine ⟨.ref s.heap.objs.size, _, I1, rfl, ⟨_, x, rfl, I.hok.fresh (Nat.le_refl _), rfl, fun ys hy => by rw [I.tuple_inj hy hq]; exact hx⟩, ⟨⟨y, ?_⟩, hst'.1.at fun o q => (sb.2 it (Ne.symm hne)).trans q, hne⟩, fun b hb => ?_⟩
    · have e1 : ((i + 1 : Nat) : Int) = (i : Int) + 1 := by omega
      rw [e1]; exact he'
    · have hb' : b < s.heap.objs.size := by
        have e' : b = e ∨ b = it := by simpa using hb
        rcases e' with z | z
        · rw [z]; exact hel
        · rw [z]; exact hil
      rw [upd_ne (Nat.ne_of_lt hb')]
      exact (hf b hb).1
  done := by
    intro X hP hw hK hc i pins s σ H E I hf st hg
    subst hP hw hK
    obtain ⟨⟨old, he⟩, hit, hne⟩ := st
    obtain ⟨xs, hq, hx⟩ := hg
    obtain ⟨its, rv, p, hz⟩ := I.tuple hq
    obtain ⟨f0, f1, f2, f3, f4, f5⟩ := hf it (by simp)
    have hl := rv.length
    have hpt : s.heap.IsTuple a its.toArray := p
    obtain ⟨oa, hoa, hca, na, hda⟩ := hpt
    have hne2 : a ≠ it := fun z => by
      obtain ⟨oi, hoi, hci, hdi⟩ := hit
      rw [z, hoi] at hoa; cases hoa; rw [hdi] at hda; cases hda
    have hT : s.TypeIs (.ref e) "enumerate" := ⟨_, he, rfl⟩
    unfold pyNext
    refine wpAny_bind (wpAny_attempt (wpAny_callSpecial?_slot (name := Str.ofString "__next__") hT F.slot_enumerate_next
      (wpAny_call_entry F.slot_enumerate_next hT F.entry_enumerate_next ?_ (F.args_enumerate_next_1 _))))
    show wpAny _ _ (field (.ref e) 2 >>= _) _ _ _
    refine wpAny_bind (wpAny_field he rfl (x := .ref it) rfl ?_)
    refine wpAny_bind (wpAny_nextOf_tuple_end (I.ok.hd hc) hit p (by simp; omega) fun h' x he' hx' => ?_)
    obtain ⟨o, ho, hc⟩ := hx'
    refine wpAny_bind (wpAny_isInstance (T := "StopIteration") (b := true) ⟨o, ho, hc⟩ isSubtype_stop ?_)
    exact wpAny_pure ⟨rfl, I.turned (t' := s.toks) (fun b o hb q => he' b o hb q) f0 f1 f3 f4 f5⟩
  self := fun A i s Q E st h => let ⟨⟨_, he⟩, _⟩ := st; wpAny_pyIter_enum he h
section
variable {X : Cx} {L : Loc} {m : Mem} {e a b c tg : Expr} {pos : Pos} {QI : List PyData → (Mem → Prop) → Mem → Prop}
theorem pi_enumT {e : Expr} {ta : TA} {p pos tpos : Pos} {elts : List Expr} {kk : Nat} (hg : Gl X "enumerate") (hm : X.mg "enumerate" = none) (ha : PA X [e] ta) (hs : starEach [e] X.env = [(false, eval e X.env)] := by rfl) :
    PI X (.Tuple elts kk tpos) (.Call (.Name "enumerate" p) [e] [] pos) (fun σ H R => ta σ H fun vs H1 => ∃ a xs, vs = [.ref a] ∧ SqT X.K H1 a xs ∧ R (IteT X.K a) H1) := by
  refine ⟨fun pins s σ H R I h => ?_⟩
  refine Call_ (ld_blt I hg hm boot_enumerate (PyProof.Rows.callWith_type1 (thn (ha.run pos pins s σ H _ I h) fun us s1 ⟨vs, H1, I1, r1, q1⟩ => ?_) hs rfl))
  obtain ⟨a, xs, ex, hq, q⟩ := q1
  subst ex
  cases r1 with
  | cons r rr =>
    cases rr
    cases r
    obtain ⟨its, rv, p', hz⟩ := I1.tuple hq
    refine enum_begins1 (begins_tuple a its.toArray) p' fun h' he hit hsz hk => wpAny_pyIter_enum he ?_
    have I2 : Inv X pins σ H1 { s1 with heap := h' } := I1.kept (t' := s1.toks) hk
    refine ⟨s1.heap.objs.size + 1, [s1.heap.objs.size + 1, s1.heap.objs.size], _, _, H1, rfl, I2, turn_enumT a (s1.heap.objs.size + 1) s1.heap.objs.size its.toArray, ⟨⟨.none, he⟩, ⟨_, hit, rfl, rfl⟩, Nat.succ_ne_self _⟩, fun b hb => ?_, q⟩
    have e' : b = s1.heap.objs.size + 1 ∨ b = s1.heap.objs.size := by simpa using hb
    have hle : s1.heap.objs.size ≤ b := by
      rcases e' with z | z
      · rw [z]; exact Nat.le_add_right _ _
      · rw [z]; exact Nat.le_refl _
    exact I1.fpOk hle (I1.hok.fresh hle)
theorem wi_enumT {p tpos : Pos} {elts : List Expr} {kk : Nat} (hm : X.mg "enumerate" = none) (h : WE X a L m fun x m1 => ∃ xs, x = .tuple xs ∧ QI (enD xs) (fun _ => True) m1) (hg : Gl X "enumerate" := by rfl) (hs : starEach [a] X.env = [(false, eval a X.env)] := by rfl)
    (he : starEach [a] X.env = (false, eval a X.env) :: starEach [] X.env := by rfl) : WI X (.Tuple elts kk tpos) (.Call (.Name "enumerate" p) [a] [] pos) L m QI :=
  wi_of (pi_enumT hg hm (paU [a]) hs) fun w σ H r => WA.go (wd1 h he) r fun w1 vs ps m1 H1 l1 r1 d1 ⟨x, e1, xs, e2, q⟩ => by
    subst e1; subst e2
    obtain ⟨v, rfl, d2⟩ := rvs1 d1
    obtain ⟨ad, vs, rfl, e3, d⟩ := dp_tuple d2
    refine ⟨ad, vs, rfl, r1.toHR.fz.sqt e3, w1, m1, enD xs, _, l1, r1.toHR, ⟨fun w' m' H' i x l hr _ hx => ?_, fun w' m' H' i l hr _ hi => ?_⟩, q⟩
    · obtain ⟨y, hy, rfl⟩ := enD_get hx
      obtain ⟨ad', vs', e4, e5, d'⟩ := dp_tuple (dp_mono l.sub _ _ d2)
      cases e4
      obtain ⟨v, hv, dv⟩ := dpa_get d' hy
      have e5 := hr.fz.sqt e5
      refine ⟨⟨vs', v, e5, hv⟩, fun u H'' ⟨T, x, e6, hT, e7, yy⟩ => ?_⟩
      have : x = v := Option.some.inj ((yy vs' e5).symm.trans hv)
      subst this; subst e6; subst e7
      exact hr.pair hT (.int _) dv
    · obtain ⟨ad', vs', e4, e5, d'⟩ := dp_tuple (dp_mono l.sub _ _ d2)
      cases e4
      rw [enD_len] at hi
      exact ⟨vs', hr.fz.sqt e5, by rw [dpa_len d']; exact hi⟩
end
end PP
namespace PP
open PySem PySem.Spec PyProof.Rows L2
section
variable {K : PySem.W.Frag} {w w' : Wd} {L : PP.Loc} {m m' : Mem} {σ : L2.St} {H H' : Hp} {D : Addr} {o o' : HO}
theorem Rep.go0 (h : Rep K w L m σ H) (l : w.le0 w') (r : HR K w' m' H') : Rep K w' L m' σ H' :=
  ⟨r, h.sl, fun i p e => let ⟨v, e1, q⟩ := h.loc i p e; ⟨v, e1, q.mono l⟩⟩
def Wd.hide (w : Wd) (D : Addr) (o : HO) : Wd := { w with T := (D, o) :: w.T }
theorem Wd.le0_hide (w : Wd) (D : Addr) (o : HO) : w.le0 (w.hide D o) := ⟨⟨[], by simp [Wd.hide]⟩, Sub.refl _⟩
theorem HR.hide (h : HR K w m H) (u : Un1 w D) (e : H D = some o) : HR K (w.hide D o) m H :=
  ⟨h.fz, h.len, h.nd, h.sep, h.occ, fun p hp => by
    rcases List.mem_cons.mp hp with z | z
    · subst z; exact ⟨e, u.f, u.a⟩
    · exact h.tp p z, by
    show ((D, o) :: w.T |>.map (·.1)).Nodup
    rw [List.map_cons, List.nodup_cons]
    exact ⟨u.t, h.tnd⟩, fun k c e => let ⟨a, x, e1, e2, r⟩ := h.cell k c e; ⟨a, x, e1, e2, r.mono (Sub.refl _)⟩⟩
theorem HR.unhide (h : HR K (w.hide D o) m H) : HR K w m H ∧ Un1 w D ∧ H D = some o := by
  obtain ⟨e1, e2, e3⟩ := h.tp (D, o) List.mem_cons_self
  have nd : ((D, o) :: w.T |>.map (·.1)).Nodup := h.tnd
  rw [List.map_cons, List.nodup_cons] at nd
  exact ⟨⟨h.fz, h.len, h.nd, h.sep, h.occ, fun p hp => h.tp p (List.mem_cons_of_mem _ hp), nd.2, fun k c e => let ⟨a, x, e1, e2, r⟩ := h.cell k c e; ⟨a, x, e1, e2, r.mono (Sub.refl _)⟩⟩, ⟨e2, e3, nd.1⟩, e1⟩
theorem HR.updUn (h : HR K w m H) (u : Un1 w D) : HR K w m (upd H D o) := by
  refine ⟨fun a x e => ?_, h.len, h.nd, h.sep, fun a ha => ?_, fun q hq => ?_, h.tnd, fun k c e => ?_⟩
  · have hne : a ≠ D := fun z => by rw [z, u.f] at e; cases e
    rw [upd_ne hne]; exact h.fz a x e
  · have hne : a ≠ D := fun z => u.a (z ▸ ha)
    rw [upd_ne hne]; exact h.occ a ha
  · obtain ⟨e1, e2, e3⟩ := h.tp q hq
    have hne : q.1 ≠ D := fun z => u.t (z ▸ List.mem_map_of_mem hq)
    exact ⟨by rw [upd_ne hne]; exact e1, e2, e3⟩
  · obtain ⟨a, x, e1, e2, r⟩ := h.cell k c e
    have hne : a ≠ D := fun z => u.a (z ▸ List.mem_of_getElem? e1)
    exact ⟨a, x, e1, by rw [upd_ne hne]; exact e2, r⟩
theorem le_hide {w'' : Wd} (l : (w.hide D o).le w'') : ∃ w3, w'' = w3.hide D o ∧ w.le w3 := by
  refine ⟨{ w'' with T := w.T }, ?_, ⟨⟨l.pre, l.sub⟩, rfl⟩⟩
  obtain ⟨A, T, F⟩ := w''
  have e : T = (D, o) :: w.T := l.hid
  subst e
  rfl
def wipeL (L : PP.Loc) : List Nat → PP.Loc
  | [] => L
  | v :: vs => (wipeL L vs).set v none
theorem wipeL_length (L : PP.Loc) : ∀ vs : List Nat, (wipeL L vs).length = L.length
  | [] => rfl
  | v :: vs => by unfold wipeL; rw [List.length_set, wipeL_length L vs]
theorem wipeL_some {i : Nat} {x : PV} : ∀ {vs : List Nat}, (wipeL L vs)[i]? = some (some x) → L[i]? = some (some x) ∧ i ∉ vs
  | [], h => ⟨h, by simp⟩
  | v :: vs, h => by
    unfold wipeL at h
    by_cases hi : v = i
    · subst hi
      by_cases hv : v < (wipeL L vs).length
      · rw [List.getElem?_set_self hv] at h; cases h
      · rw [List.getElem?_eq_none (by simpa using hv)] at h; cases h
    · rw [List.getElem?_set_ne hi] at h
      obtain ⟨h1, h2⟩ := wipeL_some h
      exact ⟨h1, by simp only [List.mem_cons, not_or]; exact ⟨fun e => hi e.symm, h2⟩⟩
theorem Rep.wipe (h : Rep K w L m σ H) (vs : List Nat) : Rep K w (wipeL L vs) m (L2.wipe σ vs) H :=
  ⟨h.toHR, by rw [wipe_length, wipeL_length]; exact h.sl, fun i p e => by
    obtain ⟨e1, hi⟩ := wipeL_some e
    obtain ⟨v, e2, d⟩ := h.loc i p e1
    exact ⟨v, by rw [wipe_out hi]; exact e2, d⟩⟩
theorem wipe_in {i : Nat} : ∀ {vs : List Nat}, i ∈ vs → i < σ.length → (L2.wipe σ vs)[i]? = some none
  | v :: vs, h, hl => by
    unfold L2.wipe
    by_cases e : v = i
    · subst e
      rw [List.getElem?_set_self (by rw [wipe_length]; exact hl)]
    · rw [List.getElem?_set_ne e]
      exact wipe_in ((List.mem_cons.mp h).resolve_left (Ne.symm e)) hl
theorem wipe_eq {σ' : L2.St} {vs : List Nat} (hl : σ'.length = σ.length) (h : ∀ i, i ∉ vs → σ'[i]? = (L2.wipe σ vs)[i]?) : L2.wipe σ' vs = L2.wipe σ vs := by
  apply List.ext_getElem?
  intro i
  by_cases hi : i ∈ vs
  · by_cases hs : i < σ.length
    · rw [wipe_in hi (by omega), wipe_in hi hs]
    · rw [List.getElem?_eq_none (by rw [wipe_length]; omega), List.getElem?_eq_none (by rw [wipe_length]; omega)]
  · rw [wipe_out hi, h i hi]
end
inductive Pat where
  | nm (j : Nat)
  | tp (js : List Nat)
def gNames : List Nat → TGs
  | [] => gNil
  | j :: js => gCons (gName j) (gNames js)
def gP (K : PySem.W.Frag) : Pat → TG
  | .nm j => gName j
  | .tp js => gTup K js.length (gNames js)
def Pat.slots : Pat → List Nat
  | .nm j => [j]
  | .tp js => js
def setN (L : PP.Loc) : List Nat → List PyData → PP.Loc
  | j :: js, x :: xs => setN (L.set j (some (.d x))) js xs
  | _, _ => L
def setP (L : PP.Loc) : Pat → PyData → Option PP.Loc
  | .nm j, x => some (L.set j (some (.d x)))
  | .tp js, .tuple xs => if xs.length = js.length then some (setN L js xs) else none
  | .tp _, _ => none
section
variable {K : PySem.W.Frag} {w : Wd} {m : Mem}
theorem gNames_ok {H : Hp} {Q : L2.St → Hp → Prop} {vsl : List Nat} : ∀ {js : List Nat} {xs : List PyData} {vs : List V} {σ : L2.St} {L : PP.Loc}, xs.length = js.length → DPs K w.F vs xs → Rep K w L m σ H → (∀ j ∈ js, j ∈ vsl) →
    (∀ σ', σ'.length = σ.length → Rep K w (setN L js xs) m σ' H → (∀ i, i ∉ vsl → σ'[i]? = σ[i]?) → Q σ' H) → gNames js vs σ H Q
  | [], [], _, σ, L, _, d, r, _, k => by
    cases d
    exact ⟨rfl, k σ rfl r fun _ _ => rfl⟩
  | j :: js, x :: xs, _, σ, L, hl, d, r, hj, k => by
    cases d with
    | cons d1 d2 =>
      refine ⟨_, _, rfl, ?_⟩
      show gNames js _ (σ.set j (some _)) H Q
      refine gNames_ok (by simpa using hl) d2 (r.set (p := .d x) d1) (fun i hi => hj i (List.mem_cons_of_mem _ hi)) fun σ' e1 r' h' => k σ' (by rw [e1, List.length_set]) r' fun i hi => ?_
      rw [h' i hi, List.getElem?_set_ne (fun z => hi (by rw [← z]; exact hj j List.mem_cons_self))]
  | [], _ :: _, _, _, _, hl, _, _, _, _ => by simp at hl
  | _ :: _, [], _, _, _, hl, _, _, _, _ => by simp at hl
theorem gP_ok {H : Hp} {σ : L2.St} {L Lx : PP.Loc} {Q : L2.St → Hp → Prop} {vsl : List Nat} {pat : Pat} {x : PyData} {v : V} (d : DP K w.F v x) (r : Rep K w L m σ H) (hp : ∀ j ∈ pat.slots, j ∈ vsl) (hs : setP L pat x = some Lx)
    (k : ∀ σ', σ'.length = σ.length → Rep K w Lx m σ' H → (∀ i, i ∉ vsl → σ'[i]? = σ[i]?) → Q σ' H) : gP K pat v σ H Q := by
  cases pat with
  | nm j =>
    cases hs
    exact k _ (List.length_set ..) (r.set (p := .d x) d) fun i hi => by rw [List.getElem?_set_ne (fun z => hi (by rw [← z]; exact hp j List.mem_cons_self))]
  | tp js =>
    cases x with
    | tuple xs =>
      have hs : (if xs.length = js.length then some (setN L js xs) else none) = some Lx := hs
      split at hs
      · rename_i hl
        cases hs
        obtain ⟨a, vs, rfl, e1, d1⟩ := dp_tuple d
        exact ⟨a, vs, rfl, r.toHR.fz.sqt e1, by rw [dpa_len d1]; exact hl, gNames_ok hl d1 r hp k⟩
      · cases hs
    | none => cases hs
    | bool _ => cases hs
    | int _ => cases hs
    | str _ => cases hs
    | list _ => cases hs
    | dict _ => cases hs
end
abbrev BX (X : Cx) (scope : Scope) (s : Shared) (H : Hp) (C : Addr) (cl : List (Str × Addr)) (fp : List Addr) : Cx := X.blk s H scope (compEnvC scope cl C X.env) fp
def WEb (X : Cx) (scope : Scope) (e : Expr) (L : PP.Loc) (m : Mem) (Q : QE) : Prop := ∀ (s : Shared) (H : Hp) (C : Addr) (cl : List (Str × Addr)) (fp : List Addr), WE (BX X scope s H C cl fp) e L m Q
def WTb (X : Cx) (scope : Scope) (e : Expr) (L : PP.Loc) (m : Mem) (Q : Bool → Mem → Prop) : Prop := ∀ (s : Shared) (H : Hp) (C : Addr) (cl : List (Str × Addr)) (fp : List Addr), WT (BX X scope s H C cl fp) e L m Q
section
variable {X : Cx} {L : PP.Loc} {m : Mem} {elt tg iter c : Expr} {ifs : List Expr} {scope : Scope} {own : List (Str × Nat)} {pos : Pos} {pat : Pat} {Q : List PyData → Mem → Prop}
theorem lc_read {tt : TT} {te : TE} {w : Wd} {σ : L2.St} {H : Hp} (rp : Rep X.K w L m σ H) (hp : ∀ j ∈ pat.slots, j ∈ own.map (·.2))
    (h : WI X tg iter L m fun xs g m1 => xs.length ≤ sizeLine ∧ ∃ I : Nat → List PyData → Mem → Prop, I 0 [] m1 ∧
      (∀ (i : Nat) (x : PyData) (ys : List PyData) (m' : Mem), xs[i]? = some x → ys.length ≤ i → I i ys m' → g m' ∧ ∃ Lx, setP (wipeL L (own.map (·.2))) pat x = some Lx ∧
        ∀ (w : Wd) (σ : L2.St) (H : Hp), Rep X.K w Lx m' σ H → tt σ H fun b H3 => ∃ w3 m3, w.le w3 ∧ HR X.K w3 m3 H3 ∧ (b = true → ∀ (w : Wd) (H : Hp), Rep X.K w Lx m3 σ H → te σ H (POE X.K w fun y m4 => I (i + 1) (ys ++ [y]) m4)) ∧ (b = false → I (i + 1) ys m3)) ∧
      ∀ ys m', ys.length ≤ xs.length → I xs.length ys m' → g m' ∧ Q ys m')
    (ttm : ∀ (σ : L2.St) (H : Hp) (Q Q' : Bool → Hp → Prop), (∀ b H', Q b H' → Q' b H') → tt σ H Q → tt σ H Q') (tem : ∀ (σ : L2.St) (H : Hp) (Q Q' : VK), (∀ b H', Q b H' → Q' b H') → te σ H Q → te σ H Q') :
    tLc (tUI X tg iter) (gP X.K pat) tt te (own.map (·.2)) σ H (PF X.K w Q) := by
  refine h.go rp fun w1 J xs g m1 H1 l1 r1 jo ⟨hz, I, i0, it, ie⟩ => ?_
  intro D hD
  generalize hvs : own.map (·.2) = vs at *
  obtain ⟨hr0, u0⟩ := r1.toHR.un (o := .lst []) hD
  refine ⟨fun i n H' => n = xs.length - i ∧ i ≤ xs.length ∧ ∃ w' m' ys us, w1.le w' ∧ HR X.K (w'.hide D (.lst us)) m' H' ∧ DPs X.K w'.F us ys ∧ ys.length ≤ i ∧ I i ys m', ⟨xs.length, by simp, Nat.zero_le _, w1, m1, [], [], .refl w1, hr0.hide u0 upd_same, .nil, Nat.le_refl _, i0⟩, ?_⟩
  rintro i n H' ⟨rfl, hi, w', m', ys, us, l', hr', d', hy, q⟩
  by_cases hlt : i < xs.length
  · refine .inr ?_
    have hx : xs[i]? = some xs[i] := List.getElem?_eq_getElem hlt
    obtain ⟨gm, Lx, hs, tst⟩ := it i _ ys m' hx hy q
    obtain ⟨jg, jy⟩ := jo.go (w'.hide D (.lst us)) m' H' i _ (l'.toLe0.trans (Wd.le0_hide _ _ _)) hr' gm hx
    refine ⟨jg, fun H2 => ∃ w2 m2 ys us, w1.le w2 ∧ HR X.K (w2.hide D (.lst us)) m2 H2 ∧ DPs X.K w2.F us ys ∧ ys.length ≤ i + 1 ∧ I (i + 1) ys m2, fun H2 ⟨w2, m2, ys, us, a, b, c, d, e⟩ => ⟨xs.length - (i + 1), by omega, rfl, hlt, w2, m2, ys, us, a, b, c, d, e⟩, fun v H'' y => ?_⟩
    obtain ⟨w2, l2, hr2, d2⟩ := jy v H'' y
    obtain ⟨w3, rfl, l3⟩ := le_hide l2
    have r2 : Rep X.K (w3.hide D (.lst us)) L m' σ H'' := r1.go0 ((l'.trans l3).toLe0.trans (Wd.le0_hide _ _ _)) hr2
    refine gP_ok d2 (r2.wipe vs) hp hs fun σ' e1 r3 e2 => ⟨?_, ?_⟩
    · exact wipe_eq (by rw [e1, wipe_length]) e2
    refine ttm _ _ _ _ (fun b H3 ⟨w4, m3, l4, hr4, qt, qf⟩ => ?_) (tst _ σ' H'' r3)
    obtain ⟨w5, rfl, l5⟩ := le_hide l4
    cases b with
    | true =>
      rw [if_pos rfl]
      refine tem _ _ _ _ (fun v4 H4 ⟨w6, y, m4, l6, hr6, d6, q6⟩ => ?_) (qt rfl _ H3 (r3.go l4 hr4))
      obtain ⟨w7, rfl, l7⟩ := le_hide l6
      obtain ⟨hr7, u7, e7⟩ := hr6.unhide
      have lall : w'.le w7 := (l3.trans l5).trans l7
      have dus := dpa_mono lall.sub _ _ d'
      refine ⟨us, e7, by rw [dpa_len d']; omega, w7, m4, ys ++ [y], us ++ [v4], l'.trans lall, (hr7.updUn u7).hide u7 upd_same, dpa_app dus (.cons d6 .nil), by rw [List.length_append]; simp; omega, q6⟩
    | false =>
      rw [if_neg Bool.false_ne_true]
      have lall : w'.le w5 := l3.trans l5
      exact ⟨w5, m3, ys, us, l'.trans lall, hr4, dpa_mono lall.sub _ _ d', by omega, qf rfl⟩
  · have e : i = xs.length := by omega
    subst e
    obtain ⟨gm, qd⟩ := ie ys m' hy q
    obtain ⟨hr7, u7, e7⟩ := hr'.unhide
    exact .inl ⟨jo.stop (w'.hide D (.lst us)) m' H' _ (l'.toLe0.trans (Wd.le0_hide _ _ _)) hr' gm (Nat.le_refl _), w', ys, m', D, us, rfl, l1.trans l', hr7, e7, u7, d', qd⟩
def tUb (X : Cx) (scope : Scope) (e : Expr) : TE := fun σ H Q => ∀ (s : Shared) (H0 : Hp) (C : Addr) (cl : List (Str × Addr)) (fp : List Addr), tU (BX X scope s H0 C cl fp) e σ H Q
def tUTb (X : Cx) (scope : Scope) (e : Expr) : TT := fun σ H Q => ∀ (s : Shared) (H0 : Hp) (C : Addr) (cl : List (Str × Addr)) (fp : List Addr), tUT (BX X scope s H0 C cl fp) e σ H Q
theorem peUb (e : Expr) (s : Shared) (H : Hp) (C : Addr) (cl : List (Str × Addr)) (fp : List Addr) : PE (BX X scope s H C cl fp) e (tUb X scope e) := ⟨fun pins s1 _ _ _ I h => h s H C cl fp pins s1 I⟩
theorem ptUb (e : Expr) (s : Shared) (H : Hp) (C : Addr) (cl : List (Str × Addr)) (fp : List Addr) : PT (BX X scope s H C cl fp) e (tUTb X scope e) := ⟨fun pins s1 _ _ _ I h => h s H C cl fp pins s1 I⟩
abbrev LcAsk (X : Cx) (L : PP.Loc) (m : Mem) (elt tg iter : Expr) (scope : Scope) (own : List (Str × Nat)) (pat : Pat) (Q : List PyData → Mem → Prop) : Prop :=
  WI X tg iter L m fun xs g m1 => xs.length ≤ sizeLine ∧ ∃ I : Nat → List PyData → Mem → Prop, I 0 [] m1 ∧
      (∀ (i : Nat) (x : PyData) (ys : List PyData) (m' : Mem), xs[i]? = some x → ys.length ≤ i → I i ys m' → g m' ∧ ∃ Lx, setP (wipeL L (own.map (·.2))) pat x = some Lx ∧ WEb X scope elt Lx m' fun y m4 => I (i + 1) (ys ++ [y]) m4) ∧
      ∀ ys m', ys.length ≤ xs.length → I xs.length ys m' → g m' ∧ Q ys m'
abbrev LcAsk1 (X : Cx) (L : PP.Loc) (m : Mem) (elt tg iter c : Expr) (scope : Scope) (own : List (Str × Nat)) (pat : Pat) (Q : List PyData → Mem → Prop) : Prop :=
  WI X tg iter L m fun xs g m1 => xs.length ≤ sizeLine ∧ ∃ I : Nat → List PyData → Mem → Prop, I 0 [] m1 ∧
      (∀ (i : Nat) (x : PyData) (ys : List PyData) (m' : Mem), xs[i]? = some x → ys.length ≤ i → I i ys m' → g m' ∧ ∃ Lx, setP (wipeL L (own.map (·.2))) pat x = some Lx ∧
        WTb X scope c Lx m' fun b m3 => (b = true → WEb X scope elt Lx m3 fun y m4 => I (i + 1) (ys ++ [y]) m4) ∧ (b = false → I (i + 1) ys m3)) ∧
      ∀ ys m', ys.length ≤ xs.length → I xs.length ys m' → g m' ∧ Q ys m'
theorem lc_read0 {w : Wd} {σ : L2.St} {H : Hp} (rp : Rep X.K w L m σ H) (hp : ∀ j ∈ pat.slots, j ∈ own.map (·.2)) (h : LcAsk X L m elt tg iter scope own pat Q) : tLc (tUI X tg iter) (gP X.K pat) tYes (tUb X scope elt) (own.map (·.2)) σ H (PF X.K w Q) :=
  lc_read rp hp (fun w σ H r => tUI_mono (h w σ H r) fun J H1 ⟨w1, m1, xs, g, l, hr, jo, hz, I, i0, it, ie⟩ => ⟨w1, m1, xs, g, l, hr, jo, hz, I, i0, fun i x ys m' hx hy q => let ⟨gm, Lx, hs, k⟩ := it i x ys m' hx hy q; ⟨gm, Lx, hs, fun w σ H r => ⟨w, m', .refl w, r.toHR, fun _ w H r s H0 C cl fp => k s H0 C cl fp w σ H r, fun z => by cases z⟩⟩, ie⟩)
    (fun _ _ _ _ k h => k _ _ h) (fun _ _ _ _ k h s H0 C cl fp => tU_mono (h s H0 C cl fp) k)
theorem lc_read1 {w : Wd} {σ : L2.St} {H : Hp} (rp : Rep X.K w L m σ H) (hp : ∀ j ∈ pat.slots, j ∈ own.map (·.2)) (h : LcAsk1 X L m elt tg iter c scope own pat Q) : tLc (tUI X tg iter) (gP X.K pat) (tUTb X scope c) (tUb X scope elt) (own.map (·.2)) σ H (PF X.K w Q) :=
  lc_read rp hp (fun w σ H r => tUI_mono (h w σ H r) fun J H1 ⟨w1, m1, xs, g, l, hr, jo, hz, I, i0, it, ie⟩ => ⟨w1, m1, xs, g, l, hr, jo, hz, I, i0, fun i x ys m' hx hy q => let ⟨gm, Lx, hs, k⟩ := it i x ys m' hx hy q; ⟨gm, Lx, hs, fun w σ H r s H0 C cl fp => tUT_mono (k s H0 C cl fp w σ H r) fun b H3 ⟨w3, m3, l3, hr3, qt, qf⟩ => ⟨w3, m3, l3, hr3, fun hb w H r s H0 C cl fp => qt hb s H0 C cl fp w σ H r, qf⟩⟩, ie⟩)
    (fun _ _ _ _ k h s H0 C cl fp => tUT_mono (h s H0 C cl fp) k) (fun _ _ _ _ k h s H0 C cl fp => tU_mono (h s H0 C cl fp) k)
theorem wf_lc (own : List (Str × Nat)) (pat : Pat) (hc : X.calm = true) (hN : X.N.Nodup) (ok : BlkOk X.N X.env.scope scope own) (hg : ∀ (s : Shared) (H : Hp) (C : Addr) (cl : List (Str × Addr)) (fp : List Addr), PG (BX X scope s H C cl fp) tg (gP X.K pat)) (hp : ∀ j ∈ pat.slots, j ∈ own.map (·.2))
    (h : LcAsk X L m elt tg iter scope own pat Q) (hs : ∀ x, foldedSetIterable iter X.env x = pure x := by intro _; rfl) : WF X (.ListComp elt [⟨tg, iter, [], 0⟩] scope pos) L m Q :=
  wf_of (pe_lc hc hN (piU tg iter) ok hg (fun _ _ _ _ _ => pts_nil) (fun s H C cl fp => peUb elt s H C cl fp) hs) fun w σ H r => lc_read0 r hp h
theorem wf_lc1 (own : List (Str × Nat)) (pat : Pat) (hc : X.calm = true) (hN : X.N.Nodup) (ok : BlkOk X.N X.env.scope scope own) (hg : ∀ (s : Shared) (H : Hp) (C : Addr) (cl : List (Str × Addr)) (fp : List Addr), PG (BX X scope s H C cl fp) tg (gP X.K pat)) (hp : ∀ j ∈ pat.slots, j ∈ own.map (·.2))
    (h : LcAsk1 X L m elt tg iter c scope own pat Q) (hs : ∀ x, foldedSetIterable iter X.env x = pure x := by intro _; rfl) : WF X (.ListComp elt [⟨tg, iter, [c], 0⟩] scope pos) L m Q :=
  wf_of (pe_lc hc hN (piU tg iter) ok hg (fun s H C cl fp => pts_one (ptUb c s H C cl fp)) (fun s H C cl fp => peUb elt s H C cl fp) hs) fun w σ H r => lc_read1 r hp h
theorem setF_core {i : Nat} {y : Str} {py : Pos} {e : Expr} {spos : Pos} {D : PEnds} {t : TE} (ps : PS X (.Assign [.Name y py] e spos) (tAsg t (gName i)))
    (h : ∀ (w : Wd) (σ : L2.St) (H : Hp), Rep X.K w L m σ H → t σ H (PF X.K w fun xs m1 => D.nx (L.set i (some (.d (.list xs)))) m1 ∨ D.nx (L.set i (some (.ref m1.length))) (m1 ++ [some (.lst xs)])))
    (tm : ∀ (σ : L2.St) (H : Hp) (Q Q' : VK), (∀ b H', Q b H' → Q' b H') → t σ H Q → t σ H Q') : WS X (.Assign [.Name y py] e spos) L m D :=
  ws_of ps fun w σ H r => tm _ _ _ _ (fun v H' ⟨w', xs, m1, p, vs, e1, l, hr, hp, u, d, q⟩ => by
    subst e1
    have r' := r.go l hr
    rcases q with q | q
    · obtain ⟨l2, hr2⟩ := hr.freeze u hp
      exact ⟨_, _, m1, l.trans l2, (r'.go l2 hr2).set (p := .d (.list xs)) (.lst upd_same (dpa_mono l2.sub _ _ d)), q⟩
    · obtain ⟨l2, hr2⟩ := hr.adopt (c := .lst xs) u hp ⟨vs, rfl, d⟩
      refine ⟨_, _, _, l.trans l2, (r'.go l2 hr2).set (p := .ref m1.length) ⟨p, ?_, rfl⟩, q⟩
      show (w'.A ++ [p])[m1.length]? = some p
      rw [← hr.len, List.getElem?_append_right (Nat.le_refl _)]; simp) (h w σ H r)
theorem tLc_mono {wi : TI} {g : TG} {tt : TT} {te : TE} {vs : List Nat} (wm : ∀ (σ : L2.St) (H : Hp) (R R' : It → Hp → Prop), (∀ J H', R J H' → R' J H') → wi σ H R → wi σ H R') (σ : L2.St) (H : Hp) (Q Q' : VK) (k : ∀ b H', Q b H' → Q' b H') (h : tLc wi g tt te vs σ H Q) : tLc wi g tt te vs σ H Q' :=
  wm _ _ _ _ (fun J H1 h D hD => by
    obtain ⟨W, w0, st⟩ := h D hD
    exact ⟨W, w0, fun i n H' wt => (st i n H' wt).imp (fun ⟨a, b⟩ => ⟨a, k _ _ b⟩) id⟩) h
theorem ws_setLc1 {y : Str} {py : Pos} {spos : Pos} {D : PEnds} (i : Nat) (own : List (Str × Nat)) (pat : Pat) (hc : X.calm = true) (hN : X.N.Nodup) (hy : X.N[i]? = some y) (hyl : X.env.scope.names.lookup y = some .local) (hsw : swapsWith (.ListComp elt [⟨tg, iter, [c], 0⟩] scope pos) (some (.Name y py)) spos.line X.env = pure true)
    (ok : BlkOk X.N X.env.scope scope own) (hg : ∀ (s : Shared) (H : Hp) (C : Addr) (cl : List (Str × Addr)) (fp : List Addr), PG (BX X scope s H C cl fp) tg (gP X.K pat)) (hp : ∀ j ∈ pat.slots, j ∈ own.map (·.2))
    (h : LcAsk1 X L m elt tg iter c scope own pat fun xs m1 => D.nx (L.set i (some (.d (.list xs)))) m1 ∨ D.nx (L.set i (some (.ref m1.length))) (m1 ++ [some (.lst xs)])) (hs : ∀ x, foldedSetIterable iter X.env x = pure x := by intro _; rfl) : WS X (.Assign [.Name y py] (.ListComp elt [⟨tg, iter, [c], 0⟩] scope pos) spos) L m D :=
  setF_core (ps_setLc hc hN hy hyl hsw (piU tg iter) ok hg (fun s H C cl fp => pts_one (ptUb c s H C cl fp)) (fun s H C cl fp => peUb elt s H C cl fp) hs) (fun w σ H r => lc_read1 r hp h) (tLc_mono fun _ _ _ _ k h => tUI_mono h k)
theorem ws_setF {y : Str} {py : Pos} {e : Expr} {spos : Pos} {D : PEnds} (i : Nat) (hN : X.N.Nodup) (hi : X.N[i]? = some y) (hx : L2.Loc X.env.scope y) (h : WF X e L m fun xs m1 => D.nx (L.set i (some (.ref m1.length))) (m1 ++ [some (.lst xs)])) (hs : swapsWith e (some (.Name y py)) spos.line X.env = pure false := by rfl) (hf : X.fn y = true ∨ X.env.scope.names.lookup y = some .local := by first | exact .inl rfl | exact .inr rfl | assumption) : WS X (.Assign [.Name y py] e spos) L m D :=
  setF_core (ps_set hN hi hx (peU e) hs hf) (fun w σ H r => tU_mono (h w σ H r) fun v H' ⟨w', xs, m1, p, vs, e1, l, hr, hp, u, d, q⟩ => ⟨w', xs, m1, p, vs, e1, l, hr, hp, u, d, .inr q⟩) fun _ _ _ _ k h => tU_mono h k
theorem pg_nm {x : Str} {tp : Pos} {j : Nat} {s : Shared} {H : Hp} {C : Addr} {cl : List (Str × Addr)} {fp : List Addr} (hN : X.N.Nodup) (hi : X.N[j]? = some x) (hx : L2.Loc (compEnvC scope cl C X.env).scope x) (hf : (scope.names.lookup x == some .cell) = true ∨ (compEnvC scope cl C X.env).scope.names.lookup x = some .local) : PG (BX X scope s H C cl fp) (.Name x tp) (gP X.K (.nm j)) := pg_name (X := BX X scope s H C cl fp) hN hi hx hf
end
end PP
namespace PP
open PySem PySem.Spec PyProof.Rows L2
abbrev FSp := List PV → Mem → (PV → Mem → Prop) → Prop
def toSp (K : PySem.W.Frag) (f : FSp) : Sp := fun vs H Q _ => ∃ (w : Wd) (pvs : List PV) (m : Mem) (q : PV → Mem → Prop), HR K w m H ∧ RVs K w vs pvs ∧ f pvs m q ∧
  ∀ (w' : Wd) (v : V) (p : PV) (m' : Mem) (H' : Hp), w.le w' → HR K w' m' H' → RV K w' v p → q p m' → Q v H'
def Adj (n : Nat) (q : PV → Mem → Prop) : PV → Mem → Prop := fun p m => n ≤ m.length ∧
  ((∃ x, p = .d x ∧ q (.d x) (m.take n)) ∨
   ((∃ k, p = .ref k ∧ k < n ∧ q (.ref k) (m.take n)) ∨ (∃ k g x y z, p = .ref (k + 1) ∧ n ≤ k ∧ m[k]? = some (some (.lst g)) ∧ m[k + 1]? = some (some (.own x y z)) ∧ q (.ref (n + 1)) (m.take n ++ [some (.lst g), some (.own x y z)]))) ∨
   (∃ k c, p = .ref k ∧ n ≤ k ∧ m[k]? = some (some c) ∧ match c with
    | .own _ _ _ => False
    | c => q (.ref n) (m.take n ++ [some c])))
theorem RVs.length {K : PySem.W.Frag} {w : Wd} {vs : List V} {ps : List PV} (h : RVs K w vs ps) : vs.length = ps.length := Paired.length h
section
variable {K : PySem.W.Frag} {w w' : Wd} {m m' : Mem} {H H' : Hp}
theorem adj_ok {q : PV → Mem → Prop} {v : V} {p : PV} {Q : VK} (hl : w.A.length = m.length) (l : w.le w') (hr : HR K w' m' H') (r : RV K w' v p) (a : Adj m.length q p m')
    (k : ∀ (w' : Wd) (v : V) (p : PV) (m' : Mem) (H' : Hp), w.le w' → HR K w' m' H' → RV K w' v p → q p m' → Q v H') : Q v H' := by
  obtain ⟨hn, a⟩ := a
  have lc : w.le (w'.cut m.length) := l.cut (by omega)
  have hc := hr.cut m.length
  rcases a with ⟨x, rfl, qq⟩ | (⟨j, rfl, hj, qq⟩ | ⟨j, g, x, y, z, rfl, hj, hm, hm2, qq⟩) | ⟨j, c, rfl, hj, hm, qq⟩
  · exact k _ v (.d x) _ H' lc hc r qq
  · obtain ⟨ad, ea, ev⟩ := r
    refine k _ v (.ref j) _ H' lc hc ⟨ad, ?_, ev⟩ qq
    show (w'.A.take m.length)[j]? = some ad
    rw [List.getElem?_take, if_pos hj]; exact ea
  · obtain ⟨a1, o1, ea1, eo1, us, rfl, dg⟩ := hr.cell j _ hm
    obtain ⟨a2, o2, ea2, eo2, j', q', e3, e4, rfl⟩ := hr.cell (j + 1) _ hm2
    obtain ⟨ad', ea', ev⟩ := r
    rw [ea2] at ea'; cases ea'
    have e5 : j' = j := by omega
    subst e5
    rw [ea1] at e4; cases e4
    have un : ∀ (i : Nat) (ad : Addr) (c : Cell), m.length ≤ i → w'.A[i]? = some ad → m'[i]? = some (some c) → Un1 (w'.cut m.length) ad := fun i ad c hi ea hc2 => by
      refine ⟨hr.sep i ad c ea hc2, fun z => ?_, fun z => ?_⟩
      · obtain ⟨i2, hi2⟩ := List.getElem?_of_mem z
        have hi' : (w'.A.take m.length)[i2]? = some ad := hi2
        rw [List.getElem?_take] at hi'
        split at hi'
        · rename_i hlt
          have := nodup_at hr.nd hi' ea
          omega
        · cases hi'
      · obtain ⟨t, ht, et⟩ := List.mem_map.mp z
        exact (hr.tp t ht).2.2 (et ▸ List.mem_of_getElem? ea)
    have hcl : (w'.A.take m.length).length = m.length := by rw [List.length_take, hr.len]; omega
    obtain ⟨l2, hr2⟩ := hc.adopt (c := .lst g) (un j' a1 _ hj ea1 hm) eo1 ⟨us, rfl, dg⟩
    have u2 := un (j' + 1) a2 _ (by omega) ea2 hm2
    have u3 : Un1 ((w'.cut m.length).push a1) a2 := ⟨u2.f, fun z => by
      rcases List.mem_append.mp (show a2 ∈ (w'.cut m.length).A ++ [a1] from z) with z | z
      · exact u2.a z
      · have e6 : a2 = a1 := by simpa using z
        rw [e6] at ea2
        have := nodup_at hr.nd ea1 ea2
        omega, u2.t⟩
    have hml : (m'.take m.length ++ [some (Cell.lst g)]).length = m.length + 1 := by rw [List.length_append, List.length_take, List.length_singleton]; omega
    obtain ⟨l3, hr3⟩ := hr2.adopt (c := .own x y z) u3 eo2 ⟨m.length, a1, hml, by
      show ((w'.A.take m.length) ++ [a1])[m.length]? = some a1
      rw [List.getElem?_append_right (by omega), hcl]; simp, rfl⟩
    refine k _ v (.ref (m.length + 1)) _ H' (lc.trans (l2.trans l3)) (by rw [List.append_assoc] at hr3; exact hr3) ⟨a2, ?_, ev⟩ qq
    show (((w'.A.take m.length) ++ [a1]) ++ [a2])[m.length + 1]? = some a2
    rw [List.getElem?_append_right (by rw [List.length_append, hcl]; simp), List.length_append, hcl]; simp
  · obtain ⟨ad, o, ea, eo, cr⟩ := hr.cell j c hm
    obtain ⟨ad', ea', ev⟩ := r
    rw [ea] at ea'; cases ea'
    have un : Un1 (w'.cut m.length) ad := by
      refine ⟨hr.sep j ad c ea hm, fun z => ?_, fun z => ?_⟩
      · obtain ⟨i, hi⟩ := List.getElem?_of_mem z
        have hi' : (w'.A.take m.length)[i]? = some ad := hi
        rw [List.getElem?_take] at hi'
        split at hi'
        · rename_i hlt
          have := nodup_at hr.nd hi' ea
          omega
        · cases hi'
      · obtain ⟨t, ht, et⟩ := List.mem_map.mp z
        exact (hr.tp t ht).2.2 (et ▸ List.mem_of_getElem? ea)
    obtain ⟨cr2, qq⟩ : CR K (w'.cut m.length) (m'.take m.length).length c o ∧ q (.ref m.length) (m'.take m.length ++ [some c]) := by
      cases c with
      | lst ds => exact ⟨cr, qq⟩
      | dK kvs => exact ⟨cr, qq⟩
      | own a b c => exact False.elim qq
    obtain ⟨l2, hr2⟩ := hc.adopt (c := c) un eo cr2
    refine k _ v (.ref m.length) _ H' (lc.trans l2) hr2 ⟨ad, ?_, ev⟩ qq
    show ((w'.A.take m.length) ++ [ad])[m.length]? = some ad
    have : (w'.A.take m.length).length = m.length := by rw [List.length_take, hr.len]; omega
    rw [List.getElem?_append_right (by omega), this]; simp
end
abbrev startL (N : List Str) (pvs : List PV) : PP.Loc := pvs.map some ++ List.replicate (N.length - pvs.length) none
theorem rep_start {K : PySem.W.Frag} {w : Wd} {m : Mem} {H : Hp} {vs : List V} {pvs : List PV} (N : List Str) (hr : HR K w m H) (r : RVs K w vs pvs) : Rep K w (startL N pvs) m (L2.start N vs) H := by
  refine ⟨hr, ?_, fun i p e => ?_⟩
  · unfold L2.start startL
    rw [List.length_append, List.length_append, List.length_map, List.length_map, List.length_replicate, List.length_replicate, r.length]
  · unfold startL at e
    unfold L2.start
    by_cases hi : i < pvs.length
    · rw [List.getElem?_append_left (by simpa using hi), List.getElem?_map] at e
      rw [List.getElem?_append_left (by rw [List.length_map, r.length]; exact hi), List.getElem?_map]
      cases e1 : pvs[i]? with
      | none => rw [e1] at e; cases e
      | some q =>
        rw [e1] at e
        have e' : q = p := by simpa using e
        subst e'
        have key : ∀ {vs : List V} {ps : List PV} {i : Nat} {q : PV}, RVs K w vs ps → ps[i]? = some q → ∃ v, vs[i]? = some v ∧ RV K w v q := by
          intro vs ps i q r e
          induction r generalizing i with
          | nil => simp at e
          | cons r1 _ ih =>
            cases i with
            | zero => simp at e; subst e; exact ⟨_, rfl, r1⟩
            | succ i =>
              obtain ⟨v, h1, h2⟩ := ih (i := i) (by simpa using e)
              exact ⟨v, by simpa using h1, h2⟩
        obtain ⟨v, h1, h2⟩ := key r e1
        exact ⟨v, by rw [h1]; rfl, h2⟩
    · rw [List.getElem?_append_right (by simpa using hi), List.getElem?_replicate] at e
      split at e <;> cases e
abbrev DX (P : Program) (w : World) (K : PySem.W.Frag) (mg : Str → Option Value) (base : Heap) (N : List Str) (qual : Str) (st : Stmt) (f : Addr) (cdv : Value) (A : Around) (outer : List Env) (s : Shared) (H : Hp) (E : XK) : Cx := (cxOf CX0 P w K mg base N qual (defScope st) f cdv A outer s H E).nox
abbrev fnE (n : Nat) (q : PV → Mem → Prop) : PEnds := { nx := fun _ m => Adj n q (.d .none) m, rt := Adj n q }
section
variable {P : Program} {w : World} {K : PySem.W.Frag} {mg : Str → Option Value} {base : Heap}
theorem fn_pp {x qual : Str} {st : Stmt} {f : Addr} {fd : FuncData} {N ps : List Str} {k : Nat} {sp : FSp} (F : Fun K x qual st f fd) (S : FnScope N ps (defScope st)) (len : ∀ pvs m q, sp pvs m q → pvs.length = ps.length)
    (body : ∀ (cdv : Value) (A : Around) (outer : List Env) (s : Shared) (H : Hp) (E : XK), Room k (DX P w K mg base N qual st f cdv A outer s H E).A → ∀ pvs m q, sp pvs m q → WSs (DX P w K mg base N qual st f cdv A outer s H E) (defBody st) (startL N pvs) m (fnE m.length q)) :
    FnOk P w K mg base CX0 (k + 1) f fd ps (toSp K sp) := by
  refine F.ok S (fun vs H Q E ⟨w, pvs, m, q, hr, r, h, k⟩ => by rw [r.length]; exact len _ _ _ h) fun cdv A outer s H vs Q E hrm h => ?_
  refine ⟨_, pssU _, ?_⟩
  obtain ⟨wd, pvs, m, q, hr, r, h, kk⟩ := h
  refine tUSs_mono (body cdv A outer s H E hrm pvs m q h wd _ H (rep_start N hr r)) ?_ ?_ ?_ ?_
  · rintro σ' H' ⟨w', L', m', l, r', a⟩
    exact adj_ok hr.len l r'.toHR (show RV K w' V.non (.d .none) from DP.non) a kk
  · rintro v H' ⟨w', p, m', l, hr', d, a⟩
    exact adj_ok hr.len l hr' d a kk
  · rintro σ' H' ⟨_, _, _, _, _, z⟩
    exact z
  · rintro σ' H' ⟨_, _, _, _, _, z⟩
    exact z
end
def ren (ks : List Nat) : PV → PV
  | .ref k => .ref (ks.idxOf k)
  | p => p
def refsIn (ks : List Nat) : PV → Prop
  | .ref k => k ∈ ks
  | _ => True
def keepO (pv : Option Nat) (k : Nat) : Option Cell → Option Cell
  | some (.own a b c) => match pv with
    | some j => if j + 1 = k then some (.own a b c) else none
    | none => none
  | c => c
def cellsFr (m : Mem) : Option Nat → List Nat → Mem
  | _, [] => []
  | pv, k :: ks => keepO pv k (m[k]?).join :: cellsFr m (some k) ks
def cellsAt (m : Mem) (ks : List Nat) : Mem := cellsFr m none ks
theorem cellsFr_len (m : Mem) : ∀ (pv : Option Nat) (ks : List Nat), (cellsFr m pv ks).length = ks.length
  | _, [] => rfl
  | _, k :: ks => congrArg (· + 1) (cellsFr_len m (some k) ks)
theorem cellsAt_len {m : Mem} {ks : List Nat} : (cellsAt m ks).length = ks.length := cellsFr_len m none ks
def ahead (pv : Option Nat) (ks : List Nat) : Nat → Option Nat
  | 0 => pv
  | j + 1 => ks[j]?
theorem cellsFr_at {m : Mem} {c : Cell} : ∀ {pv : Option Nat} {ks : List Nat} {j : Nat}, (cellsFr m pv ks)[j]? = some (some c) → ∃ k, ks[j]? = some k ∧ m[k]? = some (some c) ∧ ((∃ x y z, c = .own x y z) → ∃ i, ahead pv ks j = some i ∧ i + 1 = k)
  | _, [], _, e => by cases e
  | pv, k :: ks, 0, e => by
    have e : keepO pv k (m[k]?).join = some c := by simpa [cellsFr] using e
    refine ⟨k, rfl, ?_, ?_⟩
    · cases r : (m[k]?).join with
      | none => rw [r] at e; cases e
      | some d =>
        rw [r] at e
        have ed : d = c := by
          cases d with
          | lst _ => exact Option.some.inj e
          | dK _ => exact Option.some.inj e
          | own x y z =>
            unfold keepO at e
            cases pv with
            | none => cases e
            | some i =>
              dsimp only at e
              split at e
              · exact Option.some.inj e
              · cases e
        subst ed
        cases q : m[k]? with
        | none => rw [q] at r; cases r
        | some o => rw [q] at r; rw [show o = some d from r]
    · rintro ⟨x, y, z, rfl⟩
      cases r : (m[k]?).join with
      | none => rw [r] at e; cases e
      | some d =>
        rw [r] at e
        cases d with
        | lst _ => cases e
        | dK _ => cases e
        | own x y z =>
          unfold keepO at e
          cases pv with
          | none => cases e
          | some i =>
            dsimp only at e
            split at e
            · rename_i h; exact ⟨i, rfl, h⟩
            · cases e
  | pv, k :: ks, j + 1, e => by
    have e : (cellsFr m (some k) ks)[j]? = some (some c) := by simpa [cellsFr] using e
    obtain ⟨k', h1, h2, h3⟩ := cellsFr_at e
    refine ⟨k', by simpa using h1, h2, fun h => ?_⟩
    obtain ⟨i, h4, h5⟩ := h3 h
    refine ⟨i, ?_, h5⟩
    cases j with
    | zero => exact h4
    | succ j => exact h4
def setAll (m : Mem) : List Nat → Mem → Mem
  | k :: ks, c :: cs => setAll (m.set k c) ks cs
  | _, _ => m
theorem setAll_len : ∀ (ks : List Nat) (cs m : Mem), (setAll m ks cs).length = m.length
  | [], [], _ => rfl
  | [], _ :: _, _ => rfl
  | k :: ks, [], m => rfl
  | k :: ks, c :: cs, m => by unfold setAll; rw [setAll_len ks cs, List.length_set]
theorem setAll_out : ∀ {ks : List Nat} {cs m : Mem} {i : Nat}, i ∉ ks → (setAll m ks cs)[i]? = m[i]?
  | [], cs, m, i, _ => by cases cs <;> rfl
  | k :: ks, [], m, i, _ => rfl
  | k :: ks, c :: cs, m, i, h => by
    unfold setAll
    rw [setAll_out (fun z => h (List.mem_cons_of_mem _ z)), List.getElem?_set_ne (fun z => h (by rw [← z]; exact List.mem_cons_self))]
theorem setAll_in : ∀ {ks : List Nat} {cs m : Mem} {j k : Nat} {c : Option Cell}, ks.Nodup → (∀ k ∈ ks, k < m.length) → ks[j]? = some k → cs[j]? = some c → (setAll m ks cs)[k]? = some c
  | [], _, _, _, _, _, _, _, e, _ => by simp at e
  | _ :: _, [], _, _, _, _, _, _, _, e => by simp at e
  | k0 :: ks, c0 :: cs, m, 0, k, c, nd, hl, e1, e2 => by
    have e1' : k0 = k := by simpa using e1
    have e2' : c0 = c := by simpa using e2
    subst e1'; subst e2'
    unfold setAll
    rw [setAll_out (List.nodup_cons.mp nd).1, List.getElem?_set_self (hl k0 List.mem_cons_self)]
  | k0 :: ks, c0 :: cs, m, j + 1, k, c, nd, hl, e1, e2 => by
    unfold setAll
    exact setAll_in (List.nodup_cons.mp nd).2 (fun i hi => by rw [List.length_set]; exact hl i (List.mem_cons_of_mem _ hi)) (by simpa using e1) (by simpa using e2)
section
variable {K : PySem.W.Frag} {w : Wd} {m : Mem} {H : Hp} {ks : List Nat}
def othersOf (w : Wd) (H : Hp) (ks : List Nat) : List (Addr × HO) := (List.range w.A.length).filterMap fun k => if k ∈ ks then none else
  match w.A[k]? with
  | some a => match w.F a with
    | none => (H a).map fun o => (a, o)
    | some _ => none
  | none => none
theorem mem_others {p : Addr × HO} : p ∈ othersOf w H ks ↔ ∃ k, k ∉ ks ∧ w.A[k]? = some p.1 ∧ w.F p.1 = none ∧ H p.1 = some p.2 := by
  unfold othersOf
  rw [List.mem_filterMap]
  constructor
  · rintro ⟨k, _, e⟩
    split at e
    · cases e
    · rename_i hk
      split at e
      · rename_i a ea
        split at e
        · rename_i hf
          cases q : H a with
          | none => rw [q] at e; cases e
          | some o =>
            rw [q] at e
            have e' : (a, o) = p := by simpa using e
            subst e'
            exact ⟨k, hk, ea, hf, q⟩
        · cases e
      · cases e
  · rintro ⟨k, hk, ea, hf, q⟩
    refine ⟨k, List.mem_range.mpr (List.getElem?_eq_some_iff.mp ea).1, ?_⟩
    rw [if_neg hk, ea]
    simp only [hf, q, Option.map_some]
theorem others_nodup (nd : w.A.Nodup) : ((othersOf w H ks).map (·.1)).Nodup := by
  have gen : ∀ (l : List Nat), l.Nodup → ((l.filterMap fun k => if k ∈ ks then none else match w.A[k]? with | some a => (match w.F a with | none => (H a).map fun o => (a, o) | some _ => none) | none => none).map (·.1)).Nodup := by
    intro l
    induction l with
    | nil => intro _; exact .nil
    | cons k l ih =>
      intro hl
      rw [List.nodup_cons] at hl
      rw [List.filterMap_cons]
      split
      · exact ih hl.2
      · rename_i p e
        rw [List.map_cons, List.nodup_cons]
        refine ⟨fun z => ?_, ih hl.2⟩
        have hk : w.A[k]? = some p.1 := by
          split at e
          · cases e
          · split at e
            · rename_i a ea
              split at e
              · cases q : H a with
                | none => rw [q] at e; cases e
                | some o => rw [q] at e; simp at e; rw [← e]; exact ea
              · cases e
            · cases e
        obtain ⟨p', hp', ep⟩ := List.mem_map.mp z
        obtain ⟨k', hk', e'⟩ := List.mem_filterMap.mp hp'
        have hk2 : w.A[k']? = some p'.1 := by
          split at e'
          · cases e'
          · split at e'
            · rename_i a ea
              split at e'
              · cases q : H a with
                | none => rw [q] at e'; cases e'
                | some o => rw [q] at e'; simp at e'; rw [← e']; exact ea
              · cases e'
            · cases e'
        rw [ep] at hk2
        have := nodup_at nd hk2 hk
        subst this
        exact hl.1 hk'
  exact gen _ List.nodup_range
def Wd.sub (w : Wd) (H : Hp) (ks : List Nat) : Wd := { A := ks.map fun k => w.A.getD k 0, T := w.T ++ othersOf w H ks, F := w.F }
theorem sub_at (w : Wd) (H : Hp) {j k : Nat} (e : ks[j]? = some k) (hk : k < w.A.length) : (w.sub H ks).A[j]? = w.A[k]? := by
  show (ks.map fun k => w.A.getD k 0)[j]? = _
  rw [List.getElem?_map, e, List.getElem?_eq_getElem hk]
  simp [List.getD, List.getElem?_eq_getElem hk]
theorem sub_inv (w : Wd) (H : Hp) (hk : ∀ k ∈ ks, k < w.A.length) {j : Nat} {a : Addr} (e : (w.sub H ks).A[j]? = some a) : ∃ k, ks[j]? = some k ∧ w.A[k]? = some a := by
  have e' : (ks.map fun k => w.A.getD k 0)[j]? = some a := e
  rw [List.getElem?_map] at e'
  cases q : ks[j]? with
  | none => rw [q] at e'; cases e'
  | some k =>
    refine ⟨k, rfl, ?_⟩
    rw [← sub_at w H q (hk k (List.mem_of_getElem? q))]; exact e
theorem HR.subWorld (h : HR K w m H) (nd : ks.Nodup) (hk : ∀ k ∈ ks, k < m.length) : HR K (w.sub H ks) (cellsAt m ks) H := by
  have hk' : ∀ k ∈ ks, k < w.A.length := fun k z => by rw [h.len]; exact hk k z
  refine ⟨h.fz, ?_, ?_, fun j a c e1 e2 => ?_, fun a ha => ?_, fun p hp => ?_, ?_, fun j c e => ?_⟩
  · show (ks.map _).length = _
    rw [List.length_map, cellsAt_len]
  · show (ks.map fun k => w.A.getD k 0).Nodup
    refine List.Pairwise.map _ (R := fun a b => a ≠ b ∧ a ∈ ks ∧ b ∈ ks) (fun a b ⟨hab, ha, hb⟩ z => hab ?_) ?_
    · have h1 := hk' a ha
      have h2 := hk' b hb
      have e1 : w.A[a]? = some (w.A.getD a 0) := by rw [List.getElem?_eq_getElem h1]; simp [List.getD, List.getElem?_eq_getElem h1]
      have e2 : w.A[b]? = some (w.A.getD a 0) := by rw [z, List.getElem?_eq_getElem h2]; simp [List.getD, List.getElem?_eq_getElem h2]
      exact nodup_at h.nd e1 e2
    · exact List.Pairwise.imp_of_mem (fun {a b} ha hb hab => ⟨hab, ha, hb⟩) nd
  · obtain ⟨k, e3, e4⟩ := sub_inv w H hk' e1
    obtain ⟨k', e5, e6, _⟩ := cellsFr_at e2
    rw [e3] at e5; cases e5
    exact h.sep k a c e4 e6
  · obtain ⟨j, e1⟩ := List.getElem?_of_mem ha
    obtain ⟨k, e3, e4⟩ := sub_inv w H hk' e1
    exact h.occ a (List.mem_of_getElem? e4)
  · have notin : ∀ a, (∀ k, w.A[k]? = some a → k ∉ ks) → a ∉ (w.sub H ks).A := fun a hn z => by
      obtain ⟨j, e1⟩ := List.getElem?_of_mem z
      obtain ⟨k, e3, e4⟩ := sub_inv w H hk' e1
      exact hn k e4 (List.mem_of_getElem? e3)
    rcases List.mem_append.mp hp with z | z
    · obtain ⟨e1, e2, e3⟩ := h.tp p z
      exact ⟨e1, e2, notin _ fun k ek _ => e3 (List.mem_of_getElem? ek)⟩
    · obtain ⟨k, hk1, ea, hf, eh⟩ := mem_others.mp z
      exact ⟨eh, hf, notin _ fun k2 ek2 z2 => hk1 (nodup_at h.nd ek2 ea ▸ z2)⟩
  · show ((w.T ++ othersOf w H ks).map (·.1)).Nodup
    rw [List.map_append]
    refine List.nodup_append.mpr ⟨h.tnd, others_nodup h.nd, fun a ha b hb z => ?_⟩
    obtain ⟨p, hp, e1⟩ := List.mem_map.mp ha
    obtain ⟨q, hq, e2⟩ := List.mem_map.mp hb
    obtain ⟨k, _, ea, _⟩ := mem_others.mp hq
    exact (h.tp p hp).2.2 (by rw [e1, z, ← e2]; exact List.mem_of_getElem? ea)
  · obtain ⟨k, e3, e4, e0⟩ := cellsFr_at e
    obtain ⟨a, o, e5, e6, r⟩ := h.cell k c e4
    refine ⟨a, o, by rw [sub_at w H e3 (hk' k (List.mem_of_getElem? e3))]; exact e5, e6, ?_⟩
    cases c with
    | lst ds => exact r
    | dK kvs => exact r
    | own x y z =>
      obtain ⟨i, h1, h2⟩ := e0 ⟨x, y, z, rfl⟩
      obtain ⟨j', q, r1, r2, r3⟩ := r
      cases j with
      | zero => cases h1
      | succ j =>
        have h1 : ks[j]? = some i := h1
        refine ⟨j, q, rfl, ?_, r3⟩
        rw [sub_at w H h1 (hk' i (List.mem_of_getElem? h1)), show i = j' by omega]
        exact r2
theorem sub_rv (h : HR K w m H) (hk : ∀ k ∈ ks, k < m.length) {v : V} {p : PV} (r : RV K w v p) (hp : refsIn ks p) : RV K (w.sub H ks) v (ren ks p) := by
  cases p with
  | d x => exact r
  | raw u => exact r
  | exc C x => exact r
  | ref k =>
    obtain ⟨a, ea, ev⟩ := r
    have hin : k ∈ ks := hp
    refine ⟨a, ?_, ev⟩
    have : ks[ks.idxOf k]? = some k := by
      rw [List.getElem?_eq_getElem (List.idxOf_lt_length_of_mem hin)]
      exact congrArg some (List.getElem_idxOf _)
    rw [sub_at w H this (by rw [h.len]; exact hk k hin)]; exact ea
theorem sub_rvs (h : HR K w m H) (hk : ∀ k ∈ ks, k < m.length) : ∀ {vs : List V} {ps : List PV}, RVs K w vs ps → (∀ p ∈ ps, refsIn ks p) → RVs K (w.sub H ks) vs (ps.map (ren ks))
  | _, _, .nil, _ => .nil
  | _, _, .cons r t, hp => .cons (sub_rv h hk r (hp _ List.mem_cons_self)) (sub_rvs h hk t fun p z => hp p (List.mem_cons_of_mem _ z))
def okO (pv : Option Nat) (k : Nat) : Option Cell → Bool
  | some (.own _ _ _) => match pv with
    | some j => decide (j + 1 = k)
    | none => false
  | _ => true
def backB : Option Nat → List Nat → Mem → Bool
  | _, [], [] => true
  | pv, k :: ks, c :: cs => okO pv k c && backB (some k) ks cs
  | _, _, _ => false
theorem backB_len : ∀ {pv : Option Nat} {ks : List Nat} {cs : Mem}, backB pv ks cs = true → cs.length = ks.length
  | _, [], [], _ => rfl
  | _, [], _ :: _, h => by cases h
  | _, _ :: _, [], h => by cases h
  | pv, k :: ks, c :: cs, h => by
    unfold backB at h
    rw [List.length_cons, List.length_cons, backB_len (Bool.and_eq_true_iff.mp h).2]
theorem backB_own {x y z : Int} : ∀ {pv : Option Nat} {ks : List Nat} {cs : Mem} {j : Nat}, backB pv ks cs = true → cs[j]? = some (some (.own x y z)) → ∃ i k, ahead pv ks j = some i ∧ ks[j]? = some k ∧ i + 1 = k
  | _, [], [], _, _, e => by cases e
  | _, [], _ :: _, _, h, _ => by cases h
  | _, _ :: _, [], _, h, _ => by cases h
  | pv, k :: ks, c :: cs, 0, h, e => by
    unfold backB at h
    have e : c = some (.own x y z) := by simpa using e
    subst e
    have h1 := (Bool.and_eq_true_iff.mp h).1
    unfold okO at h1
    cases pv with
    | none => cases h1
    | some i => exact ⟨i, k, rfl, rfl, of_decide_eq_true h1⟩
  | pv, k :: ks, c :: cs, j + 1, h, e => by
    unfold backB at h
    obtain ⟨i, k', h1, h2, h3⟩ := backB_own (Bool.and_eq_true_iff.mp h).2 (by simpa using e)
    refine ⟨i, k', ?_, by simpa using h2, h3⟩
    cases j with
    | zero => exact h1
    | succ j => exact h1
theorem HR.back {w' : Wd} {mc : Mem} {H' : Hp} {mo : List Addr} {ex : Mem} (h : HR K w m H) (nd : ks.Nodup) (hk : ∀ k ∈ ks, k < m.length) (l : (w.sub H ks).le w') (hr : HR K w' (mc ++ ex) H') (hbk : backB none ks mc = true) :
    w.le { w with F := w'.F } ∧ HR K { w with F := w'.F } (setAll m ks mc) H' := by
  have hl := backB_len hbk
  have hk' : ∀ k ∈ ks, k < w.A.length := fun k z => by rw [h.len]; exact hk k z
  obtain ⟨more, em⟩ := l.pre
  have hT : w'.T = w.T ++ othersOf w H ks := l.hid
  have inA : ∀ {j k : Nat} {a : Addr}, ks[j]? = some k → w.A[k]? = some a → w'.A[j]? = some a := fun {j k a} e1 e2 => by
    rw [em, List.getElem?_append_left]
    · rw [sub_at w H e1 (hk' k (List.mem_of_getElem? e1))]; exact e2
    · show j < (ks.map _).length
      rw [List.length_map]; exact (List.getElem?_eq_some_iff.mp e1).1
  have out : ∀ {k : Nat} {a : Addr}, w.A[k]? = some a → k ∉ ks → w.F a = none → ∃ o, H a = some o ∧ H' a = some o ∧ w'.F a = none := fun {k a} ea hn hf => by
    cases q : H a with
    | none => exact absurd q (h.occ a (List.mem_of_getElem? ea))
    | some o =>
      have := hr.tp (a, o) (by rw [hT]; exact List.mem_append_right _ (mem_others.mpr ⟨k, hn, ea, hf, q⟩))
      exact ⟨o, rfl, this.1, this.2.1⟩
  refine ⟨⟨⟨⟨[], by simp⟩, l.sub⟩, rfl⟩, hr.fz, by rw [setAll_len]; exact h.len, h.nd, fun k a c e1 e2 => ?_, fun a ha => ?_, fun p hp => ?_, h.tnd, fun k c e => ?_⟩
  · by_cases hin : k ∈ ks
    · obtain ⟨j, ej⟩ := List.getElem?_of_mem hin
      have hj : j < mc.length := by rw [hl]; exact (List.getElem?_eq_some_iff.mp ej).1
      have e3 := setAll_in nd hk ej (List.getElem?_eq_getElem hj)
      rw [e3] at e2
      have e4 : (mc ++ ex)[j]? = some (some c) := by rw [List.getElem?_append_left hj, List.getElem?_eq_getElem hj]; exact e2
      exact hr.sep j a c (inA ej e1) e4
    · rw [setAll_out hin] at e2
      exact (out e1 hin (h.sep k a c e1 e2)).choose_spec.2.2
  · obtain ⟨k, ek⟩ := List.getElem?_of_mem ha
    by_cases hin : k ∈ ks
    · obtain ⟨j, ej⟩ := List.getElem?_of_mem hin
      exact hr.occ a (List.mem_of_getElem? (inA ej ek))
    · cases hf : w.F a with
      | none =>
        obtain ⟨o, _, e2, _⟩ := out ek hin hf
        rw [e2]; exact fun z => by cases z
      | some o =>
        rw [hr.fz a o (l.sub a o hf)]; exact fun z => by cases z
  · obtain ⟨e1, e2, _⟩ := hr.tp p (by rw [hT]; exact List.mem_append_left _ hp)
    exact ⟨e1, e2, (h.tp p hp).2.2⟩
  · by_cases hin : k ∈ ks
    · obtain ⟨j, ej⟩ := List.getElem?_of_mem hin
      have hj : j < mc.length := by rw [hl]; exact (List.getElem?_eq_some_iff.mp ej).1
      have e3 := setAll_in nd hk ej (List.getElem?_eq_getElem hj)
      rw [e3] at e
      have e4 : (mc ++ ex)[j]? = some (some c) := by rw [List.getElem?_append_left hj, List.getElem?_eq_getElem hj]; exact e
      obtain ⟨a, o, e5, e6, r⟩ := hr.cell j c e4
      have hkl := hk' k hin
      have e7 := inA ej (List.getElem?_eq_getElem hkl)
      rw [e5] at e7
      cases e7
      refine ⟨_, o, List.getElem?_eq_getElem hkl, e6, ?_⟩
      cases c with
      | lst ds => exact r
      | dK kvs => exact r
      | own x y z =>
        have e9 : mc[j]? = some (some (.own x y z)) := by rw [← e4, List.getElem?_append_left hj]
        obtain ⟨i, k2, b1, b2, b3⟩ := backB_own hbk e9
        obtain ⟨j', q, r1, r2, r3⟩ := r
        subst r1
        have b1 : ks[j']? = some i := b1
        rw [ej] at b2
        cases b2
        have hi := hk' i (List.mem_of_getElem? b1)
        have e10 := inA b1 (List.getElem?_eq_getElem hi)
        rw [r2] at e10
        refine ⟨i, q, b3.symm, ?_, r3⟩
        show w.A[i]? = some q
        rw [List.getElem?_eq_getElem hi, e10]
    · rw [setAll_out hin] at e
      obtain ⟨a, o, e5, e6, r⟩ := h.cell k c e
      obtain ⟨o', h1, h2, _⟩ := out e5 hin (h.sep k a c e5 e)
      rw [e6] at h1; cases h1
      exact ⟨a, o, e5, h2, r.mono l.sub⟩
end
section
variable {X : Cx} {L : PP.Loc} {m : Mem} {e a b : Expr} {es : List Expr} {pos p : Pos} {Q : QE} {k : Nat} {f : Addr} {fd : FuncData} {ps : List Str} {sp : FSp} {x : Str}
def CallAsk (sp : FSp) (ks : List Nat) (pvs : List PV) (m : Mem) (q : PV → Mem → Prop) : Prop := ks.Nodup ∧ (∀ k ∈ ks, k < m.length) ∧ (∀ p ∈ pvs, refsIn ks p) ∧ sp (pvs.map (ren ks)) (cellsAt m ks) q
theorem we_call (ks : List Nat) (F : FnOk X.prog X.w X.K X.mg X.base CX0 k f fd ps (toSp X.K sp)) (hr : Room k X.A) (hm : X.mg x = some (.ref f)) (hk : PySem.W.keepIn X.K (.ref f) = true) (hb : Binds X.K fd ps [])
    (h : WA X (e :: es) L m fun pvs m1 => CallAsk sp ks pvs m1 fun p mc => ∃ y, p = .d y ∧ backB none ks mc = true ∧ Q y (setAll m1 ks mc))
    (hg : Gl X x := by rfl) (hdb : (x == ("__debug__" : Str)) = false := by decide) (he : starEach (e :: es) X.env = (false, eval e X.env) :: starEach es X.env := by rfl) (hpl : (backTo pos (starEach es X.env)).any (·.1) = false := by rfl) : WE X (.Call (.Name x p) (e :: es) [] pos) L m Q :=
  we_of (pe_call F hr hg hm hk hb .nil pass0 (paU (e :: es)) hdb he hpl) fun w σ H r => h.go r fun w1 vs pvs m1 H1 l1 r1 d1 ⟨nd, hl, hi, hs⟩ => by
    show toSp X.K sp (vs ++ []) H1 _ _
    rw [List.append_nil]
    refine ⟨_, _, _, _, r1.toHR.subWorld nd hl, sub_rvs r1.toHR hl d1 hi, hs, fun w' v q mc H' l hr' d ⟨y, ey, hmc, qq⟩ => ?_⟩
    subst ey
    obtain ⟨l3, hr3⟩ := r1.toHR.back (mo := []) (ex := []) nd hl l (by rw [List.append_nil]; exact hr') hmc
    exact ⟨_, y, _, l1.trans l3, hr3, d, qq⟩
theorem wf_call {Q : List PyData → Mem → Prop} (ks : List Nat) (F : FnOk X.prog X.w X.K X.mg X.base CX0 k f fd ps (toSp X.K sp)) (hr : Room k X.A) (hm : X.mg x = some (.ref f)) (hk : PySem.W.keepIn X.K (.ref f) = true) (hb : Binds X.K fd ps [])
    (h : WA X (e :: es) L m fun pvs m1 => CallAsk sp ks pvs m1 fun p mc => ∃ mc0 xs, p = .ref ks.length ∧ mc = mc0 ++ [some (.lst xs)] ∧ backB none ks mc0 = true ∧ Q xs (setAll m1 ks mc0))
    (hg : Gl X x := by rfl) (hdb : (x == ("__debug__" : Str)) = false := by decide) (he : starEach (e :: es) X.env = (false, eval e X.env) :: starEach es X.env := by rfl) (hpl : (backTo pos (starEach es X.env)).any (·.1) = false := by rfl) : WF X (.Call (.Name x p) (e :: es) [] pos) L m Q :=
  wf_of (pe_call F hr hg hm hk hb .nil pass0 (paU (e :: es)) hdb he hpl) fun w σ H r => h.go r fun w1 vs pvs m1 H1 l1 r1 d1 ⟨nd, hl, hi, hs⟩ => by
    show toSp X.K sp (vs ++ []) H1 _ _
    rw [List.append_nil]
    refine ⟨_, _, _, _, r1.toHR.subWorld nd hl, sub_rvs r1.toHR hl d1 hi, hs, fun w' v q mc H' l hr' d ⟨mc0, xs, ey, em, hmc, qq⟩ => ?_⟩
    subst ey; subst em
    obtain ⟨l3, hr3⟩ := r1.toHR.back (mo := []) (ex := [some (.lst xs)]) nd hl l hr' hmc
    have ec : (mc0 ++ [some (Cell.lst xs)])[ks.length]? = some (some (.lst xs)) := by rw [← backB_len hmc, List.getElem?_append_right (Nat.le_refl _)]; simp
    obtain ⟨ad, o, ea, eo, us, rfl, dd⟩ := hr'.cell _ _ ec
    obtain ⟨ad', ea', rfl⟩ := d
    rw [ea] at ea'; cases ea'
    have hF := hr'.sep _ _ _ ea ec
    obtain ⟨more, em⟩ := l.pre
    have hT : w'.T = w1.T ++ othersOf w1 H1 ks := l.hid
    refine ⟨_, xs, _, ad, us, rfl, l1.trans l3, hr3, eo, ⟨hF, fun z => ?_, fun z => ?_⟩, dd, qq⟩
    · have z : ad ∈ w1.A := z
      obtain ⟨i, ei⟩ := List.getElem?_of_mem z
      by_cases hin : i ∈ ks
      · obtain ⟨j, ej⟩ := List.getElem?_of_mem hin
        have hil : i < w1.A.length := (List.getElem?_eq_some_iff.mp ei).1
        have hj : j < ks.length := (List.getElem?_eq_some_iff.mp ej).1
        have e3 : w'.A[j]? = some ad := by
          rw [em, List.getElem?_append_left (by show j < (ks.map _).length; rw [List.length_map]; exact hj), sub_at w1 H1 ej hil]; exact ei
        have := nodup_at hr'.nd e3 ea
        omega
      · have hf : w1.F ad = none := l.sub.none hF
        cases q : H1 ad with
        | none => exact r1.toHR.occ ad z q
        | some o =>
          have := hr'.tp (ad, o) (by rw [hT]; exact List.mem_append_right _ (mem_others.mpr ⟨i, hin, ei, hf, q⟩))
          exact this.2.2 (List.mem_of_getElem? ea)
    · obtain ⟨t, ht, et⟩ := List.mem_map.mp z
      exact (hr'.tp t (by rw [hT]; exact List.mem_append_left _ ht)).2.2 (et ▸ List.mem_of_getElem? ea)
theorem cell_at {w : Wd} {H : Hp} {v : V} {k : Nat} {xs : List PyData} (hr : HR X.K w m H) (r : RV X.K w v (.ref k)) (hm : m[k]? = some (some (.lst xs))) : ∃ a vs, v = .ref a ∧ w.A[k]? = some a ∧ H a = some (.lst vs) ∧ DPs X.K w.F vs xs := by
  obtain ⟨a, o, ea, eo, vs, rfl, d⟩ := hr.cell k _ hm
  obtain ⟨a', ea', rfl⟩ := r
  rw [ea] at ea'; cases ea'
  exact ⟨a, vs, rfl, ea, eo, d⟩
theorem cell_upd {w : Wd} {H : Hp} {k : Nat} {a0 : Addr} {vs us : List V} {xs ys : List PyData} (hr : HR X.K w m H) (ea : w.A[k]? = some a0) (hm : m[k]? = some (some (.lst xs))) (d : DPs X.K w.F us ys) : HR X.K w (m.set k (some (.lst ys))) (upd H a0 (.lst us)) := hr.write (c' := .lst ys) (o := .lst us) ea hm ⟨us, rfl, d⟩
theorem we_lm1 {name : Str} {id : String} {r : V → List V → Hp → VK → Prop} {apos : Pos} {Qr : Nat → PyData → Mem → Prop} (slot : Slot "list" name id) (hty : typeOf (.builtin id) = pure (.type "method_descriptor")) (hmt : MtM X id r)
    (rule : ∀ (w0 w : Wd) (k : Nat) (y : PyData) (m : Mem) (H : Hp) (v u : V), w0.le w → HR X.K w m H → RV X.K w v (.ref k) → DP X.K w.F u y → Qr k y m → r v [u] H (POE X.K w0 Q))
    (h : WV X a L m fun p m1 => ∃ k xs0, p = .ref k ∧ m1[k]? = some (some (.lst xs0)) ∧ WE X e L m1 fun y m2 => Qr k y m2)
    (hb : attributeBase a name X.env (eval a X.env) = eval a X.env := by rfl)
    (hfew : ((backTo pos (starEach [e] X.env)).all (fun x => !x.1) && (backToKw pos (keywordEach [] X.env)).all (fun x => x.1.isSome)
      && decide ([e].length + ([] : List Keyword).length + (if ([] : List Keyword).isEmpty then 0 else 1) < 30)) = true := by rfl)
    (hline : (apos.endLine == pos.line) = true := by rfl) (he : starEach [e] X.env = (false, eval e X.env) :: starEach [] X.env := by rfl) (hpl : (backTo pos (starEach [] X.env)).any (·.1) = false := by rfl) : WE X (.Call (.Attribute a name apos) [e] [] pos) L m Q :=
  we_of (pe_bm PySem.F.plainAttrs_list slot hty hmt (peU a) (paU [e]) hb hfew hline he hpl) fun w σ H r => h.go r fun w1 v p m1 H1 l1 r1 d1 ⟨k, xs0, e1, e2, q1⟩ => by
    subst e1
    obtain ⟨a0, vs0, rfl, ea0, eo0, dd0⟩ := cell_at r1.toHR d1 e2
    refine ⟨.inl ⟨rfl, _, .inl (.inl eo0)⟩, WA.go (wd1 q1 he) r1 fun w2 us ps m2 H2 l2 r2 d2 ⟨y, e3, q⟩ => ?_⟩
    subst e3
    obtain ⟨u, rfl, d3⟩ := rvs1 d2
    exact rule w w2 k y m2 H2 _ u (l1.trans l2) r2.toHR (d1.mono l2.toLe0) d3 q
theorem we_lm0 {name : Str} {id : String} {r : V → List V → Hp → VK → Prop} {apos : Pos} {Qr : Nat → Mem → Prop} (slot : Slot "list" name id) (hty : typeOf (.builtin id) = pure (.type "method_descriptor")) (hmt : MtM X id r)
    (rule : ∀ (w0 w : Wd) (k : Nat) (m : Mem) (H : Hp) (v : V), w0.le w → HR X.K w m H → RV X.K w v (.ref k) → Qr k m → r v [] H (POE X.K w0 Q))
    (h : WV X a L m fun p m1 => ∃ k xs0, p = .ref k ∧ m1[k]? = some (some (.lst xs0)) ∧ Qr k m1)
    (hb : attributeBase a name X.env (eval a X.env) = eval a X.env := by rfl) (hline : (apos.endLine == pos.line) = true := by rfl) : WE X (.Call (.Attribute a name apos) [] [] pos) L m Q :=
  we_of (pe_bm0 PySem.F.plainAttrs_list slot hty hmt (peU a) hb hline) fun w σ H r => h.go r fun w1 v p m1 H1 l1 r1 d1 ⟨k, xs0, e1, e2, q1⟩ => by
    subst e1
    obtain ⟨a0, vs0, rfl, ea0, eo0, dd0⟩ := cell_at r1.toHR d1 e2
    exact ⟨.inl ⟨rfl, _, .inl (.inl eo0)⟩, rule w w1 k m1 H1 _ l1 r1.toHR d1 q1⟩
theorem we_append {apos : Pos} (h : WV X a L m fun p m1 => ∃ k xs0, p = .ref k ∧ m1[k]? = some (some (.lst xs0)) ∧ WE X e L m1 fun y m2 => ∃ xs, m2[k]? = some (some (.lst xs)) ∧ xs.length < sizeLine ∧ Q .none (m2.set k (some (.lst (xs ++ [y])))))
    (hb : attributeBase a "append" X.env (eval a X.env) = eval a X.env := by rfl)
    (hfew : ((backTo pos (starEach [e] X.env)).all (fun x => !x.1) && (backToKw pos (keywordEach [] X.env)).all (fun x => x.1.isSome)
      && decide ([e].length + ([] : List Keyword).length + (if ([] : List Keyword).isEmpty then 0 else 1) < 30)) = true := by rfl)
    (hline : (apos.endLine == pos.line) = true := by rfl) (he : starEach [e] X.env = (false, eval e X.env) :: starEach [] X.env := by rfl) (hpl : (backTo pos (starEach [] X.env)).any (·.1) = false := by rfl) : WE X (.Call (.Attribute a "append" apos) [e] [] pos) L m Q :=
  we_lm1 PySem.F.slot_list_append PySem.F.type_list_append mt_append (fun w0 w k y m H v u l hr d1 d2 ⟨xs, e4, hz, q⟩ => by
    obtain ⟨a1, vs, rfl, ea, eo, dd⟩ := cell_at hr d1 e4
    exact ⟨_, vs, u, rfl, rfl, eo, by rw [dpa_len dd]; exact hz, w, _, _, l, cell_upd (vs := vs) hr ea e4 (dpa_app dd (.cons d2 .nil)), .non, q⟩) h hb hfew hline he hpl
theorem we_popAt {apos : Pos} (h : WV X a L m fun p m1 => ∃ k xs0, p = .ref k ∧ m1[k]? = some (some (.lst xs0)) ∧ WE X e L m1 fun y m2 => ∃ xs i j z, m2[k]? = some (some (.lst xs)) ∧ y = .int i ∧ -(2 ^ 63) ≤ i ∧ i < 2 ^ 63 ∧ seqIndex? i xs.length = some j ∧ xs[j]? = some z ∧ Q z (m2.set k (some (.lst (xs.eraseIdx j)))))
    (hb : attributeBase a "pop" X.env (eval a X.env) = eval a X.env := by rfl)
    (hfew : ((backTo pos (starEach [e] X.env)).all (fun x => !x.1) && (backToKw pos (keywordEach [] X.env)).all (fun x => x.1.isSome)
      && decide ([e].length + ([] : List Keyword).length + (if ([] : List Keyword).isEmpty then 0 else 1) < 30)) = true := by rfl)
    (hline : (apos.endLine == pos.line) = true := by rfl) (he : starEach [e] X.env = (false, eval e X.env) :: starEach [] X.env := by rfl) (hpl : (backTo pos (starEach [] X.env)).any (·.1) = false := by rfl) : WE X (.Call (.Attribute a "pop" apos) [e] [] pos) L m Q :=
  we_lm1 PySem.F.slot_list_pop PySem.F.type_list_pop mt_popAt (fun w0 w k y m H v u l hr d1 d2 ⟨xs, i, j, z, e4, e5, i1, i2, e6, e7, q⟩ => by
    subst e5
    obtain ⟨a1, vs, rfl, ea, eo, dd⟩ := cell_at hr d1 e4
    obtain ⟨z', ez, dz⟩ := dpa_get dd e7
    exact ⟨_, vs, i, j, z', rfl, by rw [dp_int d2], eo, i1, i2, by rw [dpa_len dd]; exact e6, ez, w, z, _, l, cell_upd (vs := vs) hr ea e4 (dpa_erase j dd), dz, q⟩) h hb hfew hline he hpl
theorem we_pop {apos : Pos} (h : WV X a L m fun p m1 => ∃ k xs0, p = .ref k ∧ m1[k]? = some (some (.lst xs0)) ∧ ∃ xs z, m1[k]? = some (some (.lst xs)) ∧ xs[xs.length - 1]? = some z ∧ Q z (m1.set k (some (.lst xs.dropLast))))
    (hb : attributeBase a "pop" X.env (eval a X.env) = eval a X.env := by rfl) (hline : (apos.endLine == pos.line) = true := by rfl) : WE X (.Call (.Attribute a "pop" apos) [] [] pos) L m Q :=
  we_lm0 PySem.F.slot_list_pop PySem.F.type_list_pop mt_pop (fun w0 w k m H v l hr d1 ⟨xs, z, e4, e5, q⟩ => by
    obtain ⟨a1, vs, rfl, ea, eo, dd⟩ := cell_at hr d1 e4
    obtain ⟨z', ez, dz⟩ := dpa_get dd e5
    exact ⟨_, vs, z', rfl, rfl, eo, by rw [dpa_len dd]; exact ez, w, z, _, l, cell_upd (vs := vs) hr ea e4 (dpa_dropLast dd), dz, q⟩) h hb hline
end
end PP
namespace PP
open PySem PySem.Spec PyProof.Rows L2
def Bd (k : Nat) (i : Int) : Prop := i.natAbs < 2 ^ k
theorem Bd.of {k : Nat} {i : Int} (h0 : 0 ≤ i) (h : i < 2 ^ k) : Bd k i := by
  unfold Bd
  have : ((2 ^ k : Nat) : Int) = (2 : Int) ^ k := by simp
  omega
theorem Bd.mono {j k : Nat} {i : Int} (h : Bd j i) (l : j ≤ k) : Bd k i := Nat.lt_of_lt_of_le h (Nat.pow_le_pow_right (by decide) l)
theorem Bd.mul {j k : Nat} {a b : Int} (h : Bd j a) (g : Bd k b) : Bd (j + k) (a * b) := wide_lt h g
theorem Bd.log {k : Nat} {i : Int} (h : Bd k i) : i.natAbs.log2 ≤ k := by
  rcases Nat.eq_zero_or_pos i.natAbs with z | z
  · rw [z]; exact Nat.zero_le _
  · exact Nat.le_of_lt ((Nat.log2_lt (Nat.ne_of_gt z)).mpr h)
theorem cmul_of {j k : Nat} {a b : Int} (h : Bd j a) (g : Bd k b) (l : j + k < 1000000 := by decide) : CMulW a b := by
  have := h.log
  have := g.log
  unfold CMulW
  omega
theorem cdiv_of {k : Nat} {a b : Int} (h0 : 0 < b) (g : Bd k b) (l : k < 9000 := by decide) : CDivW a b := ⟨h0, Nat.lt_of_le_of_lt g.log l⟩
def CPowW (i j : Int) : Prop := 0 ≤ j ∧ (Builtin.Int.intBits i : Int) * j ≤ 2 ^ 27
theorem cpow_of {k : Nat} {a b : Int} (h : Bd k a) (h0 : 0 ≤ b) (h1 : b ≤ 64) (l : k ≤ 1000000 := by decide) : CPowW a b := by
  refine ⟨h0, ?_⟩
  have e : Builtin.Int.intBits a ≤ a.natAbs.log2 + 1 := by
    unfold Builtin.Int.intBits
    split <;> omega
  have := h.log
  have e2 : (Builtin.Int.intBits a : Int) * b ≤ 1000001 * 64 := Int.mul_le_mul (by omega) h1 h0 (by omega)
  have e3 : (2 : Int) ^ 27 = 134217728 := by decide
  omega
section
variable {X : Cx} {L : PP.Loc} {m : Mem} {a b : Expr} {pos : Pos} {Q : QE}
theorem op_powW : OpR X (binaryOp .Pow) (rI CPowW fun i j => .int (i ^ j.toNat)) := opI fun _ _ _ _ _ _ _ hc q => pow_int hc.1 hc.2 q
theorem we_pow (h : WE X a L m fun x m1 => WE X b L m1 fun y m2 => AskI x y fun i j => CPowW i j ∧ Q (.int (i ^ j.toNat)) m2) : WE X (.BinOp a .Pow b pos) L m Q := we_op op_powW (h.mono fun _ _ h => h.mono fun _ _ q => opw_I q)
end
end PP
namespace PP
open PySem PySem.Spec PyProof.Rows L2
section
variable {X : Cx} {L : PP.Loc} {m : Mem} {a b c e : Expr} {es : List Expr} {pos p : Pos} {Q : QE} {QT : Bool → Mem → Prop} {QL : List PyData → Mem → Prop} {D : PEnds}
def VT (X : Cx) (e : Expr) (L : PP.Loc) (m : Mem) (b : Bool) : Prop := ∀ Q : Bool → Mem → Prop, Q b m → WT X e L m Q
def VW (X : Cx) (e : Expr) (L : PP.Loc) (m : Mem) (b : Bool) : Prop := ∀ Q : Bool → Mem → Prop, Q b m → WW X e L m Q
def VE (X : Cx) (e : Expr) (L : PP.Loc) (m : Mem) (x : PyData) : Prop := ∀ Q : QE, Q x m → WE X e L m Q
theorem VT.use {k : Bool} (h : VT X e L m k) (q : QT k m) : WT X e L m QT := h QT q
theorem VE.use {k : PyData} (h : VE X e L m k) (q : Q k m) : WE X e L m Q := h Q q
theorem VW.vt {k : Bool} (h : VW X e L m k) : VT X e L m k := fun Q q => wt_ww (h Q q)
theorem vw_and1 {k : Bool} (h : VT X a L m k) : VW X (.BoolOp .And [a] pos) L m k := fun Q q => ww_and1 (h Q q)
theorem vw_or1 {k : Bool} (h : VT X a L m k) : VW X (.BoolOp .Or [a] pos) L m k := fun Q q => ww_or1 (h Q q)
theorem vw_and {k j : Bool} (h : VT X a L m k) (g : k = true → VW X (.BoolOp .And (b :: es) pos) L m j) : VW X (.BoolOp .And (a :: b :: es) pos) L m (k && j) := fun Q q => ww_and (h _ ⟨fun e => by
  subst e; exact g rfl Q q, fun e => by subst e; exact q⟩)
theorem vw_or {k j : Bool} (h : VT X a L m k) (g : k = false → VW X (.BoolOp .Or (b :: es) pos) L m j) : VW X (.BoolOp .Or (a :: b :: es) pos) L m (k || j) := fun Q q => ww_or (h _ ⟨fun e => by
  subst e; exact q, fun e => by subst e; exact g rfl Q q⟩)
theorem vt_not {k : Bool} (h : VT X a L m k) : VT X (.UnaryOp .Not a pos) L m (!k) := fun Q q => wt_not (h _ q)
theorem ve_one {op : BoolOp} {x : PyData} (h : VE X a L m x) : VE X (.BoolOp op [a] pos) L m x := fun Q q => we_one (h Q q)
theorem ve_and {k j : Bool} (h : VE X a L m (.bool k)) (g : k = true → VE X (.BoolOp .And (b :: es) pos) L m (.bool j)) : VE X (.BoolOp .And (a :: b :: es) pos) L m (.bool (k && j)) := fun Q q => we_andV (h _ ⟨k, rfl, fun e => by
  subst e; exact g rfl Q q, fun e => by subst e; exact q⟩)
theorem wt_truth (h : WV X a L m fun p m1 => ∃ xs, seqP m1 p = some xs ∧ QT (!xs.isEmpty) m1) (he : ∀ whole, isTrue a X.env whole = (do let v ← whole; standAt a.pos; holding [v] (truthy v)) := by intro _; rfl) : WT X a L m QT :=
  wt_of (pt_truth (peU a) he) fun w σ H r => h.go r fun w1 v p m1 H1 l1 r1 d1 ⟨xs, e1, q⟩ => by
    obtain ⟨ad, vs, rfl, hh, d⟩ := seqP_ok r1.toHR d1 e1
    have e2 : (!vs.isEmpty) = (!xs.isEmpty) := by
      cases d with
      | nil => rfl
      | cons _ _ => rfl
    rcases hh with hh | hh
    · exact ⟨_, .inl ⟨vs, hh, rfl⟩, w1, m1, l1, r1.toHR, by rw [e2]; exact q⟩
    · exact ⟨_, .inr (.inl ⟨vs, hh, rfl⟩), w1, m1, l1, r1.toHR, by rw [e2]; exact q⟩
theorem we_eqI (h : WE X a L m fun x m1 => WE X b L m1 fun y m2 => AskI x y fun i j => Q (.bool (decide (i = j))) m2) : WE X (.Compare a [.Eq] [b] pos) L m Q :=
  we_of (pe_cmp (pc_eqI (peU a) (peU b))) fun w σ H rp => by
    refine h.go rp fun w1 v x m1 H1 l1 r1 d1 q1 => q1.go r1 fun w2 u y m2 H2 l2 r2 d2 ⟨i, j, e1, e2, q⟩ => ?_
    subst e1; subst e2
    exact ⟨i, j, dp_int (dp_mono l2.sub _ _ d1), dp_int d2, w2, _, m2, l1.trans l2, r2.toHR, .bl _, q⟩
theorem we_neI (h : WE X a L m fun x m1 => WE X b L m1 fun y m2 => AskI x y fun i j => Q (.bool (!decide (i = j))) m2) : WE X (.Compare a [.NotEq] [b] pos) L m Q :=
  we_of (pe_cmp (pc_neI (peU a) (peU b))) fun w σ H rp => by
    refine h.go rp fun w1 v x m1 H1 l1 r1 d1 q1 => q1.go r1 fun w2 u y m2 H2 l2 r2 d2 ⟨i, j, e1, e2, q⟩ => ?_
    subst e1; subst e2
    exact ⟨i, j, dp_int (dp_mono l2.sub _ _ d1), dp_int d2, w2, _, m2, l1.trans l2, r2.toHR, .bl _, q⟩
theorem we_chain {op op' : CmpOp} {g g' : Int → Int → Bool} (ho : OpR X (compareOp op) (rI0 fun i j => .bl (g i j))) (ho' : OpR X (compareOp op') (rI0 fun i j => .bl (g' i j))) (hm : lastMarks [op, op'] [b, c] = false)
    (h : WE X a L m fun x m1 => WE X b L m1 fun y m2 => AskI x y fun i j => if g i j = true then WE X c L m2 fun z m3 => ∃ k, z = .int k ∧ Q (.bool (g' j k)) m3 else Q (.bool false) m2) : WE X (.Compare a [op, op'] [b, c] pos) L m Q := by
  refine we_of (pe_chain ho ho' (peU a) (peU b) (peU c) hm) fun w σ H rp => ?_
  refine h.go rp fun w1 v x m1 H1 l1 r1 d1 q1 => q1.go r1 fun w2 u y m2 H2 l2 r2 d2 ⟨i, j, e1, e2, q⟩ => ?_
  subst e1; subst e2
  have d1' := dp_int (dp_mono l2.sub _ _ d1)
  have d2' := dp_int d2
  refine ⟨i, j, d1', d2', _, rfl, ?_⟩
  have q : if g i j = true then WE X c L m2 fun z m3 => ∃ k, z = PyData.int k ∧ Q (.bool (g' j k)) m3 else Q (.bool false) m2 := q
  by_cases hg : g i j = true
  · rw [if_pos hg] at q
    rw [if_pos hg]
    refine q.go r2 fun w3 v3 z m3 H3 l3 r3 d3 ⟨k, e3, q3⟩ => ?_
    subst e3
    exact ⟨j, k, d2', dp_int d3, w3, _, m3, (l1.trans l2).trans l3, r3.toHR, .bl _, q3⟩
  · rw [if_neg hg] at q
    rw [if_neg hg]
    exact ⟨w2, _, m2, l1.trans l2, r2.toHR, .bl _, q⟩
theorem dpa_bools_inv {K : PySem.W.Frag} {F : Hp} : ∀ {vs : List V} {bs : List Bool}, DPs K F vs (bs.map PyData.bool) → vs = bs.map V.bl
  | _, [], h => by cases h; rfl
  | _, b :: bs, h => by
    cases h with
    | cons h1 h2 => rw [dp_bool h1, dpa_bools_inv h2]; rfl
theorem wf_sortedI (hm : X.mg "sorted" = none) (h : WV X a L m fun p m1 => ∃ ns : List Int, lstP m1 p = some (ns.map .int) ∧ ns.length < 64 ∧ ∀ ns' : List Int, ns'.Perm ns → ns'.Pairwise (· ≤ ·) → QL (ns'.map .int) m1) (hg : Gl X "sorted" := by rfl) (he : starEach [a] X.env = (false, eval a X.env) :: starEach [] X.env := by rfl)
    (hpl : (backTo pos (starEach [] X.env)).any (·.1) = false := by rfl) : WF X (.Call (.Name "sorted" p) [a] [] pos) L m QL :=
  wf_of (pe_callB cr_sorted hg hm (by decide +kernel) (paU [a]) (he := he) (hpl := hpl)) fun w σ H r => WA.go (wa1 h he) r fun w1 vs ps m1 H1 l1 r1 d1 ⟨p, e1, ns, e2, hz, q⟩ => by
    subst e1
    obtain ⟨v, rfl, d2⟩ := rvs1 d1
    obtain ⟨ad, vs, rfl, hh, d⟩ := lstP_ok r1.toHR d2 e2
    have e3 := dpa_ints_inv d
    subst e3
    refine ⟨ad, ns, rfl, .of hh, hz, fun ns' p pm pw hp => ?_⟩
    obtain ⟨hr2, u⟩ := r1.toHR.un (o := .lst (ns'.map V.int)) hp
    exact ⟨w1, _, m1, p, _, rfl, l1, hr2, upd_same, u, dpa_ints ns', q ns' pm pw⟩
theorem we_all (hc : X.calm = true) (hm : X.mg "all" = none) (h : WV X a L m fun p m1 => ∃ bs : List Bool, lstP m1 p = some (bs.map .bool) ∧ Q (.bool (bs.all id)) m1) (hg : Gl X "all" := by rfl) (he : starEach [a] X.env = (false, eval a X.env) :: starEach [] X.env := by rfl)
    (hpl : (backTo pos (starEach [] X.env)).any (·.1) = false := by rfl) : WE X (.Call (.Name "all" p) [a] [] pos) L m Q :=
  we_of (pe_callB (cr_all hc) hg hm (by decide +kernel) (paU [a]) (he := he) (hpl := hpl)) fun w σ H r => WA.go (wa1 h he) r fun w1 vs ps m1 H1 l1 r1 d1 ⟨p, e1, bs, e2, q⟩ => by
    subst e1
    obtain ⟨v, rfl, d2⟩ := rvs1 d1
    obtain ⟨ad, vs, rfl, hh, d⟩ := lstP_ok r1.toHR d2 e2
    have e3 := dpa_bools_inv d
    subst e3
    exact ⟨ad, bs, rfl, .of hh, w1, _, m1, l1, r1.toHR, .bl _, q⟩
def tyD : PyData → String
  | .none => "NoneType"
  | .bool _ => "bool"
  | .int _ => "int"
  | .str _ => "str"
  | .list _ => "list"
  | .tuple _ => "tuple"
  | .dict _ => "dict"
theorem tyD_ok {w : Wd} {H : Hp} {v : V} {x : PyData} (hr : HR X.K w m H) (d : DP X.K w.F v x) : TyX X.K H v (.type (tyD x)) ∨ ∃ xs, x = .tuple xs := by
  cases d with
  | non => exact .inl (.base .non)
  | bl b => exact .inl (.base (.bl b))
  | int i => exact .inl (.base (.int i))
  | str s => exact .inl (.base (.str s))
  | lst h _ => exact .inl (.base (.lst (hr.fz _ _ h)))
  | tup h d =>
    refine .inr ⟨_, rfl⟩
theorem tyD_tup {w : Wd} {H : Hp} {v : V} {xs : List PyData} (hr : HR X.K w m H) (d : DP X.K w.F v (.tuple xs)) : TyX X.K H v (.type "tuple") := by
  cases d with
  | tup h d =>
    rcases hr.fz.sqt h with (h | ⟨o, h⟩) | ⟨o, its, n, hk, hcl, _⟩
    · exact .base (.tup h)
    · exact .fTuple h
    · exact .kTuple hk hcl
theorem we_isinst {T : String} {x : Str} {p2 : Pos} (hm : X.mg "isinstance" = none) (hmT : X.mg x = none) (hb : bootBuiltins x = some (.type T)) (h : WE X a L m fun y m1 => ∃ k, kitB (tyD y) T = some k ∧ Q (.bool k) m1) (hg : Gl X "isinstance" := by rfl) (hgT : Gl X x := by rfl)
    (hn : x ≠ "__name__" := by decide) (hd : (x == ("__debug__" : Str)) = false := by decide)
    (he : starEach [a, .Name x p2] X.env = (false, eval a X.env) :: starEach [.Name x p2] X.env := by rfl) (he2 : starEach [.Name x p2] X.env = (false, eval (.Name x p2) X.env) :: starEach [] X.env := by rfl) (hpl : (backTo pos (starEach [.Name x p2] X.env)).any (·.1) = false := by rfl) : WE X (.Call (.Name "isinstance" p) [a, .Name x p2] [] pos) L m Q :=
  we_of (pe_callB call_isi hg hm (by decide +kernel) (pa_cons (peU a) (pa_cons (pe_bltn (v := .ty T) hgT hmT hb rfl hn hd) pa_nil he2) he) (he := he) (hpl := hpl)) fun w σ H r => h.go r fun w1 v y m1 H1 l1 r1 d1 ⟨k, e1, q⟩ => by
    have ty : TyX X.K H1 v (.type (tyD y)) := by
      rcases tyD_ok r1.toHR d1 with t | ⟨xs, rfl⟩
      · exact t
      · exact tyD_tup r1.toHR d1
    exact ⟨v, .ty T, _, _, k, rfl, .ty T, ty, kit_ty e1, w1, _, m1, l1, r1.toHR, .bl k, q⟩
def valD (kvs : List (Key × PyData)) (k : Key) : Option PyData := (kvs.find? fun kv => decide (kv.1 = k)).map (·.2)
end
end PP
namespace PP
open PySem PySem.Spec PyProof.Rows L2
theorem setAll_nil {m cs : Mem} : setAll m [] cs = m := by cases cs <;> rfl
theorem units65 {k : Nat} {A : Around} (r : Room k A) : A.units + 65 < cLine := by have := r.un; omega
theorem units1 {k : Nat} {A : Around} (r : Room k A) : A.units + 1 < cLine := by have := r.un; omega
theorem Bd.add {j k : Nat} {a b : Int} (h : Bd j a) (g : Bd k b) : Bd (max j k + 1) (a + b) := by
  unfold Bd at *
  have h1 : a.natAbs < 2 ^ max j k := Nat.lt_of_lt_of_le h (Nat.pow_le_pow_right (by decide) (Nat.le_max_left ..))
  have h2 : b.natAbs < 2 ^ max j k := Nat.lt_of_lt_of_le g (Nat.pow_le_pow_right (by decide) (Nat.le_max_right ..))
  rw [Nat.pow_succ]
  omega
theorem Bd.mod {k : Nat} {i j : Int} (h0 : 0 < j) (h : j ≤ 2 ^ k) : Bd k (i % j) := Bd.of (Int.emod_nonneg _ (by omega)) (Int.lt_of_lt_of_le (Int.emod_lt_of_pos _ h0) h)
theorem Bd.div {k : Nat} {a j : Int} (h : Bd k a) (ha : 0 ≤ a) (h0 : 0 < j) : Bd k (a / j) := by
  unfold Bd at *
  have h1 : a / j ≤ a := Int.ediv_le_self _ ha
  have h2 : 0 ≤ a / j := Int.ediv_nonneg ha (by omega)
  omega
theorem Bd.lit {k : Nat} {i : Int} (h : i.natAbs < 2 ^ k := by decide +kernel) : Bd k i := h
def WL (n : Nat) (xs : List PyData) : Prop := ∃ a b c : Int, xs = [.int a, .int b, .int c] ∧ 0 ≤ a ∧ Bd 2000000 a ∧ 0 ≤ b ∧ b < 2 ^ 120 ∧ 0 ≤ c ∧ c ≤ n
theorem WL.mono {n k : Nat} {xs : List PyData} (h : WL n xs) (l : n ≤ k) : WL k xs := by
  obtain ⟨a, b, c, e, h1, h2, h3, h4, h5, h6⟩ := h
  exact ⟨a, b, c, e, h1, h2, h3, h4, h5, by omega⟩
def spDraw : FSp := fun pvs m q => ∃ (xs : List PyData) (n : Nat) (lim : Int), pvs = [.ref 0, .d (.int lim)] ∧ m = [some (.lst xs)] ∧ WL n xs ∧ n < 1000000000 ∧ 0 < lim ∧ lim < 2 ^ 140 ∧
  ∀ r xs', 0 ≤ r → r < lim → WL (n + 1) xs' → q (.d (.int r)) [some (.lst xs')]
def spWell : FSp := fun pvs m q => ∃ (ns : List Int) (i : Nat), pvs = [.raw (ns.map .int), .d (.int i)] ∧ m = [] ∧ (∀ z ∈ ns, Builtin.Int.intBits z ≤ 1048576) ∧ i < 1000000 ∧
  ∀ xs', WL 0 xs' → q (.ref 0) [some (.lst xs')]
theorem bits_bd {z : Int} (h : Builtin.Int.intBits z ≤ 1048576) : Bd 1048577 z := by
  unfold Builtin.Int.intBits at h
  split at h
  · rename_i e
    have : z.natAbs = 0 := by simpa using e
    unfold Bd
    rw [this]
    exact Nat.pow_pos (by decide)
  · rename_i e
    have e0 : z.natAbs ≠ 0 := by simpa using e
    unfold Bd
    refine (Nat.log2_lt e0).mp ?_
    omega
theorem ixN_of {n : Nat} {i : Int} (h0 : 0 ≤ i) (h : i < n) : ixN n i = some i.toNat := by
  unfold ixN
  rw [if_pos h0, if_pos h]
theorem ixN_ng {n : Nat} {i : Int} (h0 : i < 0) (h : -(n : Int) ≤ i) : ixN n i = some (i + n).toNat := by
  unfold ixN
  rw [if_neg (by omega), if_pos h]
theorem atI_of {α : Type} {xs : List α} {i : Int} (h0 : 0 ≤ i) (h : i < xs.length) : atI xs i = some (xs[i.toNat]'(by omega)) := by
  unfold atI
  rw [ixN_of h0 h, Option.bind_some, List.getElem?_eq_getElem (by omega)]
theorem atI_ng {α : Type} {xs : List α} {i : Int} (h0 : i < 0) (h : -(xs.length : Int) ≤ i) : atI xs i = some (xs[(i + xs.length).toNat]'(by omega)) := by
  unfold atI
  rw [ixN_ng h0 h, Option.bind_some, List.getElem?_eq_getElem (by omega)]
theorem atI_ints {ns : List Int} {i : Int} (h0 : 0 ≤ i) (h : i < ns.length) : atI (ns.map PyData.int) i = some (.int (ns.getD i.toNat 0)) := by
  rw [atI_of h0 (by rw [List.length_map]; exact h), List.getElem_map]
  have h1 : i.toNat < ns.length := by omega
  rw [List.getD_eq_getElem?_getD, List.getElem?_eq_getElem h1, Option.getD_some]
theorem sxI {n : Nat} {i : Int} (h0 : 0 ≤ i) (h : i < n) : seqIndex? i n = some i.toNat := (ixN_seq (ixN_of h0 h)).1
theorem szl {n : Nat} (h : n ≤ 16777216) : n ≤ sizeLine := h
theorem szlt {n : Nat} (h : n < 16777216) : n < sizeLine := h
theorem lcP {X : Cx} {L : PP.Loc} {elt : Expr} {scope : Scope} {own : List (Str × Nat)} {pat : Pat} {Q : List PyData → Mem → Prop} {xs : List PyData} {g : Mem → Prop} {m1 : Mem} (hz : xs.length ≤ sizeLine) (hg : g m1) (f : Nat → PyData)
    (h : ∀ (i : Nat) (x : PyData), xs[i]? = some x → ∃ Lx, setP (wipeL L (own.map (·.2))) pat x = some Lx ∧ WEb X scope elt Lx m1 fun y m4 => y = f i ∧ m4 = m1) (q : Q ((List.range xs.length).map f) m1) :
    xs.length ≤ sizeLine ∧ ∃ I : Nat → List PyData → Mem → Prop, I 0 [] m1 ∧
      (∀ (i : Nat) (x : PyData) (ys : List PyData) (m' : Mem), xs[i]? = some x → ys.length ≤ i → I i ys m' → g m' ∧ ∃ Lx, setP (wipeL L (own.map (·.2))) pat x = some Lx ∧ WEb X scope elt Lx m' fun y m4 => I (i + 1) (ys ++ [y]) m4) ∧
      ∀ ys m', ys.length ≤ xs.length → I xs.length ys m' → g m' ∧ Q ys m' := by
  refine ⟨hz, fun i ys m => m = m1 ∧ ys = (List.range i).map f, ⟨rfl, rfl⟩, ?_, ?_⟩
  · rintro i x ys m' hx _ ⟨rfl, rfl⟩
    obtain ⟨Lx, e, w⟩ := h i x hx
    refine ⟨hg, Lx, e, fun s H C cl fp => (w s H C cl fp).mono ?_⟩
    rintro y m4 ⟨rfl, rfl⟩
    refine ⟨rfl, ?_⟩
    rw [List.range_succ, List.map_append]
    rfl
  · rintro ys m' _ ⟨rfl, rfl⟩
    exact ⟨hg, q⟩
def ringD (u d : Int) : List PyData := ((List.range u.toNat).map fun i => PyData.tuple [.int 0, .int (0 + (i : Nat))]) ++ (List.range d.toNat).map fun i => PyData.tuple [.int 1, .int (d - 1 + (i : Nat) * -1)]
def spRing : FSp := fun pvs m q => ∃ u d : Int, pvs = [.d (.int u), .d (.int d)] ∧ m = [] ∧ 0 ≤ u ∧ u ≤ 100000 ∧ 0 ≤ d ∧ d ≤ 100000 ∧ q (.ref 0) [some (.lst (ringD u d))]
def spCounts : FSp := fun pvs m q => ∃ (xs : List PyData) (n : Nat) (k : Int), pvs = [.ref 0, .d (.int k)] ∧ m = [some (.lst xs)] ∧ WL n xs ∧ n < 900000000 ∧ 2 ≤ k ∧ k ≤ 1000 ∧
  ∀ xs' u d, 0 ≤ u → 0 ≤ d → 0 < u + d → u + d ≤ k → (u + d) % 2 = 0 → WL (n + 3) xs' → q (.d (.tuple [.int u, .int d])) [some (.lst xs')]
theorem wl_new {x : Int} {i : Nat} (h : Bd 1048577 x) (hi : i < 1000000) : WL 0 [.int (if x - 10 ^ (18 : Int).toNat > 0 then x - 10 ^ (18 : Int).toNat else 0), .int (x % (10 ^ (33 : Int).toNat + 61) + 104395301 * (i : Int) + 1299709), .int 0] := by
  have e1 : (10 : Int) ^ (33 : Int).toNat + 61 = 1000000000000000000000000000000061 := by decide +kernel
  have e2 : (10 : Int) ^ (18 : Int).toNat = 1000000000000000000 := by decide +kernel
  rw [e1, e2]
  have h1 := Int.emod_nonneg x (b := 1000000000000000000000000000000061) (by decide)
  have h2 := Int.emod_lt_of_pos x (b := 1000000000000000000000000000000061) (by decide)
  refine ⟨_, _, _, rfl, ?_, ?_, by omega, by omega, by omega, by omega⟩
  · split <;> omega
  · split
    · exact (h.add (b := -1000000000000000000) (k := 60) (Bd.lit)).mono (by decide)
    · exact Bd.lit (k := 1) |>.mono (by decide)
theorem rep_ints {n : Nat} {z : Int} : (List.replicate n z).map PyData.int = (List.replicate n [PyData.int z]).flatten := by
  induction n with
  | zero => rfl
  | succ n ih => rw [List.replicate_succ, List.replicate_succ, List.map_cons, List.flatten_cons, ih]; rfl
inductive WkL (n : Nat) : PP.Loc → PP.Loc → Prop
  | nil : WkL n [] []
  | kd {x : PyData} {L L' : PP.Loc} : WkL n L L' → WkL n (some (.d x) :: L) (some (.d x) :: L')
  | kr {k : Nat} {L L' : PP.Loc} : k < n → WkL n L L' → WkL n (some (.ref k) :: L) (some (.ref k) :: L')
  | kw {x : List PyData} {L L' : PP.Loc} : WkL n L L' → WkL n (some (.raw x) :: L) (some (.raw x) :: L')
  | kx {C : Addr} {x : PyData} {L L' : PP.Loc} : WkL n L L' → WkL n (some (.exc C x) :: L) (some (.exc C x) :: L')
  | drop {y : Option PV} {L L' : PP.Loc} : WkL n L L' → WkL n (y :: L) (none :: L')
theorem WkL.len {n : Nat} : ∀ {L L' : PP.Loc}, WkL n L L' → L'.length = L.length
  | _, _, .nil => rfl
  | _, _, .kd h => by rw [List.length_cons, List.length_cons, h.len]
  | _, _, .kr _ h => by rw [List.length_cons, List.length_cons, h.len]
  | _, _, .kw h => by rw [List.length_cons, List.length_cons, h.len]
  | _, _, .kx h => by rw [List.length_cons, List.length_cons, h.len]
  | _, _, .drop h => by rw [List.length_cons, List.length_cons, h.len]
theorem WkL.at {n : Nat} : ∀ {L L' : PP.Loc}, WkL n L L' → ∀ (i : Nat) (p : PV), L'[i]? = some (some p) → L[i]? = some (some p) ∧ ∀ k, p = .ref k → k < n
  | _, _, .nil, i, p, e => by simp at e
  | _, _, .kd h, 0, p, e => by simp at e; subst e; exact ⟨rfl, fun k z => by cases z⟩
  | _, _, .kr hk h, 0, p, e => by simp at e; subst e; exact ⟨rfl, fun k z => by cases z; exact hk⟩
  | _, _, .kw h, 0, p, e => by simp at e; subst e; exact ⟨rfl, fun k z => by cases z⟩
  | _, _, .kx h, 0, p, e => by simp at e; subst e; exact ⟨rfl, fun k z => by cases z⟩
  | _, _, .drop h, 0, p, e => by simp at e
  | _, _, .kd h, i + 1, p, e => h.at i p (by simpa using e)
  | _, _, .kr _ h, i + 1, p, e => h.at i p (by simpa using e)
  | _, _, .kw h, i + 1, p, e => h.at i p (by simpa using e)
  | _, _, .kx h, i + 1, p, e => h.at i p (by simpa using e)
  | _, _, .drop h, i + 1, p, e => h.at i p (by simpa using e)
theorem Wk.same {n : Nat} {L L' : PP.Loc} {m : Mem} (h : WkL m.length L L') (hn : n ≤ m.length) : Wk n L m L' m := ⟨h.len, h.at, m.length, hn, by rw [List.take_length]⟩
theorem Wk.cut {n : Nat} {L L' : PP.Loc} {m : Mem} (h : WkL (m.take n).length L L') : Wk n L m L' (m.take n) := ⟨h.len, h.at, n, Nat.le_refl _, rfl⟩
theorem cutD_le {xs : List PyData} {lo hi : Option Int} : (cutD xs lo hi).length ≤ xs.length := by
  unfold cutD
  rw [List.length_take, List.length_drop]
  omega
theorem atI_gd {xs : List PyData} {i : Int} (h0 : 0 ≤ i) (h : i < xs.length) : atI xs i = some (xs.getD i.toNat .none) := by
  rw [atI_of h0 h, List.getD_eq_getElem?_getD, List.getElem?_eq_getElem (by omega), Option.getD_some]
theorem atI_gdn {xs : List PyData} {i : Int} (h0 : i < 0) (h : -(xs.length : Int) ≤ i) : atI xs i = some (xs.getD (i + xs.length).toNat .none) := by
  rw [atI_ng h0 h, List.getD_eq_getElem?_getD, List.getElem?_eq_getElem (by omega), Option.getD_some]
theorem mem_getD {α : Type} {xs : List α} {j : Nat} {d : α} (h : j < xs.length) : xs.getD j d ∈ xs := by
  rw [List.getD_eq_getElem?_getD, List.getElem?_eq_getElem h, Option.getD_some]
  exact List.getElem_mem h
end PP
namespace PP
open PySem PySem.Spec PyProof.Rows L2
def Sd (n : Nat) (d : PyData) : Prop := d.canLay0 = true ∧ d.depth ≤ n
theorem Sd.mono {n k : Nat} {d : PyData} (h : Sd n d) (l : n ≤ k) : Sd k d := ⟨h.1, Nat.le_trans h.2 l⟩
theorem Sd.shp {n : Nat} {d : PyData} (h : Sd n d) (l : n ≤ 64 := by decide) : shp d := by
  unfold PP.shp SeqAt.shaped
  rw [Bool.and_eq_true]
  exact ⟨h.1, decide_eq_true (Nat.le_trans h.2 l)⟩
theorem ws_join {X : Cx} {st : Stmt} {L : PP.Loc} {m : Mem} {D : PEnds} (J : PP.Loc → Mem → Prop) (h : WS X st L m { D with nx := J }) (k : ∀ L' m', J L' m' → D.nx L' m') : WS X st L m D :=
  fun w σ H r => tUS_mono (h w σ H r) (fun σ' H' ⟨w', L', m', l, r', q⟩ => ⟨w', L', m', l, r', k _ _ q⟩) (fun _ _ q => q) (fun _ _ q => q) (fun _ _ q => q)
def Tg (k : Int) (x : PyData) : Prop := ∃ (u d : Int) (ns : List Int), x = .tuple [.int u, .int d, .tuple (ns.map .int)] ∧ -(1000 + 10 * k) ≤ u ∧ u ≤ 1000 + 10 * k ∧ -(1000 + 10 * k) ≤ d ∧ d ≤ 1000 + 10 * k ∧ ns.length ≤ 16 ∧
  ∀ z ∈ ns, -(1000000000000000000000000000000 + 100 * k) ≤ z ∧ z ≤ 1000000000000000000000000000000 + 100 * k
theorem Tg.mono {k l : Int} {x : PyData} (h : Tg k x) (e : k ≤ l) : Tg l x := by
  obtain ⟨u, d, ns, e1, h1, h2, h3, h4, h5, h6⟩ := h
  exact ⟨u, d, ns, e1, by omega, by omega, by omega, by omega, h5, fun z hz => by have := h6 z hz; omega⟩
theorem erase_map {α β : Type} {f : α → β} : ∀ {xs : List α} {i : Nat}, (xs.eraseIdx i).map f = (xs.map f).eraseIdx i
  | [], _ => rfl
  | _ :: _, 0 => rfl
  | x :: xs, i + 1 => by
    rw [List.map_cons, List.eraseIdx_cons_succ, List.eraseIdx_cons_succ, List.map_cons, erase_map]
end PP
namespace PP
open PySem PySem.Spec PyProof.Rows L2
section
variable {X : Cx} {L : PP.Loc} {m : Mem} {a b c : Expr} {pos : Pos} {i j k : Int} {Q : QE} {es : List Expr}
theorem ve_chain {op op' : CmpOp} {g g' : Int → Int → Bool} (ho : OpR X (compareOp op) (rI0 fun i j => .bl (g i j))) (ho' : OpR X (compareOp op') (rI0 fun i j => .bl (g' i j))) (hm : lastMarks [op, op'] [b, c] = false)
    (ha : VE X a L m (.int i)) (hb : VE X b L m (.int j)) (hc : g i j = true → VE X c L m (.int k)) : VE X (.Compare a [op, op'] [b, c] pos) L m (.bool (g i j && g' j k)) := fun Q q => we_chain ho ho' hm (ha _ (hb _ ⟨i, j, rfl, rfl, by
    dsimp only
    by_cases h : g i j = true
    · rw [if_pos h]
      refine hc h _ ⟨k, rfl, ?_⟩
      rw [h, Bool.true_and] at q
      exact q
    · rw [if_neg h]
      rw [Bool.eq_false_iff.mpr h, Bool.false_and] at q
      exact q⟩))
theorem vt_chain {op op' : CmpOp} {g g' : Int → Int → Bool} (ho : OpR X (compareOp op) (rI0 fun i j => .bl (g i j))) (ho' : OpR X (compareOp op') (rI0 fun i j => .bl (g' i j))) (hm : lastMarks [op, op'] [b, c] = false)
    (ha : VE X a L m (.int i)) (hb : VE X b L m (.int j)) (hc : g i j = true → VE X c L m (.int k)) : VT X (.Compare a [op, op'] [b, c] pos) L m (g i j && g' j k) := fun Q q => wt_chain ho ho' hm (ha _ (hb _ ⟨i, j, rfl, rfl, by
    dsimp only
    by_cases h : g i j = true
    · rw [if_pos h]
      refine hc h _ ⟨k, rfl, ?_⟩
      rw [h, Bool.true_and] at q
      exact q
    · rw [if_neg h]
      rw [Bool.eq_false_iff.mpr h, Bool.false_and] at q
      exact q⟩))
theorem we_notL (h : WV X a L m fun p m1 => ∃ xs, seqP m1 p = some xs ∧ Q (.bool xs.isEmpty) m1) : WE X (.UnaryOp .Not a pos) L m Q :=
  we_of (pe_notT (peU a)) fun w σ H r => h.go r fun w1 v p m1 H1 l1 r1 d1 ⟨xs, e1, q⟩ => by
    obtain ⟨ad, vs, rfl, hh, d⟩ := seqP_ok r1.toHR d1 e1
    have e2 : (!(!vs.isEmpty)) = xs.isEmpty := by
      cases d with
      | nil => rfl
      | cons _ _ => rfl
    rcases hh with hh | hh
    · exact ⟨_, .inl ⟨vs, hh, rfl⟩, w1, _, m1, l1, r1.toHR, .bl _, by rw [e2]; exact q⟩
    · exact ⟨_, .inr (.inl ⟨vs, hh, rfl⟩), w1, _, m1, l1, r1.toHR, .bl _, by rw [e2]; exact q⟩
end
section
variable {X : Cx} {scope : Scope} {s : Shared} {H : Hp} {C : Addr} {cl : List (Str × Addr)} {fp : List Addr} {x y z : Str} {px py pz tp : Pos} {i j l k : Nat}
theorem pg_tp2 (hN : X.N.Nodup) (hi : X.N[i]? = some x) (hx : L2.Loc (compEnvC scope cl C X.env).scope x) (hf : (scope.names.lookup x == some .cell) = true ∨ (compEnvC scope cl C X.env).scope.names.lookup x = some .local)
    (hj : X.N[j]? = some y) (hy : L2.Loc (compEnvC scope cl C X.env).scope y) (hg : (scope.names.lookup y == some .cell) = true ∨ (compEnvC scope cl C X.env).scope.names.lookup y = some .local) (hc : X.calm = true := by rfl) : PG (BX X scope s H C cl fp) (.Tuple [.Name x px, .Name y py] k tp) (gP X.K (.tp [i, j])) :=
  pg_tup (X := BX X scope s H C cl fp) hc (pgs_cons (pg_name (X := BX X scope s H C cl fp) hN hi hx hf) (pgs_cons (pg_name (X := BX X scope s H C cl fp) hN hj hy hg) pgs_nil))
end
theorem ints_get {ns : List Int} {i : Nat} {x : PyData} (h : (ns.map PyData.int)[i]? = some x) : ∃ p : Int, ns[i]? = some p ∧ x = .int p := by
  rw [List.getElem?_map] at h
  cases e : ns[i]? with
  | none => rw [e] at h; cases h
  | some v => rw [e] at h; exact ⟨v, rfl, (Option.some.inj h).symm⟩
theorem perm2 {x y : Int} {ns : List Int} (p : ns.Perm [x, y]) (s : ns.Pairwise (· ≤ ·)) : ns = [min x y, max x y] := by
  have hl := p.length_eq
  match ns, hl with
  | [a, b], _ =>
    have hab : a ≤ b := by
      have := (List.pairwise_cons.mp s).1 b List.mem_cons_self
      exact this
    have ha : a ∈ [x, y] := p.mem_iff.mp List.mem_cons_self
    rcases List.mem_cons.mp ha with rfl | ha
    · have hb := List.perm_singleton.mp ((List.perm_cons _).mp p)
      have : b = y := by simpa using hb
      subst this
      rw [Int.min_eq_left hab, Int.max_eq_right hab]
    · have := List.mem_singleton.mp ha
      subst this
      have hb := List.perm_singleton.mp ((List.perm_cons _).mp (p.trans (List.Perm.swap _ _ [])))
      have : b = x := by simpa using hb
      subst this
      rw [Int.min_eq_right hab, Int.max_eq_left hab]
end PP
namespace PP
open PySem PySem.Spec PyProof.Rows L2
section
variable {X : Cx} {L : PP.Loc} {m : Mem} {e : Expr} {es : List Expr} {kws : List Keyword} {pos p kpos : Pos} {Q : QE} {k : Nat} {f : Addr} {fd : FuncData} {ps kn : List Str} {sp : FSp} {x : Str} {nm : Option Str}
def tUK (X : Cx) (kws : List Keyword) : TA := fun σ H Q => ∀ (pos : Pos) (pins : List (Addr × Obj)) (s : Shared), Inv X pins σ H s → wpAny (model X.prog X.w) X.A (evalAll ((backToKw pos (keywordEach kws X.env)).map (·.2))) (AP X pins σ Q) X.xe s
theorem pkU (kws : List Keyword) : PK X kws (tUK X kws) := ⟨fun pos pins s _ _ _ I h => h pos pins s I⟩
theorem tUK_mono {kws : List Keyword} {σ : L2.St} {H : Hp} {Q Q' : List V → Hp → Prop} (h : tUK X kws σ H Q) (k : ∀ v H', Q v H' → Q' v H') : tUK X kws σ H Q' := fun pos pins s I =>
  thn (h pos pins s I) fun us s' ⟨vs, H', I', r, q⟩ => ⟨vs, H', I', r, k _ _ q⟩
def WK (X : Cx) (kws : List Keyword) (L : PP.Loc) (m : Mem) (Q : List PV → Mem → Prop) : Prop := ∀ (w : Wd) (σ : L2.St) (H : Hp), Rep X.K w L m σ H → tUK X kws σ H (POA X.K w Q)
theorem WK.go {Q : List PV → Mem → Prop} (h : WK X kws L m Q) {w : Wd} {σ : L2.St} {H : Hp} (r : Rep X.K w L m σ H) {R : List V → Hp → Prop} (k : ∀ (w' : Wd) (vs : List V) (ps : List PV) (m' : Mem) (H' : Hp), w.le w' → Rep X.K w' L m' σ H' → RVs X.K w' vs ps → Q ps m' → R vs H') : tUK X kws σ H R :=
  tUK_mono (h w σ H r) fun v H' ⟨w', x, m', l, hr, d, q⟩ => k w' v x m' H' l (r.go l hr) d q
theorem wk_nil {Q : List PV → Mem → Prop} (q : Q [] m) : WK X [] L m Q := fun w σ H r pos pins s I => pk_nil.run pos pins s σ H _ I ⟨w, [], m, .refl w, r.toHR, .nil, q⟩
theorem wk_cons {Q : List PV → Mem → Prop} (h : WV X e L m fun x m1 => WK X kws L m1 fun xs m2 => Q (x :: xs) m2) : WK X (⟨nm, e, kpos⟩ :: kws) L m Q := fun w σ H r pos pins s I =>
  (pk_cons (peU e) (pkU kws)).run pos pins s σ H _ I (h.go r fun w1 v x m1 H1 l1 r1 d1 q1 => q1.go r1 fun w2 vs xs m2 H2 l2 r2 d2 q2 => ⟨w2, x :: xs, m2, l1.trans l2, r2.toHR, .cons (d1.mono l2.toLe0) d2, q2⟩)
theorem wk_d {Q : List PV → Mem → Prop} (h : WE X e L m fun x m1 => WK X kws L m1 fun xs m2 => Q (.d x :: xs) m2) : WK X (⟨nm, e, kpos⟩ :: kws) L m Q := wk_cons (wv_we h)
theorem pe_callK0 {CX : CXT} {tk : TA} {ps kn : List Str} {sp : Sp} {E : XK} {g : List Value → List Value → List Value} {gV : List V → List V → List V} (F : FnOk X.prog X.w X.K X.mg X.base CX k f fd ps sp) (hr : Room k X.A) (hg : Gl X x) (hm : X.mg x = some (.ref f)) (hk : PySem.W.keepIn X.K (.ref f) = true) (hb : KBinds X.K fd ps kn g gV) (hx : Passes CX X E)
    (hkw : PK X kws tk) (hall : (backToKw pos (keywordEach kws X.env)).all (·.1.isSome) = true := by rfl) (hks : (backToKw pos (keywordEach kws X.env)).filterMap (·.1) = kn := by rfl)
    (hdb : (x == ("__debug__" : Str)) = false := by decide)
    (hpl : ((backTo pos (starEach [] X.env)).any (·.1) || (backToKw pos (keywordEach kws X.env)).any (·.1.isNone)) = false := by rfl) :
    PE X (.Call (.Name x p) [] kws pos) (tCallK sp gV E tNil tk) := by
  refine ⟨fun pins s σ H Q I h => ?_⟩
  refine wpAny_Call_Name_kw (ld_glob I hg hm ?_ hdb)
  refine PySem.W.callWith_KW0 (h₀ := X.base) I.ok.mod.kin hk hall (thn (hkw.run pos pins s σ H _ I h) fun ws s2 ⟨zs, H2, I2, rz, q2⟩ => ⟨I2.kIn, ?_⟩) hpl
  rw [hks]
  exact run_fnk F hr hb hx I2 .nil rz q2
theorem call_readE {ks : List Nat} {w w1 : Wd} {σ : L2.St} {H1 : Hp} {vs : List V} {pvs : List PV} {m1 : Mem} {E : XK} (l1 : w.le w1) (r1 : Rep X.K w1 L m1 σ H1) (d1 : RVs X.K w1 vs pvs) (h : CallAsk sp ks pvs m1 fun p mc => ∃ y, p = .d y ∧ backB none ks mc = true ∧ Q y (setAll m1 ks mc)) : toSp X.K sp vs H1 (POE X.K w Q) E := by
  obtain ⟨nd, hl, hi, hs⟩ := h
  refine ⟨_, _, _, _, r1.toHR.subWorld nd hl, sub_rvs r1.toHR hl d1 hi, hs, fun w' v q mc H' l hr' d ⟨y, ey, hmc, qq⟩ => ?_⟩
  subst ey
  obtain ⟨l3, hr3⟩ := r1.toHR.back (mo := []) (ex := []) nd hl l (by rw [List.append_nil]; exact hr') hmc
  exact ⟨_, y, _, l1.trans l3, hr3, d, qq⟩
theorem call_readF {Q : List PyData → Mem → Prop} {ks : List Nat} {w w1 : Wd} {σ : L2.St} {H1 : Hp} {vs : List V} {pvs : List PV} {m1 : Mem} {E : XK} (l1 : w.le w1) (r1 : Rep X.K w1 L m1 σ H1) (d1 : RVs X.K w1 vs pvs) (h : CallAsk sp ks pvs m1 fun p mc => ∃ mc0 xs, p = .ref ks.length ∧ mc = mc0 ++ [some (.lst xs)] ∧ backB none ks mc0 = true ∧ Q xs (setAll m1 ks mc0)) : toSp X.K sp vs H1 (PF X.K w Q) E := by
  obtain ⟨nd, hl, hi, hs⟩ := h
  refine ⟨_, _, _, _, r1.toHR.subWorld nd hl, sub_rvs r1.toHR hl d1 hi, hs, fun w' v q mc H' l hr' d ⟨mc0, xs, ey, em, hmc, qq⟩ => ?_⟩
  subst ey; subst em
  obtain ⟨l3, hr3⟩ := r1.toHR.back (mo := []) (ex := [some (.lst xs)]) nd hl l hr' hmc
  have ec : (mc0 ++ [some (Cell.lst xs)])[ks.length]? = some (some (.lst xs)) := by rw [← backB_len hmc, List.getElem?_append_right (Nat.le_refl _)]; simp
  obtain ⟨ad, o, ea, eo, us, rfl, dd⟩ := hr'.cell _ _ ec
  obtain ⟨ad', ea', rfl⟩ := d
  rw [ea] at ea'; cases ea'
  have hF := hr'.sep _ _ _ ea ec
  obtain ⟨more, em⟩ := l.pre
  have hT : w'.T = w1.T ++ othersOf w1 H1 ks := l.hid
  refine ⟨_, xs, _, ad, us, rfl, l1.trans l3, hr3, eo, ⟨hF, fun z => ?_, fun z => ?_⟩, dd, qq⟩
  · have z : ad ∈ w1.A := z
    obtain ⟨i, ei⟩ := List.getElem?_of_mem z
    by_cases hin : i ∈ ks
    · obtain ⟨j, ej⟩ := List.getElem?_of_mem hin
      have hil : i < w1.A.length := (List.getElem?_eq_some_iff.mp ei).1
      have hj : j < ks.length := (List.getElem?_eq_some_iff.mp ej).1
      have e3 : w'.A[j]? = some ad := by
        rw [em, List.getElem?_append_left (by show j < (ks.map _).length; rw [List.length_map]; exact hj), sub_at w1 H1 ej hil]; exact ei
      have := nodup_at hr'.nd e3 ea
      omega
    · have hf : w1.F ad = none := l.sub.none hF
      cases q : H1 ad with
      | none => exact r1.toHR.occ ad z q
      | some o =>
        have := hr'.tp (ad, o) (by rw [hT]; exact List.mem_append_right _ (mem_others.mpr ⟨i, hin, ei, hf, q⟩))
        exact this.2.2 (List.mem_of_getElem? ea)
  · obtain ⟨t, ht, et⟩ := List.mem_map.mp z
    exact (hr'.tp t (by rw [hT]; exact List.mem_append_left _ ht)).2.2 (et ▸ List.mem_of_getElem? ea)
structure KBp (K : PySem.W.Frag) (fd : FuncData) (ps : List Str) (n : Nat) (kn : List Str) : Prop where
  to : ∀ (s : Shared) (us ws : List Value), K.In s.heap → us.length = n → ws.length = kn.length → BindsTo s fd ⟨us, kn.zip ws⟩ (ps.zip (us ++ ws))
  ne : ps ≠ []
def gL {α : Type} (n k : Nat) (us ws : List α) : List α := if us.length = n ∧ ws.length = k then us ++ ws else []
theorem gL_of {α : Type} {n k : Nat} {us ws : List α} (h : us.length = n) (g : ws.length = k) : gL n k us ws = us ++ ws := by unfold gL; rw [if_pos ⟨h, g⟩]
theorem vals_app : ∀ {vs zs : List V} {us ws : List Value}, Vals vs us → Vals zs ws → Vals (vs ++ zs) (us ++ ws)
  | _, _, _, _, .nil, s => s
  | _, _, _, _, .cons r t, s => .cons r (vals_app t s)
theorem KBp.kb {K : PySem.W.Frag} {fd : FuncData} {ps kn : List Str} {n : Nat} (h : KBp K fd ps n kn) : KBinds K fd ps kn (gL n kn.length) (gL n kn.length) where
  to := fun s us ws X hl => by
    unfold gL at hl ⊢
    split at hl
    · rename_i c
      rw [if_pos c]
      exact h.to s us ws X c.1 c.2
    · exact absurd (List.length_eq_zero_iff.mp hl.symm) h.ne
  rel := fun {vs us zs ws} r rz => by
    unfold gL
    rw [r.length, rz.length]
    split
    · exact vals_app r rz
    · exact .nil
theorem fun_kbp {K : PySem.W.Frag} {x qual : Str} {st : Stmt} {f : Addr} {fd : FuncData} {ps : List Str} (F : Fun K x qual st f fd) (n : Nat) (kn : List Str) (ne : ps ≠ [])
    (h : ∀ (kV doc pm : Value) (an : Option Addr) (cdv ct : Value) (us ws : List Value), us.length = n → ws.length = kn.length → bindArgs (PySem.W.fnOf x qual (defArgs st) (defBody st) (defScope st) .none kV doc pm an cdv ct) ⟨us, kn.zip ws⟩ = pure (ps.zip (us ++ ws))) : KBp K fd ps n kn := by
  obtain ⟨oc, od, kV, doc, pm, an, cdv, ct, osl, rfl, lk, hcd⟩ := F.ex
  exact ⟨fun s us ws _ l1 l2 => .of_eq (h kV doc pm an cdv ct us ws l1 l2), ne⟩
theorem we_callK0 {n : Nat} (ks : List Nat) (F : FnOk X.prog X.w X.K X.mg X.base CX0 k f fd ps (toSp X.K sp)) (hr : Room k X.A) (hm : X.mg x = some (.ref f)) (hk : PySem.W.keepIn X.K (.ref f) = true) (hb : KBp X.K fd ps n kn)
    (h : WK X kws L m fun pvs m1 => 0 = n ∧ pvs.length = kn.length ∧ CallAsk sp ks pvs m1 fun p mc => ∃ y, p = .d y ∧ backB none ks mc = true ∧ Q y (setAll m1 ks mc))
    (hg : Gl X x := by rfl) (hall : (backToKw pos (keywordEach kws X.env)).all (·.1.isSome) = true := by rfl) (hks : (backToKw pos (keywordEach kws X.env)).filterMap (·.1) = kn := by rfl) (hdb : (x == ("__debug__" : Str)) = false := by decide)
    (hpl : ((backTo pos (starEach [] X.env)).any (·.1) || (backToKw pos (keywordEach kws X.env)).any (·.1.isNone)) = false := by rfl) : WE X (.Call (.Name x p) [] kws pos) L m Q :=
  we_of (pe_callK0 F hr hg hm hk hb.kb pass0 (pkU kws) hall hks hdb hpl) fun w σ H r => WK.go h r fun w1 vs pvs m1 H1 l1 r1 d1 ⟨e1, e2, hs⟩ => by
    show toSp X.K sp (gL n kn.length [] vs) H1 _ _
    rw [gL_of (show ([] : List V).length = n from e1) (d1.length.trans e2), List.nil_append]
    exact call_readE l1 r1 d1 hs
theorem wf_callK0 {n : Nat} {Q : List PyData → Mem → Prop} (ks : List Nat) (F : FnOk X.prog X.w X.K X.mg X.base CX0 k f fd ps (toSp X.K sp)) (hr : Room k X.A) (hm : X.mg x = some (.ref f)) (hk : PySem.W.keepIn X.K (.ref f) = true) (hb : KBp X.K fd ps n kn)
    (h : WK X kws L m fun pvs m1 => 0 = n ∧ pvs.length = kn.length ∧ CallAsk sp ks pvs m1 fun p mc => ∃ mc0 xs, p = .ref ks.length ∧ mc = mc0 ++ [some (.lst xs)] ∧ backB none ks mc0 = true ∧ Q xs (setAll m1 ks mc0))
    (hg : Gl X x := by rfl) (hall : (backToKw pos (keywordEach kws X.env)).all (·.1.isSome) = true := by rfl) (hks : (backToKw pos (keywordEach kws X.env)).filterMap (·.1) = kn := by rfl) (hdb : (x == ("__debug__" : Str)) = false := by decide)
    (hpl : ((backTo pos (starEach [] X.env)).any (·.1) || (backToKw pos (keywordEach kws X.env)).any (·.1.isNone)) = false := by rfl) : WF X (.Call (.Name x p) [] kws pos) L m Q :=
  wf_of (pe_callK0 F hr hg hm hk hb.kb pass0 (pkU kws) hall hks hdb hpl) fun w σ H r => WK.go h r fun w1 vs pvs m1 H1 l1 r1 d1 ⟨e1, e2, hs⟩ => by
    show toSp X.K sp (gL n kn.length [] vs) H1 _ _
    rw [gL_of (show ([] : List V).length = n from e1) (d1.length.trans e2), List.nil_append]
    exact call_readF l1 r1 d1 hs
end
def spLaw : FSp := fun pvs m q => ∃ ns : List Int, pvs = [.raw (ns.map .int)] ∧ m = [] ∧ ns.length ≤ 63 ∧ (∀ z ∈ ns, Builtin.Int.intBits z ≤ 1048576) ∧ q (.d (.bool true)) []
end PP
namespace PP
open PySem PySem.Spec PyProof.Rows L2
theorem hr_base {K : PySem.W.Frag} {H : Hp} : HR K ⟨[], [], H⟩ [] H where
  fz := Sub.refl _
  len := rfl
  nd := .nil
  sep := fun k a c e _ => by simp at e
  occ := fun a h => by cases h
  tp := fun p h => by cases h
  tnd := .nil
  cell := fun k c e => by simp at e
theorem law_sp {K : PySem.W.Frag} {H : Hp} {a : Addr} {ns : List Int} {E : XK} (hl : ns.length ≤ 63) (hb : ∀ z ∈ ns, Builtin.Int.intBits z ≤ 1048576) (hS : SqL K H a (ns.map V.int)) : toSp K spLaw [.ref a] H (fun v _ => v = .bl true) E :=
  ⟨⟨[], [], H⟩, [.raw (ns.map .int)], [], fun p _ => p = .d (.bool true), hr_base, .cons ⟨a, _, rfl, hS, dpa_ints ns⟩ .nil, ⟨ns, rfl, rfl, hl, hb, rfl⟩, fun w' v p m' H' _ _ r e => by
    subst e
    exact dp_bool r⟩
end PP
namespace PP
open PySem PySem.Spec PyProof.Rows L2 RZ
def zipD (xs ys : List PyData) : List PyData := (xs.zip ys).map fun p => .tuple [p.1, p.2]
theorem zipD_get {xs ys : List PyData} {i : Nat} {x : PyData} (h : (zipD xs ys)[i]? = some x) : ∃ a b, xs[i]? = some a ∧ ys[i]? = some b ∧ x = .tuple [a, b] := by
  unfold zipD at h
  rw [List.getElem?_map] at h
  cases e : (xs.zip ys)[i]? with
  | none => rw [e] at h; cases h
  | some p =>
    rw [e] at h
    obtain ⟨h1, h2⟩ := List.getElem?_zip_eq_some.mp e
    exact ⟨p.1, p.2, h1, h2, (Option.some.inj h).symm⟩
theorem zipD_len {xs ys : List PyData} : (zipD xs ys).length = min xs.length ys.length := by unfold zipD; rw [List.length_map, List.length_zip]
theorem jok_zipL {K : PySem.W.Frag} {w : Wd} {a b : Addr} {xs ys : List PyData} (r : DP K w.F (.ref a) (.list xs)) (r2 : DP K w.F (.ref b) (.list ys)) : JOk K w (Itz K a b) (zipD xs ys) fun _ => True where
  go := fun w' m' H' i x l hr g hx => by
    obtain ⟨ad, vs, e1, e2, d⟩ := dp_list (dp_mono l.sub _ _ r)
    cases e1
    obtain ⟨bd, us, e1, e3, d2⟩ := dp_list (dp_mono l.sub _ _ r2)
    cases e1
    obtain ⟨y, z, hy, hz, rfl⟩ := zipD_get hx
    obtain ⟨v, hv, dv⟩ := dpa_get d hy
    obtain ⟨u, hu, du⟩ := dpa_get d2 hz
    have e2 : SqL K H' a vs := .of (hr.fz _ _ e2)
    have e3 : SqL K H' b us := .of (hr.fz _ _ e3)
    refine ⟨⟨vs, us, v, u, e2, e3, hv, hu⟩, fun t H'' ⟨T, p, q, et, hT, eh, f1, f2⟩ => ?_⟩
    subst et; subst eh
    have ep : p = v := Option.some.inj ((f1 vs e2).symm.trans hv)
    have eq : q = u := Option.some.inj ((f2 us e3).symm.trans hu)
    subst ep; subst eq
    obtain ⟨w2, l2, hr2, d3⟩ := hr.pair hT dv du
    exact ⟨w2, l2, hr2, d3⟩
  stop := fun w' m' H' i l hr g hi => by
    obtain ⟨ad, vs, e1, e2, d⟩ := dp_list (dp_mono l.sub _ _ r)
    cases e1
    obtain ⟨bd, us, e1, e3, d2⟩ := dp_list (dp_mono l.sub _ _ r2)
    cases e1
    refine ⟨vs, us, .of (hr.fz _ _ e2), .of (hr.fz _ _ e3), ?_⟩
    rw [zipD_len] at hi
    rw [dpa_len d, dpa_len d2]
    omega
theorem jok_zipT {K : PySem.W.Frag} {w : Wd} {a b : Addr} {xs ys : List PyData} (r : DP K w.F (.ref a) (.tuple xs)) (r2 : DP K w.F (.ref b) (.tuple ys)) : JOk K w (ItzT K a b) (zipD xs ys) fun _ => True where
  go := fun w' m' H' i x l hr g hx => by
    obtain ⟨ad, vs, e1, e2, d⟩ := dp_tuple (dp_mono l.sub _ _ r)
    cases e1
    obtain ⟨bd, us, e1, e3, d2⟩ := dp_tuple (dp_mono l.sub _ _ r2)
    cases e1
    obtain ⟨y, z, hy, hz, rfl⟩ := zipD_get hx
    obtain ⟨v, hv, dv⟩ := dpa_get d hy
    obtain ⟨u, hu, du⟩ := dpa_get d2 hz
    have e2 : SqT K H' a vs := hr.fz.sqt e2
    have e3 : SqT K H' b us := hr.fz.sqt e3
    refine ⟨⟨vs, us, v, u, e2, e3, hv, hu⟩, fun t H'' ⟨T, p, q, et, hT, eh, f1, f2⟩ => ?_⟩
    subst et; subst eh
    have ep : p = v := Option.some.inj ((f1 vs e2).symm.trans hv)
    have eq : q = u := Option.some.inj ((f2 us e3).symm.trans hu)
    subst ep; subst eq
    obtain ⟨w2, l2, hr2, d3⟩ := hr.pair hT dv du
    exact ⟨w2, l2, hr2, d3⟩
  stop := fun w' m' H' i l hr g hi => by
    obtain ⟨ad, vs, e1, e2, d⟩ := dp_tuple (dp_mono l.sub _ _ r)
    cases e1
    obtain ⟨bd, us, e1, e3, d2⟩ := dp_tuple (dp_mono l.sub _ _ r2)
    cases e1
    refine ⟨vs, us, hr.fz.sqt e2, hr.fz.sqt e3, ?_⟩
    rw [zipD_len] at hi
    rw [dpa_len d, dpa_len d2]
    omega
section
variable {X : Cx} {L : PP.Loc} {m : Mem} {a b : Expr} {pos p : Pos} {Q : QE} {QT : Bool → Mem → Prop} {QI : List PyData → (Mem → Prop) → Mem → Prop}
theorem wi_zip {tpos : Pos} {elts : List Expr} {kk : Nat} (hm : X.mg "zip" = none) (h : WE X a L m fun x m1 => WE X b L m1 fun y m2 => ∃ xs ys, ((x = .list xs ∧ y = .list ys) ∨ (x = .tuple xs ∧ y = .tuple ys)) ∧ QI (zipD xs ys) (fun _ => True) m2) (hg : Gl X "zip" := by rfl)
    (hs : starEach [a, b] X.env = (false, eval a X.env) :: starEach [b] X.env := by rfl) (hs2 : starEach [b] X.env = (false, eval b X.env) :: starEach [] X.env := by rfl) (hpl : (backTo pos (starEach [b] X.env)).any (·.1) = false := by rfl) : WI X (.Tuple elts kk tpos) (.Call (.Name "zip" p) [a, b] [] pos) L m QI :=
  wi_of (pi_zipA hg hm (paU [a, b]) hs hpl) fun w σ H r => WA.go (wd2 h hs hs2) r fun w1 vs ps m1 H1 l1 r1 d1 ⟨x, y, e1, xs, ys, e2, q⟩ => by
    subst e1
    obtain ⟨v, u, rfl, d2, d3⟩ := rvs2 d1
    rcases e2 with ⟨rfl, rfl⟩ | ⟨rfl, rfl⟩
    · obtain ⟨ad, us, rfl, h1, _⟩ := dp_list d2
      obtain ⟨bd, ws, rfl, h2, _⟩ := dp_list d3
      exact ⟨ad, bd, us, ws, rfl, .inl ⟨.of (r1.toHR.fz _ _ h1), .of (r1.toHR.fz _ _ h2), w1, m1, _, _, l1, r1.toHR, jok_zipL d2 d3, q⟩⟩
    · obtain ⟨ad, us, rfl, h1, _⟩ := dp_tuple d2
      obtain ⟨bd, ws, rfl, h2, _⟩ := dp_tuple d3
      exact ⟨ad, bd, us, ws, rfl, .inr ⟨r1.toHR.fz.sqt h1, r1.toHR.fz.sqt h2, w1, m1, _, _, l1, r1.toHR, jok_zipT d2 d3, q⟩⟩
theorem we_isinst2 {S T : String} {x y : Str} {x1 : Nat} {p2 p3 p4 : Pos} (hm : X.mg "isinstance" = none) (hmS : X.mg x = none) (hmT : X.mg y = none) (hbS : bootBuiltins x = some (.type S)) (hb : bootBuiltins y = some (.type T)) (h : WE X a L m fun z m1 => ∃ j k, kitB (tyD z) S = some j ∧ kitB (tyD z) T = some k ∧ Q (.bool (j || k)) m1)
    (hg : Gl X "isinstance" := by rfl) (hgS : Gl X x := by rfl) (hgT : Gl X y := by rfl)
    (hnS : x ≠ "__name__" := by decide) (hdS : (x == ("__debug__" : Str)) = false := by decide) (hn : y ≠ "__name__" := by decide) (hd : (y == ("__debug__" : Str)) = false := by decide)
    (he : starEach [a, .Tuple [.Name x p2, .Name y p3] x1 p4] X.env = (false, eval a X.env) :: starEach [.Tuple [.Name x p2, .Name y p3] x1 p4] X.env := by rfl) (he2 : starEach [.Tuple [.Name x p2, .Name y p3] x1 p4] X.env = (false, eval (.Tuple [.Name x p2, .Name y p3] x1 p4) X.env) :: starEach [] X.env := by rfl)
    (he3 : starEach [.Name x p2, .Name y p3] X.env = (false, eval (.Name x p2) X.env) :: starEach [.Name y p3] X.env := by rfl) (he4 : starEach [.Name y p3] X.env = (false, eval (.Name y p3) X.env) :: starEach [] X.env := by rfl)
    (hpl : (backTo pos (starEach [.Tuple [.Name x p2, .Name y p3] x1 p4] X.env)).any (·.1) = false := by rfl) : WE X (.Call (.Name "isinstance" p) [a, .Tuple [.Name x p2, .Name y p3] x1 p4] [] pos) L m Q :=
  we_of (pe_callB call_isiT hg hm (by decide +kernel) (pa_cons (peU a) (pa_cons (pe_tup (pa_cons (pe_bltn (v := .ty S) hgS hmS hbS rfl hnS hdS) (pa_cons (pe_bltn (v := .ty T) hgT hmT hb rfl hn hd) pa_nil he4) he3)) pa_nil he2) he) (he := he) (hpl := hpl)) fun w σ H r => h.go r fun w1 v z m1 H1 l1 r1 d1 ⟨j, k, e1, e2, q⟩ => by
    refine ⟨szl (by simp), fun t ht => ?_⟩
    obtain ⟨l2, hr2⟩ := r1.toHR.fnew (o := .tup [.ty S, .ty T]) ht
    have d2 := dp_mono l2.sub _ _ d1
    have ty : TyX X.K (upd H1 t (.tup [.ty S, .ty T])) v (.type (tyD z)) := by
      rcases tyD_ok hr2 d2 with t | ⟨xs, rfl⟩
      · exact t
      · exact tyD_tup hr2 d2
    refine ⟨v, t, [.ty S, .ty T], _, [.type S, .type T], j || k, rfl, upd_same, .cons (.ty S) (.cons (.ty T) .nil), ty, kitAny_cons (kit_ty e1) (fun hj => kitAny_cons (kit_ty e2) (fun hk => by rw [hj, hk]; rfl) fun hk => by rw [hj, hk]; rfl) (fun hj => by rw [hj]; rfl), _, _, m1, l1.trans l2, hr2, .bl _, q⟩
def isNoneD : PyData → Bool
  | .none => true
  | _ => false
theorem isNone_ok {K : PySem.W.Frag} {F : Hp} {v : V} {x : PyData} (d : DP K F v x) : decide (v = .non) = isNoneD x := by
  cases d <;> simp [isNoneD]
theorem we_isNone (h : WE X a L m fun x m1 => WE X b L m1 fun y m2 => y = .none ∧ Q (.bool (isNoneD x)) m2) : WE X (.Compare a [.Is] [b] pos) L m Q :=
  we_cmp op_isN (h.mono fun _ _ h => h.mono fun _ _ ⟨e, q⟩ w0 w H v u l hr d1 d2 => by
    subst e
    exact ⟨dp_none d2, by rw [isNone_ok d1]; exact po_bool l hr q⟩) (nomark _)
theorem wt_isNone (h : WE X a L m fun x m1 => WE X b L m1 fun y m2 => y = .none ∧ QT (isNoneD x) m2) : WT X (.Compare a [.Is] [b] pos) L m QT :=
  wt_cmp op_isN (h.mono fun _ _ h => h.mono fun _ _ ⟨e, q⟩ w0 w H v u l hr d1 d2 => by
    subst e
    exact ⟨dp_none d2, by rw [isNone_ok d1]; exact po_bool l hr ⟨_, rfl, q⟩⟩) (nomark _) fun _ _ _ _ _ k ⟨e, q⟩ => ⟨e, k _ _ q⟩
end
end PP
namespace PP
open PySem PySem.Spec PyProof.Rows L2
def isT (s : String) (d : PyData) : Bool := tyD d == s
def isSc : PyData → Bool
  | .none => true
  | .bool _ => true
  | .int _ => true
  | .str _ => true
  | _ => false
inductive Dq : Nat → PyData → Prop
  | sc {n : Nat} {d : PyData} : isSc d = true → d.canLay0 = true → d.depth ≤ 64 → Dq n d
  | lst {n : Nat} {xs : List PyData} : (∀ x ∈ xs, Dq n x) → Dq (n + 1) (.list xs)
  | tup {n : Nat} {xs : List PyData} : (∀ x ∈ xs, Dq n x) → Dq (n + 1) (.tuple xs)
theorem dq_int {n : Nat} {i : Int} : Dq n (.int i) := .sc rfl rfl (Nat.zero_le _)
theorem kit_list {d : PyData} : kitB (tyD d) "list" = some (isT "list" d) := by cases d <;> (simp only [tyD, isT]; decide +kernel)
theorem kit_tuple {d : PyData} : kitB (tyD d) "tuple" = some (isT "tuple" d) := by cases d <;> (simp only [tyD, isT]; decide +kernel)
theorem kit_str {d : PyData} : kitB (tyD d) "str" = some (isT "str" d) := by cases d <;> (simp only [tyD, isT]; decide +kernel)
theorem kit_bool {d : PyData} : kitB (tyD d) "bool" = some (isT "bool" d) := by cases d <;> (simp only [tyD, isT]; decide +kernel)
theorem kit_int {d : PyData} : kitB (tyD d) "int" = some (isT "int" d || isT "bool" d) := by cases d <;> (simp only [tyD, isT]; decide +kernel)
theorem dq_seq {n : Nat} {d : PyData} (h : Dq n d) (g : (isT "list" d || isT "tuple" d) = true) : ∃ j xs, n = j + 1 ∧ (d = .list xs ∨ d = .tuple xs) ∧ ∀ x ∈ xs, Dq j x := by
  cases h with
  | sc h _ _ => cases d <;> first | (cases h; done) | (exfalso; simp only [isT, tyD] at g; revert g; decide +kernel)
  | lst h => exact ⟨_, _, rfl, .inl rfl, h⟩
  | tup h => exact ⟨_, _, rfl, .inr rfl, h⟩
theorem dq_sc {n : Nat} {d : PyData} (h : Dq n d) (g : (isT "list" d || isT "tuple" d) = false) : isSc d = true ∧ d.canLay0 = true ∧ d.depth ≤ 64 := by
  cases h with
  | sc h a b => exact ⟨h, a, b⟩
  | lst h => exfalso; simp only [isT, tyD] at g; revert g; decide +kernel
  | tup h => exfalso; simp only [isT, tyD] at g; revert g; decide +kernel
theorem seq_of {d : PyData} {xs : List PyData} (h : d = .list xs ∨ d = .tuple xs) (m : Mem) : seqP m (.d d) = some xs := by
  rcases h with rfl | rfl <;> rfl
def spSame (n : Nat) : FSp := fun pvs m q => ∃ d : PyData, pvs = [.d d, .d d] ∧ m = [] ∧ Dq n d ∧ q (.d (.bool true)) []
end PP
namespace PP
open PySem PySem.Spec PyProof.Rows L2
theorem fnok_or {P : Program} {w : World} {K : PySem.W.Frag} {mg : Str → Option Value} {base : Heap} {CX : CXT} {k : Nat} {f : Addr} {fd : FuncData} {ps : List Str} {f1 f2 : FSp} (A : FnOk P w K mg base CX k f fd ps (toSp K f1)) (B : FnOk P w K mg base CX k f fd ps (toSp K f2)) : FnOk P w K mg base CX k f fd ps (toSp K fun pvs m q => f1 pvs m q ∨ f2 pvs m q) := by
  refine ⟨fun vs H Q E h => ?_, fun Ar outer s H args us vs Q E hr he hb hv h => ?_⟩
  · obtain ⟨wd, pvs, m, q, h1, h2, h3, h4⟩ := h
    rcases h3 with h3 | h3
    · exact A.len vs H Q E ⟨wd, pvs, m, q, h1, h2, h3, h4⟩
    · exact B.len vs H Q E ⟨wd, pvs, m, q, h1, h2, h3, h4⟩
  · obtain ⟨wd, pvs, m, q, h1, h2, h3, h4⟩ := h
    rcases h3 with h3 | h3
    · exact A.run Ar outer s H args us vs Q E hr he hb hv ⟨wd, pvs, m, q, h1, h2, h3, h4⟩
    · exact B.run Ar outer s H args us vs Q E hr he hb hv ⟨wd, pvs, m, q, h1, h2, h3, h4⟩
end PP
namespace PP
open PySem PySem.Spec PyProof.Rows L2
def permL {α : Type} (is : List Nat) (ws : List α) : List α := is.filterMap (ws[·]?)
structure KBr (K : PySem.W.Frag) (fd : FuncData) (ps : List Str) (n : Nat) (kn : List Str) (is : List Nat) : Prop where
  to : ∀ (s : Shared) (us ws : List Value), K.In s.heap → us.length = n → ws.length = kn.length → BindsTo s fd ⟨us, kn.zip ws⟩ (ps.zip (us ++ permL is ws))
  ne : ps ≠ []
def gR {α : Type} (n k : Nat) (is : List Nat) (us ws : List α) : List α := if us.length = n ∧ ws.length = k then us ++ permL is ws else []
theorem gR_of {α : Type} {n k : Nat} {is : List Nat} {us ws : List α} (h : us.length = n) (g : ws.length = k) : gR n k is us ws = us ++ permL is ws := by unfold gR; rw [if_pos ⟨h, g⟩]
theorem paired_get {α β : Type} {R : α → β → Prop} : ∀ {xs : List α} {ys : List β}, Paired R xs ys → ∀ i : Nat, (xs[i]? = none ∧ ys[i]? = none) ∨ ∃ a b, xs[i]? = some a ∧ ys[i]? = some b ∧ R a b
  | _, _, .nil, i => .inl ⟨rfl, rfl⟩
  | _, _, .cons r _, 0 => .inr ⟨_, _, rfl, rfl, r⟩
  | _, _, .cons _ t, i + 1 => by
    rcases paired_get t i with ⟨a, b⟩ | ⟨a, b, h1, h2, h3⟩
    · exact .inl ⟨by simpa using a, by simpa using b⟩
    · exact .inr ⟨a, b, by simpa using h1, by simpa using h2, h3⟩
theorem vals_get : ∀ {xs : List V} {ys : List Value}, Vals xs ys → ∀ i : Nat, (xs[i]? = none ∧ ys[i]? = none) ∨ ∃ a b, xs[i]? = some a ∧ ys[i]? = some b ∧ RelV a b
  | _, _, .nil, i => .inl ⟨rfl, rfl⟩
  | _, _, .cons r _, 0 => .inr ⟨_, _, rfl, rfl, r⟩
  | _, _, .cons _ t, i + 1 => by
    rcases vals_get t i with ⟨a, b⟩ | ⟨a, b, h1, h2, h3⟩
    · exact .inl ⟨by simpa using a, by simpa using b⟩
    · exact .inr ⟨a, b, by simpa using h1, by simpa using h2, h3⟩
theorem vals_perm {vs : List V} {us : List Value} (h : Vals vs us) : ∀ is : List Nat, Vals (permL is vs) (permL is us)
  | [] => .nil
  | i :: is => by
    unfold permL
    rw [List.filterMap_cons, List.filterMap_cons]
    rcases vals_get h i with ⟨a, b⟩ | ⟨a, b, h1, h2, h3⟩
    · rw [a, b]; exact vals_perm h is
    · rw [h1, h2]; exact .cons h3 (vals_perm h is)
theorem rvs_perm {K : PySem.W.Frag} {w : Wd} {vs : List V} {ps : List PV} (h : RVs K w vs ps) : ∀ is : List Nat, RVs K w (permL is vs) (permL is ps)
  | [] => .nil
  | i :: is => by
    unfold permL
    rw [List.filterMap_cons, List.filterMap_cons]
    rcases paired_get h i with ⟨a, b⟩ | ⟨a, b, h1, h2, h3⟩
    · rw [a, b]; exact rvs_perm h is
    · rw [h1, h2]; exact .cons h3 (rvs_perm h is)
theorem KBr.kb {K : PySem.W.Frag} {fd : FuncData} {ps kn : List Str} {n : Nat} {is : List Nat} (h : KBr K fd ps n kn is) : KBinds K fd ps kn (gR n kn.length is) (gR n kn.length is) where
  to := fun s us ws X hl => by
    unfold gR at hl ⊢
    split at hl
    · rename_i c
      rw [if_pos c]
      exact h.to s us ws X c.1 c.2
    · exact absurd (List.length_eq_zero_iff.mp hl.symm) h.ne
  rel := fun {vs us zs ws} r rz => by
    unfold gR
    rw [r.length, rz.length]
    split
    · exact vals_app r (vals_perm rz is)
    · exact .nil
theorem fun_kbr {K : PySem.W.Frag} {x qual : Str} {st : Stmt} {f : Addr} {fd : FuncData} {ps : List Str} (F : Fun K x qual st f fd) (n : Nat) (kn : List Str) (is : List Nat) (ne : ps ≠ [])
    (h : ∀ (kV doc pm : Value) (an : Option Addr) (cdv ct : Value) (us ws : List Value), us.length = n → ws.length = kn.length → bindArgs (PySem.W.fnOf x qual (defArgs st) (defBody st) (defScope st) .none kV doc pm an cdv ct) ⟨us, kn.zip ws⟩ = pure (ps.zip (us ++ permL is ws))) : KBr K fd ps n kn is := by
  obtain ⟨oc, od, kV, doc, pm, an, cdv, ct, osl, rfl, lk, hcd⟩ := F.ex
  exact ⟨fun s us ws _ l1 l2 => .of_eq (h kV doc pm an cdv ct us ws l1 l2), ne⟩
section
variable {X : Cx} {L : PP.Loc} {m : Mem} {e a b : Expr} {es : List Expr} {kws : List Keyword} {pos p kpos : Pos} {Q : QE} {k : Nat} {f : Addr} {fd : FuncData} {ps kn : List Str} {sp : FSp} {x : Str} {nm : Option Str} {is : List Nat}
theorem inV_ints {i : Int} {ns : List Int} : inV (.int i) (ns.map V.int) = decide (i ∈ ns) := by
  unfold inV
  induction ns with
  | nil => simp
  | cons n ns ih =>
    rw [List.map_cons, List.any_cons, ih]
    show ((n == i) || decide (i ∈ ns)) = _
    by_cases h : n = i
    · subst h; simp
    · have h2 : ¬ i = n := fun z => h z.symm
      simp [h, h2]
theorem flat_ints {ns : List Int} : (ns.map V.int).all flatV = true := by
  rw [List.all_eq_true]
  intro x hx
  obtain ⟨i, _, rfl⟩ := List.mem_map.mp hx
  rfl
theorem ints_seq {w : Wd} {H : Hp} {v : V} {y : PyData} {ns : List Int} (hr : HR X.K w m H) (d : DP X.K w.F v y) (e : y = .tuple (ns.map .int) ∨ y = .list (ns.map .int)) : ∃ p, v = .ref p ∧ (SqL X.K H p (ns.map V.int) ∨ SqT X.K H p (ns.map V.int)) := by
  rcases e with rfl | rfl
  · obtain ⟨p, vs, rfl, h, dd⟩ := dp_tuple d
    have := dpa_ints_inv dd
    subst this
    exact ⟨p, rfl, .inr (hr.fz.sqt h)⟩
  · obtain ⟨p, vs, rfl, h, dd⟩ := dp_list d
    have := dpa_ints_inv dd
    subst this
    exact ⟨p, rfl, .inl (.of (hr.fz _ _ h))⟩
section
variable {QT : Bool → Mem → Prop}
theorem wt_notinI (hm : behindInMarks .NotIn b = false) (h : WE X a L m fun x m1 => WE X b L m1 fun y m2 => ∃ (i : Int) (ns : List Int), x = .int i ∧ (y = .tuple (ns.map .int) ∨ y = .list (ns.map .int)) ∧ QT (!decide (i ∈ ns)) m2) : WT X (.Compare a [.NotIn] [b] pos) L m QT :=
  wt_of (pt_cmpR op_notIn_seq (peU a) (peU b) hm) fun w σ H r => h.go r fun w1 v x m1 H1 l1 r1 d1 q1 => q1.go r1 fun w2 u y m2 H2 l2 r2 d2 ⟨i, ns, e1, e2, q⟩ => by
    subst e1
    obtain ⟨p, rfl, hs⟩ := ints_seq r2.toHR d2 e2
    have := dp_int d1
    subst this
    refine ⟨p, _, rfl, hs, rfl, flat_ints, _, rfl, w2, m2, l1.trans l2, r2.toHR, ?_⟩
    show QT (!inV (.int i) (ns.map V.int)) m2
    rw [inV_ints]; exact q
end
end
end PP
namespace PP
open PySem PySem.Spec PyProof.Rows L2
open PySem.W (AlikeAll dataLt reads_keeps iter_tupleW cmpIn_lt moved_old)
end PP
namespace PP
open PySem PySem.Spec PyProof.Rows L2
section
variable {prog : Program} {w : World} {A : Around} {R : Result → Shared → Prop} {s : Shared} {kx vx ta ia tb ib : Expr} {scope : Scope} {pos : Pos} {it : Value} {D : Addr} {env : Env}
abbrev dc2 (kx vx ta ia tb ib : Expr) (scope : Scope) (pos : Pos) : Expr := .DictComp kx vx [⟨ta, ia, [], 0⟩, ⟨tb, ib, [], 0⟩] scope pos
end
end PP
namespace PP
open PySem PySem.Spec PyProof.Rows L2
def dropD (kvs : List (Key × PyData)) (k : Key) : List (Key × PyData) := kvs.filter fun kv => decide (kv.1 ≠ k)
theorem valD_drop {k j : Key} : ∀ {kvs : List (Key × PyData)}, valD (dropD kvs k) j = if k = j then none else valD kvs j
  | [] => by simp [valD, dropD]
  | (k1, x) :: kvs => by
    have ih := valD_drop (k := k) (j := j) (kvs := kvs)
    unfold dropD at ih ⊢
    rw [List.filter_cons]
    by_cases h1 : k1 = k
    · subst h1
      rw [if_neg (by simp), ih]
      by_cases h2 : k1 = j
      · rw [if_pos h2, if_pos h2]
      · rw [if_neg h2, if_neg h2]
        simp [valD, List.find?_cons, h2]
    · rw [if_pos (by simpa using h1)]
      by_cases h3 : k1 = j
      · subst h3
        rw [if_neg (fun z => h1 z.symm)]
        simp [valD, List.find?_cons]
      · have e : ∀ t : List (Key × PyData), valD ((k1, x) :: t) j = valD t j := fun t => by simp [valD, List.find?_cons, h3]
        rw [e, e]
        exact ih
end PP
namespace PP
open PySem PySem.Spec PyProof.Rows L2 RZ
end PP
namespace PP
open PySem PySem.Spec PyProof.Rows L2
structure FunD (K : PySem.W.Frag) (x qual : Str) (st : Stmt) (f : Addr) (fd : FuncData) (T : Addr) : Prop where
  ex : ∃ (oc : Value) (od : Option Addr) (kV doc pm : Value) (an : Option Addr) (cdv ct : Value) (osl : Array (Option Value)),
    fd = PySem.W.fnOf x qual (defArgs st) (defBody st) (defScope st) (.ref T) kV doc pm an cdv ct ∧ K.lookup f = some ⟨oc, od, .func fd, osl⟩ ∧ PySem.W.codeIn K cdv qual = true
  kp : PySem.W.keepIn K (.ref f) = true
section
variable {P : Program} {w : World} {K : PySem.W.Frag} {mg : Str → Option Value} {base : Heap} {T : Addr}
theorem FunD.ok {x qual : Str} {st : Stmt} {f : Addr} {fd : FuncData} {N ps : List Str} {k : Nat} {sp : Sp} (F : FunD K x qual st f fd T) (S : FnScope N ps (defScope st)) (len : ∀ vs H Q E, sp vs H Q E → vs.length = ps.length)
    (hbody : ∀ (cdv : Value) (A : Around) (outer : List Env) (s : Shared) (H : Hp) (vs : List V) (Q : VK) (E : XK), Room k (A.deeper (envOfC qual (defScope st) s.heap.objs.size f cdv)) → sp vs H Q E →
      ∃ t, PSs (cxOf CX0 P w K mg base N qual (defScope st) f cdv A outer s H E).nox (defBody st) t ∧ t { nx := fun _ H' => Q .non H', rt := Q } (start N vs) H) : FnOk P w K mg base CX0 (k + 1) f fd ps sp := by
  obtain ⟨oc, od, kV, doc, pm, an, cdv, ct, osl, rfl, lk, hcd⟩ := F.ex
  refine fn_of lk hcd S len fun A outer s H vs Q E hr hsp => ?_
  obtain ⟨t, h, q⟩ := hbody cdv A outer s H vs Q E hr hsp
  exact ⟨t, h.nox, q⟩
theorem FunD.binds {x qual : Str} {st : Stmt} {f : Addr} {fd : FuncData} {ps : List Str} {ds : List Value} {o : Obj} {items : Array Value} {n : Nat} (F : FunD K x qual st f fd T) (ho : K.lookup T = some o) (hs : o.data = .seq items n)
    (h : ∀ (kV doc pm : Value) (an : Option Addr) (cdv ct : Value) (us : List Value), (us ++ ds).length = ps.length → ∃ k, bindArgs (PySem.W.fnOf x qual (defArgs st) (defBody st) (defScope st) (.ref T) kV doc pm an cdv ct) ⟨us, []⟩ = seqItems? (Value.ref T) >>= k ∧ k (some items) = pure (ps.zip (us ++ ds))) : Binds K fd ps ds := by
  obtain ⟨oc, od, kV, doc, pm, an, cdv, ct, osl, rfl, lk, hcd⟩ := F.ex
  intro s us X hl
  obtain ⟨k, e1, e2⟩ := h kV doc pm an cdv ct us hl
  exact BindsTo.of_defaults rfl (X _ _ ho) hs e1 e2
end
end PP
namespace PP
open PySem PySem.Spec PyProof.Rows L2
end PP
namespace PP
open PySem PySem.Spec PyProof.Rows L2
end PP
namespace PP
open PySem PySem.Spec PyProof.Rows L2
open PySem.W (AllAlike Sortable dataLe dataLt EachIs sorted_data)
section
variable {X : Cx} {L : PP.Loc} {m : Mem} {a b : Expr} {pos p : Pos} {QL : List PyData → Mem → Prop}
abbrev srtD (xs : List PyData) : List PyData := xs.mergeSort (dataLe false id)
theorem each_of {R : Value → PyData → Prop} {P : V → PyData → Prop} (f : ∀ v u d, P v d → RelV v u → R u d) : ∀ {vs : List V} {us : List Value} {ds : List PyData}, Paired P vs ds → Vals vs us → EachIs R us ds
  | _, _, _, .nil, .nil => .nil
  | _, _, _, .cons p ps, .cons r rs => .cons (f _ _ _ p r) (each_of f ps rs)
theorem each_back {P : V → PyData → Prop} : ∀ {us : List Value} {ds : List PyData}, EachIs (fun u d => ∃ v, RelV v u ∧ P v d) us ds → ∃ vs, Vals vs us ∧ Paired P vs ds
  | _, _, .nil => ⟨[], .nil, .nil⟩
  | _, _, .cons ⟨v, r, p⟩ t => by
    obtain ⟨vs, r2, p2⟩ := each_back t
    exact ⟨v :: vs, .cons r r2, .cons p p2⟩
def rSortedD (K : PySem.W.Frag) : List V → Hp → VK → Prop := fun vs H Q => ∃ (a : Addr) (xs : List V) (ds : List PyData) (P : V → PyData → Prop), vs = [V.ref a] ∧ SqL K H a xs ∧ Paired P xs ds ∧ (∀ v d, P v d → Dp K H v d) ∧ AllAlike ds ∧ Sortable ds ∧ (∀ d ∈ ds, d.depth ≤ 60) ∧
  ∀ (ys : List V) (p : Addr), Paired P ys (srtD ds) → H p = none → Q (.ref p) (upd H p (.lst ys))
theorem cr_sortedD (hu : X.A.units + 65 < cLine) : CallR X (.builtin "sorted") (rSortedD X.K) := by
  intro pins s σ H vs us Q I r h
  obtain ⟨a, xs, ds, P, rfl, hs, hp, hd, hal, hk, hz, q⟩ := h
  obtain ⟨its, rv, hl, hlen⟩ := I.list hs
  rw [Vals.ref1 r]
  have e1 : EachIs (fun u d => ∃ v, RelV v u ∧ P v d) its ds := each_of (fun v u d pp rr => ⟨v, rr, pp⟩) hp rv
  have e2 : EachIs (fun u d => ∃ as, Reads s.heap u d as) its ds := each_of (fun v u d pp rr => Dp.reads I d v u (hd v d pp) rr) hp rv
  have hll : ds.length ≤ sizeLine := by rw [← e1.length, ← rv.length]; exact hlen
  refine sorted_data (enc := id) hl.isList e1 e2 (by rw [List.map_id]; exact hal) (by rw [List.map_id]; exact hk) hll (fun d hdm => ?_) fun out hol eo => ?_
  · have := hz d hdm
    show X.A.units + 2 + d.depth < cLine
    omega
  obtain ⟨ys, rys, pys⟩ := each_back eo
  obtain ⟨ep, he'⟩ := PyProof.Rows.sortedAll_at s.heap its out.toArray
  have hyl : ys.length ≤ sizeLine := by rw [rys.length, hol]; exact hll
  exact ⟨.ref _, upd H (s.heap.objs.size + 1) (.lst ys), I.laid (t' := s.toks) (fun _ _ => PyProof.Rows.sortedAll_old) (Nat.le_succ _) ⟨hyl, out, ep, rys, he'⟩, rfl, q _ _ pys (I.hok.fresh (Nat.le_succ _))⟩
theorem dps_paired {K : PySem.W.Frag} {F : Hp} : ∀ {vs : List V} {ds : List PyData}, DPs K F vs ds → Paired (DP K F) vs ds
  | _, _, .nil => .nil
  | _, _, .cons r t => .cons r (dps_paired t)
theorem paired_dps {K : PySem.W.Frag} {F : Hp} : ∀ {vs : List V} {ds : List PyData}, Paired (DP K F) vs ds → DPs K F vs ds
  | _, _, .nil => .nil
  | _, _, .cons r t => .cons r (paired_dps t)
theorem wf_sortedD (hu : X.A.units + 65 < cLine) (hm : X.mg "sorted" = none) (h : WV X a L m fun p m1 => ∃ ds, lstP m1 p = some ds ∧ AllAlike ds ∧ Sortable ds ∧ (∀ d ∈ ds, d.depth ≤ 60) ∧ QL (srtD ds) m1) (hg : Gl X "sorted" := by rfl) (he : starEach [a] X.env = (false, eval a X.env) :: starEach [] X.env := by rfl)
    (hpl : (backTo pos (starEach [] X.env)).any (·.1) = false := by rfl) : WF X (.Call (.Name "sorted" p) [a] [] pos) L m QL :=
  wf_of (pe_callB (cr_sortedD hu) hg hm (by decide +kernel) (paU [a]) (he := he) (hpl := hpl)) fun w σ H r => WA.go (wa1 h he) r fun w1 vs ps m1 H1 l1 r1 d1 ⟨p, e1, ds, e2, hal, hk, hz, q⟩ => by
    subst e1
    obtain ⟨v, rfl, d2⟩ := rvs1 d1
    obtain ⟨ad, vs, rfl, hh, d⟩ := lstP_ok r1.toHR d2 e2
    refine ⟨ad, vs, ds, DP X.K w1.F, rfl, .of hh, dps_paired d, fun v d hv => DP.toDp _ _ (dp_mono r1.toHR.fz _ _ hv), hal, hk, hz, fun ys p hp hn => ?_⟩
    obtain ⟨hr2, u⟩ := r1.toHR.un (o := .lst ys) hn
    exact ⟨w1, _, m1, p, _, rfl, l1, hr2, upd_same, u, paired_dps hp, q⟩
end
theorem srt_mem {xs : List PyData} {x : PyData} : x ∈ srtD xs ↔ x ∈ xs := (List.mergeSort_perm xs _).mem_iff
end PP
namespace PP
open PySem PySem.Spec PyProof.Rows L2
end PP
namespace PP
open PySem PySem.Spec PyProof.Rows L2
end PP
namespace PP
open PySem PySem.Spec PyProof.Rows L2
end PP
namespace PP
open PySem PySem.Spec PyProof.Rows L2
end PP
namespace PP
open PySem PySem.Spec PyProof.Rows L2
end PP
namespace PP
open PySem PySem.Spec PyProof.Rows L2
end PP
namespace PP
open PySem PySem.Spec PyProof.Rows L2
end PP
namespace PP
open PySem PySem.Spec PyProof.Rows L2
end PP
namespace PP
open PySem PySem.Spec PyProof.Rows L2
end PP
namespace PP
open PySem PySem.Spec PyProof.Rows L2
end PP
namespace PP
open PySem PySem.Spec PyProof.Rows L2
end PP
namespace PP
open PySem PySem.Spec PyProof.Rows L2
structure ExOk (K : PySem.W.Frag) (C : Addr) : Prop where
  T : OexC K C
  F : XfC K C
  nv : PySem.W.findIn K (.ref C) "value" = some none
  cc : PySem.W.findIn K (.ref C) "__class__" = some (some (.builtin "object.__class__"))
  gg : PySem.W.specialIn K (.builtin "object.__class__") "__get__" = some (some (.builtin "getset_descriptor.__get__"))
  tk : PySem.W.takesIn K (.builtin "object.__class__") = some true
  ob : PySem.W.mroIn K C (.type "object") = some true
  me : PySem.W.subIn K (.ref C) (.ref C) = some true
theorem exm_of {K : PySem.W.Frag} {A B : Addr} {k : Bool} (ok : ExOk K B) (h : PySem.W.subIn K (.ref A) (.ref B) = some k) : PySem.W.exmOne K (.ref A) (.ref B) = some k :=
  PySem.W.exm_ref ok.F.exC ok.F.hdC ok.T.tyC h
theorem kit_of {K : PySem.W.Frag} {A B : Addr} {k : Bool} (oa : ExOk K A) (ok : ExOk K B) (h : PySem.W.subIn K (.ref A) (.ref B) = some k) : PySem.W.kitOne K (.ref A) (.ref B) = some k := by
  unfold PySem.W.kitOne
  by_cases e : A = B
  · subst e
    rw [oa.me] at h
    cases h
    rw [if_pos (beq_self_eq_true _)]
  · have e1 : (Value.ref A == Value.ref B) = false := Bool.eq_false_iff.mpr fun q => e (Value.ref.inj (beq_iff_eq.mp q))
    rw [e1, if_neg Bool.false_ne_true]
    obtain ⟨cd, hc, _⟩ := PySem.W.any_some ok.F.hdC
    have e2 : ((PySem.W.clsIn K B).isSome && PySem.W.typeIn K (.ref B) == some (.type "type")) = true := by rw [hc, ok.T.tyC] <;> rfl
    unfold PySem.W.kitCls
    dsimp only
    rw [if_pos e2]
    exact h
structure EOk (P : Program) (w : World) (K : PySem.W.Frag) (mg : Str → Option Value) (base : Heap) (nm : Str) (C : Addr) (spI : Sp) : Prop extends ExOk K C where
  m : mg nm = some (.ref C)
  ini : ∃ (fI : Addr) (fd : FuncData), PySem.W.findIn K (.ref C) "__init__" = some (some (.ref fI)) ∧ PySem.W.typeIn K (.ref fI) = some (.type "function") ∧ FnOk P w K mg base CX0 1 fI fd ["self", "value"] spI ∧ Binds K fd ["self", "value"] []
def spIn (K : PySem.W.Frag) : Sp := fun vs H Q _ => ∃ (a C : Addr) (y : V), vs = [.ref a, y] ∧ H a = some (exo a C none) ∧ OexC K C ∧ PySem.W.findIn K (.ref C) "value" = some none ∧
  ∀ dx, H dx = none → dx ≠ a → Q .non (upd (upd H dx (exd dx [("value", y)])) a (exo a C (some dx)))
theorem exH_at {P : Program} {w : World} {H : Hp} {h : Heap} {a C d : Addr} (hok : HOk P w H h) (e : H a = some (exH a C d)) : ∃ (oe : Obj) (vs : Array Value), h.get? a = some oe ∧ oe.cls = .ref C ∧ oe.dict = some d ∧ oe.data = .fields vs := by
  have x : ObjOk P w H h a (.ext fun h => ∃ (oe : Obj) (vs : Array Value), h.get? a = some oe ∧ oe.cls = .ref C ∧ oe.dict = some d ∧ oe.data = .fields vs) := hok a _ e
  exact x.1
theorem exH_ok {P : Program} {w : World} {H : Hp} {h : Heap} {a C d : Addr} {oe : Obj} {vs : Array Value} (e : h.get? a = some oe) (c : oe.cls = .ref C) (hd : oe.dict = some d) (hv : oe.data = .fields vs) : ObjOk P w H h a (exH a C d) :=
  ⟨⟨oe, vs, e, c, hd, hv⟩, ⟨oe, e⟩, fun h1 h2 ⟨o, us, z, r⟩ k => ⟨o, us, k _ z, r⟩⟩
section
variable {X : Cx} {L : PP.Loc} {m : Mem} {a b : Expr} {pos p : Pos} {Q : QE} {QT : Bool → Mem → Prop}
theorem exc_inst {pins : List (Addr × Obj)} {σ : L2.St} {H : Hp} {s : Shared} {a0 C d : Addr} {fs : List (Str × V)} (I : Inv X pins σ H s) (e : H a0 = some (exH a0 C d)) (e2 : H d = some (.xd fs)) :
    ∃ (oe od : Obj) (mA : Str → Option Value), PySem.W.InstAt s.heap a0 oe C (some od) ∧ s.heap.Ns1 d mA ∧ (∀ f, RelO (fs.lookup f) (mA f)) ∧ s.heap.get? d = some od := by
  obtain ⟨oe, vs, h1, h2, h3, h4⟩ := exH_at I.hok e
  have hx : ObjOk X.prog X.w H s.heap d (.xd fs) := I.hok d _ e2
  obtain ⟨mA, hns, hr⟩ := hx
  obtain ⟨od, ho, hl⟩ := lookIn_ns hns
  refine ⟨oe, od, mA, ⟨h1, h2, ?_, ?_⟩, hns, hr, ho⟩
  · unfold PySem.W.notCls
    rw [h4]
  · rw [h3]; exact ho
theorem we_exv (h : WV X a L m fun p m1 => ∃ C y, p = .exc C y ∧ ExOk X.K C ∧ Q y m1) (hb : attributeBase a "value" X.env (eval a X.env) = eval a X.env := by rfl) : WE X (.Attribute a "value" pos) L m Q := fun w σ H r pins s I => by
  refine attr_of hb (thn (h.go r (R := fun v H1 => ∃ (a0 C d : Addr) (vv : V), v = .ref a0 ∧ H1 a0 = some (exH a0 C d) ∧ H1 d = some (.xd [("value", vv)]) ∧ ExOk X.K C ∧ POE X.K w Q vv H1) (fun w1 v p m1 H1 l1 r1 d1 ⟨C, y, e1, ok, q⟩ => ?_) pins s I) fun u s1 ⟨v, H1, I1, r1, a0, C, d, vv, e1, e2, e3, ok, q⟩ => ?_)
  · subst e1
    obtain ⟨a0, d, vv, e2, e3, e4, e5⟩ := d1
    exact ⟨a0, C, d, vv, e2, r1.toHR.fz _ _ e3, r1.toHR.fz _ _ e4, ok, w1, y, m1, l1, r1.toHR, e5, q⟩
  · subst e1
    obtain rfl : u = Value.ref a0 := r1
    obtain ⟨oe, od, mA, J, hns, hr, ho⟩ := exc_inst I1 e2 e3
    obtain ⟨od2, ho2, hl⟩ := lookIn_ns hns
    rw [ho] at ho2; cases ho2
    have hl2 : List.lookup ("value" : Str) [(("value" : Str), vv)] = some vv := by simp [List.lookup]
    obtain ⟨u, hu, ru⟩ := RelO.some_of (v := vv) (o := mA "value") (by rw [← hl2]; exact hr "value")
    exact HandSPX.exc_get I1.kIn J ok.F.ga ok.F.gg ok.F.exC (PySem.W.findObj_own ok.F.hdC ok.nv rfl (by rw [hl, hu])) (handed_of ru) ⟨vv, H1, I1.tok _, ru, q⟩
def rIsX (K : PySem.W.Frag) : List V → Hp → VK → Prop := fun xs H Q => ∃ (a0 C d B : Addr) (fs : List (Str × V)) (k : Bool), xs = [.ref a0, .ref B] ∧ H a0 = some (exH a0 C d) ∧ H d = some (.xd fs) ∧ ExOk K C ∧ PySem.W.kitOne K (.ref C) (.ref B) = some k ∧ Q (.bl k) H
theorem call_isX : CallR X (.builtin "isinstance") (rIsX X.K) := by
  intro pins s σ H xs us Q I r ⟨a0, C, d, B, fs, k, ex, e1, e2, ok, ek, q⟩
  subst ex
  cases r with
  | cons r1 r2 =>
    cases r2 with
    | cons r3 r4 =>
      cases r4
      cases r1
      cases r3
      obtain ⟨oe, od, mA, J, _, _, _⟩ := exc_inst I e1 e2
      have hcl : (PySem.W.clsIn X.K C).isSome = true := by
        obtain ⟨cd, hc, _⟩ := PySem.W.any_some ok.F.hdC
        rw [hc]; rfl
      exact PySem.W.kia_one (PySem.W.kitx_exc hcl ok.F.ga ok.F.gg ok.F.exC ok.cc ok.gg ok.tk ok.ob) I.kIn J ek (fun z => nomatch z) fun t => ⟨.bl k, H, I.kept (t' := t) fun _ _ z => z, rfl, q⟩
theorem we_isK {x : Str} {p2 : Pos} {B : Addr} (hm : X.mg "isinstance" = none) (hB : X.mg x = some (.ref B)) (h : WV X a L m fun y m1 => ∃ C z k, y = .exc C z ∧ ExOk X.K C ∧ PySem.W.kitOne X.K (.ref C) (.ref B) = some k ∧ Q (.bool k) m1) (hg : Gl X "isinstance" := by rfl) (hgB : Gl X x := by rfl)
    (hd : (x == ("__debug__" : Str)) = false := by decide)
    (he : starEach [a, .Name x p2] X.env = (false, eval a X.env) :: starEach [.Name x p2] X.env := by rfl) (he2 : starEach [.Name x p2] X.env = (false, eval (.Name x p2) X.env) :: starEach [] X.env := by rfl) (hpl : (backTo pos (starEach [.Name x p2] X.env)).any (·.1) = false := by rfl) : WE X (.Call (.Name "isinstance" p) [a, .Name x p2] [] pos) L m Q :=
  we_of (pe_callB call_isX hg hm (by decide +kernel) (pa_cons (peU a) (pa_cons (pe_glob (v := .ref B) hgB hB rfl hd) pa_nil he2) he) (he := he) (hpl := hpl)) fun w σ H r => h.go r fun w1 v y m1 H1 l1 r1 d1 ⟨C, z, k, e1, ok, ek, q⟩ => by
    subst e1
    obtain ⟨a0, d, vv, e2, e3, e4, e5⟩ := d1
    subst e2
    exact ⟨a0, C, d, B, _, k, rfl, r1.toHR.fz _ _ e3, r1.toHR.fz _ _ e4, ok, ek, w1, _, m1, l1, r1.toHR, .bl k, q⟩
theorem wt_isNoneX (h : WV X a L m fun p m1 => (∃ C y, p = .exc C y) ∧ WE X b L m1 fun y m2 => y = .none ∧ QT false m2) : WT X (.Compare a [.Is] [b] pos) L m QT :=
  wt_of (pt_cmpR op_isN (peU a) (peU b) (nomark _)) fun w σ H r => h.go r fun w1 v p m1 H1 l1 r1 d1 ⟨⟨C, y0, e0⟩, q1⟩ => q1.go r1 fun w2 u y m2 H2 l2 r2 d2 ⟨e2, q⟩ => by
    subst e2; subst e0
    obtain ⟨ad, d, vv, e1, _⟩ := d1
    subst e1
    exact ⟨dp_none d2, false, by rw [decide_eq_false (fun z => by cases z)], w2, m2, l1.trans l2, r2.toHR, q⟩
end
abbrev XQ := Addr → PyData → PP.Loc → Mem → Prop
def XW (K : PySem.W.Frag) (w : Wd) (e : XQ) : WX := fun cls d σ H => ∃ (C dd : Addr) (w' : Wd) (L' : PP.Loc) (m' : Mem) (vv : V) (y : PyData), cls = .ref C ∧ d = some dd ∧ w.le w' ∧ Rep K w' L' m' σ H ∧ w'.F dd = some (.xd [("value", vv)]) ∧ DP K w'.F vv y ∧ e C y L' m'
theorem takes_le {X : Cx} {w w1 : Wd} {e : XQ} (l : w.le w1) (t : Takes X (XW X.K w e)) : Takes X (XW X.K w1 e) :=
  t.imp fun _ _ _ _ ⟨C, dd, w', L', m', vv, y, h1, h2, l', r⟩ => ⟨C, dd, w', L', m', vv, y, h1, h2, l.trans l', r⟩
section
variable (X : Cx)
def WSX (st : Stmt) (L : PP.Loc) (m : Mem) (D : PEnds) (e : XQ) : Prop := ∀ (w : Wd) (σ : L2.St) (H : Hp), Rep X.K w L m σ H → Takes X (XW X.K w e) → tUS X st (toE X.K w D) σ H
def WSsX (st : List Stmt) (L : PP.Loc) (m : Mem) (D : PEnds) (e : XQ) : Prop := ∀ (w : Wd) (σ : L2.St) (H : Hp), Rep X.K w L m σ H → Takes X (XW X.K w e) → tUSs X st (toE X.K w D) σ H
def WEX (a : Expr) (L : PP.Loc) (m : Mem) (e : XQ) : Prop := ∀ (w : Wd) (σ : L2.St) (H : Hp), Rep X.K w L m σ H → Takes X (XW X.K w e) → tU X a σ H (fun _ _ => False)
end
section
variable {X : Cx} {L : PP.Loc} {m : Mem} {a b c tg : Expr} {es : List Expr} {st : Stmt} {rest body : List Stmt} {pos p pos' : Pos} {D : PEnds} {e : XQ}
theorem wsx_of (h : WS X st L m D) : WSX X st L m D e := fun w σ H r _ => h w σ H r
theorem ws_nox (h : WS X.nox st L m D) : WS X st L m D := fun w σ H r pins s I =>
  wpAny_mono ((psU (X := X.nox) st).run pins s σ H _ (I.wish _) (h w σ H r)) (fun _ _ q => q.unwish) fun _ _ z => False.elim z
theorem wsx_nox (h : WS X.nox st L m D) : WSX X st L m D e := wsx_of (ws_nox h)
theorem wssx_cons (h : WSX X st L m { D with nx := fun L1 m1 => WSsX X rest L1 m1 D e } e) : WSsX X (st :: rest) L m D e := fun w σ H r t pins s I =>
  (pss_cons (psU st) (pssU rest)).run pins s σ H _ I (tUS_mono (h w σ H r t) (fun σ' H' ⟨w', L', m', l, r', q⟩ => tUSs_back l (q w' σ' H' r' (takes_le l t))) (fun _ _ h => h) (fun _ _ h => h) (fun _ _ h => h))
theorem wssx_pre (h : WS X.nox st L m { D with nx := fun L1 m1 => WSsX X rest L1 m1 D e }) : WSsX X (st :: rest) L m D e := wssx_cons (wsx_nox h)
theorem wssx_one (h : WSX X st L m D e) : WSsX X [st] L m D e := fun w σ H r t pins s I => (pss_one (psU st)).run pins s σ H _ I (h w σ H r t)
theorem wsx_if {t f : List Stmt} (h : WT X.nox c L m fun k m1 => (k = true → WSsX X t L m1 D e) ∧ (k = false → WSsX X f L m1 D e)) : WSX X (.If c t f pos) L m D e := fun w σ H r tk pins s I =>
  (ps_if (PT.nox (ptU (X := X.nox) c)) (pssU t) (pssU f)).run pins s σ H _ I (h.go (X := X.nox) r fun w1 k m1 H1 l1 r1 ⟨q1, q2⟩ => by
    cases k with
    | true => rw [if_pos rfl]; exact tUSs_back l1 (q1 rfl _ _ _ r1 (takes_le l1 tk))
    | false => rw [if_neg Bool.false_ne_true]; exact tUSs_back l1 (q2 rfl _ _ _ r1 (takes_le l1 tk)))
theorem wsx_expr (h : WEX X a L m e) (hs : swapsWith a none pos.line X.env = pure false := by rfl) : WSX X (.Expr a pos) L m D e := fun w σ H r t pins s I =>
  (ps_expr (peU a) hs).run pins s σ H _ I (tU_mono (h w σ H r t) fun _ _ z => False.elim z)
theorem upd_del {H : Hp} {a dx : Addr} {u o1 o2 o3 : HO} (na : H a = none) (hne : dx ≠ a) : upd (L2.del (upd (upd (upd H a o1) dx o2) a o3) a) dx u = upd H dx u := by
  funext b
  by_cases h1 : b = dx
  · subst h1; rw [upd_same, upd_same]
  · rw [upd_ne h1, upd_ne h1]
    by_cases h2 : b = a
    · subst h2; rw [L2.del_same, na]
    · rw [L2.del_ne h2, upd_ne h2, upd_ne h1, upd_ne h2]
theorem wsx_raise {x : Str} {C : Addr} (hc : X.calm = true) (B : EOk X.prog X.w X.K X.mg X.base x C (spIn X.K)) (hr : Room 2 X.A) (h : WE X.nox a L m fun y m1 => e C y L m1) (hg : Gl X x := by rfl) (hdb : (x == ("__debug__" : Str)) = false := by decide)
    (he : starEach [a] X.env = (false, eval a X.env) :: starEach [] X.env := by rfl) (hpl : (backTo pos' (starEach [] X.env)).any (·.1) = false := by rfl) : WSX X (.Raise (some (.Call (.Name x p) [a] [] pos')) none pos) L m D e := fun w σ H r t pins s I => by
  obtain ⟨fI, fd, i1, i2, i3, i4⟩ := B.ini
  refine (ps_raise hc t (pmk_oex (ds := []) (dvs := []) B.T i1 i2 i3 (hr.mono (by decide)) i4 .nil pass0 hg B.m (pa_cons (PE.nox (peU (X := X.nox) a)) pa_nil he) hdb he hpl)).run pins s σ H _ I ?_
  refine h.go (X := X.nox) r fun w1 v y m1 H1 l1 r1 d1 q => ?_
  refine ⟨by show 1 ≤ 1000; decide, fun a0 na => ?_⟩
  refine ⟨a0, C, v, rfl, upd_same, B.T, B.nv, fun dx hdx hne => ⟨rfl, dx, [("value", v)], upd_same, ?_, ?_, ?_⟩⟩
  · rw [upd_ne hne, upd_same]
  · rwa [upd_ne hne] at hdx
  · rw [upd_ne hne] at hdx
    rw [upd_del na hne]
    obtain ⟨l2, hr2⟩ := r1.toHR.fnew (o := .xd [("value", v)]) hdx
    exact ⟨C, dx, _, L, m1, v, y, rfl, rfl, l1.trans l2, r1.go l2 hr2, upd_same, dp_mono l2.sub _ _ d1, q⟩
abbrev FSpX := List PV → Mem → (Addr → PyData → Mem → Prop) → Prop
def toSpX (K : PySem.W.Frag) (f : FSpX) : Sp := fun vs H _ E => ∃ (w : Wd) (pvs : List PV) (m : Mem) (q : Addr → PyData → Mem → Prop), HR K w m H ∧ RVs K w vs pvs ∧ f pvs m q ∧
  ∀ (w' : Wd) (C d : Addr) (vv : V) (y : PyData) (m' : Mem) (H' : Hp), w.le w' → HR K w' m' H' → w'.F d = some (.xd [("value", vv)]) → DP K w'.F vv y → q C y m' → E (.ref C) (some d) H'
def CallAskX (sp : FSpX) (ks : List Nat) (pvs : List PV) (m : Mem) (q : Addr → PyData → Mem → Prop) : Prop := ks.Nodup ∧ (∀ k ∈ ks, k < m.length) ∧ (∀ p ∈ pvs, refsIn ks p) ∧ sp (pvs.map (ren ks)) (cellsAt m ks) q
theorem callX_read {sp : FSpX} {ks : List Nat} {w w1 : Wd} {σ : L2.St} {H1 : Hp} {vs : List V} {pvs : List PV} {m1 : Mem} {Q : VK} (l1 : w.le w1) (r1 : Rep X.K w1 L m1 σ H1) (d1 : RVs X.K w1 vs pvs) (h : CallAskX sp ks pvs m1 fun C y mc => backB none ks mc = true ∧ e C y L (setAll m1 ks mc)) : toSpX X.K sp vs H1 Q (L2.WE (XW X.K w e) σ) := by
  obtain ⟨nd, hl, hi, hs⟩ := h
  refine ⟨_, _, _, _, r1.toHR.subWorld nd hl, sub_rvs r1.toHR hl d1 hi, hs, fun w' C d vv y mc H' l hr' hd dy ⟨hmc, qq⟩ => ?_⟩
  obtain ⟨l3, hr3⟩ := r1.toHR.back (mo := []) (ex := []) nd hl l (by rw [List.append_nil]; exact hr') hmc
  exact ⟨C, d, _, L, _, vv, y, rfl, rfl, l1.trans l3, r1.go l3 hr3, hd, dy, qq⟩
theorem tUA_nox {σ : L2.St} {H : Hp} {Q : List V → Hp → Prop} (h : tUA X.nox es σ H Q) : tUA X es σ H Q := fun pos pins s I =>
  wpAny_mono (h pos pins s (I.wish _)) (fun _ _ ⟨v, H', I', r, q⟩ => ⟨v, H', I'.unwish, r, q⟩) fun _ _ z => False.elim z
theorem wex_call {x : Str} {k : Nat} {f : Addr} {fd : FuncData} {ps : List Str} {sp : FSpX} {a0 : Expr} (ks : List Nat) (F : FnOk X.prog X.w X.K X.mg X.base (L2.CX X.prog X.w) k f fd ps (toSpX X.K sp)) (hr : Room k X.A) (hm : X.mg x = some (.ref f)) (hk : PySem.W.keepIn X.K (.ref f) = true) (hb : Binds X.K fd ps [])
    (h : WA X.nox (a0 :: es) L m fun pvs m1 => CallAskX sp ks pvs m1 fun C y mc => backB none ks mc = true ∧ e C y L (setAll m1 ks mc))
    (hg : Gl X x := by rfl) (hdb : (x == ("__debug__" : Str)) = false := by decide) (he : starEach (a0 :: es) X.env = (false, eval a0 X.env) :: starEach es X.env := by rfl) (hpl : (backTo pos (starEach es X.env)).any (·.1) = false := by rfl) : WEX X (.Call (.Name x p) (a0 :: es) [] pos) L m e := fun w σ H r t pins s I => by
  refine (pe_callS (E := L2.WE (XW X.K w e)) F hr hg hm hk hb (fun σ => passAt t σ) (paU (a0 :: es)) hdb he hpl).run pins s σ H _ I (tUA_nox (WA.go (X := X.nox) h r fun w1 vs pvs m1 H1 l1 r1 d1 q => ?_))
  exact callX_read l1 r1 d1 q
theorem run_fnkS {CX : CXT} {k : Nat} {f : Addr} {fd : FuncData} {ps kn : List Str} {sp : Sp} {E : L2.St → XK} {g : List Value → List Value → List Value} {gV : List V → List V → List V} {pins : List (Addr × Obj)} {σ : L2.St} {H : Hp} {s : Shared} {Q : VK} {us ws : List Value} {vs zs : List V} (F : FnOk X.prog X.w X.K X.mg X.base CX k f fd ps sp) (hr : Room k X.A) (hb : KBinds X.K fd ps kn g gV) (hx : PassesAt CX X σ (E σ))
    (I : Inv X pins σ H s) (r : Vals vs us) (rz : Vals zs ws) (h : sp (gV vs zs) H Q (E σ)) : wpAny (model X.prog X.w) X.A (call (.ref f) us (kn.zip ws)) (EP X pins σ Q) X.xe s := by
  have r2 := hb.rel r rz
  have hl : (g us ws).length = ps.length := r2.length.symm.trans (F.len _ _ _ _ h)
  refine wpAny_call (codeAny_mono (F.run X.A X.stack s H ⟨us, kn.zip ws⟩ (g us ws) (gV vs zs) Q (E σ) hr I.env0 (hb.to s us ws I.kIn hl) r2 h) fun z s' hq => ?_)
  match z, hq with
  | .error e, hq => exact hx pins H s e s' I hq
  | .ok (.ret u), hq => exact I.after hq
  | .ok .next, hq => exact False.elim hq
  | .ok .brk, hq => exact False.elim hq
  | .ok .cont, hq => exact False.elim hq
theorem wex_callR0 {x : Str} {k n : Nat} {f : Addr} {fd : FuncData} {ps kn : List Str} {is : List Nat} {sp : FSpX} {kws : List Keyword} (ks : List Nat) (F : FnOk X.prog X.w X.K X.mg X.base (L2.CX X.prog X.w) k f fd ps (toSpX X.K sp)) (hr : Room k X.A) (hm : X.mg x = some (.ref f)) (hk : PySem.W.keepIn X.K (.ref f) = true) (hb : KBr X.K fd ps n kn is)
    (h : WK X kws L m fun pvs m1 => 0 = n ∧ pvs.length = kn.length ∧ CallAskX sp ks (permL is pvs) m1 fun C y mc => backB none ks mc = true ∧ e C y L (setAll m1 ks mc))
    (hg : Gl X x := by rfl) (hall : (backToKw pos (keywordEach kws X.env)).all (·.1.isSome) = true := by rfl) (hks : (backToKw pos (keywordEach kws X.env)).filterMap (·.1) = kn := by rfl) (hdb : (x == ("__debug__" : Str)) = false := by decide)
    (hpl : ((backTo pos (starEach [] X.env)).any (·.1) || (backToKw pos (keywordEach kws X.env)).any (·.1.isNone)) = false := by rfl) : WEX X (.Call (.Name x p) [] kws pos) L m e := fun w σ H r t pins s I => by
  refine wpAny_Call_Name_kw (ld_glob I hg hm ?_ hdb)
  refine PySem.W.callWith_KW0 (h₀ := X.base) I.ok.mod.kin hk hall (thn ((pkU kws).run pos pins s σ H _ I (WK.go h r (R := fun vs H1 => (0 = n ∧ vs.length = kn.length) ∧ toSpX X.K sp (permL is vs) H1 (fun _ _ => False) (L2.WE (XW X.K w e) σ)) fun w1 vs pvs m1 H1 l1 r1 d1 ⟨e1, e2, q⟩ => ⟨⟨e1, d1.length.trans e2⟩, callX_read l1 r1 (rvs_perm d1 is) q⟩)) fun ws s2 ⟨zs, H2, I2, rz, ⟨e0, e3⟩, q2⟩ => ⟨I2.kIn, ?_⟩) hpl
  rw [hks]
  refine run_fnkS F hr hb.kb (passAt t σ) I2 .nil rz ?_
  rw [gR_of (show ([] : List V).length = n from e0) e3, List.nil_append]
  exact q2
theorem inv_suite {pins : List (Addr × Obj)} {σ : L2.St} {H : Hp} {s : Shared} (I : Inv X pins σ H s) (a : Addr) : Inv (X.suite a (X.pn ++ pins)) [] σ H s :=
  ⟨I.ok.suite _ _, I.os, I.bare, I.base, I.loc, I.cell, I.free, I.freeC, fun q hq => I.pin q (by rw [List.append_nil] at hq; exact hq), I.hok, I.len⟩
theorem inv_unsuite {pins pn' : List (Addr × Obj)} {σ : L2.St} {H : Hp} {s : Shared} {a : Addr} (I : Inv (X.suite a (X.pn ++ pins)) pn' σ H s) (ok : X.Ok) : Inv X pins σ H s :=
  ⟨ok, I.os, I.bare, I.base, I.loc, I.cell, I.free, I.freeC, fun q hq => I.pin q (List.mem_append_left _ hq), I.hok, I.len⟩
theorem inv_note {pins : List (Addr × Obj)} {σ : L2.St} {H : Hp} {s : Shared} {a : Addr} {o : HO} (I : Inv X pins σ H s) (na : H a = none) (h0 : X.s_0.heap.get? a = none) (nL : a ≠ X.env.locals) (nc : ∀ x c, X.env.cells.lookup x = some c → c ≠ a) (np : ∀ q ∈ X.pn ++ pins, q.1 ≠ a) (new : ObjOk X.prog X.w (upd H a o) s.heap a o) : Inv X pins σ (upd H a o) s := by
  have ne : ∀ {b : Addr} {u : HO}, H b = some u → b ≠ a := fun {b u} e => ne_of_none e na
  refine ⟨I.ok, I.os, I.bare, ⟨I.base.keep, I.base.slot, fun b u e n hx => ?_, I.base.there, fun b xs e => ?_, fun b ob u e => ?_, fun b ts e => ?_⟩, I.loc, I.cell, ?_, fun x c e => ?_, fun q hq => ?_, fun b u e => ?_, I.len⟩
  · rw [upd_ne (fun z => by rw [z, h0] at e; cases e)]
    exact I.base.free b u e n hx
  · have z := I.base.tups b xs e
    rw [upd_ne (ne z)]; exact z
  · have z := I.base.frzs b ob u e
    rw [upd_ne (ne z)]; exact z
  · obtain ⟨more, z⟩ := I.base.tbls b ts e
    exact ⟨more, by rw [upd_ne (ne z)]; exact z⟩
  · rw [upd_ne (Ne.symm nL)]; exact I.free
  · rw [upd_ne (nc x c e)]; exact I.freeC x c e
  · obtain ⟨e1, e2, e3⟩ := I.pin q hq
    exact ⟨e1, by rw [upd_ne (np q hq)]; exact e2, e3⟩
  · by_cases hb : b = a
    · subst hb
      rw [upd_same] at e; cases e
      exact new
    · rw [upd_ne hb] at e
      exact (I.hok b u e).stay (fun _ _ _ z => z) (fun c hc => by rw [upd_ne (ne hc)]; exact hc) fun c xs hc => by rw [upd_ne (ne hc)]; exact hc
def HQ (X : Cx) (D : PEnds) : List ExceptHandler → Addr → PyData → PP.Loc → Mem → Prop
  | .ExceptHandler (some (.Name x _)) (some n) (b₀ :: su) _ :: hs, C, y, L, m => ∃ (i : Nat) (c : Value) (k : Bool), X.N[i]? = some n ∧ X.env.kindOf n = some .local ∧ Names X x c ∧ PySem.W.exmOne X.K (.ref C) c = some k ∧
      (k = true → ∀ (a : Addr) (pn : List (Addr × Obj)), WSs (X.suite a pn) (b₀ :: su) (L.set i (some (.exc C y))) m { nx := fun L m => D.nx (L.set i none) m, rt := D.rt, bk := fun L m => D.bk (L.set i none) m, ct := fun L m => D.ct (L.set i none) m }) ∧ (k = false → HQ X D hs C y L m)
  | _, _, _, _, _ => False
theorem hq_as {x n : Str} {np pos2 : Pos} {b₀ : Stmt} {su : List Stmt} {hs : List ExceptHandler} {C : Addr} {y : PyData} {c : Value} (i : Nat) (hi : X.N[i]? = some n) (hl : X.env.kindOf n = some .local) (hn : Names X x c) (hm : PySem.W.exmOne X.K (.ref C) c = some true)
    (h : ∀ (a : Addr) (pn : List (Addr × Obj)), WSs (X.suite a pn) (b₀ :: su) (L.set i (some (.exc C y))) m { nx := fun L m => D.nx (L.set i none) m, rt := D.rt, bk := fun L m => D.bk (L.set i none) m, ct := fun L m => D.ct (L.set i none) m }) : HQ X D (.ExceptHandler (some (.Name x np)) (some n) (b₀ :: su) pos2 :: hs) C y L m :=
  ⟨i, c, true, hi, hl, hn, hm, fun _ => h, fun z => nomatch z⟩
theorem rep_wipe {K : PySem.W.Frag} {w : Wd} {σ : L2.St} {H : Hp} (r : Rep K w L m σ H) (i : Nat) : Rep K w (L.set i none) m (σ.set i none) H :=
  ⟨r.toHR, by rw [List.length_set, List.length_set]; exact r.sl, fun j q e => by
    by_cases hj : i = j
    · subst hj
      by_cases hi : i < L.length
      · rw [List.getElem?_set_self hi] at e; cases e
      · rw [List.getElem?_eq_none (by rw [List.length_set]; omega)] at e; cases e
    · rw [List.getElem?_set_ne hj] at e
      obtain ⟨v, h1, h2⟩ := r.loc j q e
      exact ⟨v, by rw [List.getElem?_set_ne hj]; exact h1, h2⟩⟩
theorem ws_tryX {h₀ : ExceptHandler} {hds : List ExceptHandler} (hs : X.stack = X.env :: X.outer) (hf : X.env.frame = some X.env.locals) (hN : X.N.Nodup) (hex : X.ex = [])
    (h : ∀ (pn : List (Addr × Obj)) (xe : Value → Shared → Prop), PassesOwn (model X.prog X.w) X.A X.env xe → WSsX (X.tr pn xe) body L m D (HQ X D (h₀ :: hds))) : WS X (.Try body (h₀ :: hds) [] [] pos) L m D := fun w σ H r pins s I => by
  have ok := I.ok
  have hfr : X.A.frames = some (X.env :: X.outer) := ok.frames.trans (congrArg some hs)
  refine wpAny_Try_except ?_
  refine wpAny_mono (h (X.pn ++ pins) (fun e s₁ => wpAny (model X.prog X.w) X.A (noteFrame e X.env) (fun _ s₂ => wpAny (model X.prog X.w) X.A (setFlight e none)
    (fun _ s₃ => wpAny (model X.prog X.w) X.A (handleBy e X.env (h₀ :: hds)) (SP X pins (toE X.K w D)) X.xe s₃) X.xe s₂) X.xe s₁) PassesOwn.looking w σ H r (fun u s' xx => ?_) [] s (I.toTry _)) (fun f s1 hsp => ?_) (fun e s1 he => he)
  · obtain ⟨a, B, sI, pins', σ', H', cls, d, rfl, J', nb, up, sky, na, os, ag, C, dd, w', L', m', vv, y, rfl, rfl, l, r', hF, hd, hq⟩ := xx
    have J : Inv X pins σ' H' sI := J'.ofTry ok
    have sky' : Sky B (X.env :: X.outer) a (Zc (.ref C) (some dd)) X.env.locals s'.heap := hs ▸ sky
    refine Sky.land Zc.steady hfr hf sky' fun h3 fl3 up3 => ?_
    have J3 : Inv X pins σ' H' { s' with heap := h3 } := J.landed nb fl3.1 (up.trans up3) os ag
    obtain ⟨oe3, vs3, he3, hz3, hd3⟩ := fl3.there
    have nfr : a ∉ frs (X.env :: X.outer) := fun hm => by
      obtain ⟨_, o', e', hnf⟩ := fl3.2.2.1.mem hm
      rw [he3] at e'; cases e'
      exact hnf _ hd3
    have nL : a ≠ X.env.locals := fun z => nfr (List.mem_filterMap.mpr ⟨X.env, List.mem_cons_self, z ▸ hf⟩)
    have nI : sI.heap.get? a = none := by
      cases q : sI.heap.get? a with
      | none => rfl
      | some o =>
        have z := nb a o q (hs ▸ nfr)
        rw [fl3.2.1] at z; cases z
    have n0 : X.s_0.heap.get? a = none := by
      cases q : X.s_0.heap.get? a with
      | none => rfl
      | some o =>
        obtain ⟨o', z⟩ := J.base.there a o q (by rw [hex]; simp)
        rw [nI] at z; cases z
    have nC : ∀ x c, X.env.cells.lookup x = some c → c ≠ a := fun x c e z => by
      obtain ⟨v, hc⟩ := J.cell x c e
      obtain ⟨o, q, _⟩ := hc
      rw [z, nI] at q; cases q
    have nP : ∀ q ∈ X.pn ++ pins, q.1 ≠ a := fun q hq z => by
      have e := (J.pin q hq).1
      rw [z, nI] at e; cases e
    have S3 := inv_suite J3 a
    have go : ∀ hds' : List ExceptHandler, HQ X D hds' C y L' m' → wpAny (model X.prog X.w) X.A (handleBy (.ref a) X.env hds') (SP X pins (toE X.K w D)) X.xe { s' with heap := h3 } := by
      intro hds'
      induction hds' with
      | nil => intro z; exact z.elim
      | cons hh rest ih =>
        intro z
        match hh, z with
        | .ExceptHandler (some (.Name x np)) (some n) (b₀ :: su) pos2, ⟨i, c, k, hi, hln, hc, hx, hyes, hno⟩ =>
        refine wpAny_handleBy_cons (codeAny_handlers_test ?_) (by intro q; cases q)
        have LM := PySem.W.exm_one (M := model X.prog X.w) (h := h3) J3.kIn (fun A Q E s k q => wpAny_typeOf_ref (k _ _ he3) (by rw [hz3.1]; exact q)) hx
        have test : ∀ {Q : Value → Shared → Prop} {E : Value → Shared → Prop}, Q c { s' with heap := h3 } → wpAny (model X.prog X.w) (X.A.mark (some (.ref a))) (eval (.Name x np) X.env) Q E { s' with heap := h3 } := fun {Q E} q => by
          obtain ⟨hg, hdbg, hm | ⟨hm, hv, hnn⟩⟩ := hc
          · exact ld_glob (X := X.suite a (X.pn ++ pins)) S3 hg hm q hdbg
          · exact ld_blt (X := X.suite a (X.pn ++ pins)) S3 hg hm hv q hnn hdbg
        refine test (LM.here ?_)
        cases k with
        | false => exact ih (hno rfl)
        | true =>
          refine codeAny_handlers_suite_as (HandSPX.lands_againZ fl3 fun h4 fl4 up4 => ?_)
          have J4 : Inv X pins σ' H' { s' with heap := h4 } := J.landed nb fl4.1 ((up.trans up3).trans up4) os ag
          obtain ⟨oe4, vs4, he4, hz4, hd4⟩ := fl4.there
          have K4 := inv_note J4 na n0 nL nC nP (exH_ok (C := C) (d := dd) he4 hz4.1 hz4.2 hd4)
          have S4 := inv_suite K4 a
          obtain ⟨l2, hr2⟩ := r'.toHR.fnew (o := exH a C dd) na
          refine store_ok (X := X.suite a (X.pn ++ pins)) (v := .ref a) S4 hN hi (.inl hln) rfl (fun s5 S5 => ?_) (.inr hln)
          have rv : RV X.K (w'.fz a (exH a C dd)) (.ref a) (.exc C y) := ⟨a, dd, vv, rfl, upd_same, l2.sub _ _ hF, dp_mono l2.sub _ _ hd⟩
          have r5 := (r'.go l2 hr2).set (i := i) rv
          refine wpAny_mono (hyes rfl a (X.pn ++ pins) _ _ _ r5 [] s5 S5) (fun f s6 hsp => ?_) (fun _ _ z => False.elim z)
          have fin : ∀ {σ6 : L2.St} {H6 : Hp} {Q : Shared → Prop}, Inv (X.suite a (X.pn ++ pins)) [] σ6 H6 s6 → (∀ s7, Inv X pins (σ6.set i none) H6 s7 → Q s7) →
              wpAny (model X.prog X.w) X.A (do bindName X.env n .none; unbindBehindTheSuite X.env n pos2) (fun _ s7 => Q s7) X.xe s6 := fun {σ6 H6 Q} S6 hq => gone_ok (inv_unsuite S6 ok) hN hi hln hq
          have wp : ∀ {N : PP.Loc → Mem → Prop} {σ6 : L2.St} {H6 : Hp}, POS X.K (w'.fz a (exH a C dd)) (fun L m => N (L.set i none) m) σ6 H6 → POS X.K w N (σ6.set i none) H6 := fun {N σ6 H6} ⟨w6, L6, m6, l6, r6, q6⟩ => ⟨w6, _, m6, (l.trans l2).trans l6, rep_wipe r6 i, q6⟩
          match f, hsp with
          | .next, ⟨σ6, H6, S6, q6⟩ => exact fin S6 fun s7 J7 => ⟨_, _, J7, wp q6⟩
          | .brk, ⟨σ6, H6, S6, q6⟩ => exact fin S6 fun s7 J7 => ⟨_, _, J7, wp q6⟩
          | .cont, ⟨σ6, H6, S6, q6⟩ => exact fin S6 fun s7 J7 => ⟨_, _, J7, wp q6⟩
          | .ret u, ⟨v6, σ6, H6, S6, r6, q6⟩ => exact fin S6 fun s7 J7 => ⟨_, _, _, J7, r6, POV.back (l.trans l2) q6⟩
    exact go _ hq
  · match f, hsp with
    | .next, ⟨σ', H', J', q⟩ => exact wpAny_execs_nil ⟨σ', H', J'.ofTry ok, q⟩
    | .brk, ⟨σ', H', J', q⟩ => exact ⟨σ', H', J'.ofTry ok, q⟩
    | .cont, ⟨σ', H', J', q⟩ => exact ⟨σ', H', J'.ofTry ok, q⟩
    | .ret u, ⟨v, σ', H', J', rr, q⟩ => exact ⟨v, σ', H', J'.ofTry ok, rr, q⟩
end
section
variable {P : Program} {w : World} {K : PySem.W.Frag} {mg : Str → Option Value} {base : Heap}
abbrev DXx (P : Program) (w : World) (K : PySem.W.Frag) (mg : Str → Option Value) (base : Heap) (N : List Str) (qual : Str) (st : Stmt) (f : Addr) (cdv : Value) (A : Around) (outer : List Env) (s : Shared) (H : Hp) (E : XK) : Cx := cxOf (L2.CX P w) P w K mg base N qual (defScope st) f cdv A outer s H E
abbrev fnN : PEnds := { nx := fun _ _ => False, rt := fun _ _ => False }
theorem fnx_pp {x qual : Str} {st : Stmt} {f : Addr} {fd : FuncData} {N ps : List Str} {k : Nat} {sp : FSpX} (F : Fun K x qual st f fd) (S : FnScope N ps (defScope st)) (len : ∀ pvs m q, sp pvs m q → pvs.length = ps.length)
    (body : ∀ (cdv : Value) (A : Around) (outer : List Env) (s : Shared) (H : Hp) (E : XK), Room k (DXx P w K mg base N qual st f cdv A outer s H E).A → PassesOwn (model P w) (DXx P w K mg base N qual st f cdv A outer s H E).A (DXx P w K mg base N qual st f cdv A outer s H E).env (DXx P w K mg base N qual st f cdv A outer s H E).xe → ∀ pvs m q, sp pvs m q →
      WSsX (DXx P w K mg base N qual st f cdv A outer s H E) (defBody st) (startL N pvs) m fnN (fun C y _ m' => m.length ≤ m'.length ∧ q C y (m'.take m.length))) :
    FnOk P w K mg base (L2.CX P w) (k + 1) f fd ps (toSpX K sp) := by
  refine F.okX S (fun vs H Q E ⟨w, pvs, m, q, hr, r, h, k⟩ => by rw [r.length]; exact len _ _ _ h) fun cdv A outer s H vs Q E hrm h => ?_
  refine ⟨_, pssU _, ?_⟩
  obtain ⟨wd, pvs, m, q, hr, r, h, kk⟩ := h
  have tk : Takes (DXx P w K mg base N qual st f cdv A outer s H E) (fun cls d _ H => E cls d H) := takes_of rfl rfl rfl rfl
  refine tUSs_mono (body cdv A outer s H E hrm (passes_of rfl) pvs m q h wd _ H (rep_start N hr r) (tk.imp ?_)) ?_ ?_ ?_ ?_
  · rintro cls d σ H' ⟨C, dd, w', L', m', vv, y, rfl, rfl, l, r', hF, hd, hn, qq⟩
    exact kk (w'.cut m.length) C dd vv y _ H' (l.cut (by rw [hr.len]; exact Nat.le_refl _)) (r'.toHR.cut m.length) hF hd qq
  · rintro σ' H' ⟨_, _, _, _, _, z⟩; exact z.elim
  · rintro v H' ⟨_, _, _, _, _, _, z⟩; exact z.elim
  · rintro σ' H' ⟨_, _, _, _, _, z⟩; exact z.elim
  · rintro σ' H' ⟨_, _, _, _, _, z⟩; exact z.elim
theorem fnokx_or {k : Nat} {f : Addr} {fd : FuncData} {ps : List Str} {sp1 sp2 : FSpX} (h1 : FnOk P w K mg base (L2.CX P w) k f fd ps (toSpX K sp1)) (h2 : FnOk P w K mg base (L2.CX P w) k f fd ps (toSpX K sp2)) : FnOk P w K mg base (L2.CX P w) k f fd ps (toSpX K fun pvs m q => sp1 pvs m q ∨ sp2 pvs m q) := by
  refine ⟨fun vs H Q E h => ?_, fun Ar outer s H args us vs Q E hr he hb hv h => ?_⟩
  · obtain ⟨wd, pvs, m, q, hr', rv, h | h, kk⟩ := h
    · exact h1.len vs H Q E ⟨wd, pvs, m, q, hr', rv, h, kk⟩
    · exact h2.len vs H Q E ⟨wd, pvs, m, q, hr', rv, h, kk⟩
  · obtain ⟨wd, pvs, m, q, hr', rv, h | h, kk⟩ := h
    · exact h1.run Ar outer s H args us vs Q E hr he hb hv ⟨wd, pvs, m, q, hr', rv, h, kk⟩
    · exact h2.run Ar outer s H args us vs Q E hr he hb hv ⟨wd, pvs, m, q, hr', rv, h, kk⟩
end
end PP
namespace MM
def stepR (mu : Int → Int) (s : List Int) (p : Int) : List Int := match s with
  | [] => [p]
  | t :: r => if t = mu p then r else p :: t :: r
def stkR (mu : Int → Int) (R : List Int) (i : Nat) : List Int := (R.take i).foldl (stepR mu) []
theorem stkR_zero {mu : Int → Int} {R : List Int} : stkR mu R 0 = [] := by unfold stkR; rw [List.take_zero]; rfl
theorem stkR_succ {mu : Int → Int} {R : List Int} {i : Nat} {p : Int} (h : R[i]? = some p) : stkR mu R (i + 1) = stepR mu (stkR mu R i) p := by
  unfold stkR
  rw [List.take_add_one, h, List.foldl_append]
  rfl
structure Inv (mu : Int → Int) (R : List Int) : Prop where
  nd : R.Nodup
  mem : ∀ p ∈ R, mu p ∈ R
  ne : ∀ p ∈ R, mu p ≠ p
  inv : ∀ p ∈ R, mu (mu p) = p
theorem idx_at {R : List Int} (nd : R.Nodup) {i : Nat} {p : Int} (h : R[i]? = some p) : R.idxOf p = i := by
  obtain ⟨hi, e⟩ := List.getElem?_eq_some_iff.mp h
  have h2 := List.idxOf_lt_length_of_mem (e ▸ List.getElem_mem hi)
  have h3 := List.getElem_idxOf h2
  exact (List.getElem_inj nd).mp (h3.trans e.symm)
theorem at_idx {R : List Int} {p : Int} (h : p ∈ R) : R[R.idxOf p]? = some p := by
  have h2 := List.idxOf_lt_length_of_mem h
  rw [List.getElem?_eq_getElem h2, List.getElem_idxOf h2]
theorem idx_inj {R : List Int} {p q : Int} (hp : p ∈ R) (hq : q ∈ R) (e : R.idxOf p = R.idxOf q) : p = q := by
  have h1 := at_idx hp
  rw [e, at_idx hq] at h1
  exact (Option.some.inj h1).symm
section
variable {mu : Int → Int} {R : List Int} (I : Inv mu R)
include I
theorem stk_sorted : ∀ {i : Nat}, i ≤ R.length → (∀ x ∈ stkR mu R i, x ∈ R ∧ R.idxOf x < i) ∧ (stkR mu R i).Pairwise fun a b => R.idxOf b < R.idxOf a
  | 0, _ => by rw [stkR_zero]; exact ⟨fun x h => (List.not_mem_nil h).elim, .nil⟩
  | i + 1, h => by
    obtain ⟨h1, h2⟩ := stk_sorted (i := i) (by omega)
    have hq : R[i]? = some R[i] := List.getElem?_eq_getElem (by omega)
    have hqp := idx_at I.nd hq
    rw [stkR_succ hq]
    cases e : stkR mu R i with
    | nil =>
      refine ⟨fun x hx => ?_, List.pairwise_singleton _ _⟩
      have := List.mem_singleton.mp hx
      subst this
      exact ⟨List.getElem_mem _, by omega⟩
    | cons t r =>
      rw [e] at h1 h2
      unfold stepR
      dsimp only
      split
      · exact ⟨fun x hx => let ⟨a, b⟩ := h1 x (List.mem_cons_of_mem _ hx); ⟨a, by omega⟩, (List.pairwise_cons.mp h2).2⟩
      · refine ⟨fun x hx => ?_, List.pairwise_cons.mpr ⟨fun y hy => ?_, h2⟩⟩
        · rcases List.mem_cons.mp hx with rfl | hx
          · exact ⟨List.getElem_mem _, by omega⟩
          · obtain ⟨a, b⟩ := h1 x hx
            exact ⟨a, by omega⟩
        · have := (h1 y hy).2
          omega
theorem stk_open : ∀ {i : Nat}, i ≤ R.length → ∀ p ∈ R, R.idxOf p < i → i ≤ R.idxOf (mu p) → p ∈ stkR mu R i
  | 0, _, _, _, h, _ => by omega
  | i + 1, h, p, hp, h1, h2 => by
    have hq : R[i]? = some R[i] := List.getElem?_eq_getElem (by omega)
    have hqm : R[i] ∈ R := List.getElem_mem _
    have hqp := idx_at I.nd hq
    have hs := stk_sorted I (i := i) (by omega)
    rw [stkR_succ hq]
    by_cases e : R.idxOf p = i
    · have ep : p = R[i] := idx_inj hp hqm (by omega)
      cases es : stkR mu R i with
      | nil => rw [ep]; exact List.mem_singleton.mpr rfl
      | cons t r =>
        unfold stepR
        dsimp only
        split
        · rename_i ht
          have h3 := (hs.1 t (by rw [es]; exact List.mem_cons_self)).2
          rw [ht, ← ep] at h3
          omega
        · rw [ep]; exact List.mem_cons_self
    · have ih := stk_open (i := i) (by omega) p hp (by omega) (by omega)
      cases es : stkR mu R i with
      | nil => rw [es] at ih; exact (List.not_mem_nil ih).elim
      | cons t r =>
        rw [es] at ih
        unfold stepR
        dsimp only
        split
        · rename_i ht
          rcases List.mem_cons.mp ih with rfl | ih
          · rw [ht, I.inv _ hqm] at h2
            omega
          · exact ih
        · exact List.mem_cons_of_mem _ ih
theorem stk_stays {i : Nat} {p : Int} (hp : p ∈ R) (hm : R.idxOf (mu p) < i) (h : p ∈ stkR mu R i) : ∀ {j : Nat}, i ≤ j → j ≤ R.length → p ∈ stkR mu R j
  | 0, h1, _ => by
    have : i = 0 := by omega
    subst this; exact h
  | j + 1, h1, h2 => by
    by_cases e : i = j + 1
    · subst e; exact h
    · have ih := stk_stays hp hm h (j := j) (by omega) (by omega)
      have hq : R[j]? = some R[j] := List.getElem?_eq_getElem (by omega)
      have hqm : R[j] ∈ R := List.getElem_mem _
      have hqp := idx_at I.nd hq
      rw [stkR_succ hq]
      cases es : stkR mu R j with
      | nil => rw [es] at ih; exact (List.not_mem_nil ih).elim
      | cons t r =>
        rw [es] at ih
        unfold stepR
        dsimp only
        split
        · rename_i ht
          rcases List.mem_cons.mp ih with rfl | ih
          · rw [ht, I.inv _ hqm] at hm
            omega
          · exact ih
        · exact List.mem_cons_of_mem _ ih
def Crs (mu : Int → Int) (R : List Int) (a b : Int) : Prop := R.idxOf a < R.idxOf b ∧ R.idxOf b < R.idxOf (mu a) ∧ R.idxOf (mu a) < R.idxOf (mu b)
theorem stk_only (nc : ∀ a ∈ R, ∀ b ∈ R, ¬ Crs mu R a b) : ∀ {i : Nat}, i ≤ R.length → ∀ x ∈ stkR mu R i, i ≤ R.idxOf (mu x)
  | 0, _, _, _ => Nat.zero_le _
  | i + 1, h, x, hx => by
    have hq : R[i]? = some R[i] := List.getElem?_eq_getElem (by omega)
    have hqm : R[i] ∈ R := List.getElem_mem _
    have hqp := idx_at I.nd hq
    have hs := stk_sorted I (i := i) (by omega)
    have ih := stk_only nc (i := i) (by omega)
    have hmq := I.mem _ hqm
    -- what is there and is not the mate stays open
    have keep : ∀ y ∈ stkR mu R i, y ≠ mu R[i] → i + 1 ≤ R.idxOf (mu y) := fun y hy hne => by
      have h1 := ih y hy
      have h2 : R.idxOf (mu y) ≠ i := fun z => hne (by
        have : mu y = R[i] := idx_inj (I.mem _ (hs.1 y hy).1) hqm (by omega)
        rw [← this, I.inv _ (hs.1 y hy).1])
      omega
    rw [stkR_succ hq] at hx
    have push : (∀ t r, stkR mu R i = t :: r → t ≠ mu R[i]) → i + 1 ≤ R.idxOf (mu R[i]) ∧ ∀ y ∈ stkR mu R i, y ≠ mu R[i] := fun htop => by
      have h1 : i + 1 ≤ R.idxOf (mu R[i]) := by
        have hne : R.idxOf (mu R[i]) ≠ i := fun z => I.ne _ hqm (idx_inj hmq hqm (by omega))
        have hlt : ¬ R.idxOf (mu R[i]) < i := fun z => by
          have ho := stk_open I (i := i) (by omega) (mu R[i]) hmq z (by rw [I.inv _ hqm]; omega)
          cases es : stkR mu R i with
          | nil => rw [es] at ho; exact (List.not_mem_nil ho).elim
          | cons t r =>
            have ht := htop t r es
            rw [es] at ho hs
            rcases List.mem_cons.mp ho with e | ho
            · exact ht e.symm
            · have h2 := (List.pairwise_cons.mp hs.2).1 _ ho
              have ht1 := hs.1 t List.mem_cons_self
              have h3 := keep t (by rw [es]; exact List.mem_cons_self) ht
              refine nc (mu R[i]) hmq t ht1.1 ⟨h2, ?_, ?_⟩
              · rw [I.inv _ hqm, hqp]; exact ht1.2
              · rw [I.inv _ hqm, hqp]; omega
        omega
      exact ⟨h1, fun y hy e => by
        have := (hs.1 y hy).2
        rw [e] at this
        omega⟩
    cases es : stkR mu R i with
    | nil =>
      rw [es] at hx
      have := List.mem_singleton.mp hx
      subst this
      exact (push fun t r e => by rw [es] at e; cases e).1
    | cons t r =>
      rw [es] at hx
      unfold stepR at hx
      dsimp only at hx
      split at hx
      · rename_i ht
        refine keep x (by rw [es]; exact List.mem_cons_of_mem _ hx) fun e => ?_
        rw [es] at hs
        have := (List.pairwise_cons.mp hs.2).1 _ hx
        rw [e, ht] at this
        omega
      · rename_i ht
        obtain ⟨p1, p2⟩ := push fun t' r' e => by rw [es] at e; cases e; exact ht
        rcases List.mem_cons.mp hx with rfl | hx
        · exact p1
        · exact keep x (by rw [es]; exact hx) (p2 x (by rw [es]; exact hx))
theorem pile_empty : stkR mu R R.length = [] ↔ ∀ a ∈ R, ∀ b ∈ R, ¬ Crs mu R a b := by
  constructor
  · intro e a ha b hb ⟨h1, h2, h3⟩
    have hma := I.mem _ ha
    have hc := List.idxOf_lt_length_of_mem hma
    have h4 := stk_open I (i := R.idxOf (mu a)) (by omega) a ha (by omega) (Nat.le_refl _)
    have h5 := stk_open I (i := R.idxOf (mu a)) (by omega) b hb h2 (by omega)
    have hs := stk_sorted I (i := R.idxOf (mu a)) (by omega)
    have h6 : a ∈ stkR mu R (R.idxOf (mu a) + 1) := by
      rw [stkR_succ (at_idx hma)]
      cases es : stkR mu R (R.idxOf (mu a)) with
      | nil => rw [es] at h4; exact (List.not_mem_nil h4).elim
      | cons t r =>
        rw [es] at h4 h5 hs
        unfold stepR
        dsimp only
        split
        · rename_i ht
          rw [I.inv _ ha] at ht
          subst ht
          rcases List.mem_cons.mp h5 with rfl | h5
          · omega
          · have := (List.pairwise_cons.mp hs.2).1 _ h5
            omega
        · exact List.mem_cons_of_mem _ h4
    have h7 := stk_stays I ha (by omega) h6 (j := R.length) (by omega) (Nat.le_refl _)
    rw [e] at h7
    exact List.not_mem_nil h7
  · intro nc
    cases es : stkR mu R R.length with
    | nil => rfl
    | cons t r =>
      have ht : t ∈ stkR mu R R.length := by rw [es]; exact List.mem_cons_self
      have h1 := stk_only I nc (Nat.le_refl _) t ht
      have h2 := List.idxOf_lt_length_of_mem (I.mem _ ((stk_sorted I (Nat.le_refl _)).1 t ht).1)
      omega
theorem crs_of {p q : Int} (hp : p ∈ R) (hq : q ∈ R) {l r s g : Nat} (e1 : l = min (R.idxOf p) (R.idxOf (mu p))) (e2 : r = max (R.idxOf p) (R.idxOf (mu p))) (e3 : s = min (R.idxOf q) (R.idxOf (mu q))) (e4 : g = max (R.idxOf q) (R.idxOf (mu q)))
    (h : (l < s ∧ s < r) ∧ ¬ (l < g ∧ g < r) ∨ ¬ (l < s ∧ s < r) ∧ (l < g ∧ g < r)) : ∃ a ∈ R, ∃ b ∈ R, Crs mu R a b := by
  -- the lesser end
  have low : ∀ {p : Int}, p ∈ R → ∃ a ∈ R, R.idxOf a = min (R.idxOf p) (R.idxOf (mu p)) ∧ R.idxOf (mu a) = max (R.idxOf p) (R.idxOf (mu p)) := fun {p} hp => by
    by_cases c : R.idxOf p ≤ R.idxOf (mu p)
    · exact ⟨p, hp, by omega, by omega⟩
    · exact ⟨mu p, I.mem _ hp, by omega, by rw [I.inv _ hp]; omega⟩
  obtain ⟨a, ha, a1, a2⟩ := low hp
  obtain ⟨b, hb, b1, b2⟩ := low hq
  have na : R.idxOf a ≠ R.idxOf (mu a) := fun z => I.ne _ ha (idx_inj (I.mem _ ha) ha z.symm)
  have nb : R.idxOf b ≠ R.idxOf (mu b) := fun z => I.ne _ hb (idx_inj (I.mem _ hb) hb z.symm)
  have inj1 : R.idxOf (mu a) = R.idxOf (mu b) → R.idxOf a = R.idxOf b := fun z => by
    have := idx_inj (I.mem _ ha) (I.mem _ hb) z
    rw [← I.inv _ ha, this, I.inv _ hb]
  have inj2 : R.idxOf a = R.idxOf b → R.idxOf (mu a) = R.idxOf (mu b) := fun z => by rw [idx_inj ha hb z]
  rcases h with h | h
  · exact ⟨a, ha, b, hb, by omega, by omega, by omega⟩
  · exact ⟨b, hb, a, ha, by omega, by omega, by omega⟩
end
end MM
namespace MM
open PySem PP L2
def ringI (n m : Int) : List Int := ((List.range (n - 0).toNat).map fun i => 0 + ((i : Nat) : Int)) ++ (List.range (n + m - 1 - (n - 1)).toNat).map fun i => n + m - 1 + ((i : Nat) : Int) * -1
theorem ringI_data {n m : Int} : rgD 0 n ++ rgD3 (n + m - 1) (-1) (n + m - 1 - (n - 1)).toNat = (ringI n m).map .int := by
  unfold ringI rgD rgD3
  rw [List.map_append, List.map_map, List.map_map]
  rfl
theorem ringI_mem {n m x : Int} (hn : 0 ≤ n) (hm : 0 ≤ m) : x ∈ ringI n m ↔ 0 ≤ x ∧ x < n + m := by
  unfold ringI
  rw [List.mem_append, List.mem_map, List.mem_map]
  constructor
  · rintro (⟨i, hi, rfl⟩ | ⟨i, hi, rfl⟩)
    · have := List.mem_range.mp hi
      omega
    · have := List.mem_range.mp hi
      omega
  · rintro ⟨h1, h2⟩
    by_cases c : x < n
    · exact .inl ⟨x.toNat, List.mem_range.mpr (by omega), by omega⟩
    · exact .inr ⟨(n + m - 1 - x).toNat, List.mem_range.mpr (by omega), by omega⟩
theorem ringI_len {n m : Int} (hn : 0 ≤ n) (hm : 0 ≤ m) : ((ringI n m).length : Int) = n + m := by
  unfold ringI
  rw [List.length_append, List.length_map, List.length_map, List.length_range, List.length_range]
  omega
theorem nodup_map_inj {α β : Type} {f : α → β} {xs : List α} (h : xs.Nodup) (inj : ∀ x ∈ xs, ∀ y ∈ xs, f x = f y → x = y) : (xs.map f).Nodup := by
  induction xs with
  | nil => exact .nil
  | cons x xs ih =>
    rw [List.nodup_cons] at h
    rw [List.map_cons, List.nodup_cons]
    refine ⟨fun z => ?_, ih h.2 fun a ha b hb => inj a (List.mem_cons_of_mem _ ha) b (List.mem_cons_of_mem _ hb)⟩
    obtain ⟨y, hy, e⟩ := List.mem_map.mp z
    exact h.1 (inj y (List.mem_cons_of_mem _ hy) x List.mem_cons_self e ▸ hy)
theorem ringI_nodup {n m : Int} (hn : 0 ≤ n) (hm : 0 ≤ m) : (ringI n m).Nodup := by
  unfold ringI
  refine List.nodup_append.mpr ⟨nodup_map_inj List.nodup_range fun x _ y _ h => by omega, nodup_map_inj List.nodup_range fun x _ y _ h => by omega, fun a ha b hb e => ?_⟩
  obtain ⟨i, hi, rfl⟩ := List.mem_map.mp ha
  obtain ⟨j, hj, e2⟩ := List.mem_map.mp hb
  have := List.mem_range.mp hi
  have := List.mem_range.mp hj
  omega
def mu (ns : List Int) (p : Int) : Int := ns.getD p.toNat 0
def matesAt (ns : List Int) (i : Nat) : Bool := (decide (0 ≤ ns.getD i 0) && decide (ns.getD i 0 < (ns.length : Int))) && (!decide (ns.getD i 0 = (i : Int)) && decide (ns.getD (ns.getD i 0).toNat 0 = (i : Int)))
def matesOk (ns : List Int) : Bool := ((List.range ns.length).map (matesAt ns)).all id
theorem matesOk_iff {ns : List Int} : matesOk ns = true ↔ ∀ i < ns.length, matesAt ns i = true := by
  unfold matesOk
  rw [List.all_eq_true]
  constructor
  · intro h i hi
    exact h _ (List.mem_map.mpr ⟨i, List.mem_range.mpr hi, rfl⟩)
  · intro h x hx
    obtain ⟨i, hi, rfl⟩ := List.mem_map.mp hx
    exact h i (List.mem_range.mp hi)
theorem matesAt_iff {ns : List Int} {i : Nat} : matesAt ns i = true ↔ 0 ≤ ns.getD i 0 ∧ ns.getD i 0 < (ns.length : Int) ∧ ns.getD i 0 ≠ (i : Int) ∧ ns.getD (ns.getD i 0).toNat 0 = (i : Int) := by
  unfold matesAt
  simp only [Bool.and_eq_true, decide_eq_true_eq, Bool.not_eq_true', decide_eq_false_iff_not, and_assoc, ne_eq]
theorem inv_of {ns : List Int} {n m : Int} (hn : 0 ≤ n) (hm : 0 ≤ m) (hl : (ns.length : Int) = n + m) (h : ∀ i < ns.length, matesAt ns i = true) : Inv (mu ns) (ringI n m) := by
  have key : ∀ p ∈ ringI n m, mu ns p ∈ ringI n m ∧ mu ns p ≠ p ∧ mu ns (mu ns p) = p := fun p hp => by
    have hp := (ringI_mem hn hm).mp hp
    obtain ⟨a, b, c, d⟩ := matesAt_iff.mp (h p.toNat (by omega))
    refine ⟨(ringI_mem hn hm).mpr ⟨a, by show ns.getD p.toNat 0 < _; omega⟩, fun e => c (by rw [show ns.getD p.toNat 0 = p from e]; omega), ?_⟩
    show ns.getD (ns.getD p.toNat 0).toNat 0 = p
    rw [d]; omega
  exact ⟨ringI_nodup hn hm, fun p hp => (key p hp).1, fun p hp => (key p hp).2.1, fun p hp => (key p hp).2.2⟩
def isMatB (u d : Int) (ns : List Int) : Bool := !(decide (u < 0) || (decide (d < 0) || (decide (u + d = 0) || !decide ((ns.length : Int) = u + d)))) && (matesOk ns && (stkR (mu ns) (ringI u d) (ringI u d).length).isEmpty)
def loI (ns : List Int) (R : List Int) (i : Nat) : Nat := min (R.idxOf (R.getD i 0)) (R.idxOf (mu ns (R.getD i 0)))
def hiI (ns : List Int) (R : List Int) (i : Nat) : Nat := max (R.idxOf (R.getD i 0)) (R.idxOf (mu ns (R.getD i 0)))
def BadI (ns : List Int) (R : List Int) (i j : Nat) : Prop := (loI ns R i < loI ns R j ∧ loI ns R j < hiI ns R i) ∧ ¬ (loI ns R i < hiI ns R j ∧ hiI ns R j < hiI ns R i) ∨ ¬ (loI ns R i < loI ns R j ∧ loI ns R j < hiI ns R i) ∧ (loI ns R i < hiI ns R j ∧ hiI ns R j < hiI ns R i)
theorem getD_idx {R : List Int} {p : Int} (h : p ∈ R) : R.getD (R.idxOf p) 0 = p := by
  rw [List.getD_eq_getElem?_getD, at_idx h, Option.getD_some]
theorem bad_iff {ns R : List Int} (I : Inv (mu ns) R) : (∀ i < R.length, ∀ j < R.length, ¬ BadI ns R i j) ↔ ∀ a ∈ R, ∀ b ∈ R, ¬ Crs (mu ns) R a b := by
  constructor
  · intro h a ha b hb ⟨h1, h2, h3⟩
    refine h _ (List.idxOf_lt_length_of_mem ha) _ (List.idxOf_lt_length_of_mem hb) (.inl ?_)
    unfold loI hiI
    rw [getD_idx ha, getD_idx hb]
    omega
  · intro h i hi j hj hb
    obtain ⟨a, ha, b, hb, c⟩ := crs_of I (mem_getD hi (d := 0)) (mem_getD hj (d := 0)) rfl rfl rfl rfl hb
    exact h a ha b hb c
theorem isMat_good {u d : Int} {ns : List Int} (hu : 0 ≤ u) (hd : 0 ≤ d) (h0 : 0 < u + d) (hl : (ns.length : Int) = u + d) (hok : ∀ i < ns.length, matesAt ns i = true) (h : ∀ i < (ringI u d).length, ∀ j < (ringI u d).length, ¬ BadI ns (ringI u d) i j) : isMatB u d ns = true := by
  have I := inv_of hu hd hl hok
  have e := (pile_empty I).mpr ((bad_iff I).mp h)
  unfold isMatB
  rw [e, matesOk_iff.mpr hok, show decide (u < 0) = false by simpa using hu, show decide (d < 0) = false by simpa using hd, show decide (u + d = 0) = false by simp; omega, show decide ((ns.length : Int) = u + d) = true by simpa using hl]
  rfl
theorem atI_top {S : List Int} (h : S ≠ []) : atI (S.reverse.map PyData.int) (-1) = some (.int (S.headD 0)) := by
  cases S with
  | nil => exact absurd rfl h
  | cons t r => rw [List.reverse_cons, List.map_append]; exact L2.atI_last _ _
theorem top_get {t : Int} {r : List Int} : ((t :: r).reverse.map PyData.int)[((t :: r).reverse.map PyData.int).length - 1]? = some (.int t) := by
  rw [List.reverse_cons, List.map_append]
  simp
theorem top_drop {t : Int} {r : List Int} : ((t :: r).reverse.map PyData.int).dropLast = r.reverse.map PyData.int := by
  rw [List.reverse_cons, List.map_append, List.map_cons, List.map_nil, List.dropLast_concat]
theorem rev_empty {S : List Int} : (S.reverse.map PyData.int).isEmpty = S.isEmpty := by
  cases S with
  | nil => rfl
  | cons t r => simp
def spRound : FSp := fun pvs m q => ∃ u d : Int, pvs = [.d (.int u), .d (.int d)] ∧ m = [] ∧ 0 ≤ u ∧ u ≤ 100000 ∧ 0 ≤ d ∧ d ≤ 100000 ∧ q (.ref 0) [some (.lst ((ringI u d).map .int))]
def spAre : FSp := fun pvs m q => ∃ ns : List Int, pvs = [.d (.tuple (ns.map .int))] ∧ m = [] ∧ ns.length ≤ 200000 ∧ q (.d (.bool (matesOk ns))) []
def spNone : FSp := fun pvs m q => ∃ (u d : Int) (ns : List Int), pvs = [.d (.int u), .d (.int d), .d (.tuple (ns.map .int))] ∧ m = [] ∧ 0 ≤ u ∧ u ≤ 100000 ∧ 0 ≤ d ∧ d ≤ 100000 ∧ (ns.length : Int) = u + d ∧ q (.d (.bool (stkR (mu ns) (ringI u d) (ringI u d).length).isEmpty)) []
def spIsMat : FSp := fun pvs m q => ∃ (u d : Int) (ns : List Int), pvs = [.d (.tuple [.int u, .int d, .tuple (ns.map .int)])] ∧ m = [] ∧ u ≤ 100000 ∧ d ≤ 100000 ∧ ns.length ≤ 200000 ∧ q (.d (.bool (isMatB u d ns))) []
end MM
namespace MM
open PySem PP L2
def ends (prs : List (Int × Int)) : List Int := prs.flatMap fun p => [p.1, p.2]
theorem mem_ends {prs : List (Int × Int)} {x : Int} : x ∈ ends prs ↔ ∃ p ∈ prs, x = p.1 ∨ x = p.2 := by
  unfold ends
  rw [List.mem_flatMap]
  simp
def Btw (x l h : Nat) : Prop := l < x ∧ x < h
def SepP (a b c d : Nat) : Prop := ¬ (Btw c (min a b) (max a b) ↔ Btw d (min a b) (max a b))
def Sep (R : List Int) (p q : Int × Int) : Prop := SepP (R.idxOf p.1) (R.idxOf p.2) (R.idxOf q.1) (R.idxOf q.2)
structure Match (R : List Int) (prs : List (Int × Int)) : Prop where
  nd : (ends prs).Nodup
  mem : ∀ x, x ∈ ends prs ↔ x ∈ R
  nc : ∀ p ∈ prs, ∀ q ∈ prs, ¬ Sep R p q
theorem sep_self {a b : Nat} : ¬ SepP a b a b := by
  unfold SepP Btw
  omega
theorem sep_rot {a b c d a' b' c' d' X Y : Nat} (ha : a' = if a < X then a + Y else a - X) (hb : b' = if b < X then b + Y else b - X) (hc : c' = if c < X then c + Y else c - X) (hd : d' = if d < X then d + Y else d - X)
    (la : a < X + Y) (lb : b < X + Y) (lc : c < X + Y) (ld : d < X + Y) (n1 : c ≠ a) (n2 : c ≠ b) (n3 : d ≠ a) (n4 : d ≠ b) (h : ¬ SepP a b c d) : ¬ SepP a' b' c' d' := by
  unfold SepP Btw at *
  split at ha <;> split at hb <;> split at hc <;> split at hd <;> omega
theorem ends_apart {prs : List (Int × Int)} (nd : (ends prs).Nodup) {p q : Int × Int} (hp : p ∈ prs) (hq : q ∈ prs) : p = q ∨ (q.1 ≠ p.1 ∧ q.1 ≠ p.2 ∧ q.2 ≠ p.1 ∧ q.2 ≠ p.2) := by
  induction prs with
  | nil => cases hp
  | cons r prs ih =>
    have nd' : (r.1 :: r.2 :: ends prs).Nodup := nd
    rw [List.nodup_cons, List.nodup_cons] at nd'
    obtain ⟨n1, n2, n3⟩ := nd'
    have far : ∀ q ∈ prs, (q.1 ≠ r.1 ∧ q.1 ≠ r.2 ∧ q.2 ≠ r.1 ∧ q.2 ≠ r.2) := fun q hq => by
      have e1 : q.1 ∈ ends prs := mem_ends.mpr ⟨q, hq, .inl rfl⟩
      have e2 : q.2 ∈ ends prs := mem_ends.mpr ⟨q, hq, .inr rfl⟩
      refine ⟨fun z => n1 ?_, fun z => n2 ?_, fun z => n1 ?_, fun z => n2 ?_⟩
      · rw [← z]; exact List.mem_cons_of_mem _ e1
      · rw [← z]; exact e1
      · rw [← z]; exact List.mem_cons_of_mem _ e2
      · rw [← z]; exact e2
    rcases List.mem_cons.mp hp with hp2 | hp2
    · rcases List.mem_cons.mp hq with hq2 | hq2
      · exact .inl (hp2.trans hq2.symm)
      · rw [hp2]; exact .inr (far q hq2)
    · rcases List.mem_cons.mp hq with hq2 | hq2
      · obtain ⟨a, b, c, d⟩ := far p hp2
        rw [hq2]
        exact .inr ⟨fun z => a z.symm, fun z => c z.symm, fun z => b z.symm, fun z => d z.symm⟩
      · exact ih n3 hp2 hq2
theorem idx_app {l r : List Int} {x : Int} : (l ++ r).idxOf x = if x ∈ l then l.idxOf x else l.length + r.idxOf x := by
  rw [List.idxOf_append]
  split <;> omega
theorem Match.lt {R : List Int} {prs : List (Int × Int)} (M : Match R prs) {p : Int × Int} (hp : p ∈ prs) : R.idxOf p.1 < R.length ∧ R.idxOf p.2 < R.length :=
  ⟨List.idxOf_lt_length_of_mem ((M.mem _).mp (mem_ends.mpr ⟨p, hp, .inl rfl⟩)), List.idxOf_lt_length_of_mem ((M.mem _).mp (mem_ends.mpr ⟨p, hp, .inr rfl⟩))⟩
theorem Match.in {R : List Int} {prs : List (Int × Int)} (M : Match R prs) {p : Int × Int} (hp : p ∈ prs) : p.1 ∈ R ∧ p.2 ∈ R :=
  ⟨(M.mem _).mp (mem_ends.mpr ⟨p, hp, .inl rfl⟩), (M.mem _).mp (mem_ends.mpr ⟨p, hp, .inr rfl⟩)⟩
theorem Match.put {l r : List Int} {a b : Int} {prs : List (Int × Int)} (nd : (l ++ a :: b :: r).Nodup) (M : Match (l ++ r) prs) : Match (l ++ a :: b :: r) ((a, b) :: prs) := by
  have nd0 := nd
  rw [List.nodup_append] at nd
  obtain ⟨nl, nr, far⟩ := nd
  rw [List.nodup_cons, List.nodup_cons] at nr
  obtain ⟨na, nb, nr⟩ := nr
  have al : a ∉ l := fun z => far a z a List.mem_cons_self rfl
  have bl : b ∉ l := fun z => far b z b (List.mem_cons_of_mem _ List.mem_cons_self) rfl
  have ar : a ∉ r := fun z => na (List.mem_cons_of_mem _ z)
  have ab : a ≠ b := fun z => na (z ▸ List.mem_cons_self)
  have pa : (l ++ a :: b :: r).idxOf a = l.length := by rw [idx_app, if_neg al, List.idxOf_cons_self]; rfl
  have pb : (l ++ a :: b :: r).idxOf b = l.length + 1 := by
    rw [idx_app, if_neg bl, List.idxOf_cons, show (a == b) = false by simpa using ab]
    simp only [cond_false]
    rw [List.idxOf_cons_self]
  have px : ∀ x ∈ l ++ r, (l ++ a :: b :: r).idxOf x = if (l ++ r).idxOf x < l.length then (l ++ r).idxOf x else (l ++ r).idxOf x + 2 := fun x hx => by
    rw [idx_app, idx_app]
    by_cases c : x ∈ l
    · have := List.idxOf_lt_length_of_mem c
      rw [if_pos c, if_pos c, if_pos this]
    · have hxr : x ∈ r := (List.mem_append.mp hx).elim (fun z => absurd z c) id
      have xa : a ≠ x := fun z => ar (z ▸ hxr)
      have xb : b ≠ x := fun z => nb (z ▸ hxr)
      rw [if_neg c, if_neg c, if_neg (by omega), List.idxOf_cons, show (a == x) = false by simpa using xa, List.idxOf_cons, show (b == x) = false by simpa using xb]
      simp only [cond_false]
      omega
  refine ⟨?_, fun x => ?_, fun p hp q hq => ?_⟩
  · show (a :: b :: ends prs).Nodup
    rw [List.nodup_cons, List.nodup_cons]
    refine ⟨fun z => ?_, fun z => ?_, M.nd⟩
    · rcases List.mem_cons.mp z with z | z
      · exact ab z
      · exact ((List.mem_append.mp ((M.mem _).mp z)).elim al ar)
    · exact ((List.mem_append.mp ((M.mem _).mp z)).elim bl nb)
  · show x ∈ a :: b :: ends prs ↔ _
    rw [List.mem_cons, List.mem_cons, M.mem, List.mem_append, List.mem_append, List.mem_cons, List.mem_cons]
    constructor
    · rintro (h | h | h | h)
      · exact .inr (.inl h)
      · exact .inr (.inr (.inl h))
      · exact .inl h
      · exact .inr (.inr (.inr h))
    · rintro (h | h | h | h)
      · exact .inr (.inr (.inl h))
      · exact .inl h
      · exact .inr (.inl h)
      · exact .inr (.inr (.inr h))
  · unfold Sep
    rcases List.mem_cons.mp hp with rfl | hp
    · rw [pa, pb]
      unfold SepP Btw
      omega
    · obtain ⟨h1, h2⟩ := M.in hp
      have e1 := px _ h1
      have e2 := px _ h2
      rcases List.mem_cons.mp hq with rfl | hq
      · rw [pa, pb]
        unfold SepP Btw
        split at e1 <;> split at e2 <;> omega
      · obtain ⟨h3, h4⟩ := M.in hq
        have e3 := px _ h3
        have e4 := px _ h4
        have hs := M.nc p hp q hq
        unfold Sep SepP Btw at hs
        unfold SepP Btw
        split at e1 <;> split at e2 <;> split at e3 <;> split at e4 <;> omega
theorem Match.rot {x y : List Int} {prs : List (Int × Int)} (nd : (x ++ y).Nodup) (M : Match (x ++ y) prs) : Match (y ++ x) prs := by
  rw [List.nodup_append] at nd
  obtain ⟨nx, ny, far⟩ := nd
  have px : ∀ e ∈ x ++ y, (y ++ x).idxOf e = if (x ++ y).idxOf e < x.length then (x ++ y).idxOf e + y.length else (x ++ y).idxOf e - x.length := fun e he => by
    rw [idx_app, idx_app]
    by_cases c : e ∈ x
    · have cy : e ∉ y := fun z => far e c e z rfl
      have := List.idxOf_lt_length_of_mem c
      rw [if_neg cy, if_pos c, if_pos this]
      omega
    · have cy : e ∈ y := (List.mem_append.mp he).elim (fun z => absurd z c) id
      rw [if_pos cy, if_neg c, if_neg (by omega)]
      omega
  refine ⟨M.nd, fun e => ?_, fun p hp q hq => ?_⟩
  · rw [M.mem, List.mem_append, List.mem_append]
    exact or_comm
  · obtain ⟨h1, h2⟩ := M.in hp
    obtain ⟨h3, h4⟩ := M.in hq
    obtain ⟨l1, l2⟩ := M.lt hp
    obtain ⟨l3, l4⟩ := M.lt hq
    rw [List.length_append] at l1 l2 l3 l4
    rcases ends_apart M.nd hp hq with rfl | ⟨n1, n2, n3, n4⟩
    · exact sep_self
    · have inj : ∀ {u v : Int}, u ∈ x ++ y → v ∈ x ++ y → u ≠ v → (x ++ y).idxOf u ≠ (x ++ y).idxOf v := fun hu hv hne z => hne (idx_inj hu hv z)
      exact sep_rot (px _ h1) (px _ h2) (px _ h3) (px _ h4) l1 l2 l3 l4 (inj h3 h1 n1) (inj h3 h2 n2) (inj h4 h1 n3) (inj h4 h2 n4) (M.nc p hp q hq)
theorem idx_map {f : Int → Int} : ∀ {R : List Int} {x : Int}, (∀ a ∈ R, ∀ b ∈ R, f a = f b → a = b) → x ∈ R → (R.map f).idxOf (f x) = R.idxOf x
  | [], _, _, h => by cases h
  | r :: R, x, inj, h => by
    rw [List.map_cons, List.idxOf_cons, List.idxOf_cons]
    by_cases e : r = x
    · subst e; simp
    · have hx : x ∈ R := (List.mem_cons.mp h).elim (fun z => absurd z.symm e) id
      have e2 : f r ≠ f x := fun z => e (inj r List.mem_cons_self x h z)
      rw [show (r == x) = false by simpa using e, show (f r == f x) = false by simpa using e2]
      simp only [cond_false]
      rw [idx_map (fun a ha b hb => inj a (List.mem_cons_of_mem _ ha) b (List.mem_cons_of_mem _ hb)) hx]
theorem Match.map {R : List Int} {prs : List (Int × Int)} {f : Int → Int} (inj : ∀ a ∈ R, ∀ b ∈ R, f a = f b → a = b) (M : Match R prs) : Match (R.map f) (prs.map fun p => (f p.1, f p.2)) := by
  have ee : ends (prs.map fun p => (f p.1, f p.2)) = (ends prs).map f := by
    unfold ends
    rw [List.flatMap_map, List.map_flatMap]
    rfl
  refine ⟨?_, fun x => ?_, fun p hp q hq => ?_⟩
  · rw [ee]
    exact nodup_map_inj M.nd fun a ha b hb => inj a ((M.mem _).mp ha) b ((M.mem _).mp hb)
  · rw [ee, List.mem_map, List.mem_map]
    constructor
    · rintro ⟨a, ha, rfl⟩; exact ⟨a, (M.mem _).mp ha, rfl⟩
    · rintro ⟨a, ha, rfl⟩; exact ⟨a, (M.mem _).mpr ha, rfl⟩
  · obtain ⟨p0, hp0, rfl⟩ := List.mem_map.mp hp
    obtain ⟨q0, hq0, rfl⟩ := List.mem_map.mp hq
    obtain ⟨h1, h2⟩ := M.in hp0
    obtain ⟨h3, h4⟩ := M.in hq0
    unfold Sep
    rw [idx_map inj h1, idx_map inj h2, idx_map inj h3, idx_map inj h4]
    exact M.nc p0 hp0 q0 hq0
def Row (prs : List (Int × Int)) (ns : List Int) : Prop := ∀ p ∈ prs, mu ns p.1 = p.2 ∧ mu ns p.2 = p.1
theorem match_isMat {u d : Int} {ns : List Int} {prs : List (Int × Int)} (hu : 0 ≤ u) (hd : 0 ≤ d) (h0 : 0 < u + d) (hl : (ns.length : Int) = u + d) (M : Match (ringI u d) prs) (W : Row prs ns) : isMatB u d ns = true := by
  have key : ∀ x ∈ ringI u d, ∃ p ∈ prs, (x = p.1 ∧ mu ns x = p.2) ∨ (x = p.2 ∧ mu ns x = p.1) := fun x hx => by
    obtain ⟨p, hp, e⟩ := mem_ends.mp ((M.mem x).mpr hx)
    obtain ⟨w1, w2⟩ := W p hp
    rcases e with rfl | rfl
    · exact ⟨p, hp, .inl ⟨rfl, w1⟩⟩
    · exact ⟨p, hp, .inr ⟨rfl, w2⟩⟩
  have ne : ∀ p ∈ prs, p.1 ≠ p.2 := fun p hp z => by
    have : ∀ (prs : List (Int × Int)), (ends prs).Nodup → p ∈ prs → p.1 ≠ p.2 := by
      intro prs
      induction prs with
      | nil => intro _ h; cases h
      | cons r prs ih =>
        intro nd h
        have nd' : (r.1 :: r.2 :: ends prs).Nodup := nd
        rw [List.nodup_cons, List.nodup_cons] at nd'
        rcases List.mem_cons.mp h with rfl | h
        · exact fun z => nd'.1 (z ▸ List.mem_cons_self)
        · exact ih nd'.2.2 h
    exact this prs M.nd hp z
  have hok : ∀ i < ns.length, matesAt ns i = true := fun i hi => by
    have hm : ((i : Nat) : Int) ∈ ringI u d := (ringI_mem hu hd).mpr ⟨by omega, by omega⟩
    obtain ⟨p, hp, e⟩ := key _ hm
    obtain ⟨w1, w2⟩ := W p hp
    obtain ⟨r1, r2⟩ := M.in hp
    have r1 := (ringI_mem hu hd).mp r1
    have r2 := (ringI_mem hu hd).mp r2
    have hn := ne p hp
    have ei : mu ns (i : Int) = ns.getD i 0 := by unfold mu; rw [Int.toNat_natCast]
    refine matesAt_iff.mpr ?_
    rcases e with ⟨e1, e2⟩ | ⟨e1, e2⟩
    · rw [← ei, e2]
      exact ⟨r2.1, by omega, fun z => hn (by rw [← e1]; exact z.symm), by show mu ns p.2 = _; rw [w2, ← e1]⟩
    · rw [← ei, e2]
      exact ⟨r1.1, by omega, fun z => hn (by rw [← e1]; exact z), by show mu ns p.1 = _; rw [w1, ← e1]⟩
  have I := inv_of hu hd hl hok
  refine isMat_good hu hd h0 hl hok ((bad_iff I).mpr fun a ha b hb ⟨c1, c2, c3⟩ => ?_)
  obtain ⟨p, hp, ep⟩ := key a ha
  obtain ⟨q, hq, eq⟩ := key b hb
  have hs := M.nc p hp q hq
  unfold Sep SepP Btw at hs
  rcases ep with ⟨e1, e2⟩ | ⟨e1, e2⟩ <;> rcases eq with ⟨e3, e4⟩ | ⟨e3, e4⟩ <;> rw [e2] at c2 c3 <;> rw [e4] at c3 <;> rw [e1] at c1 <;> rw [e3] at c1 c2 <;> omega
end MM
namespace MM
open PySem PP L2
def pegD (u p : Int) : PyData := if p < u then .tuple [.int 0, .int p] else .tuple [.int 1, .int (p - u)]
def pairD (u : Int) (p : Int × Int) : PyData := .tuple [pegD u p.1, pegD u p.2]
theorem ringD_peg {u d : Int} (hu : 0 ≤ u) (hd : 0 ≤ d) : ringD u d = (ringI u d).map (pegD u) := by
  unfold ringD ringI
  rw [List.map_append, List.map_map, List.map_map, show (u - 0).toNat = u.toNat by omega, show (u + d - 1 - (u - 1)).toNat = d.toNat by omega]
  congr 1
  · refine List.map_congr_left fun i hi => ?_
    have := List.mem_range.mp hi
    show PyData.tuple [.int 0, .int (0 + (i : Int))] = pegD u (0 + (i : Int))
    unfold pegD
    rw [if_pos (by omega)]
  · refine List.map_congr_left fun i hi => ?_
    have := List.mem_range.mp hi
    show PyData.tuple [.int 1, .int (d - 1 + (i : Int) * -1)] = pegD u (u + d - 1 + (i : Int) * -1)
    unfold pegD
    rw [if_neg (by omega)]
    congr 4
    omega
theorem pegD_at {u d p : Int} (h0 : 0 ≤ p) (h1 : p < u + d) : ∃ s i : Int, pegD u p = .tuple [.int s, .int i] ∧ s * u + i = p ∧ 0 ≤ s ∧ s ≤ 1 ∧ 0 ≤ i := by
  unfold pegD
  by_cases c : p < u
  · rw [if_pos c]; exact ⟨0, p, rfl, by omega, by omega, by omega, by omega⟩
  · rw [if_neg c]; exact ⟨1, p - u, rfl, by omega, by omega, by omega, by omega⟩
theorem split2 {α : Type} {rs : List α} {j : Nat} (h : j + 1 < rs.length) : rs = rs.take j ++ rs[j] :: rs[j + 1] :: rs.drop (j + 2) := by
  have h1 : rs.drop j = rs[j] :: rs.drop (j + 1) := List.drop_eq_getElem_cons (by omega)
  have h2 : rs.drop (j + 1) = rs[j + 1] :: rs.drop (j + 2) := List.drop_eq_getElem_cons (by omega)
  conv => lhs; rw [← List.take_append_drop j rs, h1, h2]
theorem erase2 {α : Type} {rs : List α} {j : Nat} (h : j + 1 < rs.length) : (rs.eraseIdx j).eraseIdx j = rs.take j ++ rs.drop (j + 2) := by
  rw [List.eraseIdx_eq_take_drop_succ, List.eraseIdx_eq_take_drop_succ]
  have e1 : (rs.take j).length = j := by rw [List.length_take]; omega
  rw [List.take_append, List.drop_append, e1, List.take_take, Nat.min_self, Nat.sub_self, List.take_zero, List.append_nil, List.drop_eq_nil_of_le (by omega), List.nil_append, List.drop_drop, show j + 1 + (j + 1 - j) = j + 2 by omega]
theorem erase_next {α : Type} {rs : List α} {j : Nat} (h : j + 1 < rs.length) : (rs.eraseIdx j)[j]? = some rs[j + 1] := by
  rw [List.getElem?_eraseIdx, if_neg (by omega), List.getElem?_eq_getElem h]
theorem Match.pop {rs : List Int} {j : Nat} {more : List (Int × Int)} (h : j + 1 < rs.length) (nd : rs.Nodup) (M : Match ((rs.eraseIdx j).eraseIdx j) more) : Match rs ((rs[j], rs[j + 1]) :: more) := by
  rw [erase2 h] at M
  have e := split2 h
  have nd2 : (rs.take j ++ rs[j] :: rs[j + 1] :: rs.drop (j + 2)).Nodup := by rw [← e]; exact nd
  have := Match.put nd2 M
  rwa [← e] at this
theorem erase_nodup {rs : List Int} {j : Nat} (nd : rs.Nodup) : (rs.eraseIdx j).Nodup := nd.sublist (List.eraseIdx_sublist rs j)
def nest (R : List Int) : List (Int × Int) := (List.range (R.length / 2)).map fun i => (R.getD i 0, R.getD (R.length - 1 - i) 0)
theorem nest_match {R : List Int} (nd : R.Nodup) (he : R.length % 2 = 0) : Match R (nest R) := by
  have pos : ∀ i < R.length, R.idxOf (R.getD i 0) = i := fun i hi => idx_at nd (by rw [List.getD_eq_getElem?_getD, List.getElem?_eq_getElem hi, Option.getD_some])
  have inj : ∀ i < R.length, ∀ j < R.length, R.getD i 0 = R.getD j 0 → i = j := fun i hi j hj e => by rw [← pos i hi, e, pos j hj]
  have hmem : ∀ p ∈ nest R, ∃ i < R.length / 2, p = (R.getD i 0, R.getD (R.length - 1 - i) 0) := fun p hp => by
    obtain ⟨i, hi, e⟩ := List.mem_map.mp hp
    exact ⟨i, List.mem_range.mp hi, e.symm⟩
  refine ⟨?_, fun x => ?_, fun p hp q hq => ?_⟩
  · have gen : ∀ k ≤ R.length / 2, (ends ((List.range k).map fun i => (R.getD i 0, R.getD (R.length - 1 - i) 0))).Nodup := by
      intro k
      induction k with
      | zero => intro _; exact .nil
      | succ k ih =>
        intro hk
        have e : ends ((List.range (k + 1)).map fun i => (R.getD i 0, R.getD (R.length - 1 - i) 0)) = ends ((List.range k).map fun i => (R.getD i 0, R.getD (R.length - 1 - i) 0)) ++ [R.getD k 0, R.getD (R.length - 1 - k) 0] := by
          unfold ends
          rw [List.range_succ, List.map_append, List.flatMap_append]
          rfl
        rw [e, List.nodup_append]
        refine ⟨ih (by omega), ?_, fun a ha b hb z => ?_⟩
        · rw [List.nodup_cons]
          refine ⟨fun z => ?_, List.nodup_cons.mpr ⟨List.not_mem_nil, .nil⟩⟩
          have := inj _ (by omega) _ (by omega) (List.mem_singleton.mp z)
          omega
        · obtain ⟨p, hp, e2⟩ := mem_ends.mp ha
          obtain ⟨i, hi, e3⟩ := List.mem_map.mp hp
          have hi := List.mem_range.mp hi
          subst e3
          rw [z] at e2
          simp only [List.mem_cons, List.not_mem_nil, or_false] at hb
          rcases hb with rfl | rfl <;> rcases e2 with e2 | e2 <;> (have := inj _ (by omega) _ (by omega) e2; omega)
    exact gen _ (Nat.le_refl _)
  · rw [mem_ends]
    constructor
    · rintro ⟨p, hp, e⟩
      obtain ⟨i, hi, rfl⟩ := hmem p hp
      rcases e with rfl | rfl
      · exact mem_getD (by omega)
      · exact mem_getD (by omega)
    · intro hx
      have hl := List.idxOf_lt_length_of_mem hx
      by_cases c : R.idxOf x < R.length / 2
      · exact ⟨_, List.mem_map.mpr ⟨R.idxOf x, List.mem_range.mpr c, rfl⟩, .inl (getD_idx hx).symm⟩
      · refine ⟨_, List.mem_map.mpr ⟨R.length - 1 - R.idxOf x, List.mem_range.mpr (by omega), rfl⟩, .inr ?_⟩
        show x = R.getD (R.length - 1 - (R.length - 1 - R.idxOf x)) 0
        rw [show R.length - 1 - (R.length - 1 - R.idxOf x) = R.idxOf x by omega]
        exact (getD_idx hx).symm
  · obtain ⟨i, hi, rfl⟩ := hmem p hp
    obtain ⟨j, hj, rfl⟩ := hmem q hq
    unfold Sep
    rw [pos i (by omega), pos _ (by omega), pos j (by omega), pos _ (by omega)]
    unfold SepP Btw
    omega
theorem match_nil : Match [] [] := ⟨.nil, fun x => Iff.rfl, fun p hp => by cases hp⟩
theorem row_unique {u d : Int} {ns ks : List Int} {prs : List (Int × Int)} (hu : 0 ≤ u) (hd : 0 ≤ d) (hl : (ns.length : Int) = u + d) (hk : (ks.length : Int) = u + d) (M : Match (ringI u d) prs) (W : Row prs ns) (V : Row prs ks) : ns = ks := by
  refine List.ext_getElem (by omega) fun i h1 h2 => ?_
  have hm : ((i : Nat) : Int) ∈ ringI u d := (ringI_mem hu hd).mpr ⟨by omega, by omega⟩
  obtain ⟨p, hp, e⟩ := mem_ends.mp ((M.mem _).mpr hm)
  have e1 : mu ns (i : Int) = ns[i] := by unfold mu; rw [Int.toNat_natCast, List.getD_eq_getElem?_getD, List.getElem?_eq_getElem h1, Option.getD_some]
  have e2 : mu ks (i : Int) = ks[i] := by unfold mu; rw [Int.toNat_natCast, List.getD_eq_getElem?_getD, List.getElem?_eq_getElem h2, Option.getD_some]
  rw [← e1, ← e2]
  rcases e with e | e <;> rw [e]
  · rw [(W p hp).1, (V p hp).1]
  · rw [(W p hp).2, (V p hp).2]
theorem row_put {ns : List Int} {prs : List (Int × Int)} {a b : Int} (ha0 : 0 ≤ a) (ha : a < ns.length) (hb0 : 0 ≤ b) (hb : b < ns.length) (hab : a ≠ b) (hn : ∀ p ∈ prs, 0 ≤ p.1 ∧ 0 ≤ p.2 ∧ p.1 ≠ a ∧ p.1 ≠ b ∧ p.2 ≠ a ∧ p.2 ≠ b) (W : Row prs ns) : Row (prs ++ [(a, b)]) ((ns.set a.toNat b).set b.toNat a) := by
  have at_ : ∀ {x : Int}, 0 ≤ x → x ≠ a → x ≠ b → mu ((ns.set a.toNat b).set b.toNat a) x = mu ns x := fun {x} h0 h1 h2 => by
    unfold mu
    rw [List.getD_eq_getElem?_getD, List.getD_eq_getElem?_getD, List.getElem?_set_ne (by omega), List.getElem?_set_ne (by omega)]
  intro p hp
  rcases List.mem_append.mp hp with hp | hp
  · obtain ⟨n0, n1, n2, n3, n4, n5⟩ := hn p hp
    rw [at_ n0 n2 n3, at_ n1 n4 n5]
    exact W p hp
  · have := List.mem_singleton.mp hp
    subst this
    constructor
    · show mu _ a = b
      unfold mu
      rw [List.getD_eq_getElem?_getD, List.getElem?_set_ne (by omega), List.getElem?_set_self (by omega), Option.getD_some]
    · show mu _ b = a
      unfold mu
      rw [List.getD_eq_getElem?_getD, List.getElem?_set_self (by rw [List.length_set]; omega), Option.getD_some]
def spPairs : FSp := fun pvs m q => ∃ (xs : List PyData) (n : Nat) (u d : Int), pvs = [.ref 0, .d (.int u), .d (.int d)] ∧ m = [some (.lst xs)] ∧ WL n xs ∧ n < 900000000 ∧ 0 ≤ u ∧ u ≤ 1000 ∧ 0 ≤ d ∧ d ≤ 1000 ∧ 0 < u + d ∧ (u + d) % 2 = 0 ∧
  ∀ xs' prs, Match (ringI u d) prs → WL (n + 1002) xs' → q (.ref 1) [some (.lst xs'), some (.lst (prs.map (pairD u)))]
def spMade : FSp := fun pvs m q => ∃ (u d : Int) (prs : List (Int × Int)), pvs = [.d (.int u), .d (.int d), .d (.list (prs.map (pairD u)))] ∧ m = [] ∧ 0 ≤ u ∧ u ≤ 100000 ∧ 0 ≤ d ∧ d ≤ 100000 ∧ (ends prs).Nodup ∧ (∀ x ∈ ends prs, 0 ≤ x ∧ x < u + d) ∧
  ∀ ns : List Int, (ns.length : Int) = u + d → Row prs ns → q (.d (.tuple [.int u, .int d, .tuple (ns.map .int)])) []
end MM
namespace MM
open PySem PP L2
theorem take_apart {prs : List (Int × Int)} {i : Nat} {p : Int × Int} (nd : (ends prs).Nodup) (hp : prs[i]? = some p) : p.1 ≠ p.2 ∧ ∀ q ∈ prs.take i, q.1 ≠ p.1 ∧ q.1 ≠ p.2 ∧ q.2 ≠ p.1 ∧ q.2 ≠ p.2 := by
  obtain ⟨hi, e⟩ := List.getElem?_eq_some_iff.mp hp
  have e1 : prs = prs.take i ++ p :: prs.drop (i + 1) := by
    conv => lhs; rw [← List.take_append_drop i prs, List.drop_eq_getElem_cons hi, e]
  have e2 : ends prs = ends (prs.take i) ++ (p.1 :: p.2 :: ends (prs.drop (i + 1))) := by
    conv => lhs; rw [e1]
    unfold ends
    rw [List.flatMap_append]
    rfl
  rw [e2, List.nodup_append] at nd
  obtain ⟨_, n2, n3⟩ := nd
  rw [List.nodup_cons] at n2
  refine ⟨fun z => n2.1 (z ▸ List.mem_cons_self), fun q hq => ?_⟩
  have q1 : q.1 ∈ ends (prs.take i) := mem_ends.mpr ⟨q, hq, .inl rfl⟩
  have q2 : q.2 ∈ ends (prs.take i) := mem_ends.mpr ⟨q, hq, .inr rfl⟩
  exact ⟨n3 _ q1 _ List.mem_cons_self, n3 _ q1 _ (List.mem_cons_of_mem _ List.mem_cons_self), n3 _ q2 _ List.mem_cons_self, n3 _ q2 _ (List.mem_cons_of_mem _ List.mem_cons_self)⟩
theorem map_get {α : Type} {f : α → PyData} {prs : List α} {i : Nat} {x : PyData} (h : (prs.map f)[i]? = some x) : ∃ p, prs[i]? = some p ∧ x = f p := by
  rw [List.getElem?_map] at h
  cases e : prs[i]? with
  | none => rw [e] at h; cases h
  | some v => rw [e] at h; exact ⟨v, rfl, (Option.some.inj h).symm⟩
theorem row_nil {ns : List Int} : Row [] ns := fun p hp => by cases hp
theorem row_next {ns : List Int} {prs : List (Int × Int)} {u d : Int} {i : Nat} {p : Int × Int} (hl : (ns.length : Int) = u + d) (nd : (ends prs).Nodup) (hin : ∀ x ∈ ends prs, 0 ≤ x ∧ x < u + d) (hp : prs[i]? = some p) (W : Row (prs.take i) ns) : Row (prs.take (i + 1)) ((ns.set p.1.toNat p.2).set p.2.toNat p.1) := by
  obtain ⟨ne, far⟩ := take_apart nd hp
  have hpm := List.mem_of_getElem? hp
  have a1 := hin _ (mem_ends.mpr ⟨p, hpm, .inl rfl⟩)
  have a2 := hin _ (mem_ends.mpr ⟨p, hpm, .inr rfl⟩)
  rw [List.take_add_one, hp]
  refine row_put a1.1 (by omega) a2.1 (by omega) ne (fun q hq => ?_) W
  have hqm := List.mem_of_mem_take hq
  have b1 := hin _ (mem_ends.mpr ⟨q, hqm, .inl rfl⟩)
  have b2 := hin _ (mem_ends.mpr ⟨q, hqm, .inr rfl⟩)
  obtain ⟨c1, c2, c3, c4⟩ := far q hq
  exact ⟨b1.1, b2.1, c1, c2, c3, c4⟩
theorem sIx_at {n : Nat} {d : Nat} {r : Int} (h0 : 0 ≤ r) (h1 : r ≤ n) : HT.sIx n d (some r) = r.toNat := by
  have := HT.sIx_nat n d r.toNat
  rw [Int.toNat_of_nonneg h0] at this
  rw [this]
  omega
theorem cut_rot {xs : List PyData} {r : Int} (h0 : 0 ≤ r) (h1 : r ≤ xs.length) : PP.cutD xs (some r) none ++ PP.cutD xs none (some r) = xs.drop r.toNat ++ xs.take r.toNat := by
  unfold PP.cutD
  rw [sIx_at h0 h1, sIx_at h0 h1, HT.sIx_none, HT.sIx_none, List.drop_zero, Nat.sub_zero]
  congr 1
  rw [List.take_of_length_le (by rw [List.length_drop]; exact Nat.le_refl _)]
theorem getD_map {f : Int → PyData} {R : List Int} {j : Nat} (h : j < R.length) : (R.map f).getD j .none = f (R.getD j 0) := by
  rw [List.getD_eq_getElem?_getD, List.getD_eq_getElem?_getD, List.getElem?_map, List.getElem?_eq_getElem h]
  rfl
end MM
namespace MM
open PySem PP L2
abbrev matD (u d : Int) (ns : List Int) : PyData := .tuple [.int u, .int d, .tuple (ns.map .int)]
def nPair (p : Int × Int) : PyData := .tuple [.int p.1, .int p.2]
def strI (ns : List Int) (i : Nat) : List (Int × Int) := ((List.range i).filter fun j : Nat => decide ((j : Int) < ns.getD j 0)).map fun j : Nat => ((j : Int), ns.getD j 0)
theorem strI_yes {ns : List Int} {i : Nat} (h : (i : Int) < ns.getD i 0) : strI ns (i + 1) = strI ns i ++ [((i : Int), ns.getD i 0)] := by
  unfold strI
  rw [List.range_succ, List.filter_append, List.map_append, List.filter_cons, if_pos (decide_eq_true h), List.filter_nil]
  rfl
theorem strI_no {ns : List Int} {i : Nat} (h : ¬ (i : Int) < ns.getD i 0) : strI ns (i + 1) = strI ns i := by
  unfold strI
  rw [List.range_succ, List.filter_append, List.map_append, List.filter_cons, if_neg (fun z => h (of_decide_eq_true z)), List.filter_nil, List.map_nil, List.append_nil]
theorem strI_mem {ns : List Int} {i : Nat} {p : Int × Int} : p ∈ strI ns i ↔ ∃ j < i, (j : Int) < ns.getD j 0 ∧ p = ((j : Int), ns.getD j 0) := by
  unfold strI
  rw [List.mem_map]
  constructor
  · rintro ⟨j, hj, rfl⟩
    rw [List.mem_filter, List.mem_range] at hj
    exact ⟨j, hj.1, of_decide_eq_true hj.2, rfl⟩
  · rintro ⟨j, hj, hl, rfl⟩
    exact ⟨j, by rw [List.mem_filter, List.mem_range]; exact ⟨hj, decide_eq_true hl⟩, rfl⟩
def spCheck : FSp := fun pvs m q => ∃ (u d : Int) (ns : List Int), pvs = [.d (matD u d ns)] ∧ m = [] ∧ u ≤ 100000 ∧ d ≤ 100000 ∧ ns.length ≤ 200000 ∧ isMatB u d ns = true ∧ q (.d .none) []
def spStr : FSp := fun pvs m q => ∃ (u d : Int) (ns : List Int), pvs = [.d (matD u d ns)] ∧ m = [] ∧ ns.length ≤ 200000 ∧ q (.ref 0) [some (.lst ((strI ns ns.length).map nPair))]
def spOf : FSp := fun pvs m q => ∃ (u d : Int) (prs : List (Int × Int)), pvs = [.d (.int u), .d (.int d), .d (.list (prs.map nPair))] ∧ m = [] ∧ 0 ≤ u ∧ u ≤ 100000 ∧ 0 ≤ d ∧ d ≤ 100000 ∧ (ends prs).Nodup ∧ (∀ x ∈ ends prs, 0 ≤ x ∧ x < u + d) ∧
  ∀ ns : List Int, (ns.length : Int) = u + d → Row prs ns → q (.d (matD u d ns)) []
end MM
namespace MM
open PySem PP L2
theorem isMat_parts {u d : Int} {ns : List Int} (h : isMatB u d ns = true) : 0 ≤ u ∧ 0 ≤ d ∧ 0 < u + d ∧ (ns.length : Int) = u + d ∧ (∀ i < ns.length, matesAt ns i = true) ∧ stkR (mu ns) (ringI u d) (ringI u d).length = [] := by
  unfold isMatB at h
  rw [Bool.and_eq_true, Bool.and_eq_true, Bool.not_eq_true', Bool.or_eq_false_iff, Bool.or_eq_false_iff, Bool.or_eq_false_iff] at h
  obtain ⟨⟨h1, h2, h3, h4⟩, h5, h6⟩ := h
  have h1 := of_decide_eq_false h1
  have h2 := of_decide_eq_false h2
  have h3 := of_decide_eq_false h3
  rw [Bool.not_eq_false'] at h4
  have h4 := of_decide_eq_true h4
  exact ⟨by omega, by omega, by omega, h4, matesOk_iff.mp h5, List.isEmpty_iff.mp h6⟩
theorem mu_nat {ns : List Int} {i : Nat} : mu ns (i : Int) = ns.getD i 0 := by unfold mu; rw [Int.toNat_natCast]
theorem str_row {u d : Int} {ns : List Int} (h : isMatB u d ns = true) : Row (strI ns ns.length) ns := fun p hp => by
  obtain ⟨_, _, _, hl, hok, _⟩ := isMat_parts h
  obtain ⟨j, hj, _, rfl⟩ := strI_mem.mp hp
  obtain ⟨a, b, c, e⟩ := matesAt_iff.mp (hok j hj)
  exact ⟨mu_nat, e⟩
theorem str_ends {u d : Int} {ns : List Int} (h : isMatB u d ns = true) : (ends (strI ns ns.length)).Nodup ∧ ∀ x, x ∈ ends (strI ns ns.length) ↔ 0 ≤ x ∧ x < u + d := by
  obtain ⟨hu, hd, h0, hl, hok, _⟩ := isMat_parts h
  constructor
  · have gen : ∀ k ≤ ns.length, (ends (strI ns k)).Nodup := by
      intro k
      induction k with
      | zero => intro _; exact .nil
      | succ k ih =>
        intro hk
        by_cases c : (k : Int) < ns.getD k 0
        · rw [strI_yes c]
          have e : ends (strI ns k ++ [((k : Int), ns.getD k 0)]) = ends (strI ns k) ++ [(k : Int), ns.getD k 0] := by
            unfold ends
            rw [List.flatMap_append]
            rfl
          rw [e, List.nodup_append]
          refine ⟨ih (by omega), ?_, fun a ha b hb z => ?_⟩
          · rw [List.nodup_cons]
            exact ⟨fun z => by have := List.mem_singleton.mp z; omega, List.nodup_cons.mpr ⟨List.not_mem_nil, .nil⟩⟩
          · obtain ⟨p, hp, e2⟩ := mem_ends.mp ha
            obtain ⟨j, hj, hj2, rfl⟩ := strI_mem.mp hp
            obtain ⟨a1, a2, a3, a4⟩ := matesAt_iff.mp (hok j (by omega))
            obtain ⟨b1, b2, b3, b4⟩ := matesAt_iff.mp (hok k (by omega))
            simp only [List.mem_cons, List.not_mem_nil, or_false] at hb
            subst z
            rcases hb with rfl | rfl <;> rcases e2 with e2 | e2
            · have e2 : (k : Int) = (j : Int) := e2
              omega
            · have e2 : (k : Int) = ns.getD j 0 := e2
              rw [← e2, Int.toNat_natCast] at a4
              omega
            · have e2 : ns.getD k 0 = (j : Int) := e2
              omega
            · have e2 : ns.getD k 0 = ns.getD j 0 := e2
              rw [e2] at b4
              omega
        · rw [strI_no c]
          exact ih (by omega)
    exact gen _ (Nat.le_refl _)
  · intro x
    rw [mem_ends]
    constructor
    · rintro ⟨p, hp, e⟩
      obtain ⟨j, hj, hj2, rfl⟩ := strI_mem.mp hp
      obtain ⟨a1, a2, a3, a4⟩ := matesAt_iff.mp (hok j hj)
      rcases e with rfl | rfl
      · show (0 : Int) ≤ (j : Int) ∧ (j : Int) < u + d
        omega
      · show 0 ≤ ns.getD j 0 ∧ ns.getD j 0 < u + d
        omega
    · rintro ⟨x0, x1⟩
      obtain ⟨j, rfl⟩ : ∃ j : Nat, x = (j : Int) := ⟨x.toNat, by omega⟩
      have hj : j < ns.length := by omega
      obtain ⟨a1, a2, a3, a4⟩ := matesAt_iff.mp (hok j hj)
      by_cases c : (j : Int) < ns.getD j 0
      · exact ⟨_, strI_mem.mpr ⟨j, hj, c, rfl⟩, .inl rfl⟩
      · refine ⟨(((ns.getD j 0).toNat : Int), ns.getD (ns.getD j 0).toNat 0), strI_mem.mpr ⟨(ns.getD j 0).toNat, by omega, by rw [a4]; omega, rfl⟩, .inr ?_⟩
        exact a4.symm
theorem rows_same {N : Int} {ns ks : List Int} (hl : (ns.length : Int) = N) (hk : (ks.length : Int) = N) (h : ∀ x, 0 ≤ x → x < N → mu ns x = mu ks x) : ns = ks := by
  refine List.ext_getElem (by omega) fun i h1 h2 => ?_
  have := h (i : Int) (by omega) (by omega)
  rw [mu_nat, mu_nat, List.getD_eq_getElem?_getD, List.getD_eq_getElem?_getD, List.getElem?_eq_getElem h1, List.getElem?_eq_getElem h2] at this
  exact this
theorem two_at {f g : Nat → Int} {a b : Nat} {x : Nat} (h : x < a + b) : (((List.range a).map f) ++ (List.range b).map g).getD x 0 = if x < a then f x else g (x - a) := by
  rw [List.getD_eq_getElem?_getD]
  by_cases c : x < a
  · rw [if_pos c, List.getElem?_append_left (by rw [List.length_map, List.length_range]; exact c), List.getElem?_map, List.getElem?_range c]
    rfl
  · rw [if_neg c, List.getElem?_append_right (by rw [List.length_map, List.length_range]; omega), List.length_map, List.length_range, List.getElem?_map, List.getElem?_range (by omega)]
    rfl
end MM
namespace MM
open PySem PP L2
end MM
namespace MM
open PySem PP L2
theorem range_getD {α β : Type} (g : α → β) (d0 : α) (xs : List α) : (List.range xs.length).map (fun i => g (xs.getD i d0)) = xs.map g := by
  refine List.ext_getElem (by simp) fun i h1 h2 => ?_
  rw [List.length_map, List.length_range] at h1
  rw [List.getElem_map, List.getElem_map, List.getElem_range, List.getD_eq_getElem?_getD, List.getElem?_eq_getElem h1, Option.getD_some]
theorem dq_mat {u d : Int} {ns : List Int} : Dq 3 (matD u d ns) := .tup fun x hx => by
  simp only [List.mem_cons, List.not_mem_nil, or_false] at hx
  rcases hx with rfl | rfl | rfl
  · exact dq_int
  · exact dq_int
  · exact .tup fun y hy => by
      obtain ⟨i, _, rfl⟩ := List.mem_map.mp hy
      exact dq_int
theorem ends_len {prs : List (Int × Int)} : (ends prs).length = 2 * prs.length := by
  unfold ends
  induction prs with
  | nil => rfl
  | cons p prs ih => rw [List.flatMap_cons, List.length_append, ih, List.length_cons]; show 2 + 2 * prs.length = 2 * (prs.length + 1); omega
theorem nodup_len : ∀ {l R : List Int}, l.Nodup → (∀ x ∈ l, x ∈ R) → l.length ≤ R.length
  | [], _, _, _ => Nat.zero_le _
  | x :: l, R, nd, h => by
    rw [List.nodup_cons] at nd
    have hx := h x List.mem_cons_self
    have ih := nodup_len (R := R.erase x) nd.2 fun y hy => (List.mem_erase_of_ne (show y ≠ x from fun z => nd.1 (by rw [← z]; exact hy))).mpr (h y (List.mem_cons_of_mem _ hy))
    rw [List.length_erase_of_mem hx] at ih
    have := List.length_pos_of_mem hx
    rw [List.length_cons]
    omega
theorem match_len {u d : Int} {prs : List (Int × Int)} (hu : 0 ≤ u) (hd : 0 ≤ d) (M : Match (ringI u d) prs) : (prs.length : Int) ≤ u + d := by
  have h := nodup_len M.nd fun x hx => (M.mem x).mp hx
  rw [ends_len] at h
  have := ringI_len hu hd
  omega
end MM
namespace JJ
open PySem PP L2 MM
structure Sg (N : Int) (s : Int → Int) : Prop where
  into : ∀ x, 0 ≤ x → x < N → 0 ≤ s x ∧ s x < N
  ne : ∀ x, 0 ≤ x → x < N → s x ≠ x
  inv : ∀ x, 0 ≤ x → x < N → s (s x) = x
structure Rm (n m N : Int) (l : List Int) (x : Int) : Prop where
  lo : 0 ≤ x
  hi : x < N
  far : ∀ i ∈ l, x ≠ n + i ∧ x ≠ n + m + i
def El (n m : Int) (s : Int → Int) : List Int → Int → Int
  | [] => s
  | i :: l => fun x => if El n m s l (n + i) = n + m + i then El n m s l x else if x = El n m s l (n + i) then El n m s l (n + m + i) else if x = El n m s l (n + m + i) then El n m s l (n + i) else El n m s l x
def tau (n m x : Int) : Int := if n ≤ x ∧ x < n + m then x + m else if n + m ≤ x ∧ x < n + 2 * m then x - m else x
def wlk (n m : Int) (s : Int → Int) (x : Int) : Nat → Int
  | 0 => s x
  | j + 1 => s (tau n m (wlk n m s x j))
def Cn (n m N : Int) (s : Int → Int) (x y : Int) : Prop := ∀ P : Int → Prop, (∀ z, 0 ≤ z → z < N → P z → P (s z) ∧ P (tau n m z)) → P x → P y
section
variable {n m N : Int} {s : Int → Int}
theorem Cn.refl {x : Int} : Cn n m N s x x := fun _ _ h => h
theorem Cn.trans {x y z : Int} (h : Cn n m N s x y) (g : Cn n m N s y z) : Cn n m N s x z := fun P c p => g P c (h P c p)
theorem Cn.s1 {x : Int} (h0 : 0 ≤ x) (h1 : x < N) : Cn n m N s x (s x) := fun P c p => (c x h0 h1 p).1
theorem Cn.t1 {x : Int} (h0 : 0 ≤ x) (h1 : x < N) : Cn n m N s x (tau n m x) := fun P c p => (c x h0 h1 p).2
theorem tau_in {x : Int} (hn : 0 ≤ n) (hm : 0 ≤ m) (hN : n + 2 * m ≤ N) (h0 : 0 ≤ x) (h1 : x < N) : 0 ≤ tau n m x ∧ tau n m x < N := by
  unfold tau
  (repeat' split) <;> omega
theorem tau_tau {x : Int} (hm : 0 ≤ m) : tau n m (tau n m x) = x := by
  unfold tau
  (repeat' split) <;> omega
variable (hn : 0 ≤ n) (hm : 0 ≤ m) (hN : n + 2 * m ≤ N) (S : Sg N s)
include hn hm hN S
theorem Cn.in {x y : Int} (h : Cn n m N s x y) (h0 : 0 ≤ x) (h1 : x < N) : 0 ≤ y ∧ y < N := h (fun z => 0 ≤ z ∧ z < N) (fun z a b _ => ⟨S.into z a b, tau_in hn hm hN a b⟩) ⟨h0, h1⟩
theorem Cn.symm {x y : Int} (h : Cn n m N s x y) (h0 : 0 ≤ x) (h1 : x < N) : Cn n m N s y x := by
  refine (h (fun z => (0 ≤ z ∧ z < N) ∧ Cn n m N s z x) (fun z a b ⟨_, p⟩ => ⟨⟨S.into z a b, ?_⟩, tau_in hn hm hN a b, ?_⟩) ⟨⟨h0, h1⟩, Cn.refl⟩).2
  · have i := S.into z a b
    have q : Cn n m N s (s z) (s (s z)) := Cn.s1 i.1 i.2
    rw [S.inv z a b] at q
    exact q.trans p
  · have i := tau_in (m := m) hn hm hN a b
    have q : Cn n m N s (tau n m z) (tau n m (tau n m z)) := Cn.t1 i.1 i.2
    rw [tau_tau hm] at q
    exact q.trans p
def outer (n m x : Int) : Prop := x < n ∨ n + 2 * m ≤ x
def down : Nat → List Int
  | 0 => []
  | i + 1 => (i : Int) :: down i
end
end JJ
namespace JJ
open PySem PP L2 MM
def ps (n m y : Int) : Int := if y < n + m then y else y - m
end JJ
namespace MM
open PySem PP L2
structure Is (u d : Int) (prs : List (Int × Int)) (ns : List Int) : Prop where
  hu : 0 ≤ u
  hd : 0 ≤ d
  h0 : 0 < u + d
  len : (ns.length : Int) = u + d
  M : Match (ringI u d) prs
  W : Row prs ns
abbrev mapP (f : Int → Int) (prs : List (Int × Int)) : List (Int × Int) := prs.map fun p => (f p.1, f p.2)
section
variable {u d : Int} {prs : List (Int × Int)} {ns ks : List Int}
theorem Is.mat (h : Is u d prs ns) : isMatB u d ns = true := match_isMat h.hu h.hd h.h0 h.len h.M h.W
theorem Is.one (h : Is u d prs ns) (g : Is u d prs ks) : ns = ks := row_unique h.hu h.hd h.len g.len h.M h.W g.W
theorem Is.in (h : Is u d prs ns) : ∀ x ∈ ends prs, 0 ≤ x ∧ x < u + d := fun x hx => (ringI_mem h.hu h.hd).mp ((h.M.mem x).mp hx)
theorem Is.inP (h : Is u d prs ns) {p : Int × Int} (hp : p ∈ prs) : (0 ≤ p.1 ∧ p.1 < u + d) ∧ 0 ≤ p.2 ∧ p.2 < u + d := ⟨h.in _ (mem_ends.mpr ⟨p, hp, .inl rfl⟩), h.in _ (mem_ends.mpr ⟨p, hp, .inr rfl⟩)⟩
theorem Is.nd (h : Is u d prs ns) : (ends prs).Nodup := h.M.nd
theorem Is.of (h : Is u d prs ns) {qrs : List (Int × Int)} (e : prs = qrs) : Is u d qrs ns := e ▸ h
end
def sg (u d x : Int) : Int := if x < u then x else 2 * u + d - 1 - x
theorem ring_at {u d k : Int} (hu : 0 ≤ u) (hd : 0 ≤ d) (h0 : 0 ≤ k) (h1 : k < u + d) : (ringI u d)[k.toNat]? = some (sg u d k) := by
  have l := ringI_len hu hd
  have := two_at (f := fun i => 0 + ((i : Nat) : Int)) (g := fun i => u + d - 1 + ((i : Nat) : Int) * -1) (a := (u - 0).toNat) (b := (u + d - 1 - (u - 1)).toNat) (x := k.toNat) (by omega)
  have hk : k.toNat < (ringI u d).length := by omega
  rw [List.getElem?_eq_getElem hk]
  have e : (ringI u d).getD k.toNat 0 = (ringI u d)[k.toNat] := by rw [List.getD_eq_getElem?_getD, List.getElem?_eq_getElem hk, Option.getD_some]
  rw [← e]
  refine congrArg some (Eq.trans this ?_)
  unfold sg
  split <;> split <;> omega
theorem ring_idx {u d x : Int} (hu : 0 ≤ u) (hd : 0 ≤ d) (h0 : 0 ≤ x) (h1 : x < u + d) : ((ringI u d).idxOf x : Int) = sg u d x ∧ 0 ≤ sg u d x ∧ sg u d x < u + d := by
  have hs : 0 ≤ sg u d x ∧ sg u d x < u + d := by unfold sg; split <;> omega
  have e := ring_at hu hd hs.1 hs.2
  have e2 : sg u d (sg u d x) = x := by unfold sg; (repeat' split) <;> omega
  rw [e2] at e
  rw [idx_at (ringI_nodup hu hd) e]
  exact ⟨by omega, hs⟩
end MM
namespace MM
open PySem PP L2
theorem Is.same {u d : Int} {P Q : List (Int × Int)} {ns ks : List Int} (h : Is u d P ns) (g : Is u d Q ks) (e : ∀ p ∈ P, p ∈ Q ∨ (p.2, p.1) ∈ Q) : ns = ks := by
  refine rows_same h.len g.len fun x x0 x1 => ?_
  obtain ⟨p, hp, ex⟩ := mem_ends.mp ((h.M.mem x).mpr ((ringI_mem h.hu h.hd).mpr ⟨x0, x1⟩))
  obtain ⟨w1, w2⟩ := h.W p hp
  have v : mu ks p.1 = p.2 ∧ mu ks p.2 = p.1 := by
    rcases e p hp with hq | hq
    · exact g.W p hq
    · exact (g.W _ hq).symm
  rcases ex with rfl | rfl
  · rw [w1, v.1]
  · rw [w2, v.2]
theorem match_sg {u d : Int} {prs : List (Int × Int)} (hu : 0 ≤ u) (hd : 0 ≤ d) (nd : (ends prs).Nodup) (mem : ∀ x, x ∈ ends prs ↔ 0 ≤ x ∧ x < u + d)
    (nc : ∀ p ∈ prs, ∀ q ∈ prs, (min (sg u d p.1) (sg u d p.2) < sg u d q.1 ∧ sg u d q.1 < max (sg u d p.1) (sg u d p.2)) ↔ (min (sg u d p.1) (sg u d p.2) < sg u d q.2 ∧ sg u d q.2 < max (sg u d p.1) (sg u d p.2))) : Match (ringI u d) prs := by
  refine ⟨nd, fun x => by rw [mem, ringI_mem hu hd], fun p hp q hq => ?_⟩
  have i1 := (mem p.1).mp (mem_ends.mpr ⟨p, hp, .inl rfl⟩)
  have i2 := (mem p.2).mp (mem_ends.mpr ⟨p, hp, .inr rfl⟩)
  have i3 := (mem q.1).mp (mem_ends.mpr ⟨q, hq, .inl rfl⟩)
  have i4 := (mem q.2).mp (mem_ends.mpr ⟨q, hq, .inr rfl⟩)
  have e1 := (ring_idx hu hd i1.1 i1.2).1
  have e2 := (ring_idx hu hd i2.1 i2.2).1
  have e3 := (ring_idx hu hd i3.1 i3.2).1
  have e4 := (ring_idx hu hd i4.1 i4.2).1
  have h := nc p hp q hq
  rw [← e1, ← e2, ← e3, ← e4] at h
  unfold Sep SepP Btw
  generalize (ringI u d).idxOf p.1 = a at *
  generalize (ringI u d).idxOf p.2 = b at *
  generalize (ringI u d).idxOf q.1 = c at *
  generalize (ringI u d).idxOf q.2 = d' at *
  omega
theorem match_in {u d : Int} {prs : List (Int × Int)} (hu : 0 ≤ u) (hd : 0 ≤ d) (M : Match (ringI u d) prs) : ∀ x ∈ ends prs, 0 ≤ x ∧ x < u + d := fun x hx => (ringI_mem hu hd).mp ((M.mem x).mp hx)
theorem ends_app {P Q : List (Int × Int)} : ends (P ++ Q) = ends P ++ ends Q := by
  unfold ends
  rw [List.flatMap_append]
theorem sep_no {a b c d : Nat} (ab : a ≠ b) (ca : c ≠ a) (cb : c ≠ b) (da : d ≠ a) (db : d ≠ b) (h1 : ¬ (a < c ∧ c < b ∧ b < d)) (h2 : ¬ (a < d ∧ d < b ∧ b < c)) (h3 : ¬ (b < c ∧ c < a ∧ a < d)) (h4 : ¬ (b < d ∧ d < a ∧ a < c))
    (h5 : ¬ (c < a ∧ a < d ∧ d < b)) (h6 : ¬ (c < b ∧ b < d ∧ d < a)) (h7 : ¬ (d < a ∧ a < c ∧ c < b)) (h8 : ¬ (d < b ∧ b < c ∧ c < a)) : ¬ SepP a b c d := by
  unfold SepP Btw
  intro hs
  apply hs
  have mm : ∀ x : Nat, (min a b < x ∧ x < max a b) ↔ (a < x ∧ x < b) ∨ (b < x ∧ x < a) := fun x => by clear h1 h2 h3 h4 h5 h6 h7 h8 hs; omega
  rw [mm, mm]
  constructor
  · rintro (⟨x, y⟩ | ⟨x, y⟩)
    · rcases Nat.lt_or_gt_of_ne da with z | z
      · exact absurd ⟨z, x, y⟩ h7
      · rcases Nat.lt_or_gt_of_ne db with t | t
        · exact .inl ⟨z, t⟩
        · exact absurd ⟨x, y, t⟩ h1
    · rcases Nat.lt_or_gt_of_ne db with z | z
      · exact absurd ⟨z, x, y⟩ h8
      · rcases Nat.lt_or_gt_of_ne da with t | t
        · exact .inr ⟨z, t⟩
        · exact absurd ⟨x, y, t⟩ h3
  · rintro (⟨x, y⟩ | ⟨x, y⟩)
    · rcases Nat.lt_or_gt_of_ne ca with z | z
      · exact absurd ⟨z, x, y⟩ h5
      · rcases Nat.lt_or_gt_of_ne cb with t | t
        · exact .inl ⟨z, t⟩
        · exact absurd ⟨x, y, t⟩ h2
    · rcases Nat.lt_or_gt_of_ne cb with z | z
      · exact absurd ⟨z, x, y⟩ h6
      · rcases Nat.lt_or_gt_of_ne ca with t | t
        · exact .inr ⟨z, t⟩
        · exact absurd ⟨x, y, t⟩ h4
theorem Is.own {u d : Int} {ns : List Int} (h : isMatB u d ns = true) : Is u d (strI ns ns.length) ns := by
  obtain ⟨hu, hd, h0, hl, hok, hs⟩ := isMat_parts h
  have I := inv_of hu hd hl hok
  obtain ⟨e1, e2⟩ := str_ends h
  refine ⟨hu, hd, h0, hl, ⟨e1, fun x => by rw [e2, ringI_mem hu hd], fun p hp q hq hsep => ?_⟩, str_row h⟩
  have nc := (pile_empty I).mp hs
  have ip : p.1 ∈ ringI u d ∧ p.2 ∈ ringI u d := ⟨(ringI_mem hu hd).mpr ((e2 _).mp (mem_ends.mpr ⟨p, hp, .inl rfl⟩)), (ringI_mem hu hd).mpr ((e2 _).mp (mem_ends.mpr ⟨p, hp, .inr rfl⟩))⟩
  have iq : q.1 ∈ ringI u d ∧ q.2 ∈ ringI u d := ⟨(ringI_mem hu hd).mpr ((e2 _).mp (mem_ends.mpr ⟨q, hq, .inl rfl⟩)), (ringI_mem hu hd).mpr ((e2 _).mp (mem_ends.mpr ⟨q, hq, .inr rfl⟩))⟩
  obtain ⟨w1, w2⟩ := str_row h p hp
  obtain ⟨v1, v2⟩ := str_row h q hq
  have ne1 : (ringI u d).idxOf p.1 ≠ (ringI u d).idxOf p.2 := fun z => I.ne p.1 ip.1 (by rw [w1]; exact (idx_inj ip.1 ip.2 z).symm)
  have ne2 : (ringI u d).idxOf q.1 ≠ (ringI u d).idxOf q.2 := fun z => I.ne q.1 iq.1 (by rw [v1]; exact (idx_inj iq.1 iq.2 z).symm)
  have ap := ends_apart e1 hp hq
  rcases ap with rfl | ⟨n1, n2, n3, n4⟩
  · exact sep_self hsep
  have m1 : (ringI u d).idxOf q.1 ≠ (ringI u d).idxOf p.1 := fun z => n1 (idx_inj iq.1 ip.1 z)
  have m2 : (ringI u d).idxOf q.1 ≠ (ringI u d).idxOf p.2 := fun z => n2 (idx_inj iq.1 ip.2 z)
  have m3 : (ringI u d).idxOf q.2 ≠ (ringI u d).idxOf p.1 := fun z => n3 (idx_inj iq.2 ip.1 z)
  have m4 : (ringI u d).idxOf q.2 ≠ (ringI u d).idxOf p.2 := fun z => n4 (idx_inj iq.2 ip.2 z)
  have c1 := nc p.1 ip.1 q.1 iq.1
  have c2 := nc p.1 ip.1 q.2 iq.2
  have c3 := nc p.2 ip.2 q.1 iq.1
  have c4 := nc p.2 ip.2 q.2 iq.2
  have d1 := nc q.1 iq.1 p.1 ip.1
  have d2 := nc q.1 iq.1 p.2 ip.2
  have d3 := nc q.2 iq.2 p.1 ip.1
  have d4 := nc q.2 iq.2 p.2 ip.2
  unfold Crs at c1 c2 c3 c4 d1 d2 d3 d4
  rw [w1] at c1 c2 d1 d3
  rw [w2] at c3 c4 d2 d4
  rw [v1] at c1 c3 d1 d2
  rw [v2] at c2 c4 d3 d4
  exact sep_no ne1 m1 m2 m3 m4 c1 c2 c3 c4 d1 d2 d3 d4 hsep
end MM
namespace MM
open PySem PP L2
def strP (n : Int) : List (Int × Int) := (List.range n.toNat).map fun i : Nat => ((i : Int), n + (i : Int))
theorem strP_mem {n : Int} {p : Int × Int} : p ∈ strP n ↔ ∃ j : Int, 0 ≤ j ∧ j < n ∧ p = (j, n + j) := by
  unfold strP
  rw [List.mem_map]
  constructor
  · rintro ⟨i, hi, rfl⟩
    have := List.mem_range.mp hi
    exact ⟨i, by omega, by omega, rfl⟩
  · rintro ⟨j, h0, h1, rfl⟩
    exact ⟨j.toNat, List.mem_range.mpr (by omega), by rw [Int.toNat_of_nonneg h0]⟩
theorem strP_nest {n : Int} (hn : 0 ≤ n) : strP n = nest (ringI n n) := by
  have l := ringI_len hn hn
  unfold strP nest
  rw [show (ringI n n).length / 2 = n.toNat by omega]
  refine List.map_congr_left fun i hi => ?_
  have hi := List.mem_range.mp hi
  have g : ∀ k : Int, 0 ≤ k → k < n + n → (ringI n n).getD k.toNat 0 = sg n n k := fun k a b => by
    rw [List.getD_eq_getElem?_getD, ring_at hn hn a b, Option.getD_some]
  have e1 := g (i : Int) (by omega) (by omega)
  have e2 := g (n + n - 1 - i) (by omega) (by omega)
  rw [Int.toNat_natCast] at e1
  rw [show (n + n - 1 - (i : Int)).toNat = (ringI n n).length - 1 - i by omega] at e2
  rw [e1, e2]
  unfold sg
  rw [if_pos (by omega), if_neg (by omega)]
  congr 1
  omega
theorem str_match {n : Int} (hn : 0 ≤ n) : Match (ringI n n) (strP n) := by
  rw [strP_nest hn]
  exact nest_match (ringI_nodup hn hn) (by have := ringI_len hn hn; omega)
def keepP (n i : Int) : List (Int × Int) := (strP n).filter fun p => !decide (p.1 ∈ [i, i + 1])
def hookP (n i : Int) : List (Int × Int) := keepP n i ++ [(i, i + 1), (n + i, n + i + 1)]
theorem keepP_mem {n i : Int} {p : Int × Int} : p ∈ keepP n i ↔ ∃ j : Int, 0 ≤ j ∧ j < n ∧ j ≠ i ∧ j ≠ i + 1 ∧ p = (j, n + j) := by
  unfold keepP
  rw [List.mem_filter, strP_mem]
  constructor
  · rintro ⟨⟨j, h0, h1, rfl⟩, h2⟩
    have h2 : ¬ j ∈ [i, i + 1] := by simpa using h2
    simp only [List.mem_cons, List.not_mem_nil, or_false, not_or] at h2
    exact ⟨j, h0, h1, h2.1, h2.2, rfl⟩
  · rintro ⟨j, h0, h1, h2, h3, rfl⟩
    refine ⟨⟨j, h0, h1, rfl⟩, ?_⟩
    simp [h2, h3]
theorem hookP_mem {n i : Int} {p : Int × Int} : p ∈ hookP n i ↔ (∃ j : Int, 0 ≤ j ∧ j < n ∧ j ≠ i ∧ j ≠ i + 1 ∧ p = (j, n + j)) ∨ p = (i, i + 1) ∨ p = (n + i, n + i + 1) := by
  unfold hookP
  rw [List.mem_append, keepP_mem]
  simp
theorem ends_keepP {n i x : Int} (h : x ∈ ends (keepP n i)) : 0 ≤ x ∧ x < n + n ∧ x ≠ i ∧ x ≠ i + 1 ∧ x ≠ n + i ∧ x ≠ n + i + 1 ∨ (0 ≤ x ∧ x < n + n ∧ (i < 0 ∨ n ≤ i + 1)) := by
  obtain ⟨p, hp, e⟩ := mem_ends.mp h
  obtain ⟨j, h0, h1, h2, h3, rfl⟩ := keepP_mem.mp hp
  rcases e with e | e <;> dsimp only at e <;> omega
theorem hook_match {n i : Int} (h0 : 0 ≤ i) (h1 : i < n - 1) : Match (ringI n n) (hookP n i) := by
  have hn : 0 ≤ n := by omega
  refine match_sg hn hn ?_ (fun x => ?_) fun p hp q hq => ?_
  · unfold hookP
    rw [ends_app, List.nodup_append]
    have s : (ends (keepP n i)).Sublist (ends (strP n)) := by
      have : ∀ (qs rs : List (Int × Int)), qs.Sublist rs → (ends qs).Sublist (ends rs) := by
        intro qs rs h
        induction h with
        | slnil => exact List.Sublist.refl _
        | cons a _ ih => exact (ih.cons _).cons _
        | cons_cons a _ ih => exact (ih.cons_cons _).cons_cons _
      exact this _ _ List.filter_sublist
    refine ⟨List.Nodup.sublist s (str_match hn).nd, ?_, fun x hx y hy e => ?_⟩
    · show ([i, i + 1, n + i, n + i + 1] : List Int).Nodup
      simp only [List.nodup_cons, List.mem_cons, List.not_mem_nil, or_false, not_or, List.nodup_nil, not_false_eq_true, and_true]
      omega
    · have hy : y ∈ ([i, i + 1, n + i, n + i + 1] : List Int) := hy
      simp only [List.mem_cons, List.not_mem_nil, or_false] at hy
      have := ends_keepP hx
      omega
  · rw [mem_ends]
    constructor
    · rintro ⟨p, hp, e⟩
      rcases hookP_mem.mp hp with ⟨j, a, b, c, d, rfl⟩ | rfl | rfl <;> rcases e with e | e <;> dsimp only at e <;> omega
    · rintro ⟨a, b⟩
      by_cases c1 : x = i
      · exact ⟨(i, i + 1), hookP_mem.mpr (.inr (.inl rfl)), .inl c1⟩
      by_cases c2 : x = i + 1
      · exact ⟨(i, i + 1), hookP_mem.mpr (.inr (.inl rfl)), .inr c2⟩
      by_cases c3 : x = n + i
      · exact ⟨(n + i, n + i + 1), hookP_mem.mpr (.inr (.inr rfl)), .inl c3⟩
      by_cases c4 : x = n + i + 1
      · exact ⟨(n + i, n + i + 1), hookP_mem.mpr (.inr (.inr rfl)), .inr c4⟩
      by_cases c5 : x < n
      · exact ⟨(x, n + x), hookP_mem.mpr (.inl ⟨x, a, c5, c1, c2, rfl⟩), .inl rfl⟩
      · exact ⟨(x - n, n + (x - n)), hookP_mem.mpr (.inl ⟨x - n, by omega, by omega, by omega, by omega, rfl⟩), .inr (by show x = n + (x - n); omega)⟩
  · have sl : ∀ j, j < n → sg n n j = j := fun j h => by unfold sg; rw [if_pos h]
    have sr : ∀ j, 0 ≤ j → sg n n (n + j) = 2 * n - 1 - j := fun j h => by unfold sg; rw [if_neg (by omega)]; omega
    have sr1 : sg n n (n + i + 1) = 2 * n - 2 - i := by unfold sg; rw [if_neg (by omega)]; omega
    rcases hookP_mem.mp hp with ⟨j, a, b, c, d, rfl⟩ | rfl | rfl <;> rcases hookP_mem.mp hq with ⟨k, a', b', c', d', rfl⟩ | rfl | rfl <;> dsimp only
    · rw [sl j b, sr j a, sl k b', sr k a']; omega
    · rw [sl j b, sr j a, sl i (by omega), sl (i + 1) (by omega)]; omega
    · rw [sl j b, sr j a, sr i h0, sr1]; omega
    · rw [sl k b', sr k a', sl i (by omega), sl (i + 1) (by omega)]; omega
    · rw [sl i (by omega), sl (i + 1) (by omega)]; omega
    · rw [sl i (by omega), sl (i + 1) (by omega), sr i h0, sr1]; omega
    · rw [sl k b', sr k a', sr i h0, sr1]; omega
    · rw [sl i (by omega), sl (i + 1) (by omega), sr i h0, sr1]; omega
    · rw [sr i h0, sr1]; omega
structure Mt (u d : Int) (P : List (Int × Int)) : Prop where
  hu : 0 ≤ u
  hd : 0 ≤ d
  h0 : 0 < u + d
  M : Match (ringI u d) P
theorem Mt.in {u d : Int} {P : List (Int × Int)} (h : Mt u d P) : ∀ x ∈ ends P, 0 ≤ x ∧ x < u + d := match_in h.hu h.hd h.M
def spFrom : FSp := fun pvs m q => ∃ a b : Int, pvs = [.d (.int a), .d (.int b)] ∧ m = [] ∧ b ≤ a ∧ q (.d .none) []
def spStraight : FSp := fun pvs m q => ∃ n : Int, pvs = [.d (.int n)] ∧ m = [] ∧ 1 ≤ n ∧ n ≤ 50000 ∧ ∀ ns, Is n n (strP n) ns → q (.d (matD n n ns)) []
def spHook : FSp := fun pvs m q => ∃ n i : Int, pvs = [.d (.int n), .d (.int i)] ∧ m = [] ∧ 0 ≤ i ∧ i < n - 1 ∧ n ≤ 50000 ∧ ∀ ns, Is n n (hookP n i) ns → q (.d (matD n n ns)) []
end MM
namespace JJ
open PySem PP L2 MM
structure Rw (N : Int) (ns : List Int) : Prop where
  len : (ns.length : Int) = N
  sg : Sg N (mu ns)
structure Ends (n m : Int) (s : Int → Int) (x : Int) (J : Nat) : Prop where
  go : ∀ j < J, ¬ outer n m (wlk n m s x j) ∧ ps n m (wlk n m s x j) ≠ ps n m x
  stop : outer n m (wlk n m s x J) ∨ ps n m (wlk n m s x J) = ps n m x
theorem Ends.at {n m : Int} {s : Int → Int} {x : Int} {J j : Nat} (E : Ends n m s x J) (hj : j ≤ J) (h : outer n m (wlk n m s x j) ∨ ps n m (wlk n m s x j) = ps n m x) : j = J := by
  rcases Nat.lt_or_eq_of_le hj with c | c
  · have := E.go j c
    rcases h with z | z
    · exact absurd z this.1
    · exact absurd z this.2
  · exact c
end JJ
namespace JJ
open PySem PP L2 MM
def bk (n m z : Int) : Int := if z < n then z else z - 2 * m
end JJ
namespace JJ
open PySem PP L2 MM
structure M3 where
  n : Int
  m : Int
  ns : List Int
structure Sm (a : M3) : Prop where
  n0 : 0 ≤ a.n
  m0 : 0 ≤ a.m
  n1 : a.n ≤ 16
  m1 : a.m ≤ 16
  R : Rw (a.n + a.m) a.ns
end JJ
namespace JJ
open PySem PP L2 MM
theorem inl_ne {x y : Int} (h : x ≠ y) : (Sum.inl x : Key) ≠ .inl y := fun z => h (by cases z; rfl)
theorem rm_next {n m N : Int} {i : Nat} {x : Int} (h : Rm n m N (down (i + 1)) x) : Rm n m N (down i) x ∧ x ≠ n + i ∧ x ≠ n + m + i :=
  ⟨⟨h.lo, h.hi, fun j hj => h.far j (List.mem_cons_of_mem _ hj)⟩, h.far _ List.mem_cons_self⟩
def Told (n m N : Int) (s : Int → Int) (i : Nat) (kvs : List (Key × PyData)) : Prop := ∀ x, Rm n m N (down i) x → valD kvs (.inl x) = some (.int (El n m s (down i) x))
theorem Told.drop {n m N : Int} {s : Int → Int} {i : Nat} {kvs : List (Key × PyData)} (h : Told n m N s i kvs) {x : Int} (r : Rm n m N (down (i + 1)) x) : valD (dropD (dropD kvs (.inl (n + i))) (.inl (n + m + i))) (.inl x) = some (.int (El n m s (down i) x)) := by
  obtain ⟨r1, r2, r3⟩ := rm_next r
  rw [valD_drop, if_neg (inl_ne (Ne.symm r3)), valD_drop, if_neg (inl_ne (Ne.symm r2))]
  exact h x r1
end JJ
namespace JJ
open PySem PP L2 MM
structure Dr (u d : Int) (i : Nat) (ws : List Int) (fs : List (Int × Int)) (ns : List Int) : Prop where
  go : ∀ more, Match (ws ++ (ringI u d).drop i) more → Match (ringI u d) (fs ++ more)
  nd : (ws ++ (ringI u d).drop i).Nodup
  rg : ∀ x ∈ ws, 0 ≤ x ∧ x < u + d
  far : ∀ p ∈ fs, 0 ≤ p.1 ∧ 0 ≤ p.2 ∧ p.1 ∉ ws ++ (ringI u d).drop i ∧ p.2 ∉ ws ++ (ringI u d).drop i
  row : Row fs ns
  len : (ns.length : Int) = u + d
  sm : (ws.length : Int) ≤ u + d - i
  par : ((ws.length : Int) + (u + d - i)) % 2 = 0
section
variable {u d : Int} {i : Nat} {ws : List Int} {fs : List (Int × Int)} {ns : List Int} (hu : 0 ≤ u) (hd : 0 ≤ d)
include hu hd
theorem Dr.start (he : (u + d) % 2 = 0) : Dr u d 0 [] [] (List.replicate (u + d).toNat 0) :=
  ⟨fun more h => h, ringI_nodup hu hd, fun x hx => (by cases hx), fun p hp => (by cases hp), row_nil, by rw [List.length_replicate]; omega, by simp; omega, by simpa using he⟩
end
end JJ
namespace JJ
open PySem PySem.Spec PyProof.Rows PP L2 MM
theorem Sm.ln {a : M3} (h : Sm a) : a.ns.length ≤ 100000 := by
  have := h.R.len
  have := h.n1
  have := h.m1
  omega
end JJ
namespace JJ
open PySem PySem.Spec PP L2 MM
structure Sz (odd : Int) (ss : List Int) : Prop where
  in_ : ∀ s ∈ ss, 0 ≤ s ∧ s ≤ 14 + odd ∧ s % 2 = odd
  go : ∀ (j : Nat) (s t : Int), ss[j]? = some s → ss[j + 1]? = some t → 0 < s + t
theorem Sz.nil {odd : Int} : Sz odd [] := ⟨fun s h => (by cases h), fun j s t h => (by simp at h)⟩
theorem Sz.add {odd z : Int} {ss : List Int} (h : Sz odd ss) (h0 : 0 ≤ z) (h1 : z ≤ 14 + odd) (h2 : z % 2 = odd) (hl : ∀ s, ss[ss.length - 1]? = some s → 0 < s + z) : Sz odd (ss ++ [z]) := by
  refine ⟨fun s hs => ?_, fun j s t a b => ?_⟩
  · rcases List.mem_append.mp hs with c | c
    · exact h.in_ s c
    · rw [List.mem_singleton.mp c]; exact ⟨h0, h1, h2⟩
  · have lt := (List.getElem?_eq_some_iff.mp b).1
    rw [List.length_append, List.length_singleton] at lt
    rw [List.getElem?_append_left (by omega)] at a
    by_cases c : j + 1 < ss.length
    · rw [List.getElem?_append_left c] at b
      exact h.go j s t a b
    · rw [List.getElem?_append_right (by omega)] at b
      have e : j + 1 - ss.length = 0 := by omega
      rw [e] at b
      cases b
      exact hl s (by rw [show ss.length - 1 = j by omega]; exact a)
end JJ
namespace JJ
open PySem PP L2 MM
def r1 (s : Int → Int) (p q : Int) : Int := if s p = q then 1 else 0
end JJ
namespace JJ
open PySem PP L2 MM
section
variable {n i : Int} {ns hs : List Int} (i0 : 0 ≤ i) (i1 : i < n - 1) (A : Rw (n + n) ns) (H : Rw (n + n) hs) (Q : Row (hookP n i) hs)
include i0 i1 A H Q
abbrev hN (n : Int) : Int := n + n + (n + n)
end
end JJ
namespace JJ
open PySem PP L2 MM
theorem atI_last {ws : List Int} {z : Int} : atI ((ws ++ [z]).map PyData.int) (-1) = some (.int z) := by
  rw [atI_gdn (by omega) (by simp; omega)]
  congr 1
  rw [List.length_map, List.length_append, List.length_singleton, show (-1 + (((ws.length + 1 : Nat) : Int))).toNat = ws.length by omega, List.map_append, List.getD_eq_getElem?_getD, List.getElem?_append_right (by rw [List.length_map]; omega), List.length_map]
  simp
end JJ
namespace JJ
open PySem PySem.Spec PP L2 MM
abbrev sTwo : Str := "two"
abbrev sFar : Str := "far"
abbrev sNb : Str := "neighbours"
def absI (x : Int) : Int := if x < 0 then -x else x
def apt (ws : List Int) (i : Nat) : Int := absI (ws.getD i 0 - ws.getD (i + 1) 0)
structure Stp (ws : List Int) (k : Str) (i : Nat) : Prop where
  lt : i + 1 < ws.length
  h : (k = sTwo ∧ apt ws i = 0) ∨ (k = sFar ∧ 1 < apt ws i) ∨ (k = sNb ∧ apt ws i = 1 ∧ i + 2 < ws.length ∧ ws.getD (i + 2) 0 = ws.getD i 0)
theorem okTwo : (PyData.str sTwo).canLay0 = true := by decide +kernel
theorem okFar : (PyData.str sFar).canLay0 = true := by decide +kernel
theorem okNb : (PyData.str sNb).canLay0 = true := by decide +kernel
theorem Stp.ok {ws : List Int} {k : Str} {i : Nat} (S : Stp ws k i) : (PyData.str k).canLay0 = true := by
  rcases S.h with ⟨rfl, _⟩ | ⟨rfl, _⟩ | ⟨rfl, _⟩
  · exact okTwo
  · exact okFar
  · exact okNb
end JJ
namespace JJ
open PySem PySem.Spec PP L2 MM
open PySem.W (AllAlike Sortable dataLe dataLt alike)
theorem alike_int {a b : Int} : alike (.int a) (.int b) = true := rfl
end JJ
namespace MM
open PySem PP L2
abbrev Asc (l : List Int) : Prop := l.Pairwise (· < ·)
theorem Asc.nd {l : List Int} (h : Asc l) : l.Nodup := List.Pairwise.imp (fun h => by omega) h
theorem Is.at {u d x : Int} {P : List (Int × Int)} {ns : List Int} (h : Is u d P ns) (h0 : 0 ≤ x) (h1 : x < u + d) : ((x, mu ns x) ∈ P ∨ (mu ns x, x) ∈ P) ∧ 0 ≤ mu ns x ∧ mu ns x < u + d ∧ mu ns x ≠ x ∧ mu ns (mu ns x) = x := by
  obtain ⟨p, hp, e⟩ := mem_ends.mp ((h.M.mem x).mpr ((ringI_mem h.hu h.hd).mpr ⟨h0, h1⟩))
  obtain ⟨w1, w2⟩ := h.W p hp
  obtain ⟨i1, i2⟩ := h.inP hp
  have ne : p.1 ≠ p.2 := fun z => by
    obtain ⟨hu, hd, _, hl, hok, _⟩ := isMat_parts h.mat
    have := (matesAt_iff.mp (hok p.1.toNat (by omega))).2.2.1
    have e2 : ns.getD p.1.toNat 0 = mu ns p.1 := rfl
    rw [e2, w1, ← z] at this
    omega
  rcases e with rfl | rfl
  · rw [w1]; exact ⟨.inl hp, i2.1, i2.2, fun z => ne z.symm, w2⟩
  · rw [w2]; exact ⟨.inr hp, i1.1, i1.2, ne, w1⟩
end MM
namespace JJ
open PySem PP L2 MM
open PySem.W (AllAlike Sortable dataLe dataLt)
def ordP (p : Int × Int) : Int × Int := (min p.1 p.2, max p.1 p.2)
theorem lt_pair {p q : Int × Int} : dataLt (nPair p) (nPair q) = if p.1 = q.1 then decide (p.2 < q.2) else decide (p.1 < q.1) := by
  unfold nPair
  rw [PySem.W.dataLt_pair alike_int alike_int]
  rw [show PyData.eqv (.int p.1) (.int q.1) = decide (p.1 = q.1) from by rw [Bool.eq_iff_iff, decide_eq_true_eq]; exact beq_iff_eq]
  rw [show PyData.eqv (.int p.2) (.int q.2) = decide (p.2 = q.2) from by rw [Bool.eq_iff_iff, decide_eq_true_eq]; exact beq_iff_eq]
  rw [PySem.W.dataLt_int, PySem.W.dataLt_int]
  simp only [decide_eq_true_eq]
  split
  · split
    · symm; rw [decide_eq_false_iff_not]; omega
    · rfl
  · rfl
theorem le_pair {p q : Int × Int} : dataLe false id (nPair p) (nPair q) = true ↔ p.1 < q.1 ∨ (p.1 = q.1 ∧ p.2 ≤ q.2) := by
  show (!dataLt (nPair q) (nPair p)) = true ↔ _
  rw [lt_pair]
  split
  · simp; omega
  · simp; omega
theorem pairs_sort {P : List (Int × Int)} : AllAlike (P.map nPair) ∧ Sortable (P.map nPair) ∧ ∀ d ∈ P.map nPair, d.depth ≤ 60 := by
  refine ⟨fun d hd d' hd' => ?_, .inl fun d hd => ?_, fun d hd => ?_⟩
  · obtain ⟨p, _, rfl⟩ := List.mem_map.mp hd
    obtain ⟨q, _, rfl⟩ := List.mem_map.mp hd'
    rfl
  · obtain ⟨p, _, rfl⟩ := List.mem_map.mp hd
    exact ⟨_, _, rfl⟩
  · obtain ⟨p, _, rfl⟩ := List.mem_map.mp hd
    show PyData.depth (.tuple [.int _, .int _]) ≤ 60
    simp [PyData.depth, PyData.depthAll]
theorem srt_pairs_of {P Q : List (Int × Int)} (asc : Q.Pairwise fun p q => p.1 < q.1 ∨ (p.1 = q.1 ∧ p.2 ≤ q.2)) (nP : P.Nodup) (nQ : Q.Nodup) (mem : ∀ p, p ∈ P ↔ p ∈ Q) : srtD (P.map nPair) = Q.map nPair := by
  have T := PySem.W.sortLe_total (PyProof.Rows.listOrd PyProof.Rows.itemOrd) false (fun b : PyData => PySem.W.keyToks b)
  have P1 : (srtD (P.map nPair)).Pairwise fun a b => dataLe false id a b = true := List.pairwise_mergeSort (fun a b c => T.trans a b c) (fun a b => by have := T.total a b; simpa using this) _
  have P2 : (Q.map nPair).Pairwise fun a b => dataLe false id a b = true := by
    rw [List.pairwise_map]
    exact asc.imp fun h => le_pair.mpr h
  have perm : (srtD (P.map nPair)).Perm (Q.map nPair) := (List.mergeSort_perm _ _).trans (((List.perm_ext_iff_of_nodup nP nQ).mpr mem).map nPair)
  refine List.Perm.eq_of_pairwise (fun a b ha hb x y => ?_) P1 P2 perm
  obtain ⟨p, hp, rfl⟩ := List.mem_map.mp (srt_mem.mp ha)
  obtain ⟨q, hq, rfl⟩ := List.mem_map.mp hb
  have h1 := le_pair.mp x
  have h2 := le_pair.mp y
  have : p = q := Prod.ext (by omega) (by omega)
  rw [this]
theorem strI_asc {ns : List Int} {i : Nat} : (strI ns i).Pairwise fun p q => p.1 < q.1 := by
  unfold strI
  rw [List.pairwise_map]
  refine (List.Pairwise.filter _ List.pairwise_lt_range).imp fun {a b} h => ?_
  show (a : Int) < (b : Int)
  omega
theorem strI_nd {ns : List Int} {i : Nat} : (strI ns i).Nodup := strI_asc.imp fun {a b} h e => by rw [e] at h; omega
theorem ends_apart {P : List (Int × Int)} (h : (ends P).Nodup) : P.Pairwise fun p q => p.1 ≠ q.1 ∧ p.1 ≠ q.2 ∧ p.2 ≠ q.1 ∧ p.2 ≠ q.2 := by
  induction P with
  | nil => exact .nil
  | cons p P ih =>
    have e : ends (p :: P) = p.1 :: p.2 :: ends P := rfl
    rw [e] at h
    obtain ⟨h1, h⟩ := List.nodup_cons.mp h
    obtain ⟨h2, h⟩ := List.nodup_cons.mp h
    refine List.Pairwise.cons (fun q hq => ?_) (ih h)
    have m1 : q.1 ∈ ends P := mem_ends.mpr ⟨q, hq, .inl rfl⟩
    have m2 : q.2 ∈ ends P := mem_ends.mpr ⟨q, hq, .inr rfl⟩
    exact ⟨fun z => h1 (by rw [z]; exact List.mem_cons_of_mem _ m1), fun z => h1 (by rw [z]; exact List.mem_cons_of_mem _ m2), fun z => h2 (z ▸ m1), fun z => h2 (z ▸ m2)⟩
theorem srt_strings {u d : Int} {P : List (Int × Int)} {ns : List Int} (h : Is u d P ns) : srtD ((P.map ordP).map nPair) = (strI ns ns.length).map nPair := by
  have hu0 := h.hu
  have hd0 := h.hd
  have hl := h.len
  have inP : ∀ p ∈ P, (0 ≤ p.1 ∧ p.1 < u + d) ∧ (0 ≤ p.2 ∧ p.2 < u + d) := fun p hp =>
    ⟨(ringI_mem hu0 hd0).mp ((h.M.mem p.1).mp (mem_ends.mpr ⟨p, hp, .inl rfl⟩)), (ringI_mem hu0 hd0).mp ((h.M.mem p.2).mp (mem_ends.mpr ⟨p, hp, .inr rfl⟩))⟩
  refine srt_pairs_of (strI_asc.imp fun z => .inl z) ?_ strI_nd fun p => ?_
  · refine List.pairwise_map.mpr ((ends_apart h.M.nd).imp fun {p q} ⟨a, b, c, d⟩ e => ?_)
    have e1 : min p.1 p.2 = min q.1 q.2 := congrArg Prod.fst e
    omega
  · rw [strI_mem, List.mem_map]
    constructor
    · rintro ⟨q, hq, rfl⟩
      obtain ⟨w1, w2⟩ := h.W q hq
      obtain ⟨⟨a1, a2⟩, a3, a4⟩ := inP q hq
      unfold mu at w1 w2
      have ne : q.1 ≠ q.2 := by
        obtain ⟨i, hi⟩ := List.getElem?_of_mem hq
        exact (take_apart h.M.nd hi).1
      unfold ordP
      rcases Int.lt_or_gt_of_ne ne with c | c
      · refine ⟨q.1.toNat, by omega, by rw [w1]; omega, ?_⟩
        rw [w1]
        exact Prod.ext (by dsimp only; omega) (by dsimp only; omega)
      · refine ⟨q.2.toNat, by omega, by rw [w2]; omega, ?_⟩
        rw [w2]
        exact Prod.ext (by dsimp only; omega) (by dsimp only; omega)
    · rintro ⟨j, hj, hlt, rfl⟩
      have hm : (j : Int) ∈ ends P := (h.M.mem _).mpr ((ringI_mem hu0 hd0).mpr ⟨by omega, by omega⟩)
      obtain ⟨q, hq, e⟩ := mem_ends.mp hm
      obtain ⟨w1, w2⟩ := h.W q hq
      unfold mu at w1 w2
      refine ⟨q, hq, ?_⟩
      unfold ordP
      rcases e with e | e
      · rw [← e] at w1
        rw [show (j : Int).toNat = j by omega] at w1
        rw [w1] at hlt ⊢
        exact Prod.ext (by dsimp only; omega) (by dsimp only; omega)
      · rw [← e] at w2
        rw [show (j : Int).toNat = j by omega] at w2
        rw [w2] at hlt ⊢
        exact Prod.ext (by dsimp only; omega) (by dsimp only; omega)
def spxFrom (c : Addr) : FSpX := fun pvs m q => ∃ a b : Int, pvs = [.d (.int a), .d (.int b)] ∧ m = [] ∧ a < b ∧ q c (.int a) []
def spxStr (c : Addr) : FSpX := fun pvs m q => ∃ n : Int, pvs = [.d (.int n)] ∧ m = [] ∧ n < 1 ∧ q c (.int n) []
def spxHookN (c : Addr) : FSpX := fun pvs m q => ∃ n i : Int, pvs = [.d (.int n), .d (.int i)] ∧ m = [] ∧ n < 1 ∧ q c (.int n) []
def spxHookI (c : Addr) : FSpX := fun pvs m q => ∃ n i : Int, pvs = [.d (.int n), .d (.int i)] ∧ m = [] ∧ 1 ≤ n ∧ ¬ (0 ≤ i ∧ i < n - 1) ∧ q c (.int i) []
def spRfN : FSp := fun pvs m q => ∃ (s : Int) (k : Bool), pvs = [.d (.int s), .d .none, .d (.bool k)] ∧ m = [] ∧ s < 1 ∧ q (.d (.tuple [.str "number", .int s])) []
def spRfA (k : Bool) : FSp := fun pvs m q => ∃ (s i : Int), pvs = [.d (.int s), .d (.int i), .d (.bool k)] ∧ m = [] ∧ s < 1 ∧ q (.d (.tuple [.str "number", .int s])) []
def spRfB (k : Bool) : FSp := fun pvs m q => ∃ (s i : Int), pvs = [.d (.int s), .d (.int i), .d (.bool k)] ∧ m = [] ∧ 1 ≤ s ∧ ¬ (0 ≤ i ∧ i < s - 1) ∧ q (.d (.tuple [.str "hook", .int i])) []
def spRf : FSp := fun pvs m q => spRfN pvs m q ∨ spRfA true pvs m q ∨ spRfA false pvs m q ∨ spRfB true pvs m q ∨ spRfB false pvs m q
theorem rf_num {s : Int} {p : PyData} {k : Bool} {q : PV → Mem → Prop} (h : p = .none ∨ ∃ j, p = .int j) (hs : s < 1) (hq : q (.d (.tuple [.str "number", .int s])) []) : spRf [.d (.int s), .d p, .d (.bool k)] [] q := by
  rcases h with rfl | ⟨j, rfl⟩
  · exact .inl ⟨s, k, rfl, rfl, hs, hq⟩
  · cases k
    · exact .inr (.inr (.inl ⟨s, j, rfl, rfl, hs, hq⟩))
    · exact .inr (.inl ⟨s, j, rfl, rfl, hs, hq⟩)
theorem rf_hook {s i : Int} {k : Bool} {q : PV → Mem → Prop} (hs : 1 ≤ s) (hi : ¬ (0 ≤ i ∧ i < s - 1)) (hq : q (.d (.tuple [.str "hook", .int i])) []) : spRf [.d (.int s), .d (.int i), .d (.bool k)] [] q := by
  cases k
  · exact .inr (.inr (.inr (.inr ⟨s, i, rfl, rfl, hs, hi, hq⟩)))
  · exact .inr (.inr (.inr (.inl ⟨s, i, rfl, rfl, hs, hi, hq⟩)))
theorem dq_si {k : Str} {i : Int} (hk : (PyData.str k).canLay0 = true := by decide +kernel) : Dq 3 (.tuple [.str k, .int i]) := .tup fun x hx => by
  simp only [List.mem_cons, List.not_mem_nil, or_false] at hx
  rcases hx with rfl | rfl
  · exact .sc rfl hk (Nat.zero_le _)
  · exact dq_int
theorem dq_pairs {P : List (Int × Int)} : Dq 3 (.list (P.map nPair)) := .lst fun x hx => by
  obtain ⟨p, _, rfl⟩ := List.mem_map.mp hx
  refine .tup fun y hy => ?_
  simp only [List.mem_cons, List.not_mem_nil, or_false] at hy
  rcases hy with rfl | rfl <;> exact dq_int
def spStrings : FSp := fun pvs m q => ∃ (u d : Int) (ns : List Int), pvs = [.d (matD u d ns)] ∧ m = [] ∧ u ≤ 100000 ∧ d ≤ 100000 ∧ ns.length ≤ 200000 ∧ isMatB u d ns = true ∧ q (.ref 0) [some (.lst ((strI ns ns.length).map nPair))]
def spEnds : FSp := fun pvs m q => ∃ (u d : Int) (P : List (Int × Int)) (ns : List Int), pvs = [.d (.int u), .d (.list (P.map (pairD u)))] ∧ m = [] ∧ Is u d P ns ∧ u ≤ 1000 ∧ d ≤ 1000 ∧ q (.ref 0) [some (.lst ((strI ns ns.length).map nPair))]
def spLevel : FSp := fun pvs m q => ∃ n : Int, pvs = [.d (.int n)] ∧ m = [] ∧ 1 ≤ n ∧ n ≤ 1000 ∧ q (.ref 0) [some (.lst ((strP n).map (pairD n)))]
def spHkd4 : FSp := fun pvs m q => ∃ n i : Int, pvs = [.d (.int n), .d (.int i)] ∧ m = [] ∧ 0 ≤ i ∧ i < n - 1 ∧ n ≤ 1000 ∧ q (.ref 0) [some (.lst ((hookP n i).map (pairD n)))]
def spWr4 : FSp := fun pvs m q => ∃ (xs : List PyData) (k : Nat) (n : Int), pvs = [.ref 0, .d (.int n)] ∧ m = [some (.lst xs)] ∧ WL k xs ∧ k < 800000000 ∧ 1 ≤ n ∧ n ≤ 8 ∧ ∀ xs', WL (k + 2) xs' → q (.d (.bool true)) [some (.lst xs')]
def spHk4 : FSp := fun pvs m q => ∃ n : Int, pvs = [.d (.int n)] ∧ m = [] ∧ 1 ≤ n ∧ n ≤ 8 ∧ q (.d (.bool true)) []
end JJ
namespace JJ
open PySem PP L2 MM
theorem far_at {r : Int} (h0 : 0 ≤ r) (h1 : r < 6) : ∃ f : Int, atI [PyData.int 0, .int 1, .int 2, .int (10 ^ 30), .int 60, .int (10 ^ 30 - 1)] r = some (.int f) ∧ 0 ≤ f ∧ f ≤ 10 ^ 30 := by
  have h : r = 0 ∨ r = 1 ∨ r = 2 ∨ r = 3 ∨ r = 4 ∨ r = 5 := by omega
  rcases h with rfl | rfl | rfl | rfl | rfl | rfl
  · exact ⟨0, rfl, by decide, by decide⟩
  · exact ⟨1, rfl, by decide, by decide⟩
  · exact ⟨2, rfl, by decide, by decide⟩
  · exact ⟨10 ^ 30, rfl, by decide, by decide⟩
  · exact ⟨60, rfl, by decide, by decide⟩
  · exact ⟨10 ^ 30 - 1, rfl, by decide, by decide⟩
theorem place_is {f g : Int} {i : Nat} {x : PyData} (h : [PyData.none, .int f, .int g, .int 0][i]? = some x) : x = .none ∨ ∃ j, x = .int j := by
  match i, h with
  | 0, h => cases h; exact .inl rfl
  | 1, h => cases h; exact .inr ⟨_, rfl⟩
  | 2, h => cases h; exact .inr ⟨_, rfl⟩
  | 3, h => cases h; exact .inr ⟨_, rfl⟩
  | n + 4, h => simp at h
theorem place_bad {f n : Int} {i : Nat} {x : PyData} (hf : 0 ≤ f) (hn : 1 ≤ n) (h : [PyData.int (n - 1), .int (n - 1 + f), .int (-1 - f), .int (0 - n)][i]? = some x) : ∃ j, x = .int j ∧ ¬ (0 ≤ j ∧ j < n - 1) := by
  match i, h with
  | 0, h => cases h; exact ⟨_, rfl, by omega⟩
  | 1, h => cases h; exact ⟨_, rfl, by omega⟩
  | 2, h => cases h; exact ⟨_, rfl, by omega⟩
  | 3, h => cases h; exact ⟨_, rfl, by omega⟩
  | n + 4, h => simp at h
theorem srt_level {n : Int} : srtD (((strP n).map ordP).map nPair) = (strP n).map nPair := by
  have e : (strP n).map ordP = strP n := by
    rw [List.map_congr_left (g := id) fun p hp => ?_, List.map_id]
    obtain ⟨j, h0, h1, rfl⟩ := strP_mem.mp hp
    exact Prod.ext (by unfold ordP; dsimp only [id]; omega) (by unfold ordP; dsimp only [id]; omega)
  rw [e]
  have asc : (strP n).Pairwise fun p q => p.1 < q.1 := by
    unfold strP
    rw [List.pairwise_map]
    exact List.pairwise_lt_range.imp fun {a b} h => by dsimp only; omega
  exact srt_pairs_of (asc.imp fun z => .inl z) (asc.imp fun {a b} h e => by rw [e] at h; omega) (asc.imp fun {a b} h e => by rw [e] at h; omega) fun p => Iff.rfl
end JJ
namespace K04
open PySem PySem.Spec PyProof.Rows L2 PP
def topS (i : Nat) : Stmt := PySem.Challenge.pw_hookmats_k04_whole_straight_hooks_and_st.main.body.getD i (.Pass ⟨0, 0, 0, 0⟩)
def s_init : Stmt := match topS 1 with
  | .ClassDef _ _ _ (b :: _) _ _ _ _ _ _ _ => b
  | x => x
theorem sc_init : FnScope ["self", "value"] ["self", "value"] (defScope s_init) := ⟨rfl, rfl, rfl, by decide +kernel, rfl, by decide +kernel, by decide +kernel⟩
theorem ok_init {P : Program} {w : World} {K : PySem.W.Frag} {mg : Str → Option Value} {base : Heap} {f : Addr} {fd : FuncData} (F : Fun K "__init__" "MatError.__init__" s_init f fd) : FnOk P w K mg base CX0 1 f fd ["self", "value"] (spIn K) := by
  refine F.ok sc_init (fun vs H Q E ⟨_, _, _, e, _⟩ => by subst e; rfl) (fun cdv A outer s H vs Q E hr h => ?_)
  refine ⟨_, pss_one (ps_ost (pe_var (i := 0) rfl (.inl rfl)) (pe_var (i := 1) rfl (.inl rfl))), ?_⟩
  obtain ⟨a, C, y, rfl, e, T, nv, k⟩ := h
  exact ⟨_, rfl, _, rfl, a, C, rfl, T, nv, .inl ⟨e, fun dx h1 h2 => k dx h1 h2⟩⟩
abbrev s_check_mat : Stmt := topS 6
theorem sc_check_mat : FnScope ["mat"] ["mat"] (defScope s_check_mat) := ⟨rfl, rfl, rfl, by decide +kernel, rfl, by decide +kernel, by decide +kernel⟩
abbrev s_check_from : Stmt := topS 7
theorem sc_check_from : FnScope ["number", "least"] ["number", "least"] (defScope s_check_from) := ⟨rfl, rfl, rfl, by decide +kernel, rfl, by decide +kernel, by decide +kernel⟩
abbrev s_round_about : Stmt := topS 8
theorem sc_round_about : FnScope ["n", "m"] ["n", "m"] (defScope s_round_about) := ⟨rfl, rfl, rfl, by decide +kernel, rfl, by decide +kernel, by decide +kernel⟩
abbrev s_p_are_mates : Stmt := topS 9
theorem sc_p_are_mates : FnScope ["mates", "many", "peg", "mate"] ["mates"] (defScope s_p_are_mates) := ⟨rfl, rfl, rfl, by decide +kernel, rfl, by decide +kernel, by decide +kernel⟩
abbrev s_p_none_cross : Stmt := topS 10
theorem sc_p_none_cross : FnScope ["n", "m", "mates", "begun", "peg"] ["n", "m", "mates"] (defScope s_p_none_cross) := ⟨rfl, rfl, rfl, by decide +kernel, rfl, by decide +kernel, by decide +kernel⟩
abbrev s_is_mat : Stmt := topS 11
theorem sc_is_mat : FnScope ["told", "n", "m", "mates"] ["told"] (defScope s_is_mat) := ⟨rfl, rfl, rfl, by decide +kernel, rfl, by decide +kernel, by decide +kernel⟩
abbrev s_mat_of_pairs : Stmt := topS 12
theorem sc_mat_of_pairs : FnScope ["n", "m", "pairs", "mates", "peg", "mate"] ["n", "m", "pairs"] (defScope s_mat_of_pairs) := ⟨rfl, rfl, rfl, by decide +kernel, rfl, by decide +kernel, by decide +kernel⟩
abbrev s_straight : Stmt := topS 13
theorem sc_straight : FnScope ["n", "peg"] ["n"] (defScope s_straight) := ⟨rfl, rfl, rfl, by decide +kernel, rfl, by decide +kernel, by decide +kernel⟩
abbrev s_hook : Stmt := topS 14
theorem sc_hook : FnScope ["n", "i", "pairs", "peg"] ["n", "i"] (defScope s_hook) := ⟨rfl, rfl, rfl, by decide +kernel, rfl, by decide +kernel, by decide +kernel⟩
abbrev s_p_strings : Stmt := topS 15
theorem sc_p_strings : FnScope ["mat", "peg", "mate"] ["mat"] (defScope s_p_strings) := ⟨rfl, rfl, rfl, by decide +kernel, rfl, by decide +kernel, by decide +kernel⟩
abbrev s_strings : Stmt := topS 16
theorem sc_strings : FnScope ["mat"] ["mat"] (defScope s_strings) := ⟨rfl, rfl, rfl, by decide +kernel, rfl, by decide +kernel, by decide +kernel⟩
abbrev s_l_well : Stmt := topS 18
theorem sc_l_well : FnScope ["_law_script", "_law_place", "_law_cell"] ["_law_script", "_law_place"] (defScope s_l_well) := ⟨rfl, rfl, rfl, by decide +kernel, rfl, by decide +kernel, by decide +kernel⟩
abbrev s_l_draw : Stmt := topS 19
theorem sc_l_draw : FnScope ["_law_well_here", "_law_limit", "_law_found", "_law_mixed"] ["_law_well_here", "_law_limit"] (defScope s_l_draw) := ⟨rfl, rfl, rfl, by decide +kernel, rfl, by decide +kernel, by decide +kernel⟩
abbrev s_l_same : Stmt := topS 20
theorem sc_l_same : FnScope ["_law_found", "_law_due", "_law_here", "_law_there"] ["_law_found", "_law_due"] (defScope s_l_same) := ⟨rfl, rfl, rfl, by decide +kernel, rfl, by decide +kernel, by decide +kernel⟩
abbrev s_l_ring : Stmt := topS 21
theorem sc_l_ring : FnScope ["_law_up", "_law_down", "_law_at"] ["_law_up", "_law_down"] (defScope s_l_ring) := ⟨rfl, rfl, rfl, by decide +kernel, rfl, by decide +kernel, by decide +kernel⟩
abbrev s_l_made : Stmt := topS 22
theorem sc_l_made : FnScope ["_law_up", "_law_down", "_law_pairs_here", "_law_row", "_law_left", "_law_right", "_law_start", "_law_goal"] ["_law_up", "_law_down", "_law_pairs_here"] (defScope s_l_made) := ⟨rfl, rfl, rfl, by decide +kernel, rfl, by decide +kernel, by decide +kernel⟩
abbrev s_l_pairs : Stmt := topS 23
theorem sc_l_pairs : FnScope ["_law_well_here", "_law_up", "_law_down", "_law_ring_here", "_law_start", "_law_found", "_law_turn", "_law_at"] ["_law_well_here", "_law_up", "_law_down"] (defScope s_l_pairs) := ⟨rfl, rfl, rfl, by decide +kernel, rfl, by decide +kernel, by decide +kernel⟩
abbrev s_l_counts : Stmt := topS 24
theorem sc_l_counts : FnScope ["_law_well_here", "_law_most", "_law_size", "_law_way", "_law_up"] ["_law_well_here", "_law_most"] (defScope s_l_counts) := ⟨rfl, rfl, rfl, by decide +kernel, rfl, by decide +kernel, by decide +kernel⟩
abbrev s_l_ends : Stmt := topS 25
theorem sc_l_ends : FnScope ["_law_up", "_law_pairs_here", "_law_left", "_law_right"] ["_law_up", "_law_pairs_here"] (defScope s_l_ends) := ⟨rfl, rfl, rfl, by decide +kernel, rfl, by decide +kernel, by decide +kernel⟩
abbrev s_l_level : Stmt := topS 26
theorem sc_l_level : FnScope ["_law_size", "_law_at"] ["_law_size"] (defScope s_l_level) := ⟨rfl, rfl, rfl, by decide +kernel, rfl, by decide +kernel, by decide +kernel⟩
abbrev s_l_hooked : Stmt := topS 27
theorem sc_l_hooked : FnScope ["_law_size", "_law_place", "_law_kept", "_law_pair"] ["_law_size", "_law_place"] (defScope s_l_hooked) := ⟨rfl, rfl, rfl, by decide +kernel, rfl, by decide +kernel, by decide +kernel⟩
abbrev s_l_refused : Stmt := topS 28
theorem sc_l_refused : FnScope ["_law_size", "_law_place", "_law_by_name", "_law_caught", "e", "_law_kinds"] ["_law_size", "_law_place", "_law_by_name"] (defScope s_l_refused) := ⟨rfl, rfl, rfl, by decide +kernel, rfl, by decide +kernel, by decide +kernel⟩
abbrev s_l_wrong_right : Stmt := topS 29
theorem sc_l_wrong_right : FnScope ["_law_well_here", "_law_size", "_law_far", "_law_place"] ["_law_well_here", "_law_size"] (defScope s_l_wrong_right) := ⟨rfl, rfl, rfl, by decide +kernel, rfl, by decide +kernel, by decide +kernel⟩
abbrev s_l_hooks_right : Stmt := topS 30
theorem sc_l_hooks_right : FnScope ["_law_size", "_law_level_here", "_law_place", "_law_pairs_here", "_law_due", "_law_at"] ["_law_size"] (defScope s_l_hooks_right) := ⟨rfl, rfl, rfl, by decide +kernel, rfl, by decide +kernel, by decide +kernel⟩
abbrev s_law : Stmt := topS 31
theorem sc_law : FnScope ["_law_script", "_law_place", "_law_well_here", "_law_size", "_law_up", "_law_down", "_law_pairs_here", "_law_thing"] ["_law_script"] (defScope s_law) := ⟨rfl, rfl, rfl, by decide +kernel, rfl, by decide +kernel, by decide +kernel⟩
section
variable {P : Program} {w : World} {K : PySem.W.Frag} {mg : Str → Option Value} {base : Heap}
theorem ok_l_draw {f : Addr} {fd : FuncData} (F : Fun K "_law_draw" "_law_draw" s_l_draw f fd) (m_int : mg "int" = none) : FnOk P w K mg base CX0 1 f fd ["_law_well_here", "_law_limit"] (toSp K spDraw) := by
  have sc := sc_l_draw
  refine fn_pp F sc (fun pvs m q h => ?_) (fun cdv A outer s H E hr pvs m q h => ?_)
  · first | (obtain ⟨_, _, rfl, _⟩ := h; rfl) | (obtain ⟨_, _, _, rfl, _⟩ := h; rfl) | (obtain ⟨_, _, _, _, rfl, _⟩ := h; rfl) | (obtain ⟨_, _, _, _, _, rfl, _⟩ := h; rfl) | (obtain ⟨_, _, _, _, _, _, rfl, _⟩ := h; rfl) | (obtain ⟨_, rfl, _⟩ := h; rfl)
  obtain ⟨xs, n, lim, rfl, rfl, ⟨a, b, c, rfl, ha0, ha, hb0, hb1, hc0, hc1⟩, hn, hl0, hl1, kq⟩ := h
  change WSs _ _ [_, _, _, _] [_] _
  refine wss_cons ?_
  refine ws_if ?_
  refine wt_gt ?_
  refine we_ix ?_
  refine wv_name 0 rfl (.inl rfl) rfl ?_
  refine we_int ?_
  refine ⟨_, _, _, rfl, rfl, rfl, ?_⟩
  refine we_int ?_
  refine ⟨_, _, rfl, rfl, ?_⟩
  refine ⟨fun hif1 => ?_, fun hif1 => ?_⟩
  ·
    change WSs _ _ [_, _, _, _] [_] _
    refine wss_cons ?_
    refine ws_set 2 sc.nd rfl (.inl rfl) ?_
    refine we_mod ?_
    refine we_int1 m_int ?_
    refine we_ix ?_
    refine wv_name 0 rfl (.inl rfl) rfl ?_
    refine we_int ?_
    refine ⟨_, _, _, rfl, rfl, rfl, ?_⟩
    refine .inl ⟨_, rfl, ?_⟩
    refine we_name 1 rfl (.inl rfl) rfl ?_
    refine ⟨_, _, rfl, rfl, by omega, ?_⟩
    change WSs _ _ [_, _, _, _] [_] _
    refine wss_cons ?_
    refine ws_asg ?_
    refine we_fdiv ?_
    refine we_ix ?_
    refine wv_name 0 rfl (.inl rfl) rfl ?_
    refine we_int ?_
    refine ⟨_, _, _, rfl, rfl, rfl, ?_⟩
    refine we_name 1 rfl (.inl rfl) rfl ?_
    refine ⟨_, _, rfl, rfl, cdiv_of hl0 (Bd.of (Int.le_of_lt hl0) hl1), ?_⟩
    refine wg_sub ?_
    refine wv_name 0 rfl (.inl rfl) rfl ?_
    refine we_int ?_
    refine ⟨_, _, _, _, rfl, rfl, rfl, rfl, ?_⟩
    change WSs _ _ [_, _, _, _] [_] _
    refine wss_one ?_
    refine ws_ret ?_
    refine we_name 2 rfl (.inl rfl) rfl ?_
    exact ⟨Nat.le_refl _, .inl ⟨_, rfl, kq _ _ (Int.emod_nonneg _ (by omega)) (Int.emod_lt_of_pos _ hl0) ⟨_, _, _, rfl, Int.ediv_nonneg ha0 (by omega), ha.div ha0 hl0, hb0, hb1, hc0, by omega⟩⟩⟩
  ·
    have hcc : Bd 31 (c + 1) := Bd.of (by omega) (by omega)
    have hbb : Bd 120 b := Bd.of hb0 hb1
    refine wss_nil ?_
    change WSs _ _ [_, _, _, _] [_] _
    refine wss_cons ?_
    refine ws_asg ?_
    refine we_add ?_
    refine we_ix ?_
    refine wv_name 0 rfl (.inl rfl) rfl ?_
    refine we_int ?_
    refine ⟨_, _, _, rfl, rfl, rfl, ?_⟩
    refine we_int ?_
    refine ⟨_, _, rfl, rfl, ?_⟩
    refine wg_sub ?_
    refine wv_name 0 rfl (.inl rfl) rfl ?_
    refine we_int ?_
    refine ⟨_, _, _, _, rfl, rfl, rfl, rfl, ?_⟩
    change WSs _ _ [_, _, _, _] [_] _
    refine wss_cons ?_
    refine ws_set 3 sc.nd rfl (.inl rfl) ?_
    refine we_mod ?_
    refine we_int1 m_int ?_
    refine we_pow ?_
    refine we_add ?_
    refine we_ix ?_
    refine wv_name 0 rfl (.inl rfl) rfl ?_
    refine we_int ?_
    refine ⟨_, _, _, rfl, rfl, rfl, ?_⟩
    refine we_mul ?_
    refine we_int ?_
    refine we_ix ?_
    refine wv_name 0 rfl (.inl rfl) rfl ?_
    refine we_int ?_
    refine ⟨_, _, _, rfl, rfl, rfl, ?_⟩
    refine ⟨_, _, rfl, rfl, cmul_of (j := 29) Bd.lit hcc, ?_⟩
    refine ⟨_, _, rfl, rfl, ?_⟩
    refine we_int ?_
    refine ⟨_, _, rfl, rfl, cpow_of (hbb.add ((Bd.lit (k := 29)).mul hcc)) (by decide) (by decide), ?_⟩
    refine .inl ⟨_, rfl, ?_⟩
    refine we_add ?_
    refine we_pow ?_
    refine we_int ?_
    refine we_int ?_
    refine ⟨_, _, rfl, rfl, ⟨by decide, by decide⟩, ?_⟩
    refine we_int ?_
    refine ⟨_, _, rfl, rfl, ?_⟩
    refine ⟨_, _, rfl, rfl, by decide +kernel, ?_⟩
    change WSs _ _ [_, _, _, _] [_] _
    refine wss_cons ?_
    refine ws_set 3 sc.nd rfl (.inl rfl) ?_
    refine we_mod ?_
    refine we_int1 m_int ?_
    refine we_pow ?_
    refine we_add ?_
    refine we_name 3 rfl (.inl rfl) rfl ?_
    refine we_mul ?_
    refine we_mul ?_
    refine we_int ?_
    refine we_ix ?_
    refine wv_name 0 rfl (.inl rfl) rfl ?_
    refine we_int ?_
    refine ⟨_, _, _, rfl, rfl, rfl, ?_⟩
    refine ⟨_, _, rfl, rfl, cmul_of (j := 30) Bd.lit hcc, ?_⟩
    refine we_ix ?_
    refine wv_name 0 rfl (.inl rfl) rfl ?_
    refine we_int ?_
    refine ⟨_, _, _, rfl, rfl, rfl, ?_⟩
    refine ⟨_, _, rfl, rfl, cmul_of ((Bd.lit (k := 30)).mul hcc) hcc, ?_⟩
    refine ⟨_, _, rfl, rfl, ?_⟩
    refine we_int ?_
    refine ⟨_, _, rfl, rfl, cpow_of ((Bd.mod (k := 143) (by decide +kernel) (by decide +kernel)).add (((Bd.lit (k := 30)).mul hcc).mul hcc)) (by decide) (by decide), ?_⟩
    refine .inl ⟨_, rfl, ?_⟩
    refine we_add ?_
    refine we_pow ?_
    refine we_int ?_
    refine we_int ?_
    refine ⟨_, _, rfl, rfl, ⟨by decide, by decide⟩, ?_⟩
    refine we_int ?_
    refine ⟨_, _, rfl, rfl, ?_⟩
    refine ⟨_, _, rfl, rfl, by decide +kernel, ?_⟩
    change WSs _ _ [_, _, _, _] [_] _
    refine wss_one ?_
    refine ws_ret ?_
    refine we_mod ?_
    refine we_int1 m_int ?_
    refine we_fdiv ?_
    refine we_name 3 rfl (.inl rfl) rfl ?_
    refine we_pow ?_
    refine we_int ?_
    refine we_int ?_
    refine ⟨_, _, rfl, rfl, ⟨by decide, by decide⟩, ?_⟩
    refine ⟨_, _, rfl, rfl, cdiv_of (k := 24) (by decide +kernel) Bd.lit, ?_⟩
    refine .inl ⟨_, rfl, ?_⟩
    refine we_name 1 rfl (.inl rfl) rfl ?_
    refine ⟨_, _, rfl, rfl, by omega, ?_⟩
    exact ⟨Nat.le_refl _, .inl ⟨_, rfl, kq _ _ (Int.emod_nonneg _ (by omega)) (Int.emod_lt_of_pos _ hl0) ⟨_, _, _, rfl, ha0, ha, hb0, hb1, by omega, by omega⟩⟩⟩
end
section
variable {P : Program} {w : World} {K : PySem.W.Frag} {mg : Str → Option Value} {base : Heap}
theorem ok_l_well {f : Addr} {fd : FuncData} (F : Fun K "_law_well" "_law_well" s_l_well f fd) (m_len : mg "len" = none) (m_int : mg "int" = none) (m_max : mg "max" = none) : FnOk P w K mg base CX0 1 f fd ["_law_script", "_law_place"] (toSp K spWell) := by
  have sc := sc_l_well
  refine fn_pp F sc (fun pvs m q h => ?_) (fun cdv A outer s H E hr pvs m q h => ?_)
  · obtain ⟨_, _, rfl, _⟩ := h
    rfl
  obtain ⟨ns, i, rfl, rfl, hns, hi, kq⟩ := h
  have hp1 : (10 : Int) ^ (18 : Int).toNat = 10 ^ 18 := rfl
  change WSs _ _ [_, _, _] [] _
  refine wss_cons ?_
  refine ws_set 2 sc.nd rfl (.inl rfl) ?_
  refine we_int ?_
  change WSs _ _ [_, _, _] [] _
  refine wss_cons ?_
  refine ws_if ?_
  refine wt_lt ?_
  refine we_name 1 rfl (.inl rfl) rfl ?_
  refine we_len m_len ?_
  refine wv_name 0 rfl (.inl rfl) rfl ?_
  refine ⟨_, rfl, ?_⟩
  refine ⟨_, _, rfl, rfl, ?_⟩
  refine ⟨fun hif1 => ?_, fun hif1 => ?_⟩
  ·
    have hlt : i < ns.length := by simpa using hif1
    have hbd : Bd 1048577 (ns[i]) := bits_bd (hns _ (List.getElem_mem _))
    change WSs _ _ [_, _, _] [] _
    refine wss_one ?_
    refine ws_set 2 sc.nd rfl (.inl rfl) ?_
    refine we_int1 m_int ?_
    refine we_ix ?_
    refine wv_name 0 rfl (.inl rfl) rfl ?_
    refine we_name 1 rfl (.inl rfl) rfl ?_
    refine ⟨_, _, .int ns[i], rfl, rfl, atI_nat (by rw [List.getElem?_map, List.getElem?_eq_getElem hlt]; rfl), ?_⟩
    refine .inl ⟨_, rfl, ?_⟩
    change WSs _ _ [_, _, _] [] _
    refine wss_one ?_
    refine ws_retF ?_
    refine wf_lst ?_
    refine wd_cons ?_
    refine we_max2 rfl m_max ?_
    refine we_int ?_
    refine we_sub ?_
    refine we_name 2 rfl (.inl rfl) rfl ?_
    refine we_pow ?_
    refine we_int ?_
    refine we_int ?_
    refine ⟨_, _, rfl, rfl, ⟨by decide, by decide⟩, ?_⟩
    refine ⟨_, _, rfl, rfl, ?_⟩
    refine ⟨_, _, rfl, rfl, ?_⟩
    refine wd_cons ?_
    refine we_add ?_
    refine we_add ?_
    refine we_mod ?_
    refine we_int1 m_int ?_
    refine we_name 2 rfl (.inl rfl) rfl ?_
    refine .inl ⟨_, rfl, ?_⟩
    refine we_add ?_
    refine we_pow ?_
    refine we_int ?_
    refine we_int ?_
    refine ⟨_, _, rfl, rfl, ⟨by decide, by decide⟩, ?_⟩
    refine we_int ?_
    refine ⟨_, _, rfl, rfl, ?_⟩
    refine ⟨_, _, rfl, rfl, by decide +kernel, ?_⟩
    refine we_mul ?_
    refine we_int ?_
    refine we_name 1 rfl (.inl rfl) rfl ?_
    refine ⟨_, _, rfl, rfl, cmul_of (j := 27) Bd.lit (Bd.of (k := 20) (by omega) (by omega)), ?_⟩
    refine ⟨_, _, rfl, rfl, ?_⟩
    refine we_int ?_
    refine ⟨_, _, rfl, rfl, ?_⟩
    refine wd_cons ?_
    refine we_int ?_
    refine wd_nil ?_
    refine ⟨szl (by simp), ?_⟩
    exact ⟨Nat.zero_le _, .inr (.inr ⟨_, _, rfl, Nat.le_refl _, rfl, kq _ (wl_new hbd (by omega))⟩)⟩
  ·
    have hbd : Bd 1048577 0 := Bd.lit
    refine wss_nil ?_
    change WSs _ _ [_, _, _] [] _
    refine wss_one ?_
    refine ws_retF ?_
    refine wf_lst ?_
    refine wd_cons ?_
    refine we_max2 rfl m_max ?_
    refine we_int ?_
    refine we_sub ?_
    refine we_name 2 rfl (.inl rfl) rfl ?_
    refine we_pow ?_
    refine we_int ?_
    refine we_int ?_
    refine ⟨_, _, rfl, rfl, ⟨by decide, by decide⟩, ?_⟩
    refine ⟨_, _, rfl, rfl, ?_⟩
    refine ⟨_, _, rfl, rfl, ?_⟩
    refine wd_cons ?_
    refine we_add ?_
    refine we_add ?_
    refine we_mod ?_
    refine we_int1 m_int ?_
    refine we_name 2 rfl (.inl rfl) rfl ?_
    refine .inl ⟨_, rfl, ?_⟩
    refine we_add ?_
    refine we_pow ?_
    refine we_int ?_
    refine we_int ?_
    refine ⟨_, _, rfl, rfl, ⟨by decide, by decide⟩, ?_⟩
    refine we_int ?_
    refine ⟨_, _, rfl, rfl, ?_⟩
    refine ⟨_, _, rfl, rfl, by decide +kernel, ?_⟩
    refine we_mul ?_
    refine we_int ?_
    refine we_name 1 rfl (.inl rfl) rfl ?_
    refine ⟨_, _, rfl, rfl, cmul_of (j := 27) Bd.lit (Bd.of (k := 20) (by omega) (by omega)), ?_⟩
    refine ⟨_, _, rfl, rfl, ?_⟩
    refine we_int ?_
    refine ⟨_, _, rfl, rfl, ?_⟩
    refine wd_cons ?_
    refine we_int ?_
    refine wd_nil ?_
    refine ⟨szl (by simp), ?_⟩
    exact ⟨Nat.zero_le _, .inr (.inr ⟨_, _, rfl, Nat.le_refl _, rfl, kq _ (wl_new hbd (by omega))⟩)⟩
end
section
variable {P : Program} {w : World} {K : PySem.W.Frag} {mg : Str → Option Value} {base : Heap}
theorem ok_l_ring {f : Addr} {fd : FuncData} (F : Fun K "_law_ring" "_law_ring" s_l_ring f fd) (m_range : mg "range" = none) : FnOk P w K mg base CX0 1 f fd ["_law_up", "_law_down"] (toSp K spRing) := by
  have sc := sc_l_ring
  refine fn_pp F sc (fun pvs m q h => ?_) (fun cdv A outer s H E hr pvs m q h => ?_)
  · obtain ⟨_, _, rfl, _⟩ := h
    rfl
  obtain ⟨u, d, rfl, rfl, hu0, hu1, hd0, hd1, kq⟩ := h
  change WSs _ _ [_, _, _] [] _
  refine wss_one ?_
  refine ws_retF ?_
  refine wf_cat ?_
  refine wv_we ?_
  refine we_wf ?_
  refine wf_lc [("_law_at", 2)] (.nm 2) rfl sc.nd (blkOk_by (own := [("_law_at", 2)]) (N := ["_law_up", "_law_down", "_law_at"]) (by rfl)) (fun _ _ _ _ _ => pg_nm sc.nd rfl (.inl rfl) (.inr rfl)) (by decide) ?_
  refine wi_rng1 m_range ?_
  refine we_name 0 rfl (.inl rfl) rfl ?_
  refine ⟨_, rfl, by omega, by omega, ?_⟩
  refine lcP (szl (by (first | omega | (rw [rgD_len]; omega) | (rw [rgD3_len]; omega) | (simp only [List.length_append, List.length_cons, List.length_nil, List.length_set, List.length_map, List.length_range, rgD_len, rgD3_len, enD_len]; omega) | omega | decide))) trivial (fun i => .tuple [.int 0, .int (0 + (i : Nat))]) (fun i x hx => ?_) ?_
  ·
    obtain ⟨hi, rfl⟩ := rgD_get hx
    refine ⟨_, rfl, ?_⟩
    intro sb Hb Cb clb fpb
    refine we_tup ?_
    refine wd_cons ?_
    refine we_int ?_
    refine wd_cons ?_
    refine we_name 2 rfl (.inl rfl) rfl ?_
    refine wd_nil ?_
    refine ⟨szl (by simp), ?_⟩
    exact ⟨rfl, rfl⟩
  refine wv_we ?_
  refine we_wf ?_
  refine wf_lc [("_law_at", 2)] (.nm 2) rfl sc.nd (blkOk_by (own := [("_law_at", 2)]) (N := ["_law_up", "_law_down", "_law_at"]) (by rfl)) (fun _ _ _ _ _ => pg_nm sc.nd rfl (.inl rfl) (.inr rfl)) (by decide) ?_
  refine wi_rng3 m_range ?_
  refine we_sub ?_
  refine we_name 1 rfl (.inl rfl) rfl ?_
  refine we_int ?_
  refine ⟨_, _, rfl, rfl, ?_⟩
  refine we_neg ?_
  refine we_int ?_
  refine ⟨_, rfl, ?_⟩
  refine we_neg ?_
  refine we_int ?_
  refine ⟨_, rfl, ?_⟩
  refine ⟨_, _, _, _, rfl, rfl, rfl, RgC.neg (by omega) (by omega) (by omega) (by omega), ?_⟩
  refine lcP (szl (by (first | omega | (rw [rgD_len]; omega) | (rw [rgD3_len]; omega) | (simp only [List.length_append, List.length_cons, List.length_nil, List.length_set, List.length_map, List.length_range, rgD_len, rgD3_len, enD_len]; omega) | omega | decide))) trivial (fun i => .tuple [.int 1, .int (d - 1 + (i : Nat) * -1)]) (fun i x hx => ?_) ?_
  ·
    obtain ⟨hi, rfl⟩ := rgD3_get hx
    refine ⟨_, rfl, ?_⟩
    intro sb Hb Cb clb fpb
    refine we_tup ?_
    refine wd_cons ?_
    refine we_int ?_
    refine wd_cons ?_
    refine we_name 2 rfl (.inl rfl) rfl ?_
    refine wd_nil ?_
    refine ⟨szl (by simp), ?_⟩
    exact ⟨rfl, rfl⟩
  refine ⟨_, _, rfl, rfl, szl (by (first | omega | (rw [rgD_len]; omega) | (rw [rgD3_len]; omega) | (simp only [List.length_append, List.length_cons, List.length_nil, List.length_set, List.length_map, List.length_range, rgD_len, rgD3_len, enD_len]; omega) | omega | decide)), ?_⟩
  refine ⟨Nat.zero_le _, .inr (.inr ⟨_, _, rfl, Nat.le_refl _, rfl, ?_⟩)⟩
  have e : ringD u d = _ := rfl
  rw [rgD_len, rgD3_len, show (u - 0).toNat = u.toNat by omega, show (d - 1 - -1).toNat = d.toNat by omega]
  exact kq
end
section
variable {P : Program} {w : World} {K : PySem.W.Frag} {mg : Str → Option Value} {base : Heap}
theorem ok_l_counts {f : Addr} {fd : FuncData} (F : Fun K "_law_counts" "_law_counts" s_l_counts f fd) {f__law_draw : Addr} {fd__law_draw : FuncData} (F__law_draw : FnOk P w K mg base CX0 1 f__law_draw fd__law_draw ["_law_well_here", "_law_limit"] (toSp K spDraw)) (m__law_draw : mg "_law_draw" = some (.ref f__law_draw)) (k__law_draw : PySem.W.keepIn K (.ref f__law_draw) = true) (b__law_draw : Binds K fd__law_draw ["_law_well_here", "_law_limit"] []) (m_int : mg "int" = none) : FnOk P w K mg base CX0 2 f fd ["_law_well_here", "_law_most"] (toSp K spCounts) := by
  have sc := sc_l_counts
  refine fn_pp F sc (fun pvs m q h => ?_) (fun cdv A outer s H E hr pvs m q h => ?_)
  · first | (obtain ⟨_, _, rfl, _⟩ := h; rfl) | (obtain ⟨_, _, _, rfl, _⟩ := h; rfl) | (obtain ⟨_, _, _, _, rfl, _⟩ := h; rfl) | (obtain ⟨_, _, _, _, _, rfl, _⟩ := h; rfl) | (obtain ⟨_, _, _, _, _, _, rfl, _⟩ := h; rfl) | (obtain ⟨_, rfl, _⟩ := h; rfl)
  obtain ⟨xs, n, k, rfl, rfl, hw, hn, hk0, hk1, kq⟩ := h
  change WSs _ _ [_, _, _, _, _] [_] _
  refine wss_cons ?_
  refine ws_set 2 sc.nd rfl (.inl rfl) ?_
  refine we_add ?_
  refine we_int ?_
  refine we_call [0] F__law_draw (hr.mono (by omega)) m__law_draw k__law_draw b__law_draw ?_
  refine wa_cons ?_
  refine wv_name 0 rfl (.inl rfl) rfl ?_
  refine wa_d ?_
  refine we_fdiv ?_
  refine we_name 1 rfl (.inl rfl) rfl ?_
  refine we_int ?_
  refine ⟨_, _, rfl, rfl, cdiv_of (k := 2) (by decide) Bd.lit, ?_⟩
  refine wa_nil ?_
  refine ⟨by decide, by (simp [setAll_len, setAll_nil]), by (simp [refsIn, setAll_len, setAll_nil, permL]), _, _, _, rfl, rfl, hw, by omega, by (omega), by (omega), fun r1 xs1 hr1a hr1b hw1 => ⟨_, rfl, rfl, ?_⟩⟩
  refine ⟨_, _, rfl, rfl, ?_⟩
  change WSs _ _ [_, _, _, _, _] [_] _
  refine wss_cons ?_
  refine ws_set 3 sc.nd rfl (.inl rfl) ?_
  refine we_call [0] F__law_draw (hr.mono (by omega)) m__law_draw k__law_draw b__law_draw ?_
  refine wa_cons ?_
  refine wv_name 0 rfl (.inl rfl) rfl ?_
  refine wa_d ?_
  refine we_int ?_
  refine wa_nil ?_
  refine ⟨by decide, by (simp [setAll_len, setAll_nil]), by (simp [refsIn, setAll_len, setAll_nil, permL]), _, _, _, rfl, rfl, hw1, by omega, by (omega), by (omega), fun r2 xs2 hr2a hr2b hw2 => ⟨_, rfl, rfl, ?_⟩⟩
  change WSs _ _ [_, _, _, _, _] [_] _
  refine wss_cons ?_
  refine ws_if ?_
  refine wt_lt ?_
  refine we_name 3 rfl (.inl rfl) rfl ?_
  refine we_int ?_
  refine ⟨_, _, rfl, rfl, ?_⟩
  refine ⟨fun hif1 => ?_, fun hif1 => ?_⟩
  ·
    change WSs _ _ [_, _, _, _, _] [_] _
    refine wss_one ?_
    refine ws_ret ?_
    refine we_tup ?_
    refine wd_cons ?_
    refine we_name 2 rfl (.inl rfl) rfl ?_
    refine wd_cons ?_
    refine we_name 2 rfl (.inl rfl) rfl ?_
    refine wd_nil ?_
    refine ⟨szl (by simp), ?_⟩
    exact ⟨Nat.le_refl _, .inl ⟨_, rfl, kq _ _ _ (by omega) (by omega) (by omega) (by omega) (by omega) (hw2.mono (by omega))⟩⟩
  ·
    refine wss_nil ?_
    change WSs _ _ [_, _, _, _, _] [_] _
    refine wss_cons ?_
    refine ws_set 4 sc.nd rfl (.inl rfl) ?_
    refine we_call [0] F__law_draw (hr.mono (by omega)) m__law_draw k__law_draw b__law_draw ?_
    refine wa_cons ?_
    refine wv_name 0 rfl (.inl rfl) rfl ?_
    refine wa_d ?_
    refine we_add ?_
    refine we_mul ?_
    refine we_int ?_
    refine we_name 2 rfl (.inl rfl) rfl ?_
    refine ⟨_, _, rfl, rfl, cmul_of (j := 12) (k := 12) (Bd.of (by omega) (by omega)) (Bd.of (by omega) (by omega)), ?_⟩
    refine we_int ?_
    refine ⟨_, _, rfl, rfl, ?_⟩
    refine wa_nil ?_
    refine ⟨by decide, by (simp [setAll_len, setAll_nil]), by (simp [refsIn, setAll_len, setAll_nil, permL]), _, _, _, rfl, rfl, hw2, by omega, by (omega), by (omega), fun r3 xs3 hr3a hr3b hw3 => ⟨_, rfl, rfl, ?_⟩⟩
    change WSs _ _ [_, _, _, _, _] [_] _
    refine wss_cons ?_
    refine ws_if ?_
    refine wt_eqI ?_
    refine we_name 3 rfl (.inl rfl) rfl ?_
    refine we_int ?_
    refine ⟨_, _, rfl, rfl, ?_⟩
    refine ⟨fun hif2 => ?_, fun hif2 => ?_⟩
    ·
      change WSs _ _ [_, _, _, _, _] [_] _
      refine wss_one ?_
      refine ws_set 4 sc.nd rfl (.inl rfl) ?_
      refine we_mul ?_
      refine we_mul ?_
      refine we_int ?_
      refine we_name 2 rfl (.inl rfl) rfl ?_
      refine ⟨_, _, rfl, rfl, cmul_of (j := 12) (k := 12) (Bd.of (by omega) (by omega)) (Bd.of (by omega) (by omega)), ?_⟩
      refine we_int1 m_int ?_
      refine we_gt ?_
      refine we_name 4 rfl (.inl rfl) rfl ?_
      refine we_name 2 rfl (.inl rfl) rfl ?_
      refine ⟨_, _, rfl, rfl, ?_⟩
      refine .inr ⟨_, rfl, ?_⟩
      refine ⟨_, _, rfl, rfl, cmul_of (j := 12) (k := 12) (Bd.of (by omega) (by omega)) (Bd.of (by omega) (by omega)), ?_⟩
      change WSs _ _ [_, _, _, _, _] [_] _
      refine wss_one ?_
      refine ws_ret ?_
      refine we_tup ?_
      refine wd_cons ?_
      refine we_name 4 rfl (.inl rfl) rfl ?_
      refine wd_cons ?_
      refine we_sub ?_
      refine we_mul ?_
      refine we_int ?_
      refine we_name 2 rfl (.inl rfl) rfl ?_
      refine ⟨_, _, rfl, rfl, cmul_of (j := 12) (k := 12) (Bd.of (by omega) (by omega)) (Bd.of (by omega) (by omega)), ?_⟩
      refine we_name 4 rfl (.inl rfl) rfl ?_
      refine ⟨_, _, rfl, rfl, ?_⟩
      refine wd_nil ?_
      refine ⟨szl (by simp), ?_⟩
      refine ⟨Nat.le_refl _, .inl ⟨_, rfl, kq _ _ _ ?_ ?_ ?_ ?_ ?_ (hw3.mono (by omega))⟩⟩ <;> split <;> omega
    ·
      refine wss_nil ?_
      change WSs _ _ [_, _, _, _, _] [_] _
      refine wss_one ?_
      refine ws_ret ?_
      refine we_tup ?_
      refine wd_cons ?_
      refine we_name 4 rfl (.inl rfl) rfl ?_
      refine wd_cons ?_
      refine we_sub ?_
      refine we_mul ?_
      refine we_int ?_
      refine we_name 2 rfl (.inl rfl) rfl ?_
      refine ⟨_, _, rfl, rfl, cmul_of (j := 12) (k := 12) (Bd.of (by omega) (by omega)) (Bd.of (by omega) (by omega)), ?_⟩
      refine we_name 4 rfl (.inl rfl) rfl ?_
      refine ⟨_, _, rfl, rfl, ?_⟩
      refine wd_nil ?_
      refine ⟨szl (by simp), ?_⟩
      exact ⟨Nat.le_refl _, .inl ⟨_, rfl, kq _ _ _ (by omega) (by omega) (by omega) (by omega) (by omega) (hw3.mono (by omega))⟩⟩
end
section
variable {P : Program} {w : World} {K : PySem.W.Frag} {mg : Str → Option Value} {base : Heap}
theorem ok_l_same {f : Addr} {fd : FuncData} (F : Fun K "_law_same" "_law_same" s_l_same f fd) (m__law_same : mg "_law_same" = some (.ref f)) (k__law_same : PySem.W.keepIn K (.ref f) = true) (b__law_same : Binds K fd ["_law_found", "_law_due"] []) (m_isinstance : mg "isinstance" = none) (m_str : mg "str" = none) (m_list : mg "list" = none) (m_tuple : mg "tuple" = none) (m_zip : mg "zip" = none) (m_bool : mg "bool" = none) (m_int : mg "int" = none) (m_len : mg "len" = none) : ∀ n : Nat, FnOk P w K mg base CX0 (n + 1) f fd ["_law_found", "_law_due"] (toSp K (spSame n)) := by
  intro n
  induction n using Nat.strongRecOn with
  | _ n ih =>
  have sc := sc_l_same
  refine fn_pp F sc (fun pvs m q h => ?_) (fun cdv A outer s H E hr pvs m q h => ?_)
  · obtain ⟨_, rfl, _⟩ := h
    rfl
  obtain ⟨d, rfl, rfl, hD, kq⟩ := h
  change WSs _ _ [_, _, _, _] [] _
  refine wss_cons ?_
  refine ws_if ?_
  refine wt_isNone ?_
  refine we_name 1 rfl (.inl rfl) rfl ?_
  refine we_none ?_
  refine ⟨rfl, ?_⟩
  refine ⟨fun hif1 => ?_, fun hif1 => ?_⟩
  ·
    have e1 : isNoneD d = true := hif1
    change WSs _ _ [_, _, _, _] [] _
    refine wss_one ?_
    refine ws_ret ?_
    refine we_isNone ?_
    refine we_name 0 rfl (.inl rfl) rfl ?_
    refine we_none ?_
    refine ⟨rfl, ?_⟩
    rw [e1]
    exact ⟨Nat.zero_le _, .inl ⟨_, rfl, kq⟩⟩
  ·
    refine wss_nil ?_
    change WSs _ _ [_, _, _, _] [] _
    refine wss_cons ?_
    refine ws_if ?_
    refine wt_val ?_
    refine we_isinst2 (S := "list") (T := "tuple") m_isinstance m_list m_tuple (by decide +kernel) (by decide +kernel) ?_
    refine we_name 1 rfl (.inl rfl) rfl ?_
    refine ⟨_, _, kit_list, kit_tuple, ?_⟩
    refine ⟨_, rfl, ?_⟩
    refine ⟨fun hif2 => ?_, fun hif2 => ?_⟩
    ·
      obtain ⟨j, xs, rfl, hx, hxs⟩ := dq_seq hD hif2
      have F__law_same := ih j (by omega)
      change WSs _ _ [_, _, _, _] [] _
      refine wss_cons ?_
      refine ws_if ?_
      apply VT.use
      ·
        apply VW.vt
        apply vw_or
        ·
          apply vt_not
          intro Q hQ
          refine wt_val ?_
          refine we_isinst2 (S := "list") (T := "tuple") m_isinstance m_list m_tuple (by decide +kernel) (by decide +kernel) ?_
          refine we_name 0 rfl (.inl rfl) rfl ?_
          refine ⟨_, _, kit_list, kit_tuple, ?_⟩
          refine ⟨_, rfl, ?_⟩
          exact hQ
        intro hg1
        apply vw_or1
        intro Q hQ
        refine wt_ne (by (first | exact hr.units | exact units65 hr | exact units1 hr)) ?_
        refine we_isinst (T := "list") m_isinstance m_list (by decide +kernel) ?_
        refine we_name 0 rfl (.inl rfl) rfl ?_
        refine ⟨_, kit_list, ?_⟩
        refine we_isinst (T := "list") m_isinstance m_list (by decide +kernel) ?_
        refine we_name 1 rfl (.inl rfl) rfl ?_
        refine ⟨_, kit_list, ?_⟩
        refine ⟨by (first | rfl | assumption), by (first | rfl | assumption), ?_⟩
        exact hQ
      refine ⟨fun hif3 => ?_, fun hif3 => ?_⟩
      ·
        exfalso
        rw [hif2] at hif3
        have h9 : (!true || !(isT "list" d == isT "list" d)) = true := hif3
        simp at h9 --done
      ·
        refine wss_nil ?_
        change WSs _ _ [_, _, _, _] [] _
        refine wss_cons ?_
        refine ws_if ?_
        refine wt_neI ?_
        refine we_len m_len ?_
        refine wv_name 0 rfl (.inl rfl) rfl ?_
        refine ⟨_, seq_of hx _, ?_⟩
        refine we_len m_len ?_
        refine wv_name 1 rfl (.inl rfl) rfl ?_
        refine ⟨_, seq_of hx _, ?_⟩
        refine ⟨_, _, rfl, rfl, ?_⟩
        refine ⟨fun hif4 => ?_, fun hif4 => ?_⟩
        ·
          exfalso
          simp at hif4 --done
        ·
          refine wss_nil ?_
          change WSs _ _ [_, _, _, _] [] _
          refine wss_cons ?_
          refine ws_for PassesOwn.never rfl ?_
          refine wi_zip m_zip ?_
          refine we_name 0 rfl (.inl rfl) rfl ?_
          refine we_name 1 rfl (.inl rfl) rfl ?_
          refine ⟨xs, xs, hx.imp (fun h => ⟨h, h⟩) (fun h => ⟨h, h⟩), ?_⟩
          refine ⟨fun i L m => ∃ y2 y3, L = [some (.d d), some (.d d), y2, y3] ∧ m = [], ?_, fun i x L m hx2 hI => ?_, fun L m hI => ?_⟩
          ·
            exact ⟨_, _, rfl, rfl⟩
          ·
            obtain ⟨y2, y3, rfl, rfl⟩ := hI
            obtain ⟨z, z2, hz, hz2, rfl⟩ := zipD_get hx2
            rw [hz] at hz2
            cases hz2
            refine ⟨trivial, ?_⟩
            refine wg_tup rfl ?_
            refine ⟨_, rfl, rfl, ?_⟩
            refine wgn_cons ?_
            refine wg_name 2 sc.nd rfl (.inl rfl) ?_
            refine wgn_cons ?_
            refine wg_name 3 sc.nd rfl (.inl rfl) ?_
            refine wgn_nil ?_
            change WSs _ _ [_, _, _, _] [] _
            refine wss_one ?_
            refine ws_if ?_
            refine wt_not ?_
            refine wt_val ?_
            refine we_call [] F__law_same (hr.mono (by omega)) m__law_same k__law_same b__law_same ?_
            refine wa_d ?_
            refine we_name 2 rfl (.inl rfl) rfl ?_
            refine wa_d ?_
            refine we_name 3 rfl (.inl rfl) rfl ?_
            refine wa_nil ?_
            refine ⟨by decide, by (simp [setAll_len, setAll_nil]), by (simp [refsIn, setAll_len, setAll_nil, permL]), z, rfl, rfl, hxs z (List.mem_of_getElem? hz), _, rfl, rfl, ?_⟩
            refine ⟨_, rfl, ?_⟩
            refine ⟨fun hif5 => ?_, fun hif5 => ?_⟩
            ·
              exfalso
              cases hif5 --done
            ·
              refine wss_nil ?_
              exact ⟨_, _, .same (by (repeat (first | exact WkL.nil | refine WkL.kd ?_ | (refine WkL.kr ?_ ?_; focus (simp [setAll_len, setAll_nil]; done)) | refine WkL.kw ?_ | refine WkL.drop ?_))) (by simp), _, _, rfl, rfl⟩
          obtain ⟨y2, y3, rfl, rfl⟩ := hI
          refine ⟨trivial, ?_⟩
          change WSs _ _ [_, _, _, _] [] _
          refine wss_one ?_
          refine ws_ret ?_
          refine we_bool ?_
          exact ⟨Nat.zero_le _, .inl ⟨_, rfl, kq⟩⟩
    ·
      obtain ⟨h1, h2, h3⟩ := dq_sc hD hif2
      have hs : shp d := Sd.shp (n := 64) ⟨h2, h3⟩
      have he : PyData.eqv d d = true := SeqAt.eqv_refl d h2
      refine wss_nil ?_
      change WSs _ _ [_, _, _, _] [] _
      refine wss_cons ?_
      refine ws_if ?_
      refine wt_val ?_
      refine we_isinst (T := "str") m_isinstance m_str (by decide +kernel) ?_
      refine we_name 1 rfl (.inl rfl) rfl ?_
      refine ⟨_, kit_str, ?_⟩
      refine ⟨_, rfl, ?_⟩
      refine ⟨fun hif6 => ?_, fun hif6 => ?_⟩
      ·
        change WSs _ _ [_, _, _, _] [] _
        refine wss_one ?_
        refine ws_ret ?_
        apply VE.use
        ·
          apply ve_and
          ·
            intro Q hQ
            refine we_isinst (T := "str") m_isinstance m_str (by decide +kernel) ?_
            refine we_name 0 rfl (.inl rfl) rfl ?_
            refine ⟨_, kit_str, ?_⟩
            exact hQ
          intro hg2
          apply ve_one
          intro Q hQ
          refine we_eq (by (first | exact hr.units | exact units65 hr | exact units1 hr)) ?_
          refine we_name 0 rfl (.inl rfl) rfl ?_
          refine we_name 1 rfl (.inl rfl) rfl ?_
          refine ⟨hs, hs, ?_⟩
          exact hQ
        rw [hif6, he]
        exact ⟨Nat.zero_le _, .inl ⟨_, rfl, kq⟩⟩
      ·
        refine wss_nil ?_
        change WSs _ _ [_, _, _, _] [] _
        refine wss_cons ?_
        refine ws_if ?_
        refine wt_ne (by (first | exact hr.units | exact units65 hr | exact units1 hr)) ?_
        refine we_isinst (T := "bool") m_isinstance m_bool (by decide +kernel) ?_
        refine we_name 0 rfl (.inl rfl) rfl ?_
        refine ⟨_, kit_bool, ?_⟩
        refine we_isinst (T := "bool") m_isinstance m_bool (by decide +kernel) ?_
        refine we_name 1 rfl (.inl rfl) rfl ?_
        refine ⟨_, kit_bool, ?_⟩
        refine ⟨by (first | rfl | assumption), by (first | rfl | assumption), ?_⟩
        refine ⟨fun hif7 => ?_, fun hif7 => ?_⟩
        ·
          exfalso
          have h9 : (!(isT "bool" d == isT "bool" d)) = true := hif7
          simp at h9 --done
        ·
          refine wss_nil ?_
          change WSs _ _ [_, _, _, _] [] _
          refine wss_one ?_
          refine ws_ret ?_
          apply VE.use
          ·
            apply ve_and
            ·
              intro Q hQ
              refine we_isinst (T := "int") m_isinstance m_int (by decide +kernel) ?_
              refine we_name 0 rfl (.inl rfl) rfl ?_
              refine ⟨_, kit_int, ?_⟩
              exact hQ
            intro hg3
            apply ve_one
            intro Q hQ
            refine we_eq (by (first | exact hr.units | exact units65 hr | exact units1 hr)) ?_
            refine we_name 0 rfl (.inl rfl) rfl ?_
            refine we_name 1 rfl (.inl rfl) rfl ?_
            refine ⟨hs, hs, ?_⟩
            exact hQ
          have h9 : (isT "int" d || isT "bool" d) = true := by
            cases d <;> first | (simp only [isT, tyD]; decide +kernel) | (exfalso; revert hif1; decide +kernel) | (exfalso; simp only [isT, tyD] at hif6; revert hif6; decide +kernel) | (exfalso; simp only [isSc] at h1; cases h1; done)
          rw [h9, he]
          exact ⟨Nat.zero_le _, .inl ⟨_, rfl, kq⟩⟩
end
section
variable {P : Program} {w : World} {K : PySem.W.Frag} {mg : Str → Option Value} {base : Heap}
theorem ok_l_made {f : Addr} {fd : FuncData} (F : Fun K "_law_made" "_law_made" s_l_made f fd) (m_tuple : mg "tuple" = none) : FnOk P w K mg base CX0 1 f fd ["_law_up", "_law_down", "_law_pairs_here"] (toSp K MM.spMade) := by
  have sc := sc_l_made
  refine fn_pp F sc (fun pvs m q h => ?_) (fun cdv A outer s H E hr pvs m q h => ?_)
  · first | (obtain ⟨_, _, rfl, _⟩ := h; rfl) | (obtain ⟨_, _, _, rfl, _⟩ := h; rfl) | (obtain ⟨_, _, _, _, rfl, _⟩ := h; rfl) | (obtain ⟨_, _, _, _, _, rfl, _⟩ := h; rfl) | (obtain ⟨_, _, _, _, _, _, rfl, _⟩ := h; rfl) | (obtain ⟨_, rfl, _⟩ := h; rfl)
  obtain ⟨u, d, prs, rfl, rfl, hu0, hu1, hd0, hd1, hnd, hin, kq⟩ := h
  change WSs _ _ [_, _, _, _, _, _, _, _] [] _
  refine wss_cons ?_
  refine ws_setF 3 sc.nd rfl (.inl rfl) ?_
  refine wf_rep ?_
  refine wv_we ?_
  refine we_wf ?_
  refine wf_lst ?_
  refine wd_cons ?_
  refine we_int ?_
  refine wd_nil ?_
  refine ⟨szl (by simp), ?_⟩
  refine we_add ?_
  refine we_name 0 rfl (.inl rfl) rfl ?_
  refine we_name 1 rfl (.inl rfl) rfl ?_
  refine ⟨_, _, rfl, rfl, ?_⟩
  refine ⟨_, _, rfl, rfl, by omega, by omega, szl (by simp; omega), ?_⟩
  change WSs _ _ [_, _, _, _, _, _, _, _] [_] _
  refine wss_cons ?_
  refine ws_for PassesOwn.never rfl ?_
  refine wi_list ?_
  refine wv_name 2 rfl (.inl rfl) rfl ?_
  refine ⟨_, rfl, ?_⟩
  refine ⟨fun i L m => ∃ (ns : List Int) (y4 y5 y6 y7 : Option PV), L = [some (.d (.int u)), some (.d (.int d)), some (.d (.list (prs.map (MM.pairD u)))), some (.ref 0), y4, y5, y6, y7] ∧ m = [some (.lst (ns.map .int))] ∧ (ns.length : Int) = u + d ∧ MM.Row (prs.take i) ns, ?_, fun i x L m hx hI => ?_, fun L m hI => ?_⟩
  ·
    exact ⟨List.replicate (u + d).toNat 0, none, none, none, none, rfl, by rw [rep_ints], by rw [List.length_replicate]; omega, MM.row_nil⟩
  ·
    obtain ⟨ns, y4, y5, y6, y7, rfl, rfl, hl, hrow⟩ := hI
    obtain ⟨p, hp, rfl⟩ := MM.map_get hx
    have hpm := List.mem_of_getElem? hp
    have a1 := hin _ (MM.mem_ends.mpr ⟨p, hpm, .inl rfl⟩)
    have a2 := hin _ (MM.mem_ends.mpr ⟨p, hpm, .inr rfl⟩)
    obtain ⟨s1, i1, e1, f1, g1, g2, g3⟩ := MM.pegD_at a1.1 a1.2
    obtain ⟨s2, i2, e2, f2, g4, g5, g6⟩ := MM.pegD_at a2.1 a2.2
    have ex : MM.pairD u p = .tuple [.tuple [.int s1, .int i1], .tuple [.int s2, .int i2]] := by unfold MM.pairD; rw [e1, e2]
    have hnext := MM.row_next hl hnd hin hp hrow
    rw [ex]
    refine ⟨rfl, ?_⟩
    refine wg_tup rfl ?_
    refine ⟨_, rfl, rfl, ?_⟩
    refine wgn_cons ?_
    refine wg_name 4 sc.nd rfl (.inl rfl) ?_
    refine wgn_cons ?_
    refine wg_name 5 sc.nd rfl (.inl rfl) ?_
    refine wgn_nil ?_
    change WSs _ _ [_, _, _, _, _, _, _, _] [_] _
    refine wss_cons ?_
    refine ws_par 6 7 rfl sc.nd rfl rfl (by decide) rfl rfl ?_
    refine wa_d ?_
    refine we_add ?_
    refine we_mul ?_
    refine we_ix ?_
    refine wv_name 4 rfl (.inl rfl) rfl ?_
    refine we_int ?_
    refine ⟨_, _, _, rfl, rfl, rfl, ?_⟩
    refine we_name 0 rfl (.inl rfl) rfl ?_
    refine ⟨_, _, rfl, rfl, cmul_of (Bd.of (k := 2) (by omega) (by omega)) (Bd.of (k := 17) (by omega) (by omega)), ?_⟩
    refine we_ix ?_
    refine wv_name 4 rfl (.inl rfl) rfl ?_
    refine we_int ?_
    refine ⟨_, _, _, rfl, rfl, rfl, ?_⟩
    refine ⟨_, _, rfl, rfl, ?_⟩
    refine wa_d ?_
    refine we_add ?_
    refine we_mul ?_
    refine we_ix ?_
    refine wv_name 5 rfl (.inl rfl) rfl ?_
    refine we_int ?_
    refine ⟨_, _, _, rfl, rfl, rfl, ?_⟩
    refine we_name 0 rfl (.inl rfl) rfl ?_
    refine ⟨_, _, rfl, rfl, cmul_of (Bd.of (k := 2) (by omega) (by omega)) (Bd.of (k := 17) (by omega) (by omega)), ?_⟩
    refine we_ix ?_
    refine wv_name 5 rfl (.inl rfl) rfl ?_
    refine we_int ?_
    refine ⟨_, _, _, rfl, rfl, rfl, ?_⟩
    refine ⟨_, _, rfl, rfl, ?_⟩
    refine wa_nil ?_
    refine ⟨_, _, rfl, ?_⟩
    rw [f1, f2]
    change WSs _ _ [_, _, _, _, _, _, _, _] [_] _
    refine wss_one ?_
    refine ws_asg ?_
    refine we_tup ?_
    refine wd_cons ?_
    refine we_name 7 rfl (.inl rfl) rfl ?_
    refine wd_cons ?_
    refine we_name 6 rfl (.inl rfl) rfl ?_
    refine wd_nil ?_
    refine ⟨szl (by simp), ?_⟩
    refine wg_tup rfl ?_
    refine ⟨_, rfl, rfl, ?_⟩
    refine wgn_cons ?_
    refine wg_sub ?_
    refine wv_name 3 rfl (.inl rfl) rfl ?_
    refine we_name 6 rfl (.inl rfl) rfl ?_
    refine ⟨_, _, _, _, rfl, rfl, rfl, ixN_of a1.1 (by rw [List.length_map]; omega), ?_⟩
    refine wgn_cons ?_
    refine wg_sub ?_
    refine wv_name 3 rfl (.inl rfl) rfl ?_
    refine we_name 7 rfl (.inl rfl) rfl ?_
    refine ⟨_, _, _, _, rfl, rfl, rfl, ixN_of a2.1 (by rw [List.length_set, List.length_map]; omega), ?_⟩
    refine wgn_nil ?_
    exact ⟨_, _, .same (by (repeat (first | exact WkL.nil | refine WkL.kd ?_ | (refine WkL.kr ?_ ?_; focus (simp [setAll_len, setAll_nil]; done)) | refine WkL.kw ?_ | refine WkL.drop ?_))) (by simp), _, _, _, _, _, rfl, by simp [List.map_set], by simpa using hl, hnext⟩
  obtain ⟨ns, y4, y5, y6, y7, rfl, rfl, hl, hrow⟩ := hI
  rw [List.length_map, List.take_length] at hrow
  refine ⟨rfl, ?_⟩
  change WSs _ _ [_, _, _, _, _, _, _, _] [_] _
  refine wss_one ?_
  refine ws_ret ?_
  refine we_tup ?_
  refine wd_cons ?_
  refine we_name 0 rfl (.inl rfl) rfl ?_
  refine wd_cons ?_
  refine we_name 1 rfl (.inl rfl) rfl ?_
  refine wd_cons ?_
  refine we_tuple1 m_tuple ?_
  refine wv_name 3 rfl (.inl rfl) rfl ?_
  refine ⟨_, rfl, ?_⟩
  refine wd_nil ?_
  refine ⟨szl (by simp), ?_⟩
  exact ⟨Nat.zero_le _, .inl ⟨_, rfl, kq ns hl hrow⟩⟩
end
section
variable {P : Program} {w : World} {K : PySem.W.Frag} {mg : Str → Option Value} {base : Heap}
theorem ok_l_pairs {f : Addr} {fd : FuncData} (F : Fun K "_law_pairs" "_law_pairs" s_l_pairs f fd) {f__law_ring : Addr} {fd__law_ring : FuncData} (F__law_ring : FnOk P w K mg base CX0 1 f__law_ring fd__law_ring ["_law_up", "_law_down"] (toSp K spRing)) (m__law_ring : mg "_law_ring" = some (.ref f__law_ring)) (k__law_ring : PySem.W.keepIn K (.ref f__law_ring) = true) (b__law_ring : Binds K fd__law_ring ["_law_up", "_law_down"] []) {f__law_draw : Addr} {fd__law_draw : FuncData} (F__law_draw : FnOk P w K mg base CX0 1 f__law_draw fd__law_draw ["_law_well_here", "_law_limit"] (toSp K spDraw)) (m__law_draw : mg "_law_draw" = some (.ref f__law_draw)) (k__law_draw : PySem.W.keepIn K (.ref f__law_draw) = true) (b__law_draw : Binds K fd__law_draw ["_law_well_here", "_law_limit"] []) (m_range : mg "range" = none) (m_len : mg "len" = none) : FnOk P w K mg base CX0 2 f fd ["_law_well_here", "_law_up", "_law_down"] (toSp K MM.spPairs) := by
  have sc := sc_l_pairs
  refine fn_pp F sc (fun pvs m q h => ?_) (fun cdv A outer s H E hr pvs m q h => ?_)
  · first | (obtain ⟨_, _, rfl, _⟩ := h; rfl) | (obtain ⟨_, _, _, rfl, _⟩ := h; rfl) | (obtain ⟨_, _, _, _, rfl, _⟩ := h; rfl) | (obtain ⟨_, _, _, _, _, rfl, _⟩ := h; rfl) | (obtain ⟨_, _, _, _, _, _, rfl, _⟩ := h; rfl) | (obtain ⟨_, rfl, _⟩ := h; rfl)
  obtain ⟨xs, n, u, d, rfl, rfl, hw, hn, hu0, hu1, hd0, hd1, hp, he, kq⟩ := h
  have hlen := MM.ringI_len hu0 hd0
  have hnd := MM.ringI_nodup hu0 hd0
  have hlm : ((MM.ringI u d).map (MM.pegD u)).length = (MM.ringI u d).length := List.length_map ..
  change WSs _ _ [_, _, _, _, _, _, _, _] [_] _
  refine wss_cons ?_
  refine ws_setF 3 sc.nd rfl (.inr rfl) ?_
  refine wf_call [] F__law_ring (hr.mono (by omega)) m__law_ring k__law_ring b__law_ring ?_
  refine wa_d ?_
  refine we_name 1 rfl (.inl rfl) rfl ?_
  refine wa_d ?_
  refine we_name 2 rfl (.inl rfl) rfl ?_
  refine wa_nil ?_
  refine ⟨by decide, by simp, by simp [refsIn], _, _, rfl, rfl, hu0, by omega, hd0, by omega, [], _, rfl, rfl, rfl, ?_⟩
  rw [MM.ringD_peg hu0 hd0]
  change WSs _ _ [_, _, _, _, _, _, _, _] [_, _] _
  refine wss_cons ?_
  refine ws_set 4 sc.nd rfl (.inl rfl) ?_
  refine we_call [0] F__law_draw (hr.mono (by omega)) m__law_draw k__law_draw b__law_draw ?_
  refine wa_cons ?_
  refine wv_name 0 rfl (.inl rfl) rfl ?_
  refine wa_d ?_
  refine we_len m_len ?_
  refine wv_name 3 rfl (.inr (.inl rfl)) rfl ?_
  refine ⟨_, rfl, ?_⟩
  refine wa_nil ?_
  refine ⟨by decide, by (simp [setAll_len, setAll_nil]), by (simp [refsIn, setAll_len, setAll_nil, permL]), _, _, _, rfl, rfl, hw, by omega, by (omega), by (omega), fun r2 xs2 hr2a hr2b hw2 => ⟨_, rfl, rfl, ?_⟩⟩
  change WSs _ _ [_, _, _, _, _, _, _, _] [_, _] _
  refine wss_cons ?_
  refine ws_if ?_
  refine wt_eqI ?_
  refine we_call [0] F__law_draw (hr.mono (by omega)) m__law_draw k__law_draw b__law_draw ?_
  refine wa_cons ?_
  refine wv_name 0 rfl (.inl rfl) rfl ?_
  refine wa_d ?_
  refine we_int ?_
  refine wa_nil ?_
  refine ⟨by decide, by (simp [setAll_len, setAll_nil]), by (simp [refsIn, setAll_len, setAll_nil, permL]), _, _, _, rfl, rfl, hw2, by omega, by (omega), by (omega), fun r3 xs3 hr3a hr3b hw3 => ⟨_, rfl, rfl, ?_⟩⟩
  refine we_int ?_
  refine ⟨_, _, rfl, rfl, ?_⟩
  refine ⟨fun hif1 => ?_, fun hif1 => ?_⟩
  ·
    change WSs _ _ [_, _, _, _, _, _, _, _] [_, _] _
    refine wss_cons ?_
    refine ws_setF 3 sc.nd rfl (.inr rfl) ?_
    refine wf_cat ?_
    refine wv_we ?_
    refine we_wf ?_
    refine wf_slice ?_
    refine wv_name 3 rfl (.inr (.inl rfl)) rfl ?_
    refine wo_some ?_
    refine we_name 4 rfl (.inl rfl) rfl ?_
    refine ⟨_, rfl, ?_⟩
    refine wo_none ?_
    refine ⟨_, rfl, ?_⟩
    refine wv_we ?_
    refine we_wf ?_
    refine wf_slice ?_
    refine wv_name 3 rfl (.inr (.inl rfl)) rfl ?_
    refine wo_none ?_
    refine wo_some ?_
    refine we_name 4 rfl (.inl rfl) rfl ?_
    refine ⟨_, rfl, ?_⟩
    refine ⟨_, rfl, ?_⟩
    refine ⟨_, _, rfl, rfl, szl ?_, ?_⟩
    · have h1 := cutD_le (xs := (MM.ringI u d).map (MM.pegD u)) (lo := some r2) (hi := none)
      have h2 := cutD_le (xs := (MM.ringI u d).map (MM.pegD u)) (lo := none) (hi := some r2)
      omega
    rw [MM.cut_rot hr2a (by omega), ← List.map_drop, ← List.map_take, ← List.map_append]
    obtain ⟨R, hR⟩ : ∃ R, R = (MM.ringI u d).drop r2.toNat ++ (MM.ringI u d).take r2.toNat := ⟨_, rfl⟩
    have hRn : R.Nodup := by
      have h0 : ((MM.ringI u d).take r2.toNat ++ (MM.ringI u d).drop r2.toNat).Nodup := by rw [List.take_append_drop]; exact hnd
      rw [hR]; exact (List.perm_append_comm.nodup_iff).mp h0
    have hRl : R.length = (MM.ringI u d).length := by
      rw [hR, List.length_append, List.length_drop, List.length_take]; omega
    have hRm : MM.Match (MM.ringI u d) (MM.nest R) := by
      have h1 := MM.nest_match hRn (by omega)
      rw [hR] at h1 hRn
      have h2 := h1.rot hRn
      rwa [List.take_append_drop, ← hR] at h2
    rw [← hR]
    have hRlm : (R.map (MM.pegD u)).length = R.length := List.length_map ..
    change WSs _ _ [_, _, _, _, _, _, _, _] [_, _, _] _
    refine wss_one ?_
    refine ws_retF ?_
    refine wf_lc [("_law_at", 7)] (.nm 7) rfl sc.nd (blkOk_by (own := [("_law_at", 7)]) (N := ["_law_well_here", "_law_up", "_law_down", "_law_ring_here", "_law_start", "_law_found", "_law_turn", "_law_at"]) (by rfl)) (fun _ _ _ _ _ => pg_nm sc.nd rfl (.inl rfl) (.inr rfl)) (by decide) ?_
    refine wi_rng1 m_range ?_
    refine we_fdiv ?_
    refine we_len m_len ?_
    refine wv_name 3 rfl (.inr (.inl rfl)) rfl ?_
    refine ⟨_, rfl, ?_⟩
    refine we_int ?_
    refine ⟨_, _, rfl, rfl, cdiv_of (k := 2) (by decide) Bd.lit, ?_⟩
    refine ⟨_, rfl, by omega, by omega, ?_⟩
    refine lcP (szl (by (first | omega | (rw [rgD_len]; omega) | (rw [rgD3_len]; omega) | (simp only [List.length_append, List.length_cons, List.length_nil, List.length_set, List.length_map, List.length_range, rgD_len, rgD3_len, enD_len]; omega) | omega | decide))) trivial (fun i => .tuple [(R.map (MM.pegD u)).getD (0 + (i : Int)).toNat .none, (R.map (MM.pegD u)).getD (-1 - (0 + (i : Int)) + (R.map (MM.pegD u)).length).toNat .none]) (fun i x hx => ?_) ?_
    ·
      obtain ⟨hi, rfl⟩ := rgD_get hx
      refine ⟨_, rfl, ?_⟩
      intro sb Hb Cb clb fpb
      refine we_tup ?_
      refine wd_cons ?_
      refine we_ix ?_
      refine wv_name 3 rfl (by first | exact .inr (.inl rfl) | exact .inr (.inr rfl)) rfl ?_
      refine we_name 7 rfl (.inl rfl) rfl ?_
      refine ⟨_, _, _, rfl, rfl, atI_gd (by omega) (by omega), ?_⟩
      refine wd_cons ?_
      refine we_ix ?_
      refine wv_name 3 rfl (by first | exact .inr (.inl rfl) | exact .inr (.inr rfl)) rfl ?_
      refine we_sub ?_
      refine we_neg ?_
      refine we_int ?_
      refine ⟨_, rfl, ?_⟩
      refine we_name 7 rfl (.inl rfl) rfl ?_
      refine ⟨_, _, rfl, rfl, ?_⟩
      refine ⟨_, _, _, rfl, rfl, atI_gdn (by omega) (by omega), ?_⟩
      refine wd_nil ?_
      refine ⟨szl (by simp), ?_⟩
      exact ⟨rfl, rfl⟩
    refine ⟨by simp [setAll_len], .inr (.inr ⟨_, _, rfl, by simp [setAll_len], rfl, ?_⟩)⟩
    have e9 : (List.range (rgD 0 (((R.map (MM.pegD u)).length : Int) / 2)).length).map (fun i : Nat => PyData.tuple [(R.map (MM.pegD u)).getD (0 + (i : Int)).toNat .none, (R.map (MM.pegD u)).getD (-1 - (0 + (i : Int)) + (R.map (MM.pegD u)).length).toNat .none]) = (MM.nest R).map (MM.pairD u) := by
      rw [rgD_len, hRlm, show (((R.length : Int) / 2 - 0).toNat) = R.length / 2 by omega]
      unfold MM.nest
      rw [List.map_map]
      refine List.map_congr_left fun i hi => ?_
      have hi := List.mem_range.mp hi
      show PyData.tuple [(R.map (MM.pegD u)).getD (0 + (i : Int)).toNat .none, (R.map (MM.pegD u)).getD (-1 - (0 + (i : Int)) + R.length).toNat .none] = .tuple [MM.pegD u (R.getD i 0), MM.pegD u (R.getD (R.length - 1 - i) 0)]
      rw [show (0 + (i : Int)).toNat = i by omega, show (-1 - (0 + (i : Int)) + R.length).toNat = R.length - 1 - i by omega, MM.getD_map (by omega), MM.getD_map (by omega)]
    have e8 := kq xs3 _ hRm (hw3.mono (by omega))
    rw [← e9] at e8
    exact e8
  ·
    refine wss_nil ?_
    change WSs _ _ [_, _, _, _, _, _, _, _] [_, _] _
    refine wss_cons ?_
    refine ws_setF 5 sc.nd rfl (.inl rfl) ?_
    refine wf_lst ?_
    refine wd_nil ?_
    refine ⟨szl (by simp), ?_⟩
    change WSs _ _ [_, _, _, _, _, _, _, _] [_, _, _] _
    refine wss_cons ?_
    refine ws_for PassesOwn.never rfl ?_
    refine wi_rng1 m_range ?_
    refine we_fdiv ?_
    refine we_len m_len ?_
    refine wv_name 3 rfl (.inr (.inl rfl)) rfl ?_
    refine ⟨_, rfl, ?_⟩
    refine we_int ?_
    refine ⟨_, _, rfl, rfl, cdiv_of (k := 2) (by decide) Bd.lit, ?_⟩
    refine ⟨_, rfl, by omega, by omega, ?_⟩
    refine ⟨fun i L m => ∃ (xs : List PyData) (rs : List Int) (fs : List (Int × Int)) (y4 y6 y7 : Option PV), L = [some (.ref 0), some (.d (.int u)), some (.d (.int d)), some (.ref 1), y4, some (.ref 2), y6, y7] ∧ m = [some (.lst xs), some (.lst (rs.map (MM.pegD u))), some (.lst (fs.map (MM.pairD u)))] ∧ WL (n + 2 + i) xs ∧ rs.length + 2 * i = (u + d).toNat ∧ rs.Nodup ∧ (∀ more, MM.Match rs more → MM.Match (MM.ringI u d) (fs ++ more)) ∧ fs.length ≤ i, ?_, fun i x L m hx hI => ?_, fun L m hI => ?_⟩
    ·
      exact ⟨xs3, MM.ringI u d, [], _, _, _, rfl, rfl, hw3, by omega, hnd, fun more h => h, Nat.le_refl _⟩
    ·
      obtain ⟨xs, rs, fs, y4, y6, y7, rfl, rfl, hw, hl, hrn, hf, hfl⟩ := hI
      obtain ⟨hi, rfl⟩ := rgD_get hx
      have hrlm : (rs.map (MM.pegD u)).length = rs.length := List.length_map ..
      have hflm : (fs.map (MM.pairD u)).length = fs.length := List.length_map ..
      refine ⟨trivial, ?_⟩
      refine wg_name 6 sc.nd rfl (.inl rfl) ?_
      change WSs _ _ [_, _, _, _, _, _, _, _] [_, _, _] _
      refine wss_cons ?_
      refine ws_set 7 sc.nd rfl (.inl rfl) ?_
      refine we_call [0] F__law_draw (hr.mono (by omega)) m__law_draw k__law_draw b__law_draw ?_
      refine wa_cons ?_
      refine wv_name 0 rfl (.inl rfl) rfl ?_
      refine wa_d ?_
      refine we_sub ?_
      refine we_len m_len ?_
      refine wv_name 3 rfl (.inr (.inl rfl)) rfl ?_
      refine ⟨_, rfl, ?_⟩
      refine we_int ?_
      refine ⟨_, _, rfl, rfl, ?_⟩
      refine wa_nil ?_
      refine ⟨by decide, by (simp [setAll_len, setAll_nil]), by (simp [refsIn, setAll_len, setAll_nil, permL]), _, _, _, rfl, rfl, hw, by omega, by (omega), by (omega), fun r4 xs4 hr4a hr4b hw4 => ⟨_, rfl, rfl, ?_⟩⟩
      have hj : r4.toNat + 1 < rs.length := by omega
      have el1 : ((rs.map (MM.pegD u)).eraseIdx r4.toNat) = (rs.eraseIdx r4.toNat).map (MM.pegD u) := erase_map.symm
      have hl1 : (rs.eraseIdx r4.toNat).length = rs.length - 1 := List.length_eraseIdx_of_lt (by omega)
      have hl2 : ((rs.eraseIdx r4.toNat).eraseIdx r4.toNat).length = rs.length - 1 - 1 := by rw [List.length_eraseIdx_of_lt (by omega), hl1]
      change WSs _ _ [_, _, _, _, _, _, _, _] [_, _, _] _
      refine wss_one ?_
      refine ws_expr ?_
      refine we_append ?_
      refine wv_name 5 rfl (.inl rfl) rfl ?_
      refine ⟨_, _, rfl, rfl, ?_⟩
      refine we_tup ?_
      refine wd_cons ?_
      refine we_popAt ?_
      refine wv_name 3 rfl (.inr (.inl rfl)) rfl ?_
      refine ⟨_, _, rfl, rfl, ?_⟩
      refine we_name 7 rfl (.inl rfl) rfl ?_
      refine ⟨_, _, r4.toNat, MM.pegD u rs[r4.toNat], rfl, rfl, by omega, by omega, sxI hr4a (by omega), by rw [List.getElem?_map, List.getElem?_eq_getElem (by omega)]; rfl, ?_⟩
      rw [el1]
      refine wd_cons ?_
      refine we_popAt ?_
      refine wv_name 3 rfl (.inr (.inl rfl)) rfl ?_
      refine ⟨_, _, rfl, rfl, ?_⟩
      refine we_name 7 rfl (.inl rfl) rfl ?_
      refine ⟨_, _, r4.toNat, MM.pegD u rs[r4.toNat + 1], rfl, rfl, by omega, by omega, sxI hr4a (by rw [List.length_map]; omega), by rw [List.getElem?_map, MM.erase_next hj]; rfl, ?_⟩
      rw [← erase_map]
      refine wd_nil ?_
      refine ⟨szl (by simp), ?_⟩
      refine ⟨_, rfl, szlt (by omega), ?_⟩
      refine ⟨_, _, .same (by (repeat (first | exact WkL.nil | refine WkL.kd ?_ | (refine WkL.kr ?_ ?_; focus (simp [setAll_len, setAll_nil]; done)) | refine WkL.kw ?_ | refine WkL.drop ?_))) (by simp [setAll_len]), xs4, (rs.eraseIdx r4.toNat).eraseIdx r4.toNat, fs ++ [(rs[r4.toNat], rs[r4.toNat + 1])], _, _, _, rfl, by rw [List.map_append]; rfl, hw4.mono (by omega), by omega, MM.erase_nodup (MM.erase_nodup hrn), fun more hm => ?_, by simp; omega⟩
      rw [List.append_assoc]
      exact hf _ (MM.Match.pop hj hrn hm)
    obtain ⟨xs, rs, fs, y4, y6, y7, rfl, rfl, hw, hl, hrn, hf, hfl⟩ := hI
    rw [rgD_len] at hl hw
    have h0 : rs = [] := List.length_eq_zero_iff.mp (by omega)
    subst h0
    have hM := hf [] MM.match_nil
    rw [List.append_nil] at hM
    refine ⟨trivial, ?_⟩
    change WSs _ _ [_, _, _, _, _, _, _, _] [_, _, _] _
    refine wss_one ?_
    refine ws_retV ?_
    refine wv_name 5 rfl (.inl rfl) rfl ?_
    refine ⟨by simp, .inr (.inr ⟨2, _, rfl, by simp, rfl, kq _ _ hM (hw.mono ?_)⟩)⟩
    omega
end
section
variable {P : Program} {w : World} {K : PySem.W.Frag} {mg : Str → Option Value} {base : Heap}
theorem ok_round_about {f : Addr} {fd : FuncData} (F : Fun K "round_about" "round_about" s_round_about f fd) (m_list : mg "list" = none) (m_range : mg "range" = none) : FnOk P w K mg base CX0 1 f fd ["n", "m"] (toSp K MM.spRound) := by
  have sc := sc_round_about
  refine fn_pp F sc (fun pvs m q h => ?_) (fun cdv A outer s H E hr pvs m q h => ?_)
  · obtain ⟨_, _, rfl, _⟩ := h
    rfl
  obtain ⟨u, d, rfl, rfl, hu0, hu1, hd0, hd1, kq⟩ := h
  change WSs _ _ [_, _] [] _
  refine wss_one ?_
  refine ws_retF ?_
  refine wf_cat ?_
  refine wv_we ?_
  refine we_wf ?_
  refine wf_listRg1 rfl m_list m_range ?_
  refine we_name 0 rfl (.inl rfl) rfl ?_
  refine ⟨_, rfl, RgOk.of_le (by omega) (by omega) (by omega) (by omega), ?_⟩
  refine wv_we ?_
  refine we_wf ?_
  refine wf_listRg3 rfl m_list m_range ?_
  refine we_sub ?_
  refine we_add ?_
  refine we_name 0 rfl (.inl rfl) rfl ?_
  refine we_name 1 rfl (.inl rfl) rfl ?_
  refine ⟨_, _, rfl, rfl, ?_⟩
  refine we_int ?_
  refine ⟨_, _, rfl, rfl, ?_⟩
  refine we_sub ?_
  refine we_name 0 rfl (.inl rfl) rfl ?_
  refine we_int ?_
  refine ⟨_, _, rfl, rfl, ?_⟩
  refine we_neg ?_
  refine we_int ?_
  refine ⟨_, rfl, ?_⟩
  refine ⟨_, _, _, _, rfl, rfl, rfl, RgC.neg (by omega) (by omega) (by omega) (by omega), by omega, ?_⟩
  refine ⟨_, _, rfl, rfl, szl (by rw [rgD_len, rgD3_len]; omega), ?_⟩
  refine ⟨Nat.zero_le _, .inr (.inr ⟨_, _, rfl, Nat.le_refl _, rfl, ?_⟩)⟩
  rw [MM.ringI_data]
  exact kq
end
section
variable {P : Program} {w : World} {K : PySem.W.Frag} {mg : Str → Option Value} {base : Heap}
theorem ok_p_are_mates {f : Addr} {fd : FuncData} (F : Fun K "_are_mates" "_are_mates" s_p_are_mates f fd) (m_len : mg "len" = none) (m_all : mg "all" = none) (m_enumerate : mg "enumerate" = none) : FnOk P w K mg base CX0 1 f fd ["mates"] (toSp K MM.spAre) := by
  have sc := sc_p_are_mates
  refine fn_pp F sc (fun pvs m q h => ?_) (fun cdv A outer s H E hr pvs m q h => ?_)
  · obtain ⟨_, rfl, _⟩ := h
    rfl
  obtain ⟨ns, rfl, rfl, hl, kq⟩ := h
  have hlm : (ns.map PyData.int).length = ns.length := List.length_map ..
  change WSs _ _ [_, _, _, _] [] _
  refine wss_cons ?_
  refine ws_set 1 sc.nd rfl (.inr rfl) ?_
  refine we_len m_len ?_
  refine wv_name 0 rfl (.inr (.inl rfl)) rfl ?_
  refine ⟨_, rfl, ?_⟩
  change WSs _ _ [_, _, _, _] [] _
  refine wss_one ?_
  refine ws_ret ?_
  refine we_all rfl m_all ?_
  refine wv_we ?_
  refine we_wf ?_
  refine wf_lc [("peg", 2), ("mate", 3)] (.tp [2, 3]) rfl sc.nd (blkOk_by (own := [("peg", 2), ("mate", 3)]) (N := ["mates", "many", "peg", "mate"]) (by rfl)) (fun _ _ _ _ _ => pg_tp2 sc.nd rfl (.inl rfl) (.inr rfl) rfl (.inl rfl) (.inr rfl)) (by decide) ?_
  refine wi_enumT m_enumerate ?_
  refine we_name 0 rfl (.inr (.inl rfl)) rfl ?_
  refine ⟨_, rfl, ?_⟩
  refine lcP (szl (by (first | omega | (rw [rgD_len]; omega) | (rw [rgD3_len]; omega) | (simp only [List.length_append, List.length_cons, List.length_nil, List.length_set, List.length_map, List.length_range, rgD_len, rgD3_len, enD_len]; omega) | omega | decide))) trivial (fun i => .bool (MM.matesAt ns i)) (fun i x hx => ?_) ?_
  ·
    obtain ⟨y, hy, rfl⟩ := enD_get hx
    obtain ⟨v, hv, rfl⟩ : ∃ v : Int, ns[i]? = some v ∧ y = .int v := by
      rw [List.getElem?_map] at hy
      cases e : ns[i]? with
      | none => rw [e] at hy; cases hy
      | some v => rw [e] at hy; exact ⟨v, rfl, (Option.some.inj hy).symm⟩
    have hd : ns.getD i 0 = v := by rw [List.getD_eq_getElem?_getD, hv, Option.getD_some]
    refine ⟨_, rfl, ?_⟩
    intro sb Hb Cb clb fpb
    apply VE.use
    ·
      apply ve_and
      ·
        intro Q hQ
        apply VE.use
        ·
          apply ve_chain op_le op_lt (by rfl)
          ·
            intro Q hQ
            refine we_int ?_
            exact hQ
          ·
            intro Q hQ
            refine we_name 3 rfl (.inl rfl) rfl ?_
            exact hQ
          intro hg2
          intro Q hQ
          refine we_name 1 rfl (by first | exact .inr (.inl rfl) | exact .inr (.inr rfl)) rfl ?_
          exact hQ
        exact hQ
      intro hg1
      simp only [Bool.and_eq_true, decide_eq_true_eq] at hg1
      rw [hlm] at hg1
      apply ve_and
      ·
        intro Q hQ
        refine we_neI ?_
        refine we_name 3 rfl (.inl rfl) rfl ?_
        refine we_name 2 rfl (.inl rfl) rfl ?_
        refine ⟨_, _, rfl, rfl, ?_⟩
        exact hQ
      intro hg3
      apply ve_one
      intro Q hQ
      refine we_eqI ?_
      refine we_ix ?_
      refine wv_name 0 rfl (by first | exact .inr (.inl rfl) | exact .inr (.inr rfl)) rfl ?_
      refine we_name 3 rfl (.inl rfl) rfl ?_
      refine ⟨_, _, _, rfl, rfl, atI_ints hg1.1 hg1.2, ?_⟩
      refine we_name 2 rfl (.inl rfl) rfl ?_
      refine ⟨_, _, rfl, rfl, ?_⟩
      exact hQ
    refine ⟨?_, rfl⟩
    unfold MM.matesAt
    rw [hd, hlm]
  refine ⟨(List.range ns.length).map (MM.matesAt ns), by rw [enD_len, hlm, List.map_map]; rfl, ?_⟩
  exact ⟨Nat.zero_le _, .inl ⟨_, rfl, kq⟩⟩
end
section
variable {P : Program} {w : World} {K : PySem.W.Frag} {mg : Str → Option Value} {base : Heap}
theorem ok_p_none_cross {f : Addr} {fd : FuncData} (F : Fun K "_none_cross" "_none_cross" s_p_none_cross f fd) {f_round_about : Addr} {fd_round_about : FuncData} (F_round_about : FnOk P w K mg base CX0 1 f_round_about fd_round_about ["n", "m"] (toSp K MM.spRound)) (m_round_about : mg "round_about" = some (.ref f_round_about)) (k_round_about : PySem.W.keepIn K (.ref f_round_about) = true) (b_round_about : Binds K fd_round_about ["n", "m"] []) : FnOk P w K mg base CX0 2 f fd ["n", "m", "mates"] (toSp K MM.spNone) := by
  have sc := sc_p_none_cross
  refine fn_pp F sc (fun pvs m q h => ?_) (fun cdv A outer s H E hr pvs m q h => ?_)
  · first | (obtain ⟨_, _, rfl, _⟩ := h; rfl) | (obtain ⟨_, _, _, rfl, _⟩ := h; rfl) | (obtain ⟨_, _, _, _, rfl, _⟩ := h; rfl) | (obtain ⟨_, _, _, _, _, rfl, _⟩ := h; rfl) | (obtain ⟨_, _, _, _, _, _, rfl, _⟩ := h; rfl) | (obtain ⟨_, rfl, _⟩ := h; rfl)
  obtain ⟨u, d, ns, rfl, rfl, hu0, hu1, hd0, hd1, hl, kq⟩ := h
  have hlm : (ns.map PyData.int).length = ns.length := List.length_map ..
  have hrl := MM.ringI_len hu0 hd0
  change WSs _ _ [_, _, _, _, _] [] _
  refine wss_cons ?_
  refine ws_setF 3 sc.nd rfl (.inl rfl) ?_
  refine wf_lst ?_
  refine wd_nil ?_
  refine ⟨szl (by simp), ?_⟩
  change WSs _ _ [_, _, _, _, _] [_] _
  refine wss_cons ?_
  refine ws_for PassesOwn.never rfl ?_
  refine wi_new ?_
  refine wf_call [] F_round_about (hr.mono (by omega)) m_round_about k_round_about b_round_about ?_
  refine wa_d ?_
  refine we_name 0 rfl (.inl rfl) rfl ?_
  refine wa_d ?_
  refine we_name 1 rfl (.inl rfl) rfl ?_
  refine wa_nil ?_
  refine ⟨by decide, by (simp [setAll_len, setAll_nil]), by (simp [refsIn, setAll_len, setAll_nil, permL]), _, _, rfl, rfl, hu0, hu1, hd0, hd1, [], _, rfl, rfl, rfl, ?_⟩
  refine ⟨fun i L m => ∃ y4, L = [some (.d (.int u)), some (.d (.int d)), some (.d (.tuple (ns.map .int))), some (.ref 0), y4] ∧ i ≤ (MM.ringI u d).length ∧ m = [some (.lst ((MM.stkR (MM.mu ns) (MM.ringI u d) i).reverse.map .int))] ∧ (MM.stkR (MM.mu ns) (MM.ringI u d) i).length ≤ i, ?_, fun i x L m hx hI => ?_, fun L m hI => ?_⟩
  ·
    exact ⟨none, rfl, Nat.zero_le _, by rw [MM.stkR_zero]; rfl, by rw [MM.stkR_zero]; exact Nat.le_refl _⟩
  ·
    obtain ⟨y4, rfl, hi, rfl, hsl⟩ := hI
    obtain ⟨p, hp, rfl⟩ : ∃ p : Int, (MM.ringI u d)[i]? = some p ∧ x = .int p := by
      rw [List.getElem?_map] at hx
      cases e : (MM.ringI u d)[i]? with
      | none => rw [e] at hx; cases hx
      | some v => rw [e] at hx; exact ⟨v, rfl, (Option.some.inj hx).symm⟩
    have hpm := (MM.ringI_mem hu0 hd0).mp (List.mem_of_getElem? hp)
    have hi1 : i < (MM.ringI u d).length := (List.getElem?_eq_some_iff.mp hp).1
    have hst := MM.stkR_succ (mu := MM.mu ns) hp
    generalize hS : MM.stkR (MM.mu ns) (MM.ringI u d) i = S at *
    refine ⟨trivial, ?_⟩
    refine wg_name 4 sc.nd rfl (.inl rfl) ?_
    change WSs _ _ [_, _, _, _, _] [_] _
    refine wss_one ?_
    refine ws_if ?_
    apply VT.use
    ·
      apply VW.vt
      apply vw_and
      ·
        intro Q hQ
        refine wt_truth ?_
        refine wv_name 3 rfl (.inl rfl) rfl ?_
        refine ⟨_, rfl, ?_⟩
        exact hQ
      intro hg1
      apply vw_and1
      intro Q hQ
      refine wt_eqI ?_
      refine we_ix ?_
      refine wv_name 3 rfl (.inl rfl) rfl ?_
      refine we_neg ?_
      refine we_int ?_
      refine ⟨_, rfl, ?_⟩
      refine ⟨_, _, _, rfl, rfl, MM.atI_top (fun z => by rw [z] at hg1; simp at hg1), ?_⟩
      refine we_ix ?_
      refine wv_name 2 rfl (.inl rfl) rfl ?_
      refine we_name 4 rfl (.inl rfl) rfl ?_
      refine ⟨_, _, _, rfl, rfl, atI_ints hpm.1 (by omega), ?_⟩
      refine ⟨_, _, rfl, rfl, ?_⟩
      exact hQ
    refine ⟨fun hif1 => ?_, fun hif1 => ?_⟩
    ·
      obtain ⟨t, r, rfl⟩ : ∃ t r, S = t :: r := by
        cases S with
        | nil => simp at hif1
        | cons t r => exact ⟨t, r, rfl⟩
      have htm : t = MM.mu ns p := of_decide_eq_true (Bool.and_eq_true_iff.mp hif1).2
      have hst2 : MM.stkR (MM.mu ns) (MM.ringI u d) (i + 1) = r := by
        rw [hst]
        show (if t = MM.mu ns p then r else p :: t :: r) = r
        rw [if_pos htm]
      change WSs _ _ [_, _, _, _, _] [_] _
      refine wss_one ?_
      refine ws_expr ?_
      refine we_pop ?_
      refine wv_name 3 rfl (.inl rfl) rfl ?_
      refine ⟨_, _, rfl, rfl, ?_⟩
      refine ⟨_, .int t, rfl, MM.top_get, ?_⟩
      rw [MM.top_drop]
      first
      | exact ⟨_, _, .same (by (repeat (first | exact WkL.nil | refine WkL.kd ?_ | (refine WkL.kr ?_ ?_; focus (simp [setAll_len, setAll_nil]; done)) | refine WkL.kw ?_ | refine WkL.drop ?_))) (by simp), _, rfl, by omega, by rw [hst2]; rfl, by rw [hst2]; rw [List.length_cons] at hsl; omega⟩
      | exact ⟨_, _, .same (by (repeat (first | exact WkL.nil | refine WkL.kd ?_ | (refine WkL.kr ?_ ?_; focus (simp [setAll_len, setAll_nil]; done)) | refine WkL.kw ?_ | refine WkL.drop ?_))) (by simp), _, rfl, by omega, by rw [hst2, List.reverse_cons, List.map_append]; rfl, by rw [hst2, List.length_cons]; omega⟩
    ·
      have hst2 : MM.stkR (MM.mu ns) (MM.ringI u d) (i + 1) = p :: S := by
        rw [hst]
        cases S with
        | nil => rfl
        | cons t r =>
          show (if t = MM.mu ns p then r else p :: t :: r) = p :: t :: r
          rw [if_neg]
          intro e
          rw [Bool.and_eq_false_iff] at hif1
          rcases hif1 with h | h
          · simp at h
          · exact of_decide_eq_false h e
      change WSs _ _ [_, _, _, _, _] [_] _
      refine wss_one ?_
      refine ws_expr ?_
      refine we_append ?_
      refine wv_name 3 rfl (.inl rfl) rfl ?_
      refine ⟨_, _, rfl, rfl, ?_⟩
      refine we_name 4 rfl (.inl rfl) rfl ?_
      refine ⟨_, rfl, szlt (by rw [List.length_map, List.length_reverse]; omega), ?_⟩
      first
      | exact ⟨_, _, .same (by (repeat (first | exact WkL.nil | refine WkL.kd ?_ | (refine WkL.kr ?_ ?_; focus (simp [setAll_len, setAll_nil]; done)) | refine WkL.kw ?_ | refine WkL.drop ?_))) (by simp), _, rfl, by omega, by rw [hst2]; rfl, by rw [hst2]; rw [List.length_cons] at hsl; omega⟩
      | exact ⟨_, _, .same (by (repeat (first | exact WkL.nil | refine WkL.kd ?_ | (refine WkL.kr ?_ ?_; focus (simp [setAll_len, setAll_nil]; done)) | refine WkL.kw ?_ | refine WkL.drop ?_))) (by simp), _, rfl, by omega, by rw [hst2, List.reverse_cons, List.map_append]; rfl, by rw [hst2, List.length_cons]; omega⟩
  rw [show ((MM.ringI u d).map PyData.int).length = (MM.ringI u d).length from List.length_map ..] at hI
  obtain ⟨y4, rfl, hi, rfl, hsl⟩ := hI
  refine ⟨trivial, ?_⟩
  change WSs _ _ [_, _, _, _, _] [_] _
  refine wss_one ?_
  refine ws_ret ?_
  refine we_notL ?_
  refine wv_name 3 rfl (.inl rfl) rfl ?_
  refine ⟨_, rfl, ?_⟩
  refine ⟨Nat.zero_le _, .inl ⟨_, rfl, ?_⟩⟩
  rw [MM.rev_empty]
  exact kq
end
section
variable {P : Program} {w : World} {K : PySem.W.Frag} {mg : Str → Option Value} {base : Heap}
theorem ok_is_mat {f : Addr} {fd : FuncData} (F : Fun K "is_mat" "is_mat" s_is_mat f fd) {f__are_mates : Addr} {fd__are_mates : FuncData} (F__are_mates : FnOk P w K mg base CX0 1 f__are_mates fd__are_mates ["mates"] (toSp K MM.spAre)) (m__are_mates : mg "_are_mates" = some (.ref f__are_mates)) (k__are_mates : PySem.W.keepIn K (.ref f__are_mates) = true) (b__are_mates : Binds K fd__are_mates ["mates"] []) {f__none_cross : Addr} {fd__none_cross : FuncData} (F__none_cross : FnOk P w K mg base CX0 2 f__none_cross fd__none_cross ["n", "m", "mates"] (toSp K MM.spNone)) (m__none_cross : mg "_none_cross" = some (.ref f__none_cross)) (k__none_cross : PySem.W.keepIn K (.ref f__none_cross) = true) (b__none_cross : Binds K fd__none_cross ["n", "m", "mates"] []) (m_len : mg "len" = none) : FnOk P w K mg base CX0 3 f fd ["told"] (toSp K MM.spIsMat) := by
  have sc := sc_is_mat
  refine fn_pp F sc (fun pvs m q h => ?_) (fun cdv A outer s H E hr pvs m q h => ?_)
  · first | (obtain ⟨_, _, rfl, _⟩ := h; rfl) | (obtain ⟨_, _, _, rfl, _⟩ := h; rfl) | (obtain ⟨_, _, _, _, rfl, _⟩ := h; rfl) | (obtain ⟨_, _, _, _, _, rfl, _⟩ := h; rfl) | (obtain ⟨_, _, _, _, _, _, rfl, _⟩ := h; rfl) | (obtain ⟨_, rfl, _⟩ := h; rfl)
  obtain ⟨u, d, ns, rfl, rfl, hu1, hd1, hl, kq⟩ := h
  have hlm : (ns.map PyData.int).length = ns.length := List.length_map ..
  change WSs _ _ [_, _, _, _] [] _
  refine wss_cons ?_
  refine ws_asg ?_
  refine we_name 0 rfl (.inl rfl) rfl ?_
  refine wg_tup rfl ?_
  refine ⟨_, rfl, rfl, ?_⟩
  refine wgn_cons ?_
  refine wg_name 1 sc.nd rfl (.inl rfl) ?_
  refine wgn_cons ?_
  refine wg_name 2 sc.nd rfl (.inl rfl) ?_
  refine wgn_cons ?_
  refine wg_name 3 sc.nd rfl (.inl rfl) ?_
  refine wgn_nil ?_
  change WSs _ _ [_, _, _, _] [] _
  refine wss_cons ?_
  refine ws_if ?_
  apply VT.use
  ·
    apply VW.vt
    apply vw_or
    ·
      intro Q hQ
      refine wt_lt ?_
      refine we_name 1 rfl (.inl rfl) rfl ?_
      refine we_int ?_
      refine ⟨_, _, rfl, rfl, ?_⟩
      exact hQ
    intro hg1
    apply vw_or
    ·
      intro Q hQ
      refine wt_lt ?_
      refine we_name 2 rfl (.inl rfl) rfl ?_
      refine we_int ?_
      refine ⟨_, _, rfl, rfl, ?_⟩
      exact hQ
    intro hg2
    apply vw_or
    ·
      intro Q hQ
      refine wt_eqI ?_
      refine we_add ?_
      refine we_name 1 rfl (.inl rfl) rfl ?_
      refine we_name 2 rfl (.inl rfl) rfl ?_
      refine ⟨_, _, rfl, rfl, ?_⟩
      refine we_int ?_
      refine ⟨_, _, rfl, rfl, ?_⟩
      exact hQ
    intro hg3
    apply vw_or1
    intro Q hQ
    refine wt_neI ?_
    refine we_len m_len ?_
    refine wv_name 3 rfl (.inl rfl) rfl ?_
    refine ⟨_, rfl, ?_⟩
    refine we_add ?_
    refine we_name 1 rfl (.inl rfl) rfl ?_
    refine we_name 2 rfl (.inl rfl) rfl ?_
    refine ⟨_, _, rfl, rfl, ?_⟩
    refine ⟨_, _, rfl, rfl, ?_⟩
    exact hQ
  refine ⟨fun hif1 => ?_, fun hif1 => ?_⟩
  ·
    change WSs _ _ [_, _, _, _] [] _
    refine wss_one ?_
    refine ws_ret ?_
    refine we_bool ?_
    rw [hlm] at hif1
    have e : MM.isMatB u d ns = false := by unfold MM.isMatB; rw [hif1]; rfl
    rw [e] at kq
    exact ⟨Nat.zero_le _, .inl ⟨_, rfl, kq⟩⟩
  ·
    rw [hlm] at hif1
    have hB : MM.isMatB u d ns = (MM.matesOk ns && (MM.stkR (MM.mu ns) (MM.ringI u d) (MM.ringI u d).length).isEmpty) := by unfold MM.isMatB; rw [hif1]; rfl
    simp only [Bool.or_eq_false_iff, decide_eq_false_iff_not, Bool.not_eq_false', decide_eq_true_eq] at hif1
    obtain ⟨h1, h2, h3, h4⟩ := hif1
    refine wss_nil ?_
    change WSs _ _ [_, _, _, _] [] _
    refine wss_one ?_
    refine ws_ret ?_
    apply VE.use
    ·
      apply ve_and
      ·
        intro Q hQ
        refine we_call [] F__are_mates (hr.mono (by omega)) m__are_mates k__are_mates b__are_mates ?_
        refine wa_d ?_
        refine we_name 3 rfl (.inl rfl) rfl ?_
        refine wa_nil ?_
        refine ⟨by decide, by (simp [setAll_len, setAll_nil]), by (simp [refsIn, setAll_len, setAll_nil, permL]), _, rfl, rfl, by omega, _, rfl, rfl, ?_⟩
        exact hQ
      intro hg4
      apply ve_one
      intro Q hQ
      refine we_call [] F__none_cross (hr.mono (by omega)) m__none_cross k__none_cross b__none_cross ?_
      refine wa_d ?_
      refine we_name 1 rfl (.inl rfl) rfl ?_
      refine wa_d ?_
      refine we_name 2 rfl (.inl rfl) rfl ?_
      refine wa_d ?_
      refine we_name 3 rfl (.inl rfl) rfl ?_
      refine wa_nil ?_
      refine ⟨by decide, by (simp [setAll_len, setAll_nil]), by (simp [refsIn, setAll_len, setAll_nil, permL]), _, _, _, rfl, rfl, by omega, hu1, by omega, hd1, h4, _, rfl, rfl, ?_⟩
      exact hQ
    rw [hB] at kq
    exact ⟨Nat.zero_le _, .inl ⟨_, rfl, kq⟩⟩
end
section
variable {P : Program} {w : World} {K : PySem.W.Frag} {mg : Str → Option Value} {base : Heap}
theorem ok_check_mat {f : Addr} {fd : FuncData} (F : Fun K "check_mat" "check_mat" s_check_mat f fd) {f_is_mat : Addr} {fd_is_mat : FuncData} (F_is_mat : FnOk P w K mg base CX0 3 f_is_mat fd_is_mat ["told"] (toSp K MM.spIsMat)) (m_is_mat : mg "is_mat" = some (.ref f_is_mat)) (k_is_mat : PySem.W.keepIn K (.ref f_is_mat) = true) (b_is_mat : Binds K fd_is_mat ["told"] []) : FnOk P w K mg base CX0 4 f fd ["mat"] (toSp K MM.spCheck) := by
  have sc := sc_check_mat
  refine fn_pp F sc (fun pvs m q h => ?_) (fun cdv A outer s H E hr pvs m q h => ?_)
  · first | (obtain ⟨_, _, rfl, _⟩ := h; rfl) | (obtain ⟨_, _, _, rfl, _⟩ := h; rfl) | (obtain ⟨_, _, _, _, rfl, _⟩ := h; rfl) | (obtain ⟨_, _, _, _, _, rfl, _⟩ := h; rfl) | (obtain ⟨_, _, _, _, _, _, rfl, _⟩ := h; rfl) | (obtain ⟨_, rfl, _⟩ := h; rfl)
  obtain ⟨u, d, ns, rfl, rfl, hu1, hd1, hl, hb, kq⟩ := h
  change WSs _ _ [_] [] _
  refine wss_one ?_
  refine ws_if ?_
  refine wt_not ?_
  refine wt_val ?_
  refine we_call [] F_is_mat (hr.mono (by omega)) m_is_mat k_is_mat b_is_mat ?_
  refine wa_d ?_
  refine we_name 0 rfl (.inl rfl) rfl ?_
  refine wa_nil ?_
  refine ⟨by decide, by (simp [setAll_len, setAll_nil]), by (simp [refsIn, setAll_len, setAll_nil, permL]), u, d, ns, rfl, rfl, hu1, hd1, hl, _, rfl, rfl, ?_⟩
  refine ⟨_, rfl, ?_⟩
  refine ⟨fun hif1 => ?_, fun hif1 => ?_⟩
  ·
    rw [hb] at hif1
    cases hif1 --done
  ·
    refine wss_nil ?_
    exact ⟨Nat.zero_le _, .inl ⟨_, rfl, kq⟩⟩
end
section
variable {P : Program} {w : World} {K : PySem.W.Frag} {mg : Str → Option Value} {base : Heap}
theorem ok_p_strings {f : Addr} {fd : FuncData} (F : Fun K "_strings" "_strings" s_p_strings f fd) (m_enumerate : mg "enumerate" = none) : FnOk P w K mg base CX0 1 f fd ["mat"] (toSp K MM.spStr) := by
  have sc := sc_p_strings
  refine fn_pp F sc (fun pvs m q h => ?_) (fun cdv A outer s H E hr pvs m q h => ?_)
  · obtain ⟨_, _, _, rfl, _⟩ := h
    rfl
  obtain ⟨u, d, ns, rfl, rfl, hl, kq⟩ := h
  have hlm : (ns.map PyData.int).length = ns.length := List.length_map ..
  change WSs _ _ [_, _, _] [] _
  refine wss_one ?_
  refine ws_retF ?_
  refine wf_lc1 [("peg", 1), ("mate", 2)] (.tp [1, 2]) rfl sc.nd (blkOk_by (own := [("peg", 1), ("mate", 2)]) (N := ["mat", "peg", "mate"]) (by rfl)) (fun _ _ _ _ _ => pg_tp2 sc.nd rfl (.inl rfl) (.inr rfl) rfl (.inl rfl) (.inr rfl)) (by decide) ?_
  refine wi_enumT m_enumerate ?_
  refine we_ix ?_
  refine wv_name 0 rfl (.inl rfl) rfl ?_
  refine we_int ?_
  refine ⟨_, _, _, rfl, rfl, rfl, ?_⟩
  refine ⟨_, rfl, ?_⟩
  refine ⟨szl (by rw [enD_len, hlm]; omega), fun i ys m => m = [] ∧ ys = (MM.strI ns i).map MM.nPair, ?_, fun i x ys m hx hy hI => ?_, fun ys m hy hI => ?_⟩
  ·
    exact ⟨rfl, rfl⟩
  ·
    obtain ⟨rfl, rfl⟩ := hI
    obtain ⟨y, hy2, rfl⟩ := enD_get hx
    obtain ⟨v, hv, rfl⟩ := ints_get hy2
    have hd : ns.getD i 0 = v := by rw [List.getD_eq_getElem?_getD, hv, Option.getD_some]
    refine ⟨trivial, _, rfl, ?_⟩
    intro sb Hb Cb clb fpb
    refine wt_lt ?_
    refine we_name 1 rfl (.inl rfl) rfl ?_
    refine we_name 2 rfl (.inl rfl) rfl ?_
    refine ⟨_, _, rfl, rfl, ?_⟩
    refine ⟨fun hlcif1 => ?_, fun hlcif1 => ?_⟩
    ·
      intro sb Hb Cb clb fpb
      refine we_tup ?_
      refine wd_cons ?_
      refine we_name 1 rfl (.inl rfl) rfl ?_
      refine wd_cons ?_
      refine we_name 2 rfl (.inl rfl) rfl ?_
      refine wd_nil ?_
      refine ⟨szl (by simp), ?_⟩
      refine ⟨rfl, ?_⟩
      rw [MM.strI_yes (by rw [hd]; exact of_decide_eq_true hlcif1), List.map_append, hd]
      rfl
    ·
      refine ⟨rfl, ?_⟩
      rw [MM.strI_no (by rw [hd]; exact of_decide_eq_false hlcif1)]
  obtain ⟨rfl, rfl⟩ := hI
  rw [enD_len, hlm]
  refine ⟨trivial, ?_⟩
  exact ⟨Nat.zero_le _, .inr (.inr ⟨_, _, rfl, Nat.le_refl _, rfl, kq⟩)⟩
end
section
variable {P : Program} {w : World} {K : PySem.W.Frag} {mg : Str → Option Value} {base : Heap}
theorem ok_mat_of_pairs {f : Addr} {fd : FuncData} (F : Fun K "mat_of_pairs" "mat_of_pairs" s_mat_of_pairs f fd) (m_tuple : mg "tuple" = none) : FnOk P w K mg base CX0 1 f fd ["n", "m", "pairs"] (toSp K MM.spOf) := by
  have sc := sc_mat_of_pairs
  refine fn_pp F sc (fun pvs m q h => ?_) (fun cdv A outer s H E hr pvs m q h => ?_)
  · first | (obtain ⟨_, _, rfl, _⟩ := h; rfl) | (obtain ⟨_, _, _, rfl, _⟩ := h; rfl) | (obtain ⟨_, _, _, _, rfl, _⟩ := h; rfl) | (obtain ⟨_, _, _, _, _, rfl, _⟩ := h; rfl) | (obtain ⟨_, _, _, _, _, _, rfl, _⟩ := h; rfl) | (obtain ⟨_, rfl, _⟩ := h; rfl)
  obtain ⟨u, d, prs, rfl, rfl, hu0, hu1, hd0, hd1, hnd, hin, kq⟩ := h
  change WSs _ _ [_, _, _, _, _, _] [] _
  refine wss_cons ?_
  refine ws_setF 3 sc.nd rfl (.inl rfl) ?_
  refine wf_rep ?_
  refine wv_we ?_
  refine we_wf ?_
  refine wf_lst ?_
  refine wd_cons ?_
  refine we_int ?_
  refine wd_nil ?_
  refine ⟨szl (by simp), ?_⟩
  refine we_add ?_
  refine we_name 0 rfl (.inl rfl) rfl ?_
  refine we_name 1 rfl (.inl rfl) rfl ?_
  refine ⟨_, _, rfl, rfl, ?_⟩
  refine ⟨_, _, rfl, rfl, by omega, by omega, szl (by simp; omega), ?_⟩
  change WSs _ _ [_, _, _, _, _, _] [_] _
  refine wss_cons ?_
  refine ws_for PassesOwn.never rfl ?_
  refine wi_list ?_
  refine wv_name 2 rfl (.inl rfl) rfl ?_
  refine ⟨_, rfl, ?_⟩
  refine ⟨fun i L m => ∃ (ns : List Int) (y4 y5 : Option PV), L = [some (.d (.int u)), some (.d (.int d)), some (.d (.list (prs.map MM.nPair))), some (.ref 0), y4, y5] ∧ m = [some (.lst (ns.map .int))] ∧ (ns.length : Int) = u + d ∧ MM.Row (prs.take i) ns, ?_, fun i x L m hx hI => ?_, fun L m hI => ?_⟩
  ·
    exact ⟨List.replicate (u + d).toNat 0, none, none, rfl, by rw [rep_ints], by rw [List.length_replicate]; omega, MM.row_nil⟩
  ·
    obtain ⟨ns, y4, y5, rfl, rfl, hl, hrow⟩ := hI
    obtain ⟨p, hp, rfl⟩ := MM.map_get hx
    have hpm := List.mem_of_getElem? hp
    have a1 := hin _ (MM.mem_ends.mpr ⟨p, hpm, .inl rfl⟩)
    have a2 := hin _ (MM.mem_ends.mpr ⟨p, hpm, .inr rfl⟩)
    have hnext := MM.row_next hl hnd hin hp hrow
    refine ⟨rfl, ?_⟩
    refine wg_tup rfl ?_
    refine ⟨_, rfl, rfl, ?_⟩
    refine wgn_cons ?_
    refine wg_name 4 sc.nd rfl (.inl rfl) ?_
    refine wgn_cons ?_
    refine wg_name 5 sc.nd rfl (.inl rfl) ?_
    refine wgn_nil ?_
    change WSs _ _ [_, _, _, _, _, _] [_] _
    refine wss_cons ?_
    refine ws_asg ?_
    refine we_name 5 rfl (.inl rfl) rfl ?_
    refine wg_sub ?_
    refine wv_name 3 rfl (.inl rfl) rfl ?_
    refine we_name 4 rfl (.inl rfl) rfl ?_
    refine ⟨_, _, _, _, rfl, rfl, rfl, ixN_of a1.1 (by rw [List.length_map]; omega), ?_⟩
    change WSs _ _ [_, _, _, _, _, _] [_] _
    refine wss_one ?_
    refine ws_asg ?_
    refine we_name 4 rfl (.inl rfl) rfl ?_
    refine wg_sub ?_
    refine wv_name 3 rfl (.inl rfl) rfl ?_
    refine we_name 5 rfl (.inl rfl) rfl ?_
    refine ⟨_, _, _, _, rfl, rfl, rfl, ixN_of a2.1 (by rw [List.length_set, List.length_map]; omega), ?_⟩
    exact ⟨_, _, .same (by (repeat (first | exact WkL.nil | refine WkL.kd ?_ | (refine WkL.kr ?_ ?_; focus (simp [setAll_len, setAll_nil]; done)) | refine WkL.kw ?_ | refine WkL.drop ?_))) (by simp), _, _, _, rfl, by simp [List.map_set], by simpa using hl, hnext⟩
  obtain ⟨ns, y4, y5, rfl, rfl, hl, hrow⟩ := hI
  rw [List.length_map, List.take_length] at hrow
  refine ⟨rfl, ?_⟩
  change WSs _ _ [_, _, _, _, _, _] [_] _
  refine wss_one ?_
  refine ws_ret ?_
  refine we_tup ?_
  refine wd_cons ?_
  refine we_name 0 rfl (.inl rfl) rfl ?_
  refine wd_cons ?_
  refine we_name 1 rfl (.inl rfl) rfl ?_
  refine wd_cons ?_
  refine we_tuple1 m_tuple ?_
  refine wv_name 3 rfl (.inl rfl) rfl ?_
  refine ⟨_, rfl, ?_⟩
  refine wd_nil ?_
  refine ⟨szl (by simp), ?_⟩
  exact ⟨Nat.zero_le _, .inl ⟨_, rfl, kq ns hl hrow⟩⟩
end
section
variable {P : Program} {w : World} {K : PySem.W.Frag} {mg : Str → Option Value} {base : Heap}
theorem ok_check_from {f : Addr} {fd : FuncData} (F : Fun K "check_from" "check_from" s_check_from f fd) : FnOk P w K mg base CX0 1 f fd ["number", "least"] (toSp K MM.spFrom) := by
  have sc := sc_check_from
  refine fn_pp F sc (fun pvs m q h => ?_) (fun cdv A outer s H E hr pvs m q h => ?_)
  · first | (obtain ⟨_, _, rfl, _⟩ := h; rfl) | (obtain ⟨_, _, _, rfl, _⟩ := h; rfl) | (obtain ⟨_, _, _, _, rfl, _⟩ := h; rfl) | (obtain ⟨_, _, _, _, _, rfl, _⟩ := h; rfl) | (obtain ⟨_, _, _, _, _, _, rfl, _⟩ := h; rfl) | (obtain ⟨_, rfl, _⟩ := h; rfl)
  obtain ⟨a, b, rfl, rfl, hab, kq⟩ := h
  change WSs _ _ [_, _] [] _
  refine wss_one ?_
  refine ws_if ?_
  refine wt_lt ?_
  refine we_name 0 rfl (.inl rfl) rfl ?_
  refine we_name 1 rfl (.inl rfl) rfl ?_
  refine ⟨_, _, rfl, rfl, ?_⟩
  refine ⟨fun hif1 => ?_, fun hif1 => ?_⟩
  ·
    exfalso
    have := of_decide_eq_true hif1
    omega --done
  ·
    refine wss_nil ?_
    exact ⟨Nat.zero_le _, .inl ⟨_, rfl, kq⟩⟩
end
section
variable {P : Program} {w : World} {K : PySem.W.Frag} {mg : Str → Option Value} {base : Heap}
theorem ok_straight {f : Addr} {fd : FuncData} (F : Fun K "straight" "straight" s_straight f fd) {f_check_from : Addr} {fd_check_from : FuncData} (F_check_from : FnOk P w K mg base CX0 1 f_check_from fd_check_from ["number", "least"] (toSp K MM.spFrom)) (m_check_from : mg "check_from" = some (.ref f_check_from)) (k_check_from : PySem.W.keepIn K (.ref f_check_from) = true) (b_check_from : Binds K fd_check_from ["number", "least"] []) {f_mat_of_pairs : Addr} {fd_mat_of_pairs : FuncData} (F_mat_of_pairs : FnOk P w K mg base CX0 1 f_mat_of_pairs fd_mat_of_pairs ["n", "m", "pairs"] (toSp K MM.spOf)) (m_mat_of_pairs : mg "mat_of_pairs" = some (.ref f_mat_of_pairs)) (k_mat_of_pairs : PySem.W.keepIn K (.ref f_mat_of_pairs) = true) (b_mat_of_pairs : Binds K fd_mat_of_pairs ["n", "m", "pairs"] []) (m_range : mg "range" = none) : FnOk P w K mg base CX0 2 f fd ["n"] (toSp K MM.spStraight) := by
  have sc := sc_straight
  refine fn_pp F sc (fun pvs m q h => ?_) (fun cdv A outer s H E hr pvs m q h => ?_)
  · obtain ⟨_, rfl, _⟩ := h
    rfl
  obtain ⟨n, rfl, rfl, h0, h1, kq⟩ := h
  change WSs _ _ [_, _] [] _
  refine wss_cons ?_
  refine ws_expr ?_
  refine we_call [] F_check_from (hr.mono (by omega)) m_check_from k_check_from b_check_from ?_
  refine wa_d ?_
  refine we_name 0 rfl (.inr (.inl rfl)) rfl ?_
  refine wa_d ?_
  refine we_int ?_
  refine wa_nil ?_
  refine ⟨by decide, by (simp [setAll_len, setAll_nil]), by (simp [refsIn, setAll_len, setAll_nil, permL]), n, 1, rfl, rfl, h0, _, rfl, rfl, ?_⟩
  change WSs _ _ [_, _] [] _
  refine wss_one ?_
  refine ws_ret ?_
  refine we_call [] F_mat_of_pairs (hr.mono (by omega)) m_mat_of_pairs k_mat_of_pairs b_mat_of_pairs ?_
  refine wa_d ?_
  refine we_name 0 rfl (.inr (.inl rfl)) rfl ?_
  refine wa_d ?_
  refine we_name 0 rfl (.inr (.inl rfl)) rfl ?_
  refine wa_d ?_
  refine we_wf ?_
  refine wf_lc [("peg", 1)] (.nm 1) rfl sc.nd (blkOk_by (own := [("peg", 1)]) (N := ["n", "peg"]) (by rfl)) (fun _ _ _ _ _ => pg_nm sc.nd rfl (.inl rfl) (.inr rfl)) (by decide) ?_
  refine wi_rng1 m_range ?_
  refine we_name 0 rfl (.inr (.inl rfl)) rfl ?_
  refine ⟨_, rfl, by omega, by omega, ?_⟩
  refine lcP (szl (by (first | omega | (rw [rgD_len]; omega) | (rw [rgD3_len]; omega) | (simp only [List.length_append, List.length_cons, List.length_nil, List.length_set, List.length_map, List.length_range, rgD_len, rgD3_len, enD_len]; omega) | omega | decide))) trivial (fun i => MM.nPair ((i : Int), n + (i : Int))) (fun i x hx => ?_) ?_
  ·
    obtain ⟨hi, rfl⟩ := rgD_get hx
    refine ⟨_, rfl, ?_⟩
    intro sb Hb Cb clb fpb
    refine we_tup ?_
    refine wd_cons ?_
    refine we_name 1 rfl (.inl rfl) rfl ?_
    refine wd_cons ?_
    refine we_add ?_
    refine we_name 0 rfl (by first | exact .inr (.inl rfl) | exact .inr (.inr rfl)) rfl ?_
    refine we_name 1 rfl (.inl rfl) rfl ?_
    refine ⟨_, _, rfl, rfl, ?_⟩
    refine wd_nil ?_
    refine ⟨szl (by simp), ?_⟩
    refine ⟨?_, rfl⟩
    unfold MM.nPair
    rw [show (0 : Int) + (i : Int) = i by omega]
  refine wa_nil ?_
  have hM := MM.str_match (n := n) (by omega)
  refine ⟨by decide, by (simp [setAll_len, setAll_nil]), by (simp [refsIn, setAll_len, setAll_nil, permL]), n, n, MM.strP n, ?_, rfl, by omega, by omega, by omega, by omega, hM.nd, fun x hx => MM.match_in (by omega) (by omega) hM x hx, fun ns hl W => ⟨_, rfl, rfl, ?_⟩⟩
  · show [PV.d (.int n), PV.d (.int n), PV.d (.list _)] = _
    rw [rgD_len, show (n - 0).toNat = n.toNat by omega]
    unfold MM.strP
    rw [List.map_map]
    rfl
  exact ⟨Nat.zero_le _, .inl ⟨_, rfl, kq ns ⟨by omega, by omega, by omega, hl, hM, W⟩⟩⟩
end
section
variable {P : Program} {w : World} {K : PySem.W.Frag} {mg : Str → Option Value} {base : Heap}
theorem ok_hook {f : Addr} {fd : FuncData} (F : Fun K "hook" "hook" s_hook f fd) {f_check_from : Addr} {fd_check_from : FuncData} (F_check_from : FnOk P w K mg base CX0 1 f_check_from fd_check_from ["number", "least"] (toSp K MM.spFrom)) (m_check_from : mg "check_from" = some (.ref f_check_from)) (k_check_from : PySem.W.keepIn K (.ref f_check_from) = true) (b_check_from : Binds K fd_check_from ["number", "least"] []) {f_mat_of_pairs : Addr} {fd_mat_of_pairs : FuncData} (F_mat_of_pairs : FnOk P w K mg base CX0 1 f_mat_of_pairs fd_mat_of_pairs ["n", "m", "pairs"] (toSp K MM.spOf)) (m_mat_of_pairs : mg "mat_of_pairs" = some (.ref f_mat_of_pairs)) (k_mat_of_pairs : PySem.W.keepIn K (.ref f_mat_of_pairs) = true) (b_mat_of_pairs : Binds K fd_mat_of_pairs ["n", "m", "pairs"] []) (m_range : mg "range" = none) : FnOk P w K mg base CX0 2 f fd ["n", "i"] (toSp K MM.spHook) := by
  have sc := sc_hook
  refine fn_pp F sc (fun pvs m q h => ?_) (fun cdv A outer s H E hr pvs m q h => ?_)
  · obtain ⟨_, _, rfl, _⟩ := h
    rfl
  obtain ⟨n, j, rfl, rfl, h0, h1, h2, kq⟩ := h
  change WSs _ _ [_, _, _, _] [] _
  refine wss_cons ?_
  refine ws_expr ?_
  refine we_call [] F_check_from (hr.mono (by omega)) m_check_from k_check_from b_check_from ?_
  refine wa_d ?_
  refine we_name 0 rfl (.inr (.inl rfl)) rfl ?_
  refine wa_d ?_
  refine we_int ?_
  refine wa_nil ?_
  refine ⟨by decide, by (simp [setAll_len, setAll_nil]), by (simp [refsIn, setAll_len, setAll_nil, permL]), n, 1, rfl, rfl, by omega, _, rfl, rfl, ?_⟩
  change WSs _ _ [_, _, _, _] [] _
  refine wss_cons ?_
  refine ws_if ?_
  refine wt_not ?_
  apply VT.use
  ·
    apply vt_chain op_le op_lt (by rfl)
    ·
      intro Q hQ
      refine we_int ?_
      exact hQ
    ·
      intro Q hQ
      refine we_name 1 rfl (.inr (.inl rfl)) rfl ?_
      exact hQ
    intro hg1
    intro Q hQ
    refine we_sub ?_
    refine we_name 0 rfl (.inr (.inl rfl)) rfl ?_
    refine we_int ?_
    refine ⟨_, _, rfl, rfl, ?_⟩
    exact hQ
  refine ⟨fun hif1 => ?_, fun hif1 => ?_⟩
  ·
    exfalso
    simp only [Bool.not_eq_true', Bool.and_eq_false_iff, decide_eq_false_iff_not] at hif1
    omega --done
  ·
    refine wss_nil ?_
    change WSs _ _ [_, _, _, _] [] _
    refine wss_cons ?_
    refine ws_setLc1 2 [("peg", 3)] (.nm 3) rfl sc.nd rfl rfl (sw_true rfl rfl rfl (by decide +kernel)) (blkOk_by (own := [("peg", 3)]) (N := ["n", "i", "pairs", "peg"]) (by rfl)) (fun _ _ _ _ _ => pg_nm sc.nd rfl (.inl rfl) (.inr rfl)) (by decide) ?_
    refine wi_rng1 m_range ?_
    refine we_name 0 rfl (.inr (.inl rfl)) rfl ?_
    refine ⟨_, rfl, by omega, by omega, ?_⟩
    refine ⟨szl (by rw [rgD_len]; omega), fun i ys m => m = [] ∧ ys = (((List.range i).map fun k : Nat => ((k : Int), n + (k : Int))).filter fun p => !decide (p.1 ∈ [j, j + 1])).map MM.nPair, ?_, fun i x ys m hx hy hI => ?_, fun ys m hy hI => ?_⟩
    ·
      exact ⟨rfl, rfl⟩
    ·
      obtain ⟨rfl, rfl⟩ := hI
      obtain ⟨hi, rfl⟩ := rgD_get hx
      refine ⟨trivial, _, rfl, ?_⟩
      intro sb Hb Cb clb fpb
      refine wt_notinI (by rfl) ?_
      refine we_name 3 rfl (.inl rfl) rfl ?_
      refine we_tup ?_
      refine wd_cons ?_
      refine we_name 1 rfl (by first | exact .inr (.inl rfl) | exact .inr (.inr rfl)) rfl ?_
      refine wd_cons ?_
      refine we_add ?_
      refine we_name 1 rfl (by first | exact .inr (.inl rfl) | exact .inr (.inr rfl)) rfl ?_
      refine we_int ?_
      refine ⟨_, _, rfl, rfl, ?_⟩
      refine wd_nil ?_
      refine ⟨szl (by simp), ?_⟩
      refine ⟨_, [j, j + 1], rfl, .inl rfl, ?_⟩
      refine ⟨fun hlcif1 => ?_, fun hlcif1 => ?_⟩
      ·
        intro sb Hb Cb clb fpb
        refine we_tup ?_
        refine wd_cons ?_
        refine we_name 3 rfl (.inl rfl) rfl ?_
        refine wd_cons ?_
        refine we_add ?_
        refine we_name 0 rfl (by first | exact .inr (.inl rfl) | exact .inr (.inr rfl)) rfl ?_
        refine we_name 3 rfl (.inl rfl) rfl ?_
        refine ⟨_, _, rfl, rfl, ?_⟩
        refine wd_nil ?_
        refine ⟨szl (by simp), ?_⟩
        refine ⟨rfl, ?_⟩
        rw [show (0 : Int) + (i : Int) = i by omega] at hlcif1 ⊢
        rw [List.range_succ, List.map_append, List.filter_append, List.map_append]
        congr 1
        rw [List.map_cons, List.map_nil, List.filter_cons, if_pos hlcif1]
        rfl
      ·
        refine ⟨rfl, ?_⟩
        rw [show (0 : Int) + (i : Int) = i by omega] at hlcif1
        rw [List.range_succ, List.map_append, List.filter_append, List.map_append, List.map_cons, List.map_nil, List.filter_cons, if_neg (by rw [hlcif1]; exact Bool.false_ne_true)]
        exact (List.append_nil _).symm
    obtain ⟨rfl, rfl⟩ := hI
    rw [rgD_len, show (n - 0).toNat = n.toNat by omega]
    rw [show (((List.range n.toNat).map fun k : Nat => ((k : Int), n + (k : Int))).filter fun p => !decide (p.1 ∈ [j, j + 1])) = MM.keepP n j from rfl]
    have hkl : (MM.keepP n j).length ≤ n.toNat := Nat.le_trans (List.length_filter_le ..) (by unfold MM.strP; rw [List.length_map, List.length_range]; exact Nat.le_refl _)
    refine ⟨trivial, ?_⟩
    refine .inl ?_
    change WSs _ _ [_, _, _, _] [] _
    refine wss_one ?_
    refine ws_ret ?_
    refine we_call [] F_mat_of_pairs (hr.mono (by omega)) m_mat_of_pairs k_mat_of_pairs b_mat_of_pairs ?_
    refine wa_d ?_
    refine we_name 0 rfl (.inr (.inl rfl)) rfl ?_
    refine wa_d ?_
    refine we_name 0 rfl (.inr (.inl rfl)) rfl ?_
    refine wa_d ?_
    refine we_wf ?_
    refine wf_cat ?_
    refine wv_name 2 rfl (.inl rfl) rfl ?_
    refine wv_we ?_
    refine we_wf ?_
    refine wf_lst ?_
    refine wd_cons ?_
    refine we_tup ?_
    refine wd_cons ?_
    refine we_name 1 rfl (.inr (.inl rfl)) rfl ?_
    refine wd_cons ?_
    refine we_add ?_
    refine we_name 1 rfl (.inr (.inl rfl)) rfl ?_
    refine we_int ?_
    refine ⟨_, _, rfl, rfl, ?_⟩
    refine wd_nil ?_
    refine ⟨szl (by simp), ?_⟩
    refine wd_cons ?_
    refine we_tup ?_
    refine wd_cons ?_
    refine we_add ?_
    refine we_name 0 rfl (.inr (.inl rfl)) rfl ?_
    refine we_name 1 rfl (.inr (.inl rfl)) rfl ?_
    refine ⟨_, _, rfl, rfl, ?_⟩
    refine wd_cons ?_
    refine we_add ?_
    refine we_add ?_
    refine we_name 0 rfl (.inr (.inl rfl)) rfl ?_
    refine we_name 1 rfl (.inr (.inl rfl)) rfl ?_
    refine ⟨_, _, rfl, rfl, ?_⟩
    refine we_int ?_
    refine ⟨_, _, rfl, rfl, ?_⟩
    refine wd_nil ?_
    refine ⟨szl (by simp), ?_⟩
    refine wd_nil ?_
    refine ⟨szl (by simp), ?_⟩
    refine ⟨_, _, rfl, rfl, szl (by rw [List.length_map]; simp; omega), ?_⟩
    refine wa_nil ?_
    have hM := MM.hook_match h0 h1
    refine ⟨by decide, by (simp [setAll_len, setAll_nil]), by (simp [refsIn, setAll_len, setAll_nil, permL]), n, n, MM.hookP n j, ?_, rfl, by omega, by omega, by omega, by omega, hM.nd, fun x hx => MM.match_in (by omega) (by omega) hM x hx, fun ns hl W => ⟨_, rfl, rfl, ?_⟩⟩
    · unfold MM.hookP
      rw [List.map_append]
      rfl
    exact ⟨Nat.zero_le _, .inl ⟨_, rfl, kq ns ⟨by omega, by omega, by omega, hl, hM, W⟩⟩⟩
end
section
variable {P : Program} {w : World} {K : PySem.W.Frag} {mg : Str → Option Value} {base : Heap}
theorem okx_check_from {f : Addr} {fd : FuncData} (F : Fun K "check_from" "check_from" s_check_from f fd) {c_InvalidNumber : Addr} (E_InvalidNumber : EOk P w K mg base "InvalidNumber" c_InvalidNumber (spIn K)) : FnOk P w K mg base (L2.CX P w) 3 f fd ["number", "least"] (toSpX K (JJ.spxFrom c_InvalidNumber)) := by
  have sc := sc_check_from
  refine fnx_pp F sc (fun pvs m q h => ?_) (fun cdv A outer s H E hr hpo pvs m q h => ?_)
  · obtain ⟨_, _, rfl, _⟩ := h
    rfl
  obtain ⟨a, b, rfl, rfl, hab, kq⟩ := h
  change WSsX _ _ [_, _] [] _ _
  refine wssx_one ?_
  refine wsx_if ?_
  refine wt_lt ?_
  refine we_name 0 rfl (.inl rfl) rfl ?_
  refine we_name 1 rfl (.inl rfl) rfl ?_
  refine ⟨_, _, rfl, rfl, ?_⟩
  refine ⟨fun hif1 => ?_, fun hif1 => ?_⟩
  ·
    change WSsX _ _ [_, _] [] _ _
    refine wssx_one ?_
    refine wsx_raise rfl E_InvalidNumber (hr.mono (by omega)) ?_
    refine we_name 0 rfl (.inl rfl) rfl ?_
    exact ⟨Nat.zero_le _, kq⟩
  ·
    exfalso
    have := of_decide_eq_false hif1
    omega --done
end
section
variable {P : Program} {w : World} {K : PySem.W.Frag} {mg : Str → Option Value} {base : Heap}
theorem okx_straight {f : Addr} {fd : FuncData} (F : Fun K "straight" "straight" s_straight f fd) {c_InvalidNumber : Addr} (E_InvalidNumber : EOk P w K mg base "InvalidNumber" c_InvalidNumber (spIn K)) {f_check_from : Addr} {fd_check_from : FuncData} (F_check_from : FnOk P w K mg base CX0 1 f_check_from fd_check_from ["number", "least"] (toSp K MM.spFrom)) (FX_check_from : FnOk P w K mg base (L2.CX P w) 3 f_check_from fd_check_from ["number", "least"] (toSpX K (JJ.spxFrom c_InvalidNumber))) (m_check_from : mg "check_from" = some (.ref f_check_from)) (k_check_from : PySem.W.keepIn K (.ref f_check_from) = true) (b_check_from : Binds K fd_check_from ["number", "least"] []) {f_mat_of_pairs : Addr} {fd_mat_of_pairs : FuncData} (F_mat_of_pairs : FnOk P w K mg base CX0 1 f_mat_of_pairs fd_mat_of_pairs ["n", "m", "pairs"] (toSp K MM.spOf)) (m_mat_of_pairs : mg "mat_of_pairs" = some (.ref f_mat_of_pairs)) (k_mat_of_pairs : PySem.W.keepIn K (.ref f_mat_of_pairs) = true) (b_mat_of_pairs : Binds K fd_mat_of_pairs ["n", "m", "pairs"] []) (m_range : mg "range" = none) : FnOk P w K mg base (L2.CX P w) 4 f fd ["n"] (toSpX K (JJ.spxStr c_InvalidNumber)) := by
  have sc := sc_straight
  refine fnx_pp F sc (fun pvs m q h => ?_) (fun cdv A outer s H E hr hpo pvs m q h => ?_)
  · obtain ⟨_, rfl, _⟩ := h
    rfl
  obtain ⟨n, rfl, rfl, hn, kq⟩ := h
  change WSsX _ _ [_, _] [] _ _
  refine wssx_cons ?_
  refine wsx_expr ?_
  refine wex_call [] FX_check_from (hr.mono (by omega)) m_check_from k_check_from b_check_from ?_
  refine wa_d ?_
  refine we_name 0 rfl (.inr (.inl rfl)) rfl ?_
  refine wa_d ?_
  refine we_int ?_
  refine wa_nil ?_
  refine ⟨by decide, by (simp [setAll_len, setAll_nil]), by (simp [refsIn, setAll_len, setAll_nil, permL]), n, 1, rfl, rfl, hn, rfl, ?_⟩
  exact ⟨Nat.zero_le _, kq⟩
end
section
variable {P : Program} {w : World} {K : PySem.W.Frag} {mg : Str → Option Value} {base : Heap}
theorem okx_hook_n {f : Addr} {fd : FuncData} (F : Fun K "hook" "hook" s_hook f fd) {c_InvalidNumber : Addr} (E_InvalidNumber : EOk P w K mg base "InvalidNumber" c_InvalidNumber (spIn K)) {f_check_from : Addr} {fd_check_from : FuncData} (F_check_from : FnOk P w K mg base CX0 1 f_check_from fd_check_from ["number", "least"] (toSp K MM.spFrom)) (FX_check_from : FnOk P w K mg base (L2.CX P w) 3 f_check_from fd_check_from ["number", "least"] (toSpX K (JJ.spxFrom c_InvalidNumber))) (m_check_from : mg "check_from" = some (.ref f_check_from)) (k_check_from : PySem.W.keepIn K (.ref f_check_from) = true) (b_check_from : Binds K fd_check_from ["number", "least"] []) {f_mat_of_pairs : Addr} {fd_mat_of_pairs : FuncData} (F_mat_of_pairs : FnOk P w K mg base CX0 1 f_mat_of_pairs fd_mat_of_pairs ["n", "m", "pairs"] (toSp K MM.spOf)) (m_mat_of_pairs : mg "mat_of_pairs" = some (.ref f_mat_of_pairs)) (k_mat_of_pairs : PySem.W.keepIn K (.ref f_mat_of_pairs) = true) (b_mat_of_pairs : Binds K fd_mat_of_pairs ["n", "m", "pairs"] []) (m_range : mg "range" = none) : FnOk P w K mg base (L2.CX P w) 4 f fd ["n", "i"] (toSpX K (JJ.spxHookN c_InvalidNumber)) := by
  have sc := sc_hook
  refine fnx_pp F sc (fun pvs m q h => ?_) (fun cdv A outer s H E hr hpo pvs m q h => ?_)
  · obtain ⟨_, _, rfl, _⟩ := h
    rfl
  obtain ⟨n, i, rfl, rfl, hn, kq⟩ := h
  change WSsX _ _ [_, _, _, _] [] _ _
  refine wssx_cons ?_
  refine wsx_expr ?_
  refine wex_call [] FX_check_from (hr.mono (by omega)) m_check_from k_check_from b_check_from ?_
  refine wa_d ?_
  refine we_name 0 rfl (.inr (.inl rfl)) rfl ?_
  refine wa_d ?_
  refine we_int ?_
  refine wa_nil ?_
  refine ⟨by decide, by (simp [setAll_len, setAll_nil]), by (simp [refsIn, setAll_len, setAll_nil, permL]), n, 1, rfl, rfl, hn, rfl, ?_⟩
  exact ⟨Nat.zero_le _, kq⟩
end
section
variable {P : Program} {w : World} {K : PySem.W.Frag} {mg : Str → Option Value} {base : Heap}
theorem okx_hook_i {f : Addr} {fd : FuncData} (F : Fun K "hook" "hook" s_hook f fd) {c_InvalidHook : Addr} (E_InvalidHook : EOk P w K mg base "InvalidHook" c_InvalidHook (spIn K)) {f_check_from : Addr} {fd_check_from : FuncData} (F_check_from : FnOk P w K mg base CX0 1 f_check_from fd_check_from ["number", "least"] (toSp K MM.spFrom)) (m_check_from : mg "check_from" = some (.ref f_check_from)) (k_check_from : PySem.W.keepIn K (.ref f_check_from) = true) (b_check_from : Binds K fd_check_from ["number", "least"] []) {f_mat_of_pairs : Addr} {fd_mat_of_pairs : FuncData} (F_mat_of_pairs : FnOk P w K mg base CX0 1 f_mat_of_pairs fd_mat_of_pairs ["n", "m", "pairs"] (toSp K MM.spOf)) (m_mat_of_pairs : mg "mat_of_pairs" = some (.ref f_mat_of_pairs)) (k_mat_of_pairs : PySem.W.keepIn K (.ref f_mat_of_pairs) = true) (b_mat_of_pairs : Binds K fd_mat_of_pairs ["n", "m", "pairs"] []) (m_range : mg "range" = none) : FnOk P w K mg base (L2.CX P w) 4 f fd ["n", "i"] (toSpX K (JJ.spxHookI c_InvalidHook)) := by
  have sc := sc_hook
  refine fnx_pp F sc (fun pvs m q h => ?_) (fun cdv A outer s H E hr hpo pvs m q h => ?_)
  · obtain ⟨_, _, rfl, _⟩ := h
    rfl
  obtain ⟨n, i, rfl, rfl, hn, hi, kq⟩ := h
  change WSsX _ _ [_, _, _, _] [] _ _
  refine wssx_pre ?_
  refine ws_expr ?_
  refine we_call [] F_check_from (hr.mono (by omega)) m_check_from k_check_from b_check_from ?_
  refine wa_d ?_
  refine we_name 0 rfl (.inr (.inl rfl)) rfl ?_
  refine wa_d ?_
  refine we_int ?_
  refine wa_nil ?_
  refine ⟨by decide, by (simp [setAll_len, setAll_nil]), by (simp [refsIn, setAll_len, setAll_nil, permL]), n, 1, rfl, rfl, hn, _, rfl, rfl, ?_⟩
  change WSsX _ _ [_, _, _, _] [] _ _
  refine wssx_cons ?_
  refine wsx_if ?_
  refine wt_not ?_
  apply VT.use
  ·
    apply vt_chain op_le op_lt (by rfl)
    ·
      intro Q hQ
      refine we_int ?_
      exact hQ
    ·
      intro Q hQ
      refine we_name 1 rfl (.inr (.inl rfl)) rfl ?_
      exact hQ
    intro hg1
    intro Q hQ
    refine we_sub ?_
    refine we_name 0 rfl (.inr (.inl rfl)) rfl ?_
    refine we_int ?_
    refine ⟨_, _, rfl, rfl, ?_⟩
    exact hQ
  refine ⟨fun hif1 => ?_, fun hif1 => ?_⟩
  ·
    change WSsX _ _ [_, _, _, _] [] _ _
    refine wssx_one ?_
    refine wsx_raise rfl E_InvalidHook (hr.mono (by omega)) ?_
    refine we_name 1 rfl (.inr (.inl rfl)) rfl ?_
    exact ⟨Nat.zero_le _, kq⟩
  ·
    exfalso
    simp only [Bool.not_eq_false', Bool.and_eq_true, decide_eq_true_eq] at hif1
    omega --done
end
section
variable {P : Program} {w : World} {K : PySem.W.Frag} {mg : Str → Option Value} {base : Heap}
theorem ok_strings {f : Addr} {fd : FuncData} (F : Fun K "strings" "strings" s_strings f fd) {f_check_mat : Addr} {fd_check_mat : FuncData} (F_check_mat : FnOk P w K mg base CX0 4 f_check_mat fd_check_mat ["mat"] (toSp K MM.spCheck)) (m_check_mat : mg "check_mat" = some (.ref f_check_mat)) (k_check_mat : PySem.W.keepIn K (.ref f_check_mat) = true) (b_check_mat : Binds K fd_check_mat ["mat"] []) {f__strings : Addr} {fd__strings : FuncData} (F__strings : FnOk P w K mg base CX0 1 f__strings fd__strings ["mat"] (toSp K MM.spStr)) (m__strings : mg "_strings" = some (.ref f__strings)) (k__strings : PySem.W.keepIn K (.ref f__strings) = true) (b__strings : Binds K fd__strings ["mat"] []) : FnOk P w K mg base CX0 5 f fd ["mat"] (toSp K JJ.spStrings) := by
  have sc := sc_strings
  refine fn_pp F sc (fun pvs m q h => ?_) (fun cdv A outer s H E hr pvs m q h => ?_)
  · obtain ⟨_, _, _, rfl, _⟩ := h
    rfl
  obtain ⟨u, d, ns, rfl, rfl, hu1, hd1, hl, hb, kq⟩ := h
  change WSs _ _ [_] [] _
  refine wss_cons ?_
  refine ws_expr ?_
  refine we_call [] F_check_mat (hr.mono (by omega)) m_check_mat k_check_mat b_check_mat ?_
  refine wa_d ?_
  refine we_name 0 rfl (.inl rfl) rfl ?_
  refine wa_nil ?_
  refine ⟨by decide, by (simp [setAll_len, setAll_nil]), by (simp [refsIn, setAll_len, setAll_nil, permL]), u, d, ns, rfl, rfl, hu1, hd1, hl, hb, _, rfl, rfl, ?_⟩
  change WSs _ _ [_] [] _
  refine wss_one ?_
  refine ws_retF ?_
  refine wf_call [] F__strings (hr.mono (by omega)) m__strings k__strings b__strings ?_
  refine wa_d ?_
  refine we_name 0 rfl (.inl rfl) rfl ?_
  refine wa_nil ?_
  refine ⟨by decide, by (simp [setAll_len, setAll_nil]), by (simp [refsIn, setAll_len, setAll_nil, permL]), u, d, ns, rfl, rfl, hl, [], _, rfl, rfl, rfl, ?_⟩
  exact ⟨Nat.zero_le _, .inr (.inr ⟨_, _, rfl, Nat.le_refl _, rfl, kq⟩)⟩
end
section
variable {P : Program} {w : World} {K : PySem.W.Frag} {mg : Str → Option Value} {base : Heap}
theorem ok_l_ends {f : Addr} {fd : FuncData} (F : Fun K "_law_ends" "_law_ends" s_l_ends f fd) (m_sorted : mg "sorted" = none) (m_tuple : mg "tuple" = none) : FnOk P w K mg base CX0 1 f fd ["_law_up", "_law_pairs_here"] (toSp K JJ.spEnds) := by
  have sc := sc_l_ends
  refine fn_pp F sc (fun pvs m q h => ?_) (fun cdv A outer s H E hr pvs m q h => ?_)
  · obtain ⟨_, _, _, _, rfl, _⟩ := h
    rfl
  obtain ⟨u, d, P, ns, rfl, rfl, IP, hu1, hd1, kq⟩ := h
  have hu0 := IP.hu
  have hd0 := IP.hd
  have hlP : (P.map (MM.pairD u)).length = P.length := List.length_map ..
  have hPl := MM.match_len hu0 hd0 IP.M
  change WSs _ _ [_, _, _, _] [] _
  refine wss_one ?_
  refine ws_retF ?_
  refine wf_sortedD (by (first | exact hr.units | exact units65 hr | exact units1 hr)) m_sorted ?_
  refine wv_we ?_
  refine we_wf ?_
  refine wf_lc [("_law_left", 2), ("_law_right", 3)] (.tp [2, 3]) rfl sc.nd (blkOk_by (own := [("_law_left", 2), ("_law_right", 3)]) (N := ["_law_up", "_law_pairs_here", "_law_left", "_law_right"]) (by rfl)) (fun _ _ _ _ _ => pg_tp2 sc.nd rfl (.inl rfl) (.inr rfl) rfl (.inl rfl) (.inr rfl)) (by decide) ?_
  refine wi_list ?_
  refine wv_name 1 rfl (.inl rfl) rfl ?_
  refine ⟨_, rfl, ?_⟩
  refine lcP (szl (by (first | omega | (rw [rgD_len]; omega) | (rw [rgD3_len]; omega) | (simp only [List.length_append, List.length_cons, List.length_nil, List.length_set, List.length_map, List.length_range, rgD_len, rgD3_len, enD_len]; omega) | omega | decide))) rfl (fun i => MM.nPair (JJ.ordP (P.getD i (0, 0)))) (fun i x hx => ?_) ?_
  ·
    obtain ⟨p, hp, rfl⟩ := MM.map_get hx
    have hpm := List.mem_of_getElem? hp
    have a1 := (MM.ringI_mem hu0 hd0).mp ((IP.M.mem p.1).mp (MM.mem_ends.mpr ⟨p, hpm, .inl rfl⟩))
    have a2 := (MM.ringI_mem hu0 hd0).mp ((IP.M.mem p.2).mp (MM.mem_ends.mpr ⟨p, hpm, .inr rfl⟩))
    obtain ⟨s1, i1, e1, f1, g1, g2, g3⟩ := MM.pegD_at a1.1 a1.2
    obtain ⟨s2, i2, e2, f2, g4, g5, g6⟩ := MM.pegD_at a2.1 a2.2
    have ex : MM.pairD u p = .tuple [.tuple [.int s1, .int i1], .tuple [.int s2, .int i2]] := by unfold MM.pairD; rw [e1, e2]
    have hgp : P.getD i (0, 0) = p := by rw [List.getD_eq_getElem?_getD, hp, Option.getD_some]
    rw [ex, hgp]
    refine ⟨_, rfl, ?_⟩
    intro sb Hb Cb clb fpb
    refine we_tuple1 m_tuple ?_
    refine wv_we ?_
    refine we_wf ?_
    refine wf_sortedI m_sorted ?_
    refine wv_we ?_
    refine we_wf ?_
    refine wf_lst ?_
    refine wd_cons ?_
    refine we_add ?_
    refine we_mul ?_
    refine we_ix ?_
    refine wv_name 2 rfl (.inl rfl) rfl ?_
    refine we_int ?_
    refine ⟨_, _, _, rfl, rfl, rfl, ?_⟩
    refine we_name 0 rfl (by first | exact .inr (.inl rfl) | exact .inr (.inr rfl)) rfl ?_
    refine ⟨_, _, rfl, rfl, cmul_of (Bd.of (k := 2) (by omega) (by omega)) (Bd.of (k := 17) (by omega) (by omega)), ?_⟩
    refine we_ix ?_
    refine wv_name 2 rfl (.inl rfl) rfl ?_
    refine we_int ?_
    refine ⟨_, _, _, rfl, rfl, rfl, ?_⟩
    refine ⟨_, _, rfl, rfl, ?_⟩
    refine wd_cons ?_
    refine we_add ?_
    refine we_mul ?_
    refine we_ix ?_
    refine wv_name 3 rfl (.inl rfl) rfl ?_
    refine we_int ?_
    refine ⟨_, _, _, rfl, rfl, rfl, ?_⟩
    refine we_name 0 rfl (by first | exact .inr (.inl rfl) | exact .inr (.inr rfl)) rfl ?_
    refine ⟨_, _, rfl, rfl, cmul_of (Bd.of (k := 2) (by omega) (by omega)) (Bd.of (k := 17) (by omega) (by omega)), ?_⟩
    refine we_ix ?_
    refine wv_name 3 rfl (.inl rfl) rfl ?_
    refine we_int ?_
    refine ⟨_, _, _, rfl, rfl, rfl, ?_⟩
    refine ⟨_, _, rfl, rfl, ?_⟩
    refine wd_nil ?_
    refine ⟨szl (by simp), ?_⟩
    rw [f1, f2]
    refine ⟨[p.1, p.2], rfl, by simp, fun ns2 pm pw => ?_⟩
    have e2 := perm2 pm pw
    subst e2
    refine ⟨_, rfl, ?_⟩
    exact ⟨rfl, rfl⟩
  rw [hlP, MM.range_getD (fun p : Int × Int => MM.nPair (JJ.ordP p)) (0, 0) P, show P.map (fun p => MM.nPair (JJ.ordP p)) = (P.map JJ.ordP).map MM.nPair by rw [List.map_map]; rfl]
  refine ⟨_, rfl, JJ.pairs_sort.1, JJ.pairs_sort.2.1, JJ.pairs_sort.2.2, ?_⟩
  rw [JJ.srt_strings IP]
  exact ⟨Nat.zero_le _, .inr (.inr ⟨_, _, rfl, Nat.le_refl _, rfl, kq⟩)⟩
end
section
variable {P : Program} {w : World} {K : PySem.W.Frag} {mg : Str → Option Value} {base : Heap}
theorem ok_l_level {f : Addr} {fd : FuncData} (F : Fun K "_law_level" "_law_level" s_l_level f fd) (m_range : mg "range" = none) : FnOk P w K mg base CX0 1 f fd ["_law_size"] (toSp K JJ.spLevel) := by
  have sc := sc_l_level
  refine fn_pp F sc (fun pvs m q h => ?_) (fun cdv A outer s H E hr pvs m q h => ?_)
  · obtain ⟨_, rfl, _⟩ := h
    rfl
  obtain ⟨n, rfl, rfl, h0, h1, kq⟩ := h
  change WSs _ _ [_, _] [] _
  refine wss_one ?_
  refine ws_retF ?_
  refine wf_lc [("_law_at", 1)] (.nm 1) rfl sc.nd (blkOk_by (own := [("_law_at", 1)]) (N := ["_law_size", "_law_at"]) (by rfl)) (fun _ _ _ _ _ => pg_nm sc.nd rfl (.inl rfl) (.inr rfl)) (by decide) ?_
  refine wi_rng1 m_range ?_
  refine we_name 0 rfl (.inl rfl) rfl ?_
  refine ⟨_, rfl, by omega, by omega, ?_⟩
  refine lcP (szl (by (first | omega | (rw [rgD_len]; omega) | (rw [rgD3_len]; omega) | (simp only [List.length_append, List.length_cons, List.length_nil, List.length_set, List.length_map, List.length_range, rgD_len, rgD3_len, enD_len]; omega) | omega | decide))) trivial (fun i => MM.pairD n ((i : Int), n + (i : Int))) (fun i x hx => ?_) ?_
  ·
    obtain ⟨hi, rfl⟩ := rgD_get hx
    refine ⟨_, rfl, ?_⟩
    intro sb Hb Cb clb fpb
    refine we_tup ?_
    refine wd_cons ?_
    refine we_tup ?_
    refine wd_cons ?_
    refine we_int ?_
    refine wd_cons ?_
    refine we_name 1 rfl (.inl rfl) rfl ?_
    refine wd_nil ?_
    refine ⟨szl (by simp), ?_⟩
    refine wd_cons ?_
    refine we_tup ?_
    refine wd_cons ?_
    refine we_int ?_
    refine wd_cons ?_
    refine we_name 1 rfl (.inl rfl) rfl ?_
    refine wd_nil ?_
    refine ⟨szl (by simp), ?_⟩
    refine wd_nil ?_
    refine ⟨szl (by simp), ?_⟩
    refine ⟨?_, rfl⟩
    unfold MM.pairD MM.pegD
    rw [if_pos (by dsimp only; omega), if_neg (by dsimp only; omega), show (0 : Int) + (i : Int) = i by omega]
    dsimp only
    rw [show n + (i : Int) - n = i by omega]
  refine ⟨Nat.zero_le _, .inr (.inr ⟨_, _, rfl, Nat.le_refl _, rfl, ?_⟩)⟩
  rw [rgD_len, show (n - 0).toNat = n.toNat by omega, show (List.range n.toNat).map (fun i : Nat => MM.pairD n ((i : Int), n + (i : Int))) = (MM.strP n).map (MM.pairD n) by unfold MM.strP; rw [List.map_map]; rfl]
  exact kq
end
section
variable {P : Program} {w : World} {K : PySem.W.Frag} {mg : Str → Option Value} {base : Heap}
theorem ok_l_hooked {f : Addr} {fd : FuncData} (F : Fun K "_law_hooked" "_law_hooked" s_l_hooked f fd) {f__law_level : Addr} {fd__law_level : FuncData} (F__law_level : FnOk P w K mg base CX0 1 f__law_level fd__law_level ["_law_size"] (toSp K JJ.spLevel)) (m__law_level : mg "_law_level" = some (.ref f__law_level)) (k__law_level : PySem.W.keepIn K (.ref f__law_level) = true) (b__law_level : Binds K fd__law_level ["_law_size"] []) : FnOk P w K mg base CX0 2 f fd ["_law_size", "_law_place"] (toSp K JJ.spHkd4) := by
  have sc := sc_l_hooked
  refine fn_pp F sc (fun pvs m q h => ?_) (fun cdv A outer s H E hr pvs m q h => ?_)
  · obtain ⟨_, _, rfl, _⟩ := h
    rfl
  obtain ⟨n, j, rfl, rfl, h0, h1, h2, kq⟩ := h
  have hlS : (MM.strP n).length = n.toNat := by unfold MM.strP; rw [List.length_map, List.length_range]
  have hlm : ((MM.strP n).map (MM.pairD n)).length = n.toNat := by rw [List.length_map, hlS]
  change WSs _ _ [_, _, _, _] [] _
  refine wss_cons ?_
  refine ws_setLc1 2 [("_law_pair", 3)] (.nm 3) rfl sc.nd rfl rfl (sw_true rfl rfl rfl (by decide +kernel)) (blkOk_by (own := [("_law_pair", 3)]) (N := ["_law_size", "_law_place", "_law_kept", "_law_pair"]) (by rfl)) (fun _ _ _ _ _ => pg_nm sc.nd rfl (.inl rfl) (.inr rfl)) (by decide) ?_
  refine wi_new ?_
  refine wf_call [] F__law_level (hr.mono (by omega)) m__law_level k__law_level b__law_level ?_
  refine wa_d ?_
  refine we_name 0 rfl (.inl rfl) rfl ?_
  refine wa_nil ?_
  refine ⟨by decide, by (simp [setAll_len, setAll_nil]), by (simp [refsIn, setAll_len, setAll_nil, permL]), n, rfl, rfl, by omega, by omega, [], _, rfl, rfl, rfl, ?_⟩
  refine ⟨szl (by rw [hlm]; omega), fun i ys m => m = [] ∧ ys = (((List.range i).map fun k : Nat => ((k : Int), n + (k : Int))).filter fun p => !decide (p.1 ∈ [j, j + 1])).map (MM.pairD n), ?_, fun i x ys m hx hy hI => ?_, fun ys m hy hI => ?_⟩
  ·
    exact ⟨rfl, rfl⟩
  ·
    obtain ⟨rfl, rfl⟩ := hI
    obtain ⟨p, hp, rfl⟩ := MM.map_get hx
    have hi : i < n.toNat := by rw [← hlS]; exact (List.getElem?_eq_some_iff.mp hp).1
    have ep : p = ((i : Int), n + (i : Int)) := by
      unfold MM.strP at hp
      rw [List.getElem?_map, List.getElem?_range hi] at hp
      exact (Option.some.inj hp).symm
    subst ep
    have ex : MM.pairD n ((i : Int), n + (i : Int)) = .tuple [.tuple [.int 0, .int i], .tuple [.int 1, .int i]] := by
      unfold MM.pairD MM.pegD
      rw [if_pos (by dsimp only; omega), if_neg (by dsimp only; omega)]
      dsimp only
      rw [show n + (i : Int) - n = i by omega]
    rw [ex]
    refine ⟨trivial, _, rfl, ?_⟩
    intro sb Hb Cb clb fpb
    apply VT.use
    ·
      apply VW.vt
      apply vw_or
      ·
        intro Q hQ
        refine wt_lt ?_
        refine we_ix ?_
        refine wv_we ?_
        refine we_ix ?_
        refine wv_name 3 rfl (.inl rfl) rfl ?_
        refine we_int ?_
        refine ⟨_, _, _, rfl, rfl, rfl, ?_⟩
        refine we_int ?_
        refine ⟨_, _, _, rfl, rfl, rfl, ?_⟩
        refine we_name 1 rfl (by first | exact .inr (.inl rfl) | exact .inr (.inr rfl)) rfl ?_
        refine ⟨_, _, rfl, rfl, ?_⟩
        exact hQ
      intro hg1
      apply vw_or1
      intro Q hQ
      refine wt_gt ?_
      refine we_ix ?_
      refine wv_we ?_
      refine we_ix ?_
      refine wv_name 3 rfl (.inl rfl) rfl ?_
      refine we_int ?_
      refine ⟨_, _, _, rfl, rfl, rfl, ?_⟩
      refine we_int ?_
      refine ⟨_, _, _, rfl, rfl, rfl, ?_⟩
      refine we_add ?_
      refine we_name 1 rfl (by first | exact .inr (.inl rfl) | exact .inr (.inr rfl)) rfl ?_
      refine we_int ?_
      refine ⟨_, _, rfl, rfl, ?_⟩
      refine ⟨_, _, rfl, rfl, ?_⟩
      exact hQ
    refine ⟨fun hlcif1 => ?_, fun hlcif1 => ?_⟩
    ·
      intro sb Hb Cb clb fpb
      refine we_name 3 rfl (.inl rfl) rfl ?_
      refine ⟨rfl, ?_⟩
      simp only [Bool.or_eq_true, decide_eq_true_eq] at hlcif1
      have hm : (!decide ((i : Int) ∈ [j, j + 1])) = true := by
        rw [Bool.not_eq_true', decide_eq_false_iff_not]
        simp only [List.mem_cons, List.not_mem_nil, or_false]
        omega
      rw [← ex, List.range_succ, List.map_append, List.filter_append, List.map_append]
      congr 1
      rw [List.map_cons, List.map_nil, List.filter_cons, if_pos hm]
      rfl
    ·
      refine ⟨rfl, ?_⟩
      simp only [Bool.or_eq_false_iff, decide_eq_false_iff_not] at hlcif1
      have hm : (!decide ((i : Int) ∈ [j, j + 1])) = false := by
        rw [Bool.not_eq_false', decide_eq_true_eq]
        simp only [List.mem_cons, List.not_mem_nil, or_false]
        omega
      rw [List.range_succ, List.map_append, List.filter_append, List.map_append, List.map_cons, List.map_nil, List.filter_cons, if_neg (by dsimp only; rw [hm]; exact Bool.false_ne_true)]
      exact (List.append_nil _).symm
  obtain ⟨rfl, rfl⟩ := hI
  rw [hlm]
  rw [show (((List.range n.toNat).map fun k : Nat => ((k : Int), n + (k : Int))).filter fun p => !decide (p.1 ∈ [j, j + 1])) = MM.keepP n j from rfl]
  have hkl : (MM.keepP n j).length ≤ n.toNat := Nat.le_trans (List.length_filter_le ..) (by rw [hlS]; exact Nat.le_refl _)
  refine ⟨trivial, ?_⟩
  refine .inl ?_
  change WSs _ _ [_, _, _, _] [] _
  refine wss_one ?_
  refine ws_retF ?_
  refine wf_cat ?_
  refine wv_name 2 rfl (.inl rfl) rfl ?_
  refine wv_we ?_
  refine we_wf ?_
  refine wf_lst ?_
  refine wd_cons ?_
  refine we_tup ?_
  refine wd_cons ?_
  refine we_tup ?_
  refine wd_cons ?_
  refine we_int ?_
  refine wd_cons ?_
  refine we_name 1 rfl (.inr (.inl rfl)) rfl ?_
  refine wd_nil ?_
  refine ⟨szl (by simp), ?_⟩
  refine wd_cons ?_
  refine we_tup ?_
  refine wd_cons ?_
  refine we_int ?_
  refine wd_cons ?_
  refine we_add ?_
  refine we_name 1 rfl (.inr (.inl rfl)) rfl ?_
  refine we_int ?_
  refine ⟨_, _, rfl, rfl, ?_⟩
  refine wd_nil ?_
  refine ⟨szl (by simp), ?_⟩
  refine wd_nil ?_
  refine ⟨szl (by simp), ?_⟩
  refine wd_cons ?_
  refine we_tup ?_
  refine wd_cons ?_
  refine we_tup ?_
  refine wd_cons ?_
  refine we_int ?_
  refine wd_cons ?_
  refine we_name 1 rfl (.inr (.inl rfl)) rfl ?_
  refine wd_nil ?_
  refine ⟨szl (by simp), ?_⟩
  refine wd_cons ?_
  refine we_tup ?_
  refine wd_cons ?_
  refine we_int ?_
  refine wd_cons ?_
  refine we_add ?_
  refine we_name 1 rfl (.inr (.inl rfl)) rfl ?_
  refine we_int ?_
  refine ⟨_, _, rfl, rfl, ?_⟩
  refine wd_nil ?_
  refine ⟨szl (by simp), ?_⟩
  refine wd_nil ?_
  refine ⟨szl (by simp), ?_⟩
  refine wd_nil ?_
  refine ⟨szl (by simp), ?_⟩
  refine ⟨_, _, rfl, rfl, szl (by rw [List.length_map]; simp; omega), ?_⟩
  refine ⟨by simp, .inr (.inr ⟨_, _, rfl, by simp, rfl, ?_⟩)⟩
  have e9 : (MM.hookP n j).map (MM.pairD n) = (MM.keepP n j).map (MM.pairD n) ++ [.tuple [.tuple [.int 0, .int j], .tuple [.int 0, .int (j + 1)]], .tuple [.tuple [.int 1, .int j], .tuple [.int 1, .int (j + 1)]]] := by
    unfold MM.hookP
    rw [List.map_append]
    congr 1
    rw [List.map_cons, List.map_cons, List.map_nil]
    unfold MM.pairD MM.pegD
    rw [if_pos (by dsimp only; omega), if_pos (by dsimp only; omega), if_neg (by dsimp only; omega), if_neg (by dsimp only; omega)]
    dsimp only
    rw [show n + j - n = j by omega, show n + j + 1 - n = j + 1 by omega]
  rw [e9] at kq
  exact kq
end
section
variable {P : Program} {w : World} {K : PySem.W.Frag} {mg : Str → Option Value} {base : Heap}
theorem ok_l_refused_n {f : Addr} {fd : FuncData} (F : Fun K "_law_refused" "_law_refused" s_l_refused f fd) {c_MatError : Addr} (E_MatError : EOk P w K mg base "MatError" c_MatError (spIn K)) {c_InvalidNumber : Addr} (E_InvalidNumber : EOk P w K mg base "InvalidNumber" c_InvalidNumber (spIn K)) {c_InvalidHook : Addr} (E_InvalidHook : EOk P w K mg base "InvalidHook" c_InvalidHook (spIn K)) (sb_InvalidNumber_MatError : PySem.W.subIn K (.ref c_InvalidNumber) (.ref c_MatError) = some true) (sb_InvalidNumber_InvalidNumber : PySem.W.subIn K (.ref c_InvalidNumber) (.ref c_InvalidNumber) = some true) (sb_InvalidNumber_InvalidHook : PySem.W.subIn K (.ref c_InvalidNumber) (.ref c_InvalidHook) = some false) {f_straight : Addr} {fd_straight : FuncData} (F_straight : FnOk P w K mg base CX0 2 f_straight fd_straight ["n"] (toSp K MM.spStraight)) (FX_straight : FnOk P w K mg base (L2.CX P w) 4 f_straight fd_straight ["n"] (toSpX K (JJ.spxStr c_InvalidNumber))) (m_straight : mg "straight" = some (.ref f_straight)) (k_straight : PySem.W.keepIn K (.ref f_straight) = true) (b_straight : Binds K fd_straight ["n"] []) {f_hook : Addr} {fd_hook : FuncData} (F_hook : FnOk P w K mg base CX0 2 f_hook fd_hook ["n", "i"] (toSp K MM.spHook)) (m_hook : mg "hook" = some (.ref f_hook)) (k_hook : PySem.W.keepIn K (.ref f_hook) = true) (b_hook : Binds K fd_hook ["n", "i"] []) (m_isinstance : mg "isinstance" = none) : FnOk P w K mg base CX0 5 f fd ["_law_size", "_law_place", "_law_by_name"] (toSp K JJ.spRfN) := by
  have sc := sc_l_refused
  refine fn_pp F sc (fun pvs m q h => ?_) (fun cdv A outer s H E hr pvs m q h => ?_)
  · obtain ⟨_, _, rfl, _⟩ := h
    rfl
  obtain ⟨s9, k, rfl, rfl, hs, kq⟩ := h
  change WSs _ _ [_, _, _, _, _, _] [] _
  refine wss_cons ?_
  refine ws_set 3 sc.nd rfl (.inl rfl) ?_
  refine we_none ?_
  change WSs _ _ [_, _, _, _, _, _] [] _
  refine wss_cons ?_
  refine ws_tryX rfl rfl sc.nd rfl (fun pn xe hpo => ?_)
  change WSsX _ _ [_, _, _, _, _, _] [] _ _
  refine wssx_one ?_
  refine wsx_if ?_
  refine wt_isNone ?_
  refine we_name 1 rfl (.inl rfl) rfl ?_
  refine we_none ?_
  refine ⟨rfl, ?_⟩
  refine ⟨fun hif1 => ?_, fun hif1 => ?_⟩
  ·
    change WSsX _ _ [_, _, _, _, _, _] [] _ _
    refine wssx_one ?_
    refine wsx_expr ?_
    refine wex_call [] FX_straight (hr.mono (by omega)) m_straight k_straight b_straight ?_
    refine wa_d ?_
    refine we_name 0 rfl (.inl rfl) rfl ?_
    refine wa_nil ?_
    refine ⟨by decide, by (simp [setAll_len, setAll_nil]), by (simp [refsIn, setAll_len, setAll_nil, permL]), s9, rfl, rfl, hs, rfl, ?_⟩
    refine hq_as 4 rfl rfl ⟨by rfl, by decide, .inl E_MatError.m⟩ (exm_of E_MatError.toExOk (by first | exact sb_InvalidNumber_MatError | exact sb_InvalidNumber_InvalidNumber | exact sb_InvalidNumber_InvalidHook)) (fun a0 pn0 => ?_)
    change WSs _ _ [_, _, _, _, _, _] [] _
    refine wss_one ?_
    refine ws_setV 3 sc.nd rfl (.inl rfl) ?_
    refine wv_name 4 rfl (.inl rfl) rfl ?_
    change WSs _ _ [_, _, _, _, _, _] [] _
    refine wss_cons ?_
    refine ws_if ?_
    refine wt_isNoneX ?_
    refine wv_name 3 rfl (.inl rfl) rfl ?_
    refine ⟨⟨_, _, rfl⟩, ?_⟩
    refine we_none ?_
    refine ⟨rfl, ?_⟩
    refine ⟨fun hif2 => ?_, fun hif2 => ?_⟩
    ·
      cases hif2 --done
    ·
      refine wss_nil ?_
      change WSs _ _ [_, _, _, _, _, _] [] _
      refine wss_cons ?_
      refine ws_set 5 sc.nd rfl (.inl rfl) ?_
      refine we_wf ?_
      refine wf_lst ?_
      refine wd_cons ?_
      refine we_isK m_isinstance E_InvalidNumber.m ?_
      refine wv_name 3 rfl (.inl rfl) rfl ?_
      refine ⟨_, _, _, rfl, (by first | exact E_MatError.toExOk | exact E_InvalidNumber.toExOk | exact E_InvalidHook.toExOk), kit_of (by first | exact E_MatError.toExOk | exact E_InvalidNumber.toExOk | exact E_InvalidHook.toExOk) E_InvalidNumber.toExOk (by first | exact sb_InvalidNumber_MatError | exact sb_InvalidNumber_InvalidNumber | exact sb_InvalidNumber_InvalidHook), ?_⟩
      refine wd_cons ?_
      refine we_isK m_isinstance E_InvalidHook.m ?_
      refine wv_name 3 rfl (.inl rfl) rfl ?_
      refine ⟨_, _, _, rfl, (by first | exact E_MatError.toExOk | exact E_InvalidNumber.toExOk | exact E_InvalidHook.toExOk), kit_of (by first | exact E_MatError.toExOk | exact E_InvalidNumber.toExOk | exact E_InvalidHook.toExOk) E_InvalidHook.toExOk (by first | exact sb_InvalidNumber_MatError | exact sb_InvalidNumber_InvalidNumber | exact sb_InvalidNumber_InvalidHook), ?_⟩
      refine wd_nil ?_
      refine ⟨szl (by simp), ?_⟩
      change WSs _ _ [_, _, _, _, _, _] [] _
      refine wss_cons ?_
      refine ws_if ?_
      refine wt_eq (by (first | exact hr.units | exact units65 hr | exact units1 hr)) ?_
      refine we_name 5 rfl (.inl rfl) rfl ?_
      refine we_wf ?_
      refine wf_lst ?_
      refine wd_cons ?_
      refine we_bool ?_
      refine wd_cons ?_
      refine we_bool ?_
      refine wd_nil ?_
      refine ⟨szl (by simp), ?_⟩
      refine ⟨rfl, rfl, ?_⟩
      refine ⟨fun hif3 => ?_, fun hif3 => ?_⟩
      ·
        change WSs _ _ [_, _, _, _, _, _] [] _
        refine wss_one ?_
        refine ws_ret ?_
        refine we_tup ?_
        refine wd_cons ?_
        refine we_str ?_
        refine wd_cons ?_
        refine we_exv ?_
        refine wv_name 3 rfl (.inl rfl) rfl ?_
        refine ⟨_, _, rfl, (by first | exact E_MatError.toExOk | exact E_InvalidNumber.toExOk | exact E_InvalidHook.toExOk), ?_⟩
        refine wd_nil ?_
        refine ⟨szl (by simp), ?_⟩
        exact ⟨Nat.zero_le _, .inl ⟨_, rfl, kq⟩⟩
      ·
        exfalso
        revert hif3
        decide +kernel --done
  ·
    cases hif1 --done
end
section
variable {P : Program} {w : World} {K : PySem.W.Frag} {mg : Str → Option Value} {base : Heap}
theorem ok_l_refused_a1 {f : Addr} {fd : FuncData} (F : Fun K "_law_refused" "_law_refused" s_l_refused f fd) {c_MatError : Addr} (E_MatError : EOk P w K mg base "MatError" c_MatError (spIn K)) {c_InvalidNumber : Addr} (E_InvalidNumber : EOk P w K mg base "InvalidNumber" c_InvalidNumber (spIn K)) {c_InvalidHook : Addr} (E_InvalidHook : EOk P w K mg base "InvalidHook" c_InvalidHook (spIn K)) (sb_InvalidNumber_MatError : PySem.W.subIn K (.ref c_InvalidNumber) (.ref c_MatError) = some true) (sb_InvalidNumber_InvalidNumber : PySem.W.subIn K (.ref c_InvalidNumber) (.ref c_InvalidNumber) = some true) (sb_InvalidNumber_InvalidHook : PySem.W.subIn K (.ref c_InvalidNumber) (.ref c_InvalidHook) = some false) (sb_InvalidHook_MatError : PySem.W.subIn K (.ref c_InvalidHook) (.ref c_MatError) = some true) (sb_InvalidHook_InvalidNumber : PySem.W.subIn K (.ref c_InvalidHook) (.ref c_InvalidNumber) = some false) (sb_InvalidHook_InvalidHook : PySem.W.subIn K (.ref c_InvalidHook) (.ref c_InvalidHook) = some true) {f_straight : Addr} {fd_straight : FuncData} (F_straight : FnOk P w K mg base CX0 2 f_straight fd_straight ["n"] (toSp K MM.spStraight)) (m_straight : mg "straight" = some (.ref f_straight)) (k_straight : PySem.W.keepIn K (.ref f_straight) = true) (b_straight : Binds K fd_straight ["n"] []) {f_hook : Addr} {fd_hook : FuncData} (F_hook : FnOk P w K mg base CX0 2 f_hook fd_hook ["n", "i"] (toSp K MM.spHook)) (FX_hook : FnOk P w K mg base (L2.CX P w) 4 f_hook fd_hook ["n", "i"] (toSpX K (fun pvs m q => JJ.spxHookN c_InvalidNumber pvs m q ∨ JJ.spxHookI c_InvalidHook pvs m q))) (m_hook : mg "hook" = some (.ref f_hook)) (k_hook : PySem.W.keepIn K (.ref f_hook) = true) (b_hook : Binds K fd_hook ["n", "i"] []) (m_isinstance : mg "isinstance" = none) (bR0_hook_i_n : KBr K fd_hook ["n", "i"] 0 ["i", "n"] [1, 0]) : FnOk P w K mg base CX0 5 f fd ["_law_size", "_law_place", "_law_by_name"] (toSp K (JJ.spRfA true)) := by
  have sc := sc_l_refused
  refine fn_pp F sc (fun pvs m q h => ?_) (fun cdv A outer s H E hr pvs m q h => ?_)
  · obtain ⟨_, _, rfl, _⟩ := h
    rfl
  obtain ⟨s9, i9, rfl, rfl, hs, kq⟩ := h
  change WSs _ _ [_, _, _, _, _, _] [] _
  refine wss_cons ?_
  refine ws_set 3 sc.nd rfl (.inl rfl) ?_
  refine we_none ?_
  change WSs _ _ [_, _, _, _, _, _] [] _
  refine wss_cons ?_
  refine ws_tryX rfl rfl sc.nd rfl (fun pn xe hpo => ?_)
  change WSsX _ _ [_, _, _, _, _, _] [] _ _
  refine wssx_one ?_
  refine wsx_if ?_
  refine wt_isNone ?_
  refine we_name 1 rfl (.inl rfl) rfl ?_
  refine we_none ?_
  refine ⟨rfl, ?_⟩
  refine ⟨fun hif1 => ?_, fun hif1 => ?_⟩
  ·
    cases hif1 --done
  ·
    change WSsX _ _ [_, _, _, _, _, _] [] _ _
    refine wssx_one ?_
    refine wsx_if ?_
    refine wt_val ?_
    refine we_name 2 rfl (.inl rfl) rfl ?_
    refine ⟨_, rfl, ?_⟩
    refine ⟨fun hif2 => ?_, fun hif2 => ?_⟩
    ·
      change WSsX _ _ [_, _, _, _, _, _] [] _ _
      refine wssx_one ?_
      refine wsx_expr ?_
      refine wex_callR0 [] FX_hook (hr.mono (by omega)) m_hook k_hook bR0_hook_i_n ?_
      refine wk_d ?_
      refine we_name 1 rfl (.inl rfl) rfl ?_
      refine wk_d ?_
      refine we_name 0 rfl (.inl rfl) rfl ?_
      refine wk_nil ?_
      refine ⟨rfl, rfl, ?_⟩
      refine ⟨by decide, by (simp [setAll_len, setAll_nil]), by (simp [refsIn, setAll_len, setAll_nil, permL]), .inl ⟨s9, i9, rfl, rfl, hs, rfl, ?_⟩⟩
      refine hq_as 4 rfl rfl ⟨by rfl, by decide, .inl E_MatError.m⟩ (exm_of E_MatError.toExOk (by first | exact sb_InvalidNumber_MatError | exact sb_InvalidNumber_InvalidNumber | exact sb_InvalidNumber_InvalidHook | exact sb_InvalidHook_MatError | exact sb_InvalidHook_InvalidNumber | exact sb_InvalidHook_InvalidHook)) (fun a0 pn0 => ?_)
      change WSs _ _ [_, _, _, _, _, _] [] _
      refine wss_one ?_
      refine ws_setV 3 sc.nd rfl (.inl rfl) ?_
      refine wv_name 4 rfl (.inl rfl) rfl ?_
      change WSs _ _ [_, _, _, _, _, _] [] _
      refine wss_cons ?_
      refine ws_if ?_
      refine wt_isNoneX ?_
      refine wv_name 3 rfl (.inl rfl) rfl ?_
      refine ⟨⟨_, _, rfl⟩, ?_⟩
      refine we_none ?_
      refine ⟨rfl, ?_⟩
      refine ⟨fun hif3 => ?_, fun hif3 => ?_⟩
      ·
        cases hif3 --done
      ·
        refine wss_nil ?_
        change WSs _ _ [_, _, _, _, _, _] [] _
        refine wss_cons ?_
        refine ws_set 5 sc.nd rfl (.inl rfl) ?_
        refine we_wf ?_
        refine wf_lst ?_
        refine wd_cons ?_
        refine we_isK m_isinstance E_InvalidNumber.m ?_
        refine wv_name 3 rfl (.inl rfl) rfl ?_
        refine ⟨_, _, _, rfl, (by first | exact E_MatError.toExOk | exact E_InvalidNumber.toExOk | exact E_InvalidHook.toExOk), kit_of (by first | exact E_MatError.toExOk | exact E_InvalidNumber.toExOk | exact E_InvalidHook.toExOk) E_InvalidNumber.toExOk (by first | exact sb_InvalidNumber_MatError | exact sb_InvalidNumber_InvalidNumber | exact sb_InvalidNumber_InvalidHook | exact sb_InvalidHook_MatError | exact sb_InvalidHook_InvalidNumber | exact sb_InvalidHook_InvalidHook), ?_⟩
        refine wd_cons ?_
        refine we_isK m_isinstance E_InvalidHook.m ?_
        refine wv_name 3 rfl (.inl rfl) rfl ?_
        refine ⟨_, _, _, rfl, (by first | exact E_MatError.toExOk | exact E_InvalidNumber.toExOk | exact E_InvalidHook.toExOk), kit_of (by first | exact E_MatError.toExOk | exact E_InvalidNumber.toExOk | exact E_InvalidHook.toExOk) E_InvalidHook.toExOk (by first | exact sb_InvalidNumber_MatError | exact sb_InvalidNumber_InvalidNumber | exact sb_InvalidNumber_InvalidHook | exact sb_InvalidHook_MatError | exact sb_InvalidHook_InvalidNumber | exact sb_InvalidHook_InvalidHook), ?_⟩
        refine wd_nil ?_
        refine ⟨szl (by simp), ?_⟩
        change WSs _ _ [_, _, _, _, _, _] [] _
        refine wss_cons ?_
        refine ws_if ?_
        refine wt_eq (by (first | exact hr.units | exact units65 hr | exact units1 hr)) ?_
        refine we_name 5 rfl (.inl rfl) rfl ?_
        refine we_wf ?_
        refine wf_lst ?_
        refine wd_cons ?_
        refine we_bool ?_
        refine wd_cons ?_
        refine we_bool ?_
        refine wd_nil ?_
        refine ⟨szl (by simp), ?_⟩
        refine ⟨rfl, rfl, ?_⟩
        refine ⟨fun hif4 => ?_, fun hif4 => ?_⟩
        ·
          change WSs _ _ [_, _, _, _, _, _] [] _
          refine wss_one ?_
          refine ws_ret ?_
          refine we_tup ?_
          refine wd_cons ?_
          refine we_str ?_
          refine wd_cons ?_
          refine we_exv ?_
          refine wv_name 3 rfl (.inl rfl) rfl ?_
          refine ⟨_, _, rfl, (by first | exact E_MatError.toExOk | exact E_InvalidNumber.toExOk | exact E_InvalidHook.toExOk), ?_⟩
          refine wd_nil ?_
          refine ⟨szl (by simp), ?_⟩
          exact ⟨Nat.zero_le _, .inl ⟨_, rfl, kq⟩⟩
        ·
          exfalso
          revert hif4
          decide +kernel --done
    ·
      cases hif2 --done
end
section
variable {P : Program} {w : World} {K : PySem.W.Frag} {mg : Str → Option Value} {base : Heap}
theorem ok_l_refused_a0 {f : Addr} {fd : FuncData} (F : Fun K "_law_refused" "_law_refused" s_l_refused f fd) {c_MatError : Addr} (E_MatError : EOk P w K mg base "MatError" c_MatError (spIn K)) {c_InvalidNumber : Addr} (E_InvalidNumber : EOk P w K mg base "InvalidNumber" c_InvalidNumber (spIn K)) {c_InvalidHook : Addr} (E_InvalidHook : EOk P w K mg base "InvalidHook" c_InvalidHook (spIn K)) (sb_InvalidNumber_MatError : PySem.W.subIn K (.ref c_InvalidNumber) (.ref c_MatError) = some true) (sb_InvalidNumber_InvalidNumber : PySem.W.subIn K (.ref c_InvalidNumber) (.ref c_InvalidNumber) = some true) (sb_InvalidNumber_InvalidHook : PySem.W.subIn K (.ref c_InvalidNumber) (.ref c_InvalidHook) = some false) (sb_InvalidHook_MatError : PySem.W.subIn K (.ref c_InvalidHook) (.ref c_MatError) = some true) (sb_InvalidHook_InvalidNumber : PySem.W.subIn K (.ref c_InvalidHook) (.ref c_InvalidNumber) = some false) (sb_InvalidHook_InvalidHook : PySem.W.subIn K (.ref c_InvalidHook) (.ref c_InvalidHook) = some true) {f_straight : Addr} {fd_straight : FuncData} (F_straight : FnOk P w K mg base CX0 2 f_straight fd_straight ["n"] (toSp K MM.spStraight)) (m_straight : mg "straight" = some (.ref f_straight)) (k_straight : PySem.W.keepIn K (.ref f_straight) = true) (b_straight : Binds K fd_straight ["n"] []) {f_hook : Addr} {fd_hook : FuncData} (F_hook : FnOk P w K mg base CX0 2 f_hook fd_hook ["n", "i"] (toSp K MM.spHook)) (FX_hook : FnOk P w K mg base (L2.CX P w) 4 f_hook fd_hook ["n", "i"] (toSpX K (fun pvs m q => JJ.spxHookN c_InvalidNumber pvs m q ∨ JJ.spxHookI c_InvalidHook pvs m q))) (m_hook : mg "hook" = some (.ref f_hook)) (k_hook : PySem.W.keepIn K (.ref f_hook) = true) (b_hook : Binds K fd_hook ["n", "i"] []) (m_isinstance : mg "isinstance" = none) : FnOk P w K mg base CX0 5 f fd ["_law_size", "_law_place", "_law_by_name"] (toSp K (JJ.spRfA false)) := by
  have sc := sc_l_refused
  refine fn_pp F sc (fun pvs m q h => ?_) (fun cdv A outer s H E hr pvs m q h => ?_)
  · obtain ⟨_, _, rfl, _⟩ := h
    rfl
  obtain ⟨s9, i9, rfl, rfl, hs, kq⟩ := h
  change WSs _ _ [_, _, _, _, _, _] [] _
  refine wss_cons ?_
  refine ws_set 3 sc.nd rfl (.inl rfl) ?_
  refine we_none ?_
  change WSs _ _ [_, _, _, _, _, _] [] _
  refine wss_cons ?_
  refine ws_tryX rfl rfl sc.nd rfl (fun pn xe hpo => ?_)
  change WSsX _ _ [_, _, _, _, _, _] [] _ _
  refine wssx_one ?_
  refine wsx_if ?_
  refine wt_isNone ?_
  refine we_name 1 rfl (.inl rfl) rfl ?_
  refine we_none ?_
  refine ⟨rfl, ?_⟩
  refine ⟨fun hif1 => ?_, fun hif1 => ?_⟩
  ·
    cases hif1 --done
  ·
    change WSsX _ _ [_, _, _, _, _, _] [] _ _
    refine wssx_one ?_
    refine wsx_if ?_
    refine wt_val ?_
    refine we_name 2 rfl (.inl rfl) rfl ?_
    refine ⟨_, rfl, ?_⟩
    refine ⟨fun hif2 => ?_, fun hif2 => ?_⟩
    ·
      cases hif2 --done
    ·
      change WSsX _ _ [_, _, _, _, _, _] [] _ _
      refine wssx_one ?_
      refine wsx_expr ?_
      refine wex_call [] FX_hook (hr.mono (by omega)) m_hook k_hook b_hook ?_
      refine wa_d ?_
      refine we_name 0 rfl (.inl rfl) rfl ?_
      refine wa_d ?_
      refine we_name 1 rfl (.inl rfl) rfl ?_
      refine wa_nil ?_
      refine ⟨by decide, by (simp [setAll_len, setAll_nil]), by (simp [refsIn, setAll_len, setAll_nil, permL]), .inl ⟨s9, i9, rfl, rfl, hs, rfl, ?_⟩⟩
      refine hq_as 4 rfl rfl ⟨by rfl, by decide, .inl E_MatError.m⟩ (exm_of E_MatError.toExOk (by first | exact sb_InvalidNumber_MatError | exact sb_InvalidNumber_InvalidNumber | exact sb_InvalidNumber_InvalidHook | exact sb_InvalidHook_MatError | exact sb_InvalidHook_InvalidNumber | exact sb_InvalidHook_InvalidHook)) (fun a0 pn0 => ?_)
      change WSs _ _ [_, _, _, _, _, _] [] _
      refine wss_one ?_
      refine ws_setV 3 sc.nd rfl (.inl rfl) ?_
      refine wv_name 4 rfl (.inl rfl) rfl ?_
      change WSs _ _ [_, _, _, _, _, _] [] _
      refine wss_cons ?_
      refine ws_if ?_
      refine wt_isNoneX ?_
      refine wv_name 3 rfl (.inl rfl) rfl ?_
      refine ⟨⟨_, _, rfl⟩, ?_⟩
      refine we_none ?_
      refine ⟨rfl, ?_⟩
      refine ⟨fun hif3 => ?_, fun hif3 => ?_⟩
      ·
        cases hif3 --done
      ·
        refine wss_nil ?_
        change WSs _ _ [_, _, _, _, _, _] [] _
        refine wss_cons ?_
        refine ws_set 5 sc.nd rfl (.inl rfl) ?_
        refine we_wf ?_
        refine wf_lst ?_
        refine wd_cons ?_
        refine we_isK m_isinstance E_InvalidNumber.m ?_
        refine wv_name 3 rfl (.inl rfl) rfl ?_
        refine ⟨_, _, _, rfl, (by first | exact E_MatError.toExOk | exact E_InvalidNumber.toExOk | exact E_InvalidHook.toExOk), kit_of (by first | exact E_MatError.toExOk | exact E_InvalidNumber.toExOk | exact E_InvalidHook.toExOk) E_InvalidNumber.toExOk (by first | exact sb_InvalidNumber_MatError | exact sb_InvalidNumber_InvalidNumber | exact sb_InvalidNumber_InvalidHook | exact sb_InvalidHook_MatError | exact sb_InvalidHook_InvalidNumber | exact sb_InvalidHook_InvalidHook), ?_⟩
        refine wd_cons ?_
        refine we_isK m_isinstance E_InvalidHook.m ?_
        refine wv_name 3 rfl (.inl rfl) rfl ?_
        refine ⟨_, _, _, rfl, (by first | exact E_MatError.toExOk | exact E_InvalidNumber.toExOk | exact E_InvalidHook.toExOk), kit_of (by first | exact E_MatError.toExOk | exact E_InvalidNumber.toExOk | exact E_InvalidHook.toExOk) E_InvalidHook.toExOk (by first | exact sb_InvalidNumber_MatError | exact sb_InvalidNumber_InvalidNumber | exact sb_InvalidNumber_InvalidHook | exact sb_InvalidHook_MatError | exact sb_InvalidHook_InvalidNumber | exact sb_InvalidHook_InvalidHook), ?_⟩
        refine wd_nil ?_
        refine ⟨szl (by simp), ?_⟩
        change WSs _ _ [_, _, _, _, _, _] [] _
        refine wss_cons ?_
        refine ws_if ?_
        refine wt_eq (by (first | exact hr.units | exact units65 hr | exact units1 hr)) ?_
        refine we_name 5 rfl (.inl rfl) rfl ?_
        refine we_wf ?_
        refine wf_lst ?_
        refine wd_cons ?_
        refine we_bool ?_
        refine wd_cons ?_
        refine we_bool ?_
        refine wd_nil ?_
        refine ⟨szl (by simp), ?_⟩
        refine ⟨rfl, rfl, ?_⟩
        refine ⟨fun hif4 => ?_, fun hif4 => ?_⟩
        ·
          change WSs _ _ [_, _, _, _, _, _] [] _
          refine wss_one ?_
          refine ws_ret ?_
          refine we_tup ?_
          refine wd_cons ?_
          refine we_str ?_
          refine wd_cons ?_
          refine we_exv ?_
          refine wv_name 3 rfl (.inl rfl) rfl ?_
          refine ⟨_, _, rfl, (by first | exact E_MatError.toExOk | exact E_InvalidNumber.toExOk | exact E_InvalidHook.toExOk), ?_⟩
          refine wd_nil ?_
          refine ⟨szl (by simp), ?_⟩
          exact ⟨Nat.zero_le _, .inl ⟨_, rfl, kq⟩⟩
        ·
          exfalso
          revert hif4
          decide +kernel --done
end
section
variable {P : Program} {w : World} {K : PySem.W.Frag} {mg : Str → Option Value} {base : Heap}
theorem ok_l_refused_b1 {f : Addr} {fd : FuncData} (F : Fun K "_law_refused" "_law_refused" s_l_refused f fd) {c_MatError : Addr} (E_MatError : EOk P w K mg base "MatError" c_MatError (spIn K)) {c_InvalidNumber : Addr} (E_InvalidNumber : EOk P w K mg base "InvalidNumber" c_InvalidNumber (spIn K)) {c_InvalidHook : Addr} (E_InvalidHook : EOk P w K mg base "InvalidHook" c_InvalidHook (spIn K)) (sb_InvalidNumber_MatError : PySem.W.subIn K (.ref c_InvalidNumber) (.ref c_MatError) = some true) (sb_InvalidNumber_InvalidNumber : PySem.W.subIn K (.ref c_InvalidNumber) (.ref c_InvalidNumber) = some true) (sb_InvalidNumber_InvalidHook : PySem.W.subIn K (.ref c_InvalidNumber) (.ref c_InvalidHook) = some false) (sb_InvalidHook_MatError : PySem.W.subIn K (.ref c_InvalidHook) (.ref c_MatError) = some true) (sb_InvalidHook_InvalidNumber : PySem.W.subIn K (.ref c_InvalidHook) (.ref c_InvalidNumber) = some false) (sb_InvalidHook_InvalidHook : PySem.W.subIn K (.ref c_InvalidHook) (.ref c_InvalidHook) = some true) {f_straight : Addr} {fd_straight : FuncData} (F_straight : FnOk P w K mg base CX0 2 f_straight fd_straight ["n"] (toSp K MM.spStraight)) (m_straight : mg "straight" = some (.ref f_straight)) (k_straight : PySem.W.keepIn K (.ref f_straight) = true) (b_straight : Binds K fd_straight ["n"] []) {f_hook : Addr} {fd_hook : FuncData} (F_hook : FnOk P w K mg base CX0 2 f_hook fd_hook ["n", "i"] (toSp K MM.spHook)) (FX_hook : FnOk P w K mg base (L2.CX P w) 4 f_hook fd_hook ["n", "i"] (toSpX K (fun pvs m q => JJ.spxHookN c_InvalidNumber pvs m q ∨ JJ.spxHookI c_InvalidHook pvs m q))) (m_hook : mg "hook" = some (.ref f_hook)) (k_hook : PySem.W.keepIn K (.ref f_hook) = true) (b_hook : Binds K fd_hook ["n", "i"] []) (m_isinstance : mg "isinstance" = none) (bR0_hook_i_n : KBr K fd_hook ["n", "i"] 0 ["i", "n"] [1, 0]) : FnOk P w K mg base CX0 5 f fd ["_law_size", "_law_place", "_law_by_name"] (toSp K (JJ.spRfB true)) := by
  have sc := sc_l_refused
  refine fn_pp F sc (fun pvs m q h => ?_) (fun cdv A outer s H E hr pvs m q h => ?_)
  · obtain ⟨_, _, rfl, _⟩ := h
    rfl
  obtain ⟨s9, i9, rfl, rfl, hs, hi9, kq⟩ := h
  change WSs _ _ [_, _, _, _, _, _] [] _
  refine wss_cons ?_
  refine ws_set 3 sc.nd rfl (.inl rfl) ?_
  refine we_none ?_
  change WSs _ _ [_, _, _, _, _, _] [] _
  refine wss_cons ?_
  refine ws_tryX rfl rfl sc.nd rfl (fun pn xe hpo => ?_)
  change WSsX _ _ [_, _, _, _, _, _] [] _ _
  refine wssx_one ?_
  refine wsx_if ?_
  refine wt_isNone ?_
  refine we_name 1 rfl (.inl rfl) rfl ?_
  refine we_none ?_
  refine ⟨rfl, ?_⟩
  refine ⟨fun hif1 => ?_, fun hif1 => ?_⟩
  ·
    cases hif1 --done
  ·
    change WSsX _ _ [_, _, _, _, _, _] [] _ _
    refine wssx_one ?_
    refine wsx_if ?_
    refine wt_val ?_
    refine we_name 2 rfl (.inl rfl) rfl ?_
    refine ⟨_, rfl, ?_⟩
    refine ⟨fun hif2 => ?_, fun hif2 => ?_⟩
    ·
      change WSsX _ _ [_, _, _, _, _, _] [] _ _
      refine wssx_one ?_
      refine wsx_expr ?_
      refine wex_callR0 [] FX_hook (hr.mono (by omega)) m_hook k_hook bR0_hook_i_n ?_
      refine wk_d ?_
      refine we_name 1 rfl (.inl rfl) rfl ?_
      refine wk_d ?_
      refine we_name 0 rfl (.inl rfl) rfl ?_
      refine wk_nil ?_
      refine ⟨rfl, rfl, ?_⟩
      refine ⟨by decide, by (simp [setAll_len, setAll_nil]), by (simp [refsIn, setAll_len, setAll_nil, permL]), .inr ⟨s9, i9, rfl, rfl, hs, hi9, rfl, ?_⟩⟩
      refine hq_as 4 rfl rfl ⟨by rfl, by decide, .inl E_MatError.m⟩ (exm_of E_MatError.toExOk (by first | exact sb_InvalidNumber_MatError | exact sb_InvalidNumber_InvalidNumber | exact sb_InvalidNumber_InvalidHook | exact sb_InvalidHook_MatError | exact sb_InvalidHook_InvalidNumber | exact sb_InvalidHook_InvalidHook)) (fun a0 pn0 => ?_)
      change WSs _ _ [_, _, _, _, _, _] [] _
      refine wss_one ?_
      refine ws_setV 3 sc.nd rfl (.inl rfl) ?_
      refine wv_name 4 rfl (.inl rfl) rfl ?_
      change WSs _ _ [_, _, _, _, _, _] [] _
      refine wss_cons ?_
      refine ws_if ?_
      refine wt_isNoneX ?_
      refine wv_name 3 rfl (.inl rfl) rfl ?_
      refine ⟨⟨_, _, rfl⟩, ?_⟩
      refine we_none ?_
      refine ⟨rfl, ?_⟩
      refine ⟨fun hif3 => ?_, fun hif3 => ?_⟩
      ·
        cases hif3 --done
      ·
        refine wss_nil ?_
        change WSs _ _ [_, _, _, _, _, _] [] _
        refine wss_cons ?_
        refine ws_set 5 sc.nd rfl (.inl rfl) ?_
        refine we_wf ?_
        refine wf_lst ?_
        refine wd_cons ?_
        refine we_isK m_isinstance E_InvalidNumber.m ?_
        refine wv_name 3 rfl (.inl rfl) rfl ?_
        refine ⟨_, _, _, rfl, (by first | exact E_MatError.toExOk | exact E_InvalidNumber.toExOk | exact E_InvalidHook.toExOk), kit_of (by first | exact E_MatError.toExOk | exact E_InvalidNumber.toExOk | exact E_InvalidHook.toExOk) E_InvalidNumber.toExOk (by first | exact sb_InvalidNumber_MatError | exact sb_InvalidNumber_InvalidNumber | exact sb_InvalidNumber_InvalidHook | exact sb_InvalidHook_MatError | exact sb_InvalidHook_InvalidNumber | exact sb_InvalidHook_InvalidHook), ?_⟩
        refine wd_cons ?_
        refine we_isK m_isinstance E_InvalidHook.m ?_
        refine wv_name 3 rfl (.inl rfl) rfl ?_
        refine ⟨_, _, _, rfl, (by first | exact E_MatError.toExOk | exact E_InvalidNumber.toExOk | exact E_InvalidHook.toExOk), kit_of (by first | exact E_MatError.toExOk | exact E_InvalidNumber.toExOk | exact E_InvalidHook.toExOk) E_InvalidHook.toExOk (by first | exact sb_InvalidNumber_MatError | exact sb_InvalidNumber_InvalidNumber | exact sb_InvalidNumber_InvalidHook | exact sb_InvalidHook_MatError | exact sb_InvalidHook_InvalidNumber | exact sb_InvalidHook_InvalidHook), ?_⟩
        refine wd_nil ?_
        refine ⟨szl (by simp), ?_⟩
        change WSs _ _ [_, _, _, _, _, _] [] _
        refine wss_cons ?_
        refine ws_if ?_
        refine wt_eq (by (first | exact hr.units | exact units65 hr | exact units1 hr)) ?_
        refine we_name 5 rfl (.inl rfl) rfl ?_
        refine we_wf ?_
        refine wf_lst ?_
        refine wd_cons ?_
        refine we_bool ?_
        refine wd_cons ?_
        refine we_bool ?_
        refine wd_nil ?_
        refine ⟨szl (by simp), ?_⟩
        refine ⟨rfl, rfl, ?_⟩
        refine ⟨fun hif4 => ?_, fun hif4 => ?_⟩
        ·
          exfalso
          revert hif4
          decide +kernel --done
        ·
          refine wss_nil ?_
          change WSs _ _ [_, _, _, _, _, _] [] _
          refine wss_cons ?_
          refine ws_if ?_
          refine wt_eq (by (first | exact hr.units | exact units65 hr | exact units1 hr)) ?_
          refine we_name 5 rfl (.inl rfl) rfl ?_
          refine we_wf ?_
          refine wf_lst ?_
          refine wd_cons ?_
          refine we_bool ?_
          refine wd_cons ?_
          refine we_bool ?_
          refine wd_nil ?_
          refine ⟨szl (by simp), ?_⟩
          refine ⟨rfl, rfl, ?_⟩
          refine ⟨fun hif5 => ?_, fun hif5 => ?_⟩
          ·
            change WSs _ _ [_, _, _, _, _, _] [] _
            refine wss_one ?_
            refine ws_ret ?_
            refine we_tup ?_
            refine wd_cons ?_
            refine we_str ?_
            refine wd_cons ?_
            refine we_exv ?_
            refine wv_name 3 rfl (.inl rfl) rfl ?_
            refine ⟨_, _, rfl, (by first | exact E_MatError.toExOk | exact E_InvalidNumber.toExOk | exact E_InvalidHook.toExOk), ?_⟩
            refine wd_nil ?_
            refine ⟨szl (by simp), ?_⟩
            exact ⟨Nat.zero_le _, .inl ⟨_, rfl, kq⟩⟩
          ·
            exfalso
            revert hif5
            decide +kernel --done
    ·
      cases hif2 --done
end
section
variable {P : Program} {w : World} {K : PySem.W.Frag} {mg : Str → Option Value} {base : Heap}
theorem ok_l_refused_b0 {f : Addr} {fd : FuncData} (F : Fun K "_law_refused" "_law_refused" s_l_refused f fd) {c_MatError : Addr} (E_MatError : EOk P w K mg base "MatError" c_MatError (spIn K)) {c_InvalidNumber : Addr} (E_InvalidNumber : EOk P w K mg base "InvalidNumber" c_InvalidNumber (spIn K)) {c_InvalidHook : Addr} (E_InvalidHook : EOk P w K mg base "InvalidHook" c_InvalidHook (spIn K)) (sb_InvalidNumber_MatError : PySem.W.subIn K (.ref c_InvalidNumber) (.ref c_MatError) = some true) (sb_InvalidNumber_InvalidNumber : PySem.W.subIn K (.ref c_InvalidNumber) (.ref c_InvalidNumber) = some true) (sb_InvalidNumber_InvalidHook : PySem.W.subIn K (.ref c_InvalidNumber) (.ref c_InvalidHook) = some false) (sb_InvalidHook_MatError : PySem.W.subIn K (.ref c_InvalidHook) (.ref c_MatError) = some true) (sb_InvalidHook_InvalidNumber : PySem.W.subIn K (.ref c_InvalidHook) (.ref c_InvalidNumber) = some false) (sb_InvalidHook_InvalidHook : PySem.W.subIn K (.ref c_InvalidHook) (.ref c_InvalidHook) = some true) {f_straight : Addr} {fd_straight : FuncData} (F_straight : FnOk P w K mg base CX0 2 f_straight fd_straight ["n"] (toSp K MM.spStraight)) (m_straight : mg "straight" = some (.ref f_straight)) (k_straight : PySem.W.keepIn K (.ref f_straight) = true) (b_straight : Binds K fd_straight ["n"] []) {f_hook : Addr} {fd_hook : FuncData} (F_hook : FnOk P w K mg base CX0 2 f_hook fd_hook ["n", "i"] (toSp K MM.spHook)) (FX_hook : FnOk P w K mg base (L2.CX P w) 4 f_hook fd_hook ["n", "i"] (toSpX K (fun pvs m q => JJ.spxHookN c_InvalidNumber pvs m q ∨ JJ.spxHookI c_InvalidHook pvs m q))) (m_hook : mg "hook" = some (.ref f_hook)) (k_hook : PySem.W.keepIn K (.ref f_hook) = true) (b_hook : Binds K fd_hook ["n", "i"] []) (m_isinstance : mg "isinstance" = none) : FnOk P w K mg base CX0 5 f fd ["_law_size", "_law_place", "_law_by_name"] (toSp K (JJ.spRfB false)) := by
  have sc := sc_l_refused
  refine fn_pp F sc (fun pvs m q h => ?_) (fun cdv A outer s H E hr pvs m q h => ?_)
  · obtain ⟨_, _, rfl, _⟩ := h
    rfl
  obtain ⟨s9, i9, rfl, rfl, hs, hi9, kq⟩ := h
  change WSs _ _ [_, _, _, _, _, _] [] _
  refine wss_cons ?_
  refine ws_set 3 sc.nd rfl (.inl rfl) ?_
  refine we_none ?_
  change WSs _ _ [_, _, _, _, _, _] [] _
  refine wss_cons ?_
  refine ws_tryX rfl rfl sc.nd rfl (fun pn xe hpo => ?_)
  change WSsX _ _ [_, _, _, _, _, _] [] _ _
  refine wssx_one ?_
  refine wsx_if ?_
  refine wt_isNone ?_
  refine we_name 1 rfl (.inl rfl) rfl ?_
  refine we_none ?_
  refine ⟨rfl, ?_⟩
  refine ⟨fun hif1 => ?_, fun hif1 => ?_⟩
  ·
    cases hif1 --done
  ·
    change WSsX _ _ [_, _, _, _, _, _] [] _ _
    refine wssx_one ?_
    refine wsx_if ?_
    refine wt_val ?_
    refine we_name 2 rfl (.inl rfl) rfl ?_
    refine ⟨_, rfl, ?_⟩
    refine ⟨fun hif2 => ?_, fun hif2 => ?_⟩
    ·
      cases hif2 --done
    ·
      change WSsX _ _ [_, _, _, _, _, _] [] _ _
      refine wssx_one ?_
      refine wsx_expr ?_
      refine wex_call [] FX_hook (hr.mono (by omega)) m_hook k_hook b_hook ?_
      refine wa_d ?_
      refine we_name 0 rfl (.inl rfl) rfl ?_
      refine wa_d ?_
      refine we_name 1 rfl (.inl rfl) rfl ?_
      refine wa_nil ?_
      refine ⟨by decide, by (simp [setAll_len, setAll_nil]), by (simp [refsIn, setAll_len, setAll_nil, permL]), .inr ⟨s9, i9, rfl, rfl, hs, hi9, rfl, ?_⟩⟩
      refine hq_as 4 rfl rfl ⟨by rfl, by decide, .inl E_MatError.m⟩ (exm_of E_MatError.toExOk (by first | exact sb_InvalidNumber_MatError | exact sb_InvalidNumber_InvalidNumber | exact sb_InvalidNumber_InvalidHook | exact sb_InvalidHook_MatError | exact sb_InvalidHook_InvalidNumber | exact sb_InvalidHook_InvalidHook)) (fun a0 pn0 => ?_)
      change WSs _ _ [_, _, _, _, _, _] [] _
      refine wss_one ?_
      refine ws_setV 3 sc.nd rfl (.inl rfl) ?_
      refine wv_name 4 rfl (.inl rfl) rfl ?_
      change WSs _ _ [_, _, _, _, _, _] [] _
      refine wss_cons ?_
      refine ws_if ?_
      refine wt_isNoneX ?_
      refine wv_name 3 rfl (.inl rfl) rfl ?_
      refine ⟨⟨_, _, rfl⟩, ?_⟩
      refine we_none ?_
      refine ⟨rfl, ?_⟩
      refine ⟨fun hif3 => ?_, fun hif3 => ?_⟩
      ·
        cases hif3 --done
      ·
        refine wss_nil ?_
        change WSs _ _ [_, _, _, _, _, _] [] _
        refine wss_cons ?_
        refine ws_set 5 sc.nd rfl (.inl rfl) ?_
        refine we_wf ?_
        refine wf_lst ?_
        refine wd_cons ?_
        refine we_isK m_isinstance E_InvalidNumber.m ?_
        refine wv_name 3 rfl (.inl rfl) rfl ?_
        refine ⟨_, _, _, rfl, (by first | exact E_MatError.toExOk | exact E_InvalidNumber.toExOk | exact E_InvalidHook.toExOk), kit_of (by first | exact E_MatError.toExOk | exact E_InvalidNumber.toExOk | exact E_InvalidHook.toExOk) E_InvalidNumber.toExOk (by first | exact sb_InvalidNumber_MatError | exact sb_InvalidNumber_InvalidNumber | exact sb_InvalidNumber_InvalidHook | exact sb_InvalidHook_MatError | exact sb_InvalidHook_InvalidNumber | exact sb_InvalidHook_InvalidHook), ?_⟩
        refine wd_cons ?_
        refine we_isK m_isinstance E_InvalidHook.m ?_
        refine wv_name 3 rfl (.inl rfl) rfl ?_
        refine ⟨_, _, _, rfl, (by first | exact E_MatError.toExOk | exact E_InvalidNumber.toExOk | exact E_InvalidHook.toExOk), kit_of (by first | exact E_MatError.toExOk | exact E_InvalidNumber.toExOk | exact E_InvalidHook.toExOk) E_InvalidHook.toExOk (by first | exact sb_InvalidNumber_MatError | exact sb_InvalidNumber_InvalidNumber | exact sb_InvalidNumber_InvalidHook | exact sb_InvalidHook_MatError | exact sb_InvalidHook_InvalidNumber | exact sb_InvalidHook_InvalidHook), ?_⟩
        refine wd_nil ?_
        refine ⟨szl (by simp), ?_⟩
        change WSs _ _ [_, _, _, _, _, _] [] _
        refine wss_cons ?_
        refine ws_if ?_
        refine wt_eq (by (first | exact hr.units | exact units65 hr | exact units1 hr)) ?_
        refine we_name 5 rfl (.inl rfl) rfl ?_
        refine we_wf ?_
        refine wf_lst ?_
        refine wd_cons ?_
        refine we_bool ?_
        refine wd_cons ?_
        refine we_bool ?_
        refine wd_nil ?_
        refine ⟨szl (by simp), ?_⟩
        refine ⟨rfl, rfl, ?_⟩
        refine ⟨fun hif4 => ?_, fun hif4 => ?_⟩
        ·
          exfalso
          revert hif4
          decide +kernel --done
        ·
          refine wss_nil ?_
          change WSs _ _ [_, _, _, _, _, _] [] _
          refine wss_cons ?_
          refine ws_if ?_
          refine wt_eq (by (first | exact hr.units | exact units65 hr | exact units1 hr)) ?_
          refine we_name 5 rfl (.inl rfl) rfl ?_
          refine we_wf ?_
          refine wf_lst ?_
          refine wd_cons ?_
          refine we_bool ?_
          refine wd_cons ?_
          refine we_bool ?_
          refine wd_nil ?_
          refine ⟨szl (by simp), ?_⟩
          refine ⟨rfl, rfl, ?_⟩
          refine ⟨fun hif5 => ?_, fun hif5 => ?_⟩
          ·
            change WSs _ _ [_, _, _, _, _, _] [] _
            refine wss_one ?_
            refine ws_ret ?_
            refine we_tup ?_
            refine wd_cons ?_
            refine we_str ?_
            refine wd_cons ?_
            refine we_exv ?_
            refine wv_name 3 rfl (.inl rfl) rfl ?_
            refine ⟨_, _, rfl, (by first | exact E_MatError.toExOk | exact E_InvalidNumber.toExOk | exact E_InvalidHook.toExOk), ?_⟩
            refine wd_nil ?_
            refine ⟨szl (by simp), ?_⟩
            exact ⟨Nat.zero_le _, .inl ⟨_, rfl, kq⟩⟩
          ·
            exfalso
            revert hif5
            decide +kernel --done
end
section
variable {P : Program} {w : World} {K : PySem.W.Frag} {mg : Str → Option Value} {base : Heap}
theorem ok_l_wrong_right {f : Addr} {fd : FuncData} (F : Fun K "_law_wrong_right" "_law_wrong_right" s_l_wrong_right f fd) {f__law_draw : Addr} {fd__law_draw : FuncData} (F__law_draw : FnOk P w K mg base CX0 1 f__law_draw fd__law_draw ["_law_well_here", "_law_limit"] (toSp K spDraw)) (m__law_draw : mg "_law_draw" = some (.ref f__law_draw)) (k__law_draw : PySem.W.keepIn K (.ref f__law_draw) = true) (b__law_draw : Binds K fd__law_draw ["_law_well_here", "_law_limit"] []) {f__law_same : Addr} {fd__law_same : FuncData} (F__law_same : FnOk P w K mg base CX0 4 f__law_same fd__law_same ["_law_found", "_law_due"] (toSp K (spSame 3))) (m__law_same : mg "_law_same" = some (.ref f__law_same)) (k__law_same : PySem.W.keepIn K (.ref f__law_same) = true) (b__law_same : Binds K fd__law_same ["_law_found", "_law_due"] []) {f__law_refused : Addr} {fd__law_refused : FuncData} (F__law_refused : FnOk P w K mg base CX0 5 f__law_refused fd__law_refused ["_law_size", "_law_place", "_law_by_name"] (toSp K JJ.spRf)) (m__law_refused : mg "_law_refused" = some (.ref f__law_refused)) (k__law_refused : PySem.W.keepIn K (.ref f__law_refused) = true) (b__law_refused : Binds K fd__law_refused ["_law_size", "_law_place", "_law_by_name"] []) : FnOk P w K mg base CX0 6 f fd ["_law_well_here", "_law_size"] (toSp K JJ.spWr4) := by
  have sc := sc_l_wrong_right
  refine fn_pp F sc (fun pvs m q h => ?_) (fun cdv A outer s H E hr pvs m q h => ?_)
  · obtain ⟨_, _, _, rfl, _⟩ := h
    rfl
  obtain ⟨xs, k9, n, rfl, rfl, hw, hk9, hn, hn8, kq⟩ := h
  have p30 : (10 : Int) ^ (30 : Int).toNat = 10 ^ 30 := rfl
  change WSs _ _ [_, _, _, _] [_] _
  refine wss_cons ?_
  refine ws_set 2 sc.nd rfl (.inl rfl) ?_
  refine we_ix ?_
  refine wv_we ?_
  refine we_wf ?_
  refine wf_lst ?_
  refine wd_cons ?_
  refine we_int ?_
  refine wd_cons ?_
  refine we_int ?_
  refine wd_cons ?_
  refine we_int ?_
  refine wd_cons ?_
  refine we_pow ?_
  refine we_int ?_
  refine we_int ?_
  refine ⟨_, _, rfl, rfl, cpow_of (k := 4) Bd.lit (by decide) (by decide), ?_⟩
  refine wd_cons ?_
  refine we_int ?_
  refine wd_cons ?_
  refine we_sub ?_
  refine we_pow ?_
  refine we_int ?_
  refine we_int ?_
  refine ⟨_, _, rfl, rfl, cpow_of (k := 4) Bd.lit (by decide) (by decide), ?_⟩
  refine we_int ?_
  refine ⟨_, _, rfl, rfl, ?_⟩
  refine wd_nil ?_
  refine ⟨szl (by simp), ?_⟩
  refine we_call [0] F__law_draw (hr.mono (by omega)) m__law_draw k__law_draw b__law_draw ?_
  refine wa_cons ?_
  refine wv_name 0 rfl (.inl rfl) rfl ?_
  refine wa_d ?_
  refine we_int ?_
  refine wa_nil ?_
  refine ⟨by decide, by (simp [setAll_len, setAll_nil]), by (simp [refsIn, setAll_len, setAll_nil, permL]), _, _, _, rfl, rfl, hw, by omega, by (omega), by (omega), fun r1 xs1 hr1a hr1b hw1 => ⟨_, rfl, rfl, ?_⟩⟩
  obtain ⟨f0, hf0, hf1, hf2⟩ : ∃ f0 : Int, atI [PyData.int 0, .int 1, .int 2, .int (10 ^ 30), .int 60, .int (10 ^ 30 - 1)] r1 = some (.int f0) ∧ 0 ≤ f0 ∧ f0 ≤ 10 ^ 30 := JJ.far_at hr1a hr1b
  refine ⟨_, _, _, rfl, rfl, hf0, ?_⟩
  change WSs _ _ [_, _, _, _] [_] _
  refine wss_cons ?_
  refine ws_join (fun L m => ∃ f1 xs y3, L = [some (.ref 0), some (.d (.int n)), some (.d (.int f1)), y3] ∧ m = [some (.lst xs)] ∧ 0 ≤ f1 ∧ f1 ≤ 10 ^ 30 ∧ WL (k9 + 2) xs) ?_ ?_
  ·
    refine ws_if ?_
    apply VT.use
    ·
      apply VW.vt
      apply vw_or
      ·
        intro Q hQ
        refine wt_eqI ?_
        refine we_name 2 rfl (.inl rfl) rfl ?_
        refine we_int ?_
        refine ⟨_, _, rfl, rfl, ?_⟩
        exact hQ
      intro hg1
      apply vw_or1
      intro Q hQ
      refine wt_eqI ?_
      refine we_name 2 rfl (.inl rfl) rfl ?_
      refine we_sub ?_
      refine we_pow ?_
      refine we_int ?_
      refine we_int ?_
      refine ⟨_, _, rfl, rfl, cpow_of (k := 4) Bd.lit (by decide) (by decide), ?_⟩
      refine we_int ?_
      refine ⟨_, _, rfl, rfl, ?_⟩
      refine ⟨_, _, rfl, rfl, ?_⟩
      exact hQ
    refine ⟨fun hif1 => ?_, fun hif1 => ?_⟩
    ·
      have hf3 : f0 = 60 ∨ f0 = 10 ^ 30 - 1 := by simpa using hif1
      change WSs _ _ [_, _, _, _] [_] _
      refine wss_one ?_
      refine ws_set 2 sc.nd rfl (.inl rfl) ?_
      refine we_call [0] F__law_draw (hr.mono (by omega)) m__law_draw k__law_draw b__law_draw ?_
      refine wa_cons ?_
      refine wv_name 0 rfl (.inl rfl) rfl ?_
      refine wa_d ?_
      refine we_name 2 rfl (.inl rfl) rfl ?_
      refine wa_nil ?_
      refine ⟨by decide, by (simp [setAll_len, setAll_nil]), by (simp [refsIn, setAll_len, setAll_nil, permL]), _, _, _, rfl, rfl, hw1, by omega, by (omega), by (omega), fun r2 xs2 hr2a hr2b hw2 => ⟨_, rfl, rfl, ?_⟩⟩
      exact ⟨_, _, _, rfl, rfl, by omega, by omega, hw2.mono (by omega)⟩
    ·
      refine wss_nil ?_
      exact ⟨_, _, _, rfl, rfl, hf1, hf2, hw1.mono (by omega)⟩
  rintro L m ⟨f1, xs3, y3, rfl, rfl, h1, h2, hw3⟩
  change WSs _ _ [_, _, _, _] [_] _
  refine wss_cons ?_
  refine ws_for PassesOwn.never rfl ?_
  refine wi_new ?_
  refine wf_lst ?_
  refine wd_cons ?_
  refine we_none ?_
  refine wd_cons ?_
  refine we_name 2 rfl (.inl rfl) rfl ?_
  refine wd_cons ?_
  refine we_sub ?_
  refine we_neg ?_
  refine we_int ?_
  refine ⟨_, rfl, ?_⟩
  refine we_name 2 rfl (.inl rfl) rfl ?_
  refine ⟨_, _, rfl, rfl, ?_⟩
  refine wd_cons ?_
  refine we_int ?_
  refine wd_nil ?_
  refine ⟨szl (by simp), ?_⟩
  refine ⟨fun i L m => ∃ y3, L = [some (.ref 0), some (.d (.int n)), some (.d (.int f1)), y3] ∧ m = [some (.lst xs3)], ?_, fun i x L m hx hI => ?_, fun L m hI => ?_⟩
  ·
    exact ⟨_, rfl, rfl⟩
  ·
    obtain ⟨y3, rfl, rfl⟩ := hI
    have hc : x = .none ∨ ∃ j, x = .int j := JJ.place_is hx
    refine ⟨trivial, ?_⟩
    refine wg_name 3 sc.nd rfl (.inl rfl) ?_
    change WSs _ _ [_, _, _, _] [_] _
    refine wss_one ?_
    refine ws_if ?_
    refine wt_not ?_
    refine wt_val ?_
    refine we_call [] F__law_same (hr.mono (by omega)) m__law_same k__law_same b__law_same ?_
    refine wa_d ?_
    refine we_call [] F__law_refused (hr.mono (by omega)) m__law_refused k__law_refused b__law_refused ?_
    refine wa_d ?_
    refine we_sub ?_
    refine we_int ?_
    refine we_name 2 rfl (.inl rfl) rfl ?_
    refine ⟨_, _, rfl, rfl, ?_⟩
    refine wa_d ?_
    refine we_name 3 rfl (.inl rfl) rfl ?_
    refine wa_d ?_
    refine we_eqI ?_
    refine we_name 2 rfl (.inl rfl) rfl ?_
    refine we_int ?_
    refine ⟨_, _, rfl, rfl, ?_⟩
    refine wa_nil ?_
    refine ⟨by decide, by (simp [setAll_len, setAll_nil]), by (simp [refsIn, setAll_len, setAll_nil, permL]), JJ.rf_num hc (by omega) ⟨_, rfl, rfl, ?_⟩⟩
    refine wa_d ?_
    refine we_tup ?_
    refine wd_cons ?_
    refine we_str ?_
    refine wd_cons ?_
    refine we_sub ?_
    refine we_int ?_
    refine we_name 2 rfl (.inl rfl) rfl ?_
    refine ⟨_, _, rfl, rfl, ?_⟩
    refine wd_nil ?_
    refine ⟨szl (by simp), ?_⟩
    refine wa_nil ?_
    refine ⟨by decide, by (simp [setAll_len, setAll_nil]), by (simp [refsIn, setAll_len, setAll_nil, permL]), _, rfl, rfl, JJ.dq_si, _, rfl, rfl, ?_⟩
    refine ⟨_, rfl, ?_⟩
    refine ⟨fun hif2 => ?_, fun hif2 => ?_⟩
    ·
      exfalso
      cases hif2 --done
    ·
      refine wss_nil ?_
      exact ⟨_, _, .same (by (repeat (first | exact WkL.nil | refine WkL.kd ?_ | (refine WkL.kr ?_ ?_; focus (simp [setAll_len, setAll_nil]; done)) | refine WkL.kw ?_ | refine WkL.drop ?_))) (by simp [setAll_len]), _, rfl, rfl⟩
  obtain ⟨y3, rfl, rfl⟩ := hI
  refine ⟨trivial, ?_⟩
  change WSs _ _ [_, _, _, _] [_] _
  refine wss_cons ?_
  refine ws_for PassesOwn.never rfl ?_
  refine wi_new ?_
  refine wf_lst ?_
  refine wd_cons ?_
  refine we_sub ?_
  refine we_name 1 rfl (.inl rfl) rfl ?_
  refine we_int ?_
  refine ⟨_, _, rfl, rfl, ?_⟩
  refine wd_cons ?_
  refine we_add ?_
  refine we_sub ?_
  refine we_name 1 rfl (.inl rfl) rfl ?_
  refine we_int ?_
  refine ⟨_, _, rfl, rfl, ?_⟩
  refine we_name 2 rfl (.inl rfl) rfl ?_
  refine ⟨_, _, rfl, rfl, ?_⟩
  refine wd_cons ?_
  refine we_sub ?_
  refine we_neg ?_
  refine we_int ?_
  refine ⟨_, rfl, ?_⟩
  refine we_name 2 rfl (.inl rfl) rfl ?_
  refine ⟨_, _, rfl, rfl, ?_⟩
  refine wd_cons ?_
  refine we_sub ?_
  refine we_int ?_
  refine we_name 1 rfl (.inl rfl) rfl ?_
  refine ⟨_, _, rfl, rfl, ?_⟩
  refine wd_nil ?_
  refine ⟨szl (by simp), ?_⟩
  refine ⟨fun i L m => ∃ y3, L = [some (.ref 0), some (.d (.int n)), some (.d (.int f1)), y3] ∧ m = [some (.lst xs3)], ?_, fun i x L m hx hI => ?_, fun L m hI => ?_⟩
  ·
    exact ⟨_, rfl, rfl⟩
  ·
    obtain ⟨y3, rfl, rfl⟩ := hI
    obtain ⟨j, rfl, hj⟩ : ∃ j, x = .int j ∧ ¬ (0 ≤ j ∧ j < n - 1) := JJ.place_bad h1 hn hx
    refine ⟨trivial, ?_⟩
    refine wg_name 3 sc.nd rfl (.inl rfl) ?_
    change WSs _ _ [_, _, _, _] [_] _
    refine wss_one ?_
    refine ws_if ?_
    refine wt_not ?_
    refine wt_val ?_
    refine we_call [] F__law_same (hr.mono (by omega)) m__law_same k__law_same b__law_same ?_
    refine wa_d ?_
    refine we_call [] F__law_refused (hr.mono (by omega)) m__law_refused k__law_refused b__law_refused ?_
    refine wa_d ?_
    refine we_name 1 rfl (.inl rfl) rfl ?_
    refine wa_d ?_
    refine we_name 3 rfl (.inl rfl) rfl ?_
    refine wa_d ?_
    refine we_eqI ?_
    refine we_name 2 rfl (.inl rfl) rfl ?_
    refine we_int ?_
    refine ⟨_, _, rfl, rfl, ?_⟩
    refine wa_nil ?_
    refine ⟨by decide, by (simp [setAll_len, setAll_nil]), by (simp [refsIn, setAll_len, setAll_nil, permL]), JJ.rf_hook hn hj ⟨_, rfl, rfl, ?_⟩⟩
    refine wa_d ?_
    refine we_tup ?_
    refine wd_cons ?_
    refine we_str ?_
    refine wd_cons ?_
    refine we_name 3 rfl (.inl rfl) rfl ?_
    refine wd_nil ?_
    refine ⟨szl (by simp), ?_⟩
    refine wa_nil ?_
    refine ⟨by decide, by (simp [setAll_len, setAll_nil]), by (simp [refsIn, setAll_len, setAll_nil, permL]), _, rfl, rfl, JJ.dq_si, _, rfl, rfl, ?_⟩
    refine ⟨_, rfl, ?_⟩
    refine ⟨fun hif3 => ?_, fun hif3 => ?_⟩
    ·
      exfalso
      cases hif3 --done
    ·
      refine wss_nil ?_
      exact ⟨_, _, .same (by (repeat (first | exact WkL.nil | refine WkL.kd ?_ | (refine WkL.kr ?_ ?_; focus (simp [setAll_len, setAll_nil]; done)) | refine WkL.kw ?_ | refine WkL.drop ?_))) (by simp [setAll_len]), _, rfl, rfl⟩
  obtain ⟨y3, rfl, rfl⟩ := hI
  refine ⟨trivial, ?_⟩
  change WSs _ _ [_, _, _, _] [_] _
  refine wss_one ?_
  refine ws_ret ?_
  refine we_bool ?_
  exact ⟨by simp, .inl ⟨_, rfl, kq _ hw3⟩⟩
end
section
variable {P : Program} {w : World} {K : PySem.W.Frag} {mg : Str → Option Value} {base : Heap}
theorem ok_l_hooks_right {f : Addr} {fd : FuncData} (F : Fun K "_law_hooks_right" "_law_hooks_right" s_l_hooks_right f fd) {f__law_made : Addr} {fd__law_made : FuncData} (F__law_made : FnOk P w K mg base CX0 1 f__law_made fd__law_made ["_law_up", "_law_down", "_law_pairs_here"] (toSp K MM.spMade)) (m__law_made : mg "_law_made" = some (.ref f__law_made)) (k__law_made : PySem.W.keepIn K (.ref f__law_made) = true) (b__law_made : Binds K fd__law_made ["_law_up", "_law_down", "_law_pairs_here"] []) {f__law_level : Addr} {fd__law_level : FuncData} (F__law_level : FnOk P w K mg base CX0 1 f__law_level fd__law_level ["_law_size"] (toSp K JJ.spLevel)) (m__law_level : mg "_law_level" = some (.ref f__law_level)) (k__law_level : PySem.W.keepIn K (.ref f__law_level) = true) (b__law_level : Binds K fd__law_level ["_law_size"] []) {f__law_same : Addr} {fd__law_same : FuncData} (F__law_same : FnOk P w K mg base CX0 4 f__law_same fd__law_same ["_law_found", "_law_due"] (toSp K (spSame 3))) (m__law_same : mg "_law_same" = some (.ref f__law_same)) (k__law_same : PySem.W.keepIn K (.ref f__law_same) = true) (b__law_same : Binds K fd__law_same ["_law_found", "_law_due"] []) {f__law_hooked : Addr} {fd__law_hooked : FuncData} (F__law_hooked : FnOk P w K mg base CX0 2 f__law_hooked fd__law_hooked ["_law_size", "_law_place"] (toSp K JJ.spHkd4)) (m__law_hooked : mg "_law_hooked" = some (.ref f__law_hooked)) (k__law_hooked : PySem.W.keepIn K (.ref f__law_hooked) = true) (b__law_hooked : Binds K fd__law_hooked ["_law_size", "_law_place"] []) {f_strings : Addr} {fd_strings : FuncData} (F_strings : FnOk P w K mg base CX0 5 f_strings fd_strings ["mat"] (toSp K JJ.spStrings)) (m_strings : mg "strings" = some (.ref f_strings)) (k_strings : PySem.W.keepIn K (.ref f_strings) = true) (b_strings : Binds K fd_strings ["mat"] []) {f_straight : Addr} {fd_straight : FuncData} (F_straight : FnOk P w K mg base CX0 2 f_straight fd_straight ["n"] (toSp K MM.spStraight)) (m_straight : mg "straight" = some (.ref f_straight)) (k_straight : PySem.W.keepIn K (.ref f_straight) = true) (b_straight : Binds K fd_straight ["n"] []) {f__law_ends : Addr} {fd__law_ends : FuncData} (F__law_ends : FnOk P w K mg base CX0 1 f__law_ends fd__law_ends ["_law_up", "_law_pairs_here"] (toSp K JJ.spEnds)) (m__law_ends : mg "_law_ends" = some (.ref f__law_ends)) (k__law_ends : PySem.W.keepIn K (.ref f__law_ends) = true) (b__law_ends : Binds K fd__law_ends ["_law_up", "_law_pairs_here"] []) {f_hook : Addr} {fd_hook : FuncData} (F_hook : FnOk P w K mg base CX0 2 f_hook fd_hook ["n", "i"] (toSp K MM.spHook)) (m_hook : mg "hook" = some (.ref f_hook)) (k_hook : PySem.W.keepIn K (.ref f_hook) = true) (b_hook : Binds K fd_hook ["n", "i"] []) (m_range : mg "range" = none) (bK0_hook : KBp K fd_hook ["n", "i"] 0 ["n", "i"]) (bK0_straight : KBp K fd_straight ["n"] 0 ["n"]) (bK0_strings : KBp K fd_strings ["mat"] 0 ["mat"]) : FnOk P w K mg base CX0 6 f fd ["_law_size"] (toSp K JJ.spHk4) := by
  have sc := sc_l_hooks_right
  refine fn_pp F sc (fun pvs m q h => ?_) (fun cdv A outer s H E hr pvs m q h => ?_)
  · obtain ⟨_, rfl, _⟩ := h
    rfl
  obtain ⟨n, rfl, rfl, hn, hn8, kq⟩ := h
  change WSs _ _ [_, _, _, _, _, _] [] _
  refine wss_cons ?_
  refine ws_set 1 sc.nd rfl (.inl rfl) ?_
  refine we_call [] F__law_made (hr.mono (by omega)) m__law_made k__law_made b__law_made ?_
  refine wa_d ?_
  refine we_name 0 rfl (.inr (.inl rfl)) rfl ?_
  refine wa_d ?_
  refine we_name 0 rfl (.inr (.inl rfl)) rfl ?_
  refine wa_d ?_
  refine we_wf ?_
  refine wf_call [] F__law_level (hr.mono (by omega)) m__law_level k__law_level b__law_level ?_
  refine wa_d ?_
  refine we_name 0 rfl (.inr (.inl rfl)) rfl ?_
  refine wa_nil ?_
  refine ⟨by decide, by (simp [setAll_len, setAll_nil]), by (simp [refsIn, setAll_len, setAll_nil, permL]), n, rfl, rfl, by omega, by omega, [], _, rfl, rfl, rfl, ?_⟩
  refine wa_nil ?_
  have hM := MM.str_match (n := n) (by omega)
  refine ⟨by decide, by (simp [setAll_len, setAll_nil]), by (simp [refsIn, setAll_len, setAll_nil, permL]), n, n, MM.strP n, rfl, rfl, by omega, by omega, by omega, by omega, hM.nd, fun x hx => MM.match_in (by omega) (by omega) hM x hx, fun k1 hl1 W1 => ⟨_, rfl, rfl, ?_⟩⟩
  have I1 : MM.Is n n (MM.strP n) k1 := ⟨by omega, by omega, by omega, hl1, hM, W1⟩
  change WSs _ _ [_, _, _, _, _, _] [] _
  refine wss_cons ?_
  refine ws_if ?_
  apply VT.use
  ·
    apply VW.vt
    apply vw_or
    ·
      apply vt_not
      intro Q hQ
      refine wt_val ?_
      refine we_call [] F__law_same (hr.mono (by omega)) m__law_same k__law_same b__law_same ?_
      refine wa_d ?_
      refine we_call [] F_straight (hr.mono (by omega)) m_straight k_straight b_straight ?_
      refine wa_d ?_
      refine we_name 0 rfl (.inr (.inl rfl)) rfl ?_
      refine wa_nil ?_
      refine ⟨by decide, by (simp [setAll_len, setAll_nil]), by (simp [refsIn, setAll_len, setAll_nil, permL]), n, rfl, rfl, by omega, by omega, fun k2 I2 => ⟨_, rfl, rfl, ?_⟩⟩
      rw [show k2 = k1 from I2.one I1]
      refine wa_d ?_
      refine we_name 1 rfl (.inl rfl) rfl ?_
      refine wa_nil ?_
      refine ⟨by decide, by (simp [setAll_len, setAll_nil]), by (simp [refsIn, setAll_len, setAll_nil, permL]), _, rfl, rfl, MM.dq_mat, _, rfl, rfl, ?_⟩
      refine ⟨_, rfl, ?_⟩
      exact hQ
    intro hg1
    apply vw_or1
    apply vt_not
    intro Q hQ
    refine wt_val ?_
    refine we_call [] F__law_same (hr.mono (by omega)) m__law_same k__law_same b__law_same ?_
    refine wa_d ?_
    refine we_callK0 [] F_straight (hr.mono (by omega)) m_straight k_straight bK0_straight ?_
    refine wk_d ?_
    refine we_name 0 rfl (.inr (.inl rfl)) rfl ?_
    refine wk_nil ?_
    refine ⟨rfl, rfl, ?_⟩
    refine ⟨by decide, by (simp [setAll_len, setAll_nil]), by (simp [refsIn, setAll_len, setAll_nil, permL]), n, rfl, rfl, by omega, by omega, fun k3 I3 => ⟨_, rfl, rfl, ?_⟩⟩
    rw [show k3 = k1 from I3.one I1]
    refine wa_d ?_
    refine we_name 1 rfl (.inl rfl) rfl ?_
    refine wa_nil ?_
    refine ⟨by decide, by (simp [setAll_len, setAll_nil]), by (simp [refsIn, setAll_len, setAll_nil, permL]), _, rfl, rfl, MM.dq_mat, _, rfl, rfl, ?_⟩
    refine ⟨_, rfl, ?_⟩
    exact hQ
  refine ⟨fun hif1 => ?_, fun hif1 => ?_⟩
  ·
    exfalso
    simp at hif1 --done
  ·
    refine wss_nil ?_
    change WSs _ _ [_, _, _, _, _, _] [] _
    refine wss_cons ?_
    refine ws_if ?_
    refine wt_not ?_
    refine wt_val ?_
    refine we_call [] F__law_same (hr.mono (by omega)) m__law_same k__law_same b__law_same ?_
    refine wa_d ?_
    refine we_wf ?_
    refine wf_call [] F_strings (hr.mono (by omega)) m_strings k_strings b_strings ?_
    refine wa_d ?_
    refine we_name 1 rfl (.inl rfl) rfl ?_
    refine wa_nil ?_
    refine ⟨by decide, by (simp [setAll_len, setAll_nil]), by (simp [refsIn, setAll_len, setAll_nil, permL]), n, n, k1, rfl, rfl, by omega, by omega, by have := I1.len; omega, I1.mat, [], _, rfl, rfl, rfl, ?_⟩
    rw [← JJ.srt_strings I1, JJ.srt_level]
    refine wa_d ?_
    refine we_wf ?_
    refine wf_lc [("_law_at", 5)] (.nm 5) rfl sc.nd (blkOk_by (own := [("_law_at", 5)]) (N := ["_law_size", "_law_level_here", "_law_place", "_law_pairs_here", "_law_due", "_law_at"]) (by rfl)) (fun _ _ _ _ _ => pg_nm sc.nd rfl (.inl rfl) (.inr rfl)) (by decide) ?_
    refine wi_rng1 m_range ?_
    refine we_name 0 rfl (.inr (.inl rfl)) rfl ?_
    refine ⟨_, rfl, by omega, by omega, ?_⟩
    refine lcP (szl (by (first | omega | (rw [rgD_len]; omega) | (rw [rgD3_len]; omega) | (simp only [List.length_append, List.length_cons, List.length_nil, List.length_set, List.length_map, List.length_range, rgD_len, rgD3_len, enD_len]; omega) | omega | decide))) trivial (fun i => MM.nPair ((i : Int), n + (i : Int))) (fun i x hx => ?_) ?_
    ·
      obtain ⟨hi, rfl⟩ := rgD_get hx
      refine ⟨_, rfl, ?_⟩
      intro sb Hb Cb clb fpb
      refine we_tup ?_
      refine wd_cons ?_
      refine we_name 5 rfl (.inl rfl) rfl ?_
      refine wd_cons ?_
      refine we_add ?_
      refine we_name 0 rfl (by first | exact .inr (.inl rfl) | exact .inr (.inr rfl)) rfl ?_
      refine we_name 5 rfl (.inl rfl) rfl ?_
      refine ⟨_, _, rfl, rfl, ?_⟩
      refine wd_nil ?_
      refine ⟨szl (by simp), ?_⟩
      refine ⟨?_, rfl⟩
      unfold MM.nPair
      rw [show (0 : Int) + (i : Int) = i by omega]
    rw [rgD_len, show (n - 0).toNat = n.toNat by omega, show (List.range n.toNat).map (fun i : Nat => MM.nPair ((i : Int), n + (i : Int))) = (MM.strP n).map MM.nPair by unfold MM.strP; rw [List.map_map]; rfl]
    refine wa_nil ?_
    refine ⟨by decide, by (simp [setAll_len, setAll_nil]), by (simp [refsIn, setAll_len, setAll_nil, permL]), _, rfl, rfl, JJ.dq_pairs, _, rfl, rfl, ?_⟩
    refine ⟨_, rfl, ?_⟩
    refine ⟨fun hif2 => ?_, fun hif2 => ?_⟩
    ·
      exfalso
      cases hif2 --done
    ·
      refine wss_nil ?_
      change WSs _ _ [_, _, _, _, _, _] [] _
      refine wss_cons ?_
      refine ws_for PassesOwn.never rfl ?_
      refine wi_rng1 m_range ?_
      refine we_sub ?_
      refine we_name 0 rfl (.inr (.inl rfl)) rfl ?_
      refine we_int ?_
      refine ⟨_, _, rfl, rfl, ?_⟩
      refine ⟨_, rfl, by omega, by omega, ?_⟩
      refine ⟨fun i L m => ∃ y2 y3 y4 y5, L = [some (.d (.int n)), some (.d (MM.matD n n k1)), y2, y3, y4, y5] ∧ m = [], ?_, fun i x L m hx hI => ?_, fun L m hI => ?_⟩
      ·
        exact ⟨_, _, _, _, rfl, rfl⟩
      ·
        obtain ⟨y2, y3, y4, y5, rfl, rfl⟩ := hI
        obtain ⟨hi, rfl⟩ := rgD_get hx
        refine ⟨trivial, ?_⟩
        refine wg_name 2 sc.nd rfl (.inl rfl) ?_
        change WSs _ _ [_, _, _, _, _, _] [] _
        refine wss_cons ?_
        refine ws_set 3 sc.nd rfl (.inl rfl) ?_
        refine we_wf ?_
        refine wf_call [] F__law_hooked (hr.mono (by omega)) m__law_hooked k__law_hooked b__law_hooked ?_
        refine wa_d ?_
        refine we_name 0 rfl (.inr (.inl rfl)) rfl ?_
        refine wa_d ?_
        refine we_name 2 rfl (.inl rfl) rfl ?_
        refine wa_nil ?_
        refine ⟨by decide, by (simp [setAll_len, setAll_nil]), by (simp [refsIn, setAll_len, setAll_nil, permL]), n, 0 + (i : Int), rfl, rfl, by omega, by omega, by omega, [], _, rfl, rfl, rfl, ?_⟩
        change WSs _ _ [_, _, _, _, _, _] [] _
        refine wss_cons ?_
        refine ws_set 4 sc.nd rfl (.inl rfl) ?_
        refine we_call [] F__law_made (hr.mono (by omega)) m__law_made k__law_made b__law_made ?_
        refine wa_d ?_
        refine we_name 0 rfl (.inr (.inl rfl)) rfl ?_
        refine wa_d ?_
        refine we_name 0 rfl (.inr (.inl rfl)) rfl ?_
        refine wa_d ?_
        refine we_name 3 rfl (.inl rfl) rfl ?_
        refine wa_nil ?_
        have hM2 := MM.hook_match (n := n) (i := 0 + (i : Int)) (by omega) (by omega)
        refine ⟨by decide, by (simp [setAll_len, setAll_nil]), by (simp [refsIn, setAll_len, setAll_nil, permL]), n, n, MM.hookP n (0 + (i : Int)), rfl, rfl, by omega, by omega, by omega, by omega, hM2.nd, fun x hx => MM.match_in (by omega) (by omega) hM2 x hx, fun k4 hl4 W4 => ⟨_, rfl, rfl, ?_⟩⟩
        have I4 : MM.Is n n (MM.hookP n (0 + (i : Int))) k4 := ⟨by omega, by omega, by omega, hl4, hM2, W4⟩
        change WSs _ _ [_, _, _, _, _, _] [] _
        refine wss_cons ?_
        refine ws_if ?_
        apply VT.use
        ·
          apply VW.vt
          apply vw_or
          ·
            apply vt_not
            intro Q hQ
            refine wt_val ?_
            refine we_call [] F__law_same (hr.mono (by omega)) m__law_same k__law_same b__law_same ?_
            refine wa_d ?_
            refine we_call [] F_hook (hr.mono (by omega)) m_hook k_hook b_hook ?_
            refine wa_d ?_
            refine we_name 0 rfl (.inr (.inl rfl)) rfl ?_
            refine wa_d ?_
            refine we_name 2 rfl (.inl rfl) rfl ?_
            refine wa_nil ?_
            refine ⟨by decide, by (simp [setAll_len, setAll_nil]), by (simp [refsIn, setAll_len, setAll_nil, permL]), n, (0 + (i : Int)), rfl, rfl, by omega, by omega, by omega, fun k5 I5 => ⟨_, rfl, rfl, ?_⟩⟩
            rw [show k5 = k4 from I5.one I4]
            refine wa_d ?_
            refine we_name 4 rfl (.inl rfl) rfl ?_
            refine wa_nil ?_
            refine ⟨by decide, by (simp [setAll_len, setAll_nil]), by (simp [refsIn, setAll_len, setAll_nil, permL]), _, rfl, rfl, MM.dq_mat, _, rfl, rfl, ?_⟩
            refine ⟨_, rfl, ?_⟩
            exact hQ
          intro hg2
          apply vw_or1
          apply vt_not
          intro Q hQ
          refine wt_val ?_
          refine we_call [] F__law_same (hr.mono (by omega)) m__law_same k__law_same b__law_same ?_
          refine wa_d ?_
          refine we_callK0 [] F_hook (hr.mono (by omega)) m_hook k_hook bK0_hook ?_
          refine wk_d ?_
          refine we_name 0 rfl (.inr (.inl rfl)) rfl ?_
          refine wk_d ?_
          refine we_name 2 rfl (.inl rfl) rfl ?_
          refine wk_nil ?_
          refine ⟨rfl, rfl, ?_⟩
          refine ⟨by decide, by (simp [setAll_len, setAll_nil]), by (simp [refsIn, setAll_len, setAll_nil, permL]), n, (0 + (i : Int)), rfl, rfl, by omega, by omega, by omega, fun k6 I6 => ⟨_, rfl, rfl, ?_⟩⟩
          rw [show k6 = k4 from I6.one I4]
          refine wa_d ?_
          refine we_name 4 rfl (.inl rfl) rfl ?_
          refine wa_nil ?_
          refine ⟨by decide, by (simp [setAll_len, setAll_nil]), by (simp [refsIn, setAll_len, setAll_nil, permL]), _, rfl, rfl, MM.dq_mat, _, rfl, rfl, ?_⟩
          refine ⟨_, rfl, ?_⟩
          exact hQ
        refine ⟨fun hif3 => ?_, fun hif3 => ?_⟩
        ·
          exfalso
          simp at hif3 --done
        ·
          refine wss_nil ?_
          change WSs _ _ [_, _, _, _, _, _] [] _
          refine wss_one ?_
          refine ws_if ?_
          refine wt_not ?_
          refine wt_val ?_
          refine we_call [] F__law_same (hr.mono (by omega)) m__law_same k__law_same b__law_same ?_
          refine wa_d ?_
          refine we_wf ?_
          refine wf_callK0 [] F_strings (hr.mono (by omega)) m_strings k_strings bK0_strings ?_
          refine wk_d ?_
          refine we_name 4 rfl (.inl rfl) rfl ?_
          refine wk_nil ?_
          refine ⟨rfl, rfl, ?_⟩
          refine ⟨by decide, by (simp [setAll_len, setAll_nil]), by (simp [refsIn, setAll_len, setAll_nil, permL]), n, n, k4, rfl, rfl, by omega, by omega, by have := I4.len; omega, I4.mat, [], _, rfl, rfl, rfl, ?_⟩
          refine wa_d ?_
          refine we_wf ?_
          refine wf_call [] F__law_ends (hr.mono (by omega)) m__law_ends k__law_ends b__law_ends ?_
          refine wa_d ?_
          refine we_name 0 rfl (.inr (.inl rfl)) rfl ?_
          refine wa_d ?_
          refine we_name 3 rfl (.inl rfl) rfl ?_
          refine wa_nil ?_
          refine ⟨by decide, by (simp [setAll_len, setAll_nil]), by (simp [refsIn, setAll_len, setAll_nil, permL]), n, n, _, k4, rfl, rfl, I4, by omega, by omega, [], _, rfl, rfl, rfl, ?_⟩
          refine wa_nil ?_
          refine ⟨by decide, by (simp [setAll_len, setAll_nil]), by (simp [refsIn, setAll_len, setAll_nil, permL]), _, rfl, rfl, JJ.dq_pairs, _, rfl, rfl, ?_⟩
          refine ⟨_, rfl, ?_⟩
          refine ⟨fun hif4 => ?_, fun hif4 => ?_⟩
          ·
            exfalso
            cases hif4 --done
          ·
            refine wss_nil ?_
            exact ⟨_, _, .same (by (repeat (first | exact WkL.nil | refine WkL.kd ?_ | (refine WkL.kr ?_ ?_; focus (simp [setAll_len, setAll_nil]; done)) | refine WkL.kw ?_ | refine WkL.drop ?_))) (by simp), _, _, _, _, rfl, rfl⟩
      obtain ⟨y2, y3, y4, y5, rfl, rfl⟩ := hI
      refine ⟨trivial, ?_⟩
      change WSs _ _ [_, _, _, _, _, _] [] _
      refine wss_one ?_
      refine ws_ret ?_
      refine we_bool ?_
      exact ⟨Nat.zero_le _, .inl ⟨_, rfl, kq⟩⟩
end
section
variable {P : Program} {w : World} {K : PySem.W.Frag} {mg : Str → Option Value} {base : Heap}
theorem ok_law {f : Addr} {fd : FuncData} (F : Fun K "law" "law" s_law f fd) {f__law_well : Addr} {fd__law_well : FuncData} (F__law_well : FnOk P w K mg base CX0 1 f__law_well fd__law_well ["_law_script", "_law_place"] (toSp K spWell)) (m__law_well : mg "_law_well" = some (.ref f__law_well)) (k__law_well : PySem.W.keepIn K (.ref f__law_well) = true) (b__law_well : Binds K fd__law_well ["_law_script", "_law_place"] []) {f__law_counts : Addr} {fd__law_counts : FuncData} (F__law_counts : FnOk P w K mg base CX0 2 f__law_counts fd__law_counts ["_law_well_here", "_law_most"] (toSp K spCounts)) (m__law_counts : mg "_law_counts" = some (.ref f__law_counts)) (k__law_counts : PySem.W.keepIn K (.ref f__law_counts) = true) (b__law_counts : Binds K fd__law_counts ["_law_well_here", "_law_most"] []) {f__law_pairs : Addr} {fd__law_pairs : FuncData} (F__law_pairs : FnOk P w K mg base CX0 2 f__law_pairs fd__law_pairs ["_law_well_here", "_law_up", "_law_down"] (toSp K MM.spPairs)) (m__law_pairs : mg "_law_pairs" = some (.ref f__law_pairs)) (k__law_pairs : PySem.W.keepIn K (.ref f__law_pairs) = true) (b__law_pairs : Binds K fd__law_pairs ["_law_well_here", "_law_up", "_law_down"] []) {f__law_made : Addr} {fd__law_made : FuncData} (F__law_made : FnOk P w K mg base CX0 1 f__law_made fd__law_made ["_law_up", "_law_down", "_law_pairs_here"] (toSp K MM.spMade)) (m__law_made : mg "_law_made" = some (.ref f__law_made)) (k__law_made : PySem.W.keepIn K (.ref f__law_made) = true) (b__law_made : Binds K fd__law_made ["_law_up", "_law_down", "_law_pairs_here"] []) {f__law_draw : Addr} {fd__law_draw : FuncData} (F__law_draw : FnOk P w K mg base CX0 1 f__law_draw fd__law_draw ["_law_well_here", "_law_limit"] (toSp K spDraw)) (m__law_draw : mg "_law_draw" = some (.ref f__law_draw)) (k__law_draw : PySem.W.keepIn K (.ref f__law_draw) = true) (b__law_draw : Binds K fd__law_draw ["_law_well_here", "_law_limit"] []) {f__law_same : Addr} {fd__law_same : FuncData} (F__law_same : FnOk P w K mg base CX0 4 f__law_same fd__law_same ["_law_found", "_law_due"] (toSp K (spSame 3))) (m__law_same : mg "_law_same" = some (.ref f__law_same)) (k__law_same : PySem.W.keepIn K (.ref f__law_same) = true) (b__law_same : Binds K fd__law_same ["_law_found", "_law_due"] []) {f__law_hooks_right : Addr} {fd__law_hooks_right : FuncData} (F__law_hooks_right : FnOk P w K mg base CX0 6 f__law_hooks_right fd__law_hooks_right ["_law_size"] (toSp K JJ.spHk4)) (m__law_hooks_right : mg "_law_hooks_right" = some (.ref f__law_hooks_right)) (k__law_hooks_right : PySem.W.keepIn K (.ref f__law_hooks_right) = true) (b__law_hooks_right : Binds K fd__law_hooks_right ["_law_size"] []) {f__law_wrong_right : Addr} {fd__law_wrong_right : FuncData} (F__law_wrong_right : FnOk P w K mg base CX0 6 f__law_wrong_right fd__law_wrong_right ["_law_well_here", "_law_size"] (toSp K JJ.spWr4)) (m__law_wrong_right : mg "_law_wrong_right" = some (.ref f__law_wrong_right)) (k__law_wrong_right : PySem.W.keepIn K (.ref f__law_wrong_right) = true) (b__law_wrong_right : Binds K fd__law_wrong_right ["_law_well_here", "_law_size"] []) {f_strings : Addr} {fd_strings : FuncData} (F_strings : FnOk P w K mg base CX0 5 f_strings fd_strings ["mat"] (toSp K JJ.spStrings)) (m_strings : mg "strings" = some (.ref f_strings)) (k_strings : PySem.W.keepIn K (.ref f_strings) = true) (b_strings : Binds K fd_strings ["mat"] []) {f__law_ends : Addr} {fd__law_ends : FuncData} (F__law_ends : FnOk P w K mg base CX0 1 f__law_ends fd__law_ends ["_law_up", "_law_pairs_here"] (toSp K JJ.spEnds)) (m__law_ends : mg "_law_ends" = some (.ref f__law_ends)) (k__law_ends : PySem.W.keepIn K (.ref f__law_ends) = true) (b__law_ends : Binds K fd__law_ends ["_law_up", "_law_pairs_here"] []) (m_range : mg "range" = none) (m_max : mg "max" = none) (m_min : mg "min" = none) (m_len : mg "len" = none) (bK0_strings : KBp K fd_strings ["mat"] 0 ["mat"]) : FnOk P w K mg base CX0 7 f fd ["_law_script"] (toSp K spLaw) := by
  have sc := sc_law
  refine fn_pp F sc (fun pvs m q h => ?_) (fun cdv A outer s H E hr pvs m q h => ?_)
  · obtain ⟨_, rfl, _⟩ := h
    rfl
  obtain ⟨ns, rfl, rfl, hl, hns, kq⟩ := h
  have hlm : (ns.map PyData.int).length = ns.length := List.length_map ..
  change WSs _ _ [_, _, _, _, _, _, _, _] [] _
  refine wss_cons ?_
  refine ws_for PassesOwn.never rfl ?_
  refine wi_rng1 m_range ?_
  refine we_max2 rfl m_max ?_
  refine we_int ?_
  refine we_min2 rfl m_min ?_
  refine we_len m_len ?_
  refine wv_name 0 rfl (.inl rfl) rfl ?_
  refine ⟨_, rfl, ?_⟩
  refine we_int ?_
  refine ⟨_, _, rfl, rfl, ?_⟩
  refine ⟨_, _, rfl, rfl, ?_⟩
  refine ⟨_, rfl, by split <;> (try split) <;> omega, by split <;> (try split) <;> omega, ?_⟩
  refine ⟨fun i L m => ∃ y1 y2 y3 y4 y5 y6 y7, L = [some (.raw (ns.map .int)), y1, y2, y3, y4, y5, y6, y7] ∧ m = [], ?_, fun i x L m hx hI => ?_, fun L m hI => ?_⟩
  ·
    exact ⟨_, _, _, _, _, _, _, rfl, rfl⟩
  ·
    obtain ⟨y1, y2, y3, y4, y5, y6, y7, rfl, rfl⟩ := hI
    obtain ⟨hi, rfl⟩ := rgD_get hx
    have hi2 : i < 100 := by
      revert hi
      split <;> (try split) <;> omega
    refine ⟨trivial, ?_⟩
    refine wg_name 1 sc.nd rfl (.inl rfl) ?_
    change WSs _ _ [_, _, _, _, _, _, _, _] [] _
    refine wss_cons ?_
    refine ws_setF 2 sc.nd rfl (.inl rfl) ?_
    refine wf_call [] F__law_well (hr.mono (by omega)) m__law_well k__law_well b__law_well ?_
    refine wa_cons ?_
    refine wv_name 0 rfl (.inl rfl) rfl ?_
    refine wa_d ?_
    refine we_name 1 rfl (.inl rfl) rfl ?_
    refine wa_nil ?_
    refine ⟨by decide, by (simp [setAll_len, setAll_nil]), by (simp [refsIn, setAll_len, setAll_nil, permL]), ns, i, by simp [ren], rfl, hns, by omega, fun xs1 hw1 => ⟨[], _, rfl, rfl, rfl, ?_⟩⟩
    change WSs _ _ [_, _, _, _, _, _, _, _] [_] _
    refine wss_cons ?_
    refine ws_set 3 sc.nd rfl (.inl rfl) ?_
    refine we_add ?_
    refine we_int ?_
    refine we_call [0] F__law_draw (hr.mono (by omega)) m__law_draw k__law_draw b__law_draw ?_
    refine wa_cons ?_
    refine wv_name 2 rfl (.inl rfl) rfl ?_
    refine wa_d ?_
    refine we_int ?_
    refine wa_nil ?_
    refine ⟨by decide, by (simp [setAll_len, setAll_nil]), by (simp [refsIn, setAll_len, setAll_nil, permL]), _, _, _, rfl, rfl, hw1, by omega, by (omega), by (omega), fun r2 xs2 hr2a hr2b hw2 => ⟨_, rfl, rfl, ?_⟩⟩
    refine ⟨_, _, rfl, rfl, ?_⟩
    change WSs _ _ [_, _, _, _, _, _, _, _] [_] _
    refine wss_cons ?_
    refine ws_if ?_
    refine wt_ww ?_
    refine ww_or ?_
    refine wt_not ?_
    refine wt_val ?_
    refine we_call [] F__law_hooks_right (hr.mono (by omega)) m__law_hooks_right k__law_hooks_right b__law_hooks_right ?_
    refine wa_d ?_
    refine we_name 3 rfl (.inl rfl) rfl ?_
    refine wa_nil ?_
    refine ⟨by decide, by (simp [setAll_len, setAll_nil]), by (simp [refsIn, setAll_len, setAll_nil, permL]), _, rfl, rfl, by omega, by omega, _, rfl, rfl, ?_⟩
    refine ⟨_, rfl, ?_⟩
    refine ⟨fun heb1 => ?_, fun heb1 => ?_⟩
    ·
      exfalso
      cases heb1 --done
    ·
      refine ww_or1 ?_
      refine wt_not ?_
      refine wt_val ?_
      refine we_call [0] F__law_wrong_right (hr.mono (by omega)) m__law_wrong_right k__law_wrong_right b__law_wrong_right ?_
      refine wa_cons ?_
      refine wv_name 2 rfl (.inl rfl) rfl ?_
      refine wa_d ?_
      refine we_name 3 rfl (.inl rfl) rfl ?_
      refine wa_nil ?_
      refine ⟨by decide, by (simp [setAll_len, setAll_nil]), by (simp [refsIn, setAll_len, setAll_nil, permL]), _, _, _, rfl, rfl, hw2, by omega, by omega, by omega, fun xs3 hw3 => ⟨_, rfl, rfl, ?_⟩⟩
      refine ⟨_, rfl, ?_⟩
      refine ⟨fun hif1 => ?_, fun hif1 => ?_⟩
      ·
        exfalso
        simp at hif1 --done
      ·
        refine wss_nil ?_
        change WSs _ _ [_, _, _, _, _, _, _, _] [_] _
        refine wss_cons ?_
        refine ws_asg ?_
        refine we_call [0] F__law_counts (hr.mono (by omega)) m__law_counts k__law_counts b__law_counts ?_
        refine wa_cons ?_
        refine wv_name 2 rfl (.inl rfl) rfl ?_
        refine wa_d ?_
        refine we_int ?_
        refine wa_nil ?_
        refine ⟨by decide, by (simp [setAll_len, setAll_nil]), by (simp [refsIn, setAll_len, setAll_nil, permL]), _, _, _, rfl, rfl, hw3, by omega, by omega, by omega, fun xs4 u d hu0 hd0 hp hle he hw4 => ⟨_, rfl, rfl, ?_⟩⟩
        refine wg_tup rfl ?_
        refine ⟨_, rfl, rfl, ?_⟩
        refine wgn_cons ?_
        refine wg_name 4 sc.nd rfl (.inl rfl) ?_
        refine wgn_cons ?_
        refine wg_name 5 sc.nd rfl (.inl rfl) ?_
        refine wgn_nil ?_
        change WSs _ _ [_, _, _, _, _, _, _, _] [_] _
        refine wss_cons ?_
        refine ws_set 6 sc.nd rfl (.inl rfl) ?_
        refine we_wf ?_
        refine wf_call [0] F__law_pairs (hr.mono (by omega)) m__law_pairs k__law_pairs b__law_pairs ?_
        refine wa_cons ?_
        refine wv_name 2 rfl (.inl rfl) rfl ?_
        refine wa_d ?_
        refine we_name 4 rfl (.inl rfl) rfl ?_
        refine wa_d ?_
        refine we_name 5 rfl (.inl rfl) rfl ?_
        refine wa_nil ?_
        refine ⟨by decide, by (simp [setAll_len, setAll_nil]), by (simp [refsIn, setAll_len, setAll_nil, permL]), _, _, _, _, rfl, rfl, hw4, by omega, hu0, by omega, hd0, by omega, hp, he, fun xs5 prs M hw5 => ⟨[_], _, rfl, rfl, rfl, ?_⟩⟩
        have hin : ∀ x ∈ MM.ends prs, 0 ≤ x ∧ x < u + d := fun x hx => (MM.ringI_mem hu0 hd0).mp ((M.mem x).mp hx)
        change WSs _ _ [_, _, _, _, _, _, _, _] [_] _
        refine wss_cons ?_
        refine ws_set 7 sc.nd rfl (.inl rfl) ?_
        refine we_call [] F__law_made (hr.mono (by omega)) m__law_made k__law_made b__law_made ?_
        refine wa_d ?_
        refine we_name 4 rfl (.inl rfl) rfl ?_
        refine wa_d ?_
        refine we_name 5 rfl (.inl rfl) rfl ?_
        refine wa_d ?_
        refine we_name 6 rfl (.inl rfl) rfl ?_
        refine wa_nil ?_
        refine ⟨by decide, by (simp [setAll_len, setAll_nil]), by (simp [refsIn, setAll_len, setAll_nil, permL]), u, d, prs, rfl, rfl, hu0, by omega, hd0, by omega, M.nd, hin, fun k1 hl1 W1 => ⟨_, rfl, rfl, ?_⟩⟩
        have I1 : MM.Is u d prs k1 := ⟨hu0, hd0, hp, hl1, M, W1⟩
        change WSs _ _ [_, _, _, _, _, _, _, _] [_] _
        refine wss_cons ?_
        refine ws_if ?_
        refine wt_not ?_
        refine wt_val ?_
        refine we_call [] F__law_same (hr.mono (by omega)) m__law_same k__law_same b__law_same ?_
        refine wa_d ?_
        refine we_wf ?_
        refine wf_call [] F_strings (hr.mono (by omega)) m_strings k_strings b_strings ?_
        refine wa_d ?_
        refine we_name 7 rfl (.inl rfl) rfl ?_
        refine wa_nil ?_
        refine ⟨by decide, by (simp [setAll_len, setAll_nil]), by (simp [refsIn, setAll_len, setAll_nil, permL]), u, d, k1, rfl, rfl, by omega, by omega, by omega, I1.mat, [], _, rfl, rfl, rfl, ?_⟩
        refine wa_d ?_
        refine we_wf ?_
        refine wf_call [] F__law_ends (hr.mono (by omega)) m__law_ends k__law_ends b__law_ends ?_
        refine wa_d ?_
        refine we_name 4 rfl (.inl rfl) rfl ?_
        refine wa_d ?_
        refine we_name 6 rfl (.inl rfl) rfl ?_
        refine wa_nil ?_
        refine ⟨by decide, by (simp [setAll_len, setAll_nil]), by (simp [refsIn, setAll_len, setAll_nil, permL]), u, d, _, k1, rfl, rfl, I1, by omega, by omega, [], _, rfl, rfl, rfl, ?_⟩
        refine wa_nil ?_
        refine ⟨by decide, by (simp [setAll_len, setAll_nil]), by (simp [refsIn, setAll_len, setAll_nil, permL]), _, rfl, rfl, JJ.dq_pairs, _, rfl, rfl, ?_⟩
        refine ⟨_, rfl, ?_⟩
        refine ⟨fun hif2 => ?_, fun hif2 => ?_⟩
        ·
          exfalso
          cases hif2 --done
        ·
          refine wss_nil ?_
          change WSs _ _ [_, _, _, _, _, _, _, _] [_] _
          refine wss_one ?_
          refine ws_if ?_
          refine wt_not ?_
          refine wt_val ?_
          refine we_call [] F__law_same (hr.mono (by omega)) m__law_same k__law_same b__law_same ?_
          refine wa_d ?_
          refine we_wf ?_
          refine wf_callK0 [] F_strings (hr.mono (by omega)) m_strings k_strings bK0_strings ?_
          refine wk_d ?_
          refine we_name 7 rfl (.inl rfl) rfl ?_
          refine wk_nil ?_
          refine ⟨rfl, rfl, ?_⟩
          refine ⟨by decide, by (simp [setAll_len, setAll_nil]), by (simp [refsIn, setAll_len, setAll_nil, permL]), u, d, k1, rfl, rfl, by omega, by omega, by omega, I1.mat, [], _, rfl, rfl, rfl, ?_⟩
          refine wa_d ?_
          refine we_wf ?_
          refine wf_call [] F__law_ends (hr.mono (by omega)) m__law_ends k__law_ends b__law_ends ?_
          refine wa_d ?_
          refine we_name 4 rfl (.inl rfl) rfl ?_
          refine wa_d ?_
          refine we_name 6 rfl (.inl rfl) rfl ?_
          refine wa_nil ?_
          refine ⟨by decide, by (simp [setAll_len, setAll_nil]), by (simp [refsIn, setAll_len, setAll_nil, permL]), u, d, _, k1, rfl, rfl, I1, by omega, by omega, [], _, rfl, rfl, rfl, ?_⟩
          refine wa_nil ?_
          refine ⟨by decide, by (simp [setAll_len, setAll_nil]), by (simp [refsIn, setAll_len, setAll_nil, permL]), _, rfl, rfl, JJ.dq_pairs, _, rfl, rfl, ?_⟩
          refine ⟨_, rfl, ?_⟩
          refine ⟨fun hif3 => ?_, fun hif3 => ?_⟩
          ·
            exfalso
            cases hif3 --done
          ·
            refine wss_nil ?_
            exact ⟨_, _, .cut (by (repeat (first | exact WkL.nil | refine WkL.kd ?_ | (refine WkL.kr ?_ ?_; focus (simp [setAll_len, setAll_nil]; done)) | refine WkL.kw ?_ | refine WkL.drop ?_))), _, _, _, _, _, _, _, rfl, rfl⟩
  obtain ⟨y1, y2, y3, y4, y5, y6, y7, rfl, rfl⟩ := hI
  refine ⟨trivial, ?_⟩
  change WSs _ _ [_, _, _, _, _, _, _, _] [] _
  refine wss_one ?_
  refine ws_ret ?_
  refine we_bool ?_
  exact ⟨Nat.zero_le _, .inl ⟨_, rfl, kq⟩⟩
end
theorem all_mk {l : PySem.W.OpenLaw} {w : World} {K : PySem.W.Frag} {h : Heap} {mg : Str → Option Value} {fa f1 f2 f3 f4 f5 f6 f7 f8 f9 f10 f11 f12 f13 f14 f15 f16 f17 f18 f19 f20 f21 f22 f23 f24 f25 : Addr} (X : K.In h) (G : h.Ns mainGlobals mg) (hfa : mg "law" = some (.ref fa))
    {od1 an1 od2 an2 od3 an3 od4 an4 od5 an5 od6 an6 od7 an7 od8 an8 od9 an9 od10 an10 od11 an11 od12 an12 od13 an13 od14 an14 od15 an15 od16 an16 od17 an17 od18 an18 od19 an19 od20 an20 od21 an21 od22 an22 od23 an23 od24 an24 od25 an25 : Option Addr} {sl1 sl2 sl3 sl4 sl5 sl6 sl7 sl8 sl9 sl10 sl11 sl12 sl13 sl14 sl15 sl16 sl17 sl18 sl19 sl20 sl21 sl22 sl23 sl24 sl25 : Array (Option Value)} {oc1 kV1 dc1 pm1 cd1 ct1 oc2 kV2 dc2 pm2 cd2 ct2 oc3 kV3 dc3 pm3 cd3 ct3 oc4 kV4 dc4 pm4 cd4 ct4 oc5 kV5 dc5 pm5 cd5 ct5 oc6 kV6 dc6 pm6 cd6 ct6 oc7 kV7 dc7 pm7 cd7 ct7 oc8 kV8 dc8 pm8 cd8 ct8 oc9 kV9 dc9 pm9 cd9 ct9 oc10 kV10 dc10 pm10 cd10 ct10 oc11 kV11 dc11 pm11 cd11 ct11 oc12 kV12 dc12 pm12 cd12 ct12 oc13 kV13 dc13 pm13 cd13 ct13 oc14 kV14 dc14 pm14 cd14 ct14 oc15 kV15 dc15 pm15 cd15 ct15 oc16 kV16 dc16 pm16 cd16 ct16 oc17 kV17 dc17 pm17 cd17 ct17 oc18 kV18 dc18 pm18 cd18 ct18 oc19 kV19 dc19 pm19 cd19 ct19 oc20 kV20 dc20 pm20 cd20 ct20 oc21 kV21 dc21 pm21 cd21 ct21 oc22 kV22 dc22 pm22 cd22 ct22 oc23 kV23 dc23 pm23 cd23 ct23 oc24 kV24 dc24 pm24 cd24 ct24 oc25 kV25 dc25 pm25 cd25 ct25 : Value}
    (a1 : PySem.W.nsIn K mainGlobals "check_mat" = some (some (.ref f1))) (l1 : K.lookup f1 = some ⟨oc1, od1, .func (PySem.W.fnOf "check_mat" "check_mat" (defArgs s_check_mat) (defBody s_check_mat) (defScope s_check_mat) .none kV1 dc1 pm1 an1 cd1 ct1), sl1⟩) (c1 : PySem.W.codeIn K cd1 "check_mat" = true) (k1 : PySem.W.keepIn K (.ref f1) = true)
    (a2 : PySem.W.nsIn K mainGlobals "check_from" = some (some (.ref f2))) (l2 : K.lookup f2 = some ⟨oc2, od2, .func (PySem.W.fnOf "check_from" "check_from" (defArgs s_check_from) (defBody s_check_from) (defScope s_check_from) .none kV2 dc2 pm2 an2 cd2 ct2), sl2⟩) (c2 : PySem.W.codeIn K cd2 "check_from" = true) (k2 : PySem.W.keepIn K (.ref f2) = true)
    (a3 : PySem.W.nsIn K mainGlobals "round_about" = some (some (.ref f3))) (l3 : K.lookup f3 = some ⟨oc3, od3, .func (PySem.W.fnOf "round_about" "round_about" (defArgs s_round_about) (defBody s_round_about) (defScope s_round_about) .none kV3 dc3 pm3 an3 cd3 ct3), sl3⟩) (c3 : PySem.W.codeIn K cd3 "round_about" = true) (k3 : PySem.W.keepIn K (.ref f3) = true)
    (a4 : PySem.W.nsIn K mainGlobals "_are_mates" = some (some (.ref f4))) (l4 : K.lookup f4 = some ⟨oc4, od4, .func (PySem.W.fnOf "_are_mates" "_are_mates" (defArgs s_p_are_mates) (defBody s_p_are_mates) (defScope s_p_are_mates) .none kV4 dc4 pm4 an4 cd4 ct4), sl4⟩) (c4 : PySem.W.codeIn K cd4 "_are_mates" = true) (k4 : PySem.W.keepIn K (.ref f4) = true)
    (a5 : PySem.W.nsIn K mainGlobals "_none_cross" = some (some (.ref f5))) (l5 : K.lookup f5 = some ⟨oc5, od5, .func (PySem.W.fnOf "_none_cross" "_none_cross" (defArgs s_p_none_cross) (defBody s_p_none_cross) (defScope s_p_none_cross) .none kV5 dc5 pm5 an5 cd5 ct5), sl5⟩) (c5 : PySem.W.codeIn K cd5 "_none_cross" = true) (k5 : PySem.W.keepIn K (.ref f5) = true)
    (a6 : PySem.W.nsIn K mainGlobals "is_mat" = some (some (.ref f6))) (l6 : K.lookup f6 = some ⟨oc6, od6, .func (PySem.W.fnOf "is_mat" "is_mat" (defArgs s_is_mat) (defBody s_is_mat) (defScope s_is_mat) .none kV6 dc6 pm6 an6 cd6 ct6), sl6⟩) (c6 : PySem.W.codeIn K cd6 "is_mat" = true) (k6 : PySem.W.keepIn K (.ref f6) = true)
    (a7 : PySem.W.nsIn K mainGlobals "mat_of_pairs" = some (some (.ref f7))) (l7 : K.lookup f7 = some ⟨oc7, od7, .func (PySem.W.fnOf "mat_of_pairs" "mat_of_pairs" (defArgs s_mat_of_pairs) (defBody s_mat_of_pairs) (defScope s_mat_of_pairs) .none kV7 dc7 pm7 an7 cd7 ct7), sl7⟩) (c7 : PySem.W.codeIn K cd7 "mat_of_pairs" = true) (k7 : PySem.W.keepIn K (.ref f7) = true)
    (a8 : PySem.W.nsIn K mainGlobals "straight" = some (some (.ref f8))) (l8 : K.lookup f8 = some ⟨oc8, od8, .func (PySem.W.fnOf "straight" "straight" (defArgs s_straight) (defBody s_straight) (defScope s_straight) .none kV8 dc8 pm8 an8 cd8 ct8), sl8⟩) (c8 : PySem.W.codeIn K cd8 "straight" = true) (k8 : PySem.W.keepIn K (.ref f8) = true)
    (a9 : PySem.W.nsIn K mainGlobals "hook" = some (some (.ref f9))) (l9 : K.lookup f9 = some ⟨oc9, od9, .func (PySem.W.fnOf "hook" "hook" (defArgs s_hook) (defBody s_hook) (defScope s_hook) .none kV9 dc9 pm9 an9 cd9 ct9), sl9⟩) (c9 : PySem.W.codeIn K cd9 "hook" = true) (k9 : PySem.W.keepIn K (.ref f9) = true)
    (a10 : PySem.W.nsIn K mainGlobals "_strings" = some (some (.ref f10))) (l10 : K.lookup f10 = some ⟨oc10, od10, .func (PySem.W.fnOf "_strings" "_strings" (defArgs s_p_strings) (defBody s_p_strings) (defScope s_p_strings) .none kV10 dc10 pm10 an10 cd10 ct10), sl10⟩) (c10 : PySem.W.codeIn K cd10 "_strings" = true) (k10 : PySem.W.keepIn K (.ref f10) = true)
    (a11 : PySem.W.nsIn K mainGlobals "strings" = some (some (.ref f11))) (l11 : K.lookup f11 = some ⟨oc11, od11, .func (PySem.W.fnOf "strings" "strings" (defArgs s_strings) (defBody s_strings) (defScope s_strings) .none kV11 dc11 pm11 an11 cd11 ct11), sl11⟩) (c11 : PySem.W.codeIn K cd11 "strings" = true) (k11 : PySem.W.keepIn K (.ref f11) = true)
    (a12 : PySem.W.nsIn K mainGlobals "_law_well" = some (some (.ref f12))) (l12 : K.lookup f12 = some ⟨oc12, od12, .func (PySem.W.fnOf "_law_well" "_law_well" (defArgs s_l_well) (defBody s_l_well) (defScope s_l_well) .none kV12 dc12 pm12 an12 cd12 ct12), sl12⟩) (c12 : PySem.W.codeIn K cd12 "_law_well" = true) (k12 : PySem.W.keepIn K (.ref f12) = true)
    (a13 : PySem.W.nsIn K mainGlobals "_law_draw" = some (some (.ref f13))) (l13 : K.lookup f13 = some ⟨oc13, od13, .func (PySem.W.fnOf "_law_draw" "_law_draw" (defArgs s_l_draw) (defBody s_l_draw) (defScope s_l_draw) .none kV13 dc13 pm13 an13 cd13 ct13), sl13⟩) (c13 : PySem.W.codeIn K cd13 "_law_draw" = true) (k13 : PySem.W.keepIn K (.ref f13) = true)
    (a14 : PySem.W.nsIn K mainGlobals "_law_same" = some (some (.ref f14))) (l14 : K.lookup f14 = some ⟨oc14, od14, .func (PySem.W.fnOf "_law_same" "_law_same" (defArgs s_l_same) (defBody s_l_same) (defScope s_l_same) .none kV14 dc14 pm14 an14 cd14 ct14), sl14⟩) (c14 : PySem.W.codeIn K cd14 "_law_same" = true) (k14 : PySem.W.keepIn K (.ref f14) = true)
    (a15 : PySem.W.nsIn K mainGlobals "_law_ring" = some (some (.ref f15))) (l15 : K.lookup f15 = some ⟨oc15, od15, .func (PySem.W.fnOf "_law_ring" "_law_ring" (defArgs s_l_ring) (defBody s_l_ring) (defScope s_l_ring) .none kV15 dc15 pm15 an15 cd15 ct15), sl15⟩) (c15 : PySem.W.codeIn K cd15 "_law_ring" = true) (k15 : PySem.W.keepIn K (.ref f15) = true)
    (a16 : PySem.W.nsIn K mainGlobals "_law_made" = some (some (.ref f16))) (l16 : K.lookup f16 = some ⟨oc16, od16, .func (PySem.W.fnOf "_law_made" "_law_made" (defArgs s_l_made) (defBody s_l_made) (defScope s_l_made) .none kV16 dc16 pm16 an16 cd16 ct16), sl16⟩) (c16 : PySem.W.codeIn K cd16 "_law_made" = true) (k16 : PySem.W.keepIn K (.ref f16) = true)
    (a17 : PySem.W.nsIn K mainGlobals "_law_pairs" = some (some (.ref f17))) (l17 : K.lookup f17 = some ⟨oc17, od17, .func (PySem.W.fnOf "_law_pairs" "_law_pairs" (defArgs s_l_pairs) (defBody s_l_pairs) (defScope s_l_pairs) .none kV17 dc17 pm17 an17 cd17 ct17), sl17⟩) (c17 : PySem.W.codeIn K cd17 "_law_pairs" = true) (k17 : PySem.W.keepIn K (.ref f17) = true)
    (a18 : PySem.W.nsIn K mainGlobals "_law_counts" = some (some (.ref f18))) (l18 : K.lookup f18 = some ⟨oc18, od18, .func (PySem.W.fnOf "_law_counts" "_law_counts" (defArgs s_l_counts) (defBody s_l_counts) (defScope s_l_counts) .none kV18 dc18 pm18 an18 cd18 ct18), sl18⟩) (c18 : PySem.W.codeIn K cd18 "_law_counts" = true) (k18 : PySem.W.keepIn K (.ref f18) = true)
    (a19 : PySem.W.nsIn K mainGlobals "_law_ends" = some (some (.ref f19))) (l19 : K.lookup f19 = some ⟨oc19, od19, .func (PySem.W.fnOf "_law_ends" "_law_ends" (defArgs s_l_ends) (defBody s_l_ends) (defScope s_l_ends) .none kV19 dc19 pm19 an19 cd19 ct19), sl19⟩) (c19 : PySem.W.codeIn K cd19 "_law_ends" = true) (k19 : PySem.W.keepIn K (.ref f19) = true)
    (a20 : PySem.W.nsIn K mainGlobals "_law_level" = some (some (.ref f20))) (l20 : K.lookup f20 = some ⟨oc20, od20, .func (PySem.W.fnOf "_law_level" "_law_level" (defArgs s_l_level) (defBody s_l_level) (defScope s_l_level) .none kV20 dc20 pm20 an20 cd20 ct20), sl20⟩) (c20 : PySem.W.codeIn K cd20 "_law_level" = true) (k20 : PySem.W.keepIn K (.ref f20) = true)
    (a21 : PySem.W.nsIn K mainGlobals "_law_hooked" = some (some (.ref f21))) (l21 : K.lookup f21 = some ⟨oc21, od21, .func (PySem.W.fnOf "_law_hooked" "_law_hooked" (defArgs s_l_hooked) (defBody s_l_hooked) (defScope s_l_hooked) .none kV21 dc21 pm21 an21 cd21 ct21), sl21⟩) (c21 : PySem.W.codeIn K cd21 "_law_hooked" = true) (k21 : PySem.W.keepIn K (.ref f21) = true)
    (a22 : PySem.W.nsIn K mainGlobals "_law_refused" = some (some (.ref f22))) (l22 : K.lookup f22 = some ⟨oc22, od22, .func (PySem.W.fnOf "_law_refused" "_law_refused" (defArgs s_l_refused) (defBody s_l_refused) (defScope s_l_refused) .none kV22 dc22 pm22 an22 cd22 ct22), sl22⟩) (c22 : PySem.W.codeIn K cd22 "_law_refused" = true) (k22 : PySem.W.keepIn K (.ref f22) = true)
    (a23 : PySem.W.nsIn K mainGlobals "_law_wrong_right" = some (some (.ref f23))) (l23 : K.lookup f23 = some ⟨oc23, od23, .func (PySem.W.fnOf "_law_wrong_right" "_law_wrong_right" (defArgs s_l_wrong_right) (defBody s_l_wrong_right) (defScope s_l_wrong_right) .none kV23 dc23 pm23 an23 cd23 ct23), sl23⟩) (c23 : PySem.W.codeIn K cd23 "_law_wrong_right" = true) (k23 : PySem.W.keepIn K (.ref f23) = true)
    (a24 : PySem.W.nsIn K mainGlobals "_law_hooks_right" = some (some (.ref f24))) (l24 : K.lookup f24 = some ⟨oc24, od24, .func (PySem.W.fnOf "_law_hooks_right" "_law_hooks_right" (defArgs s_l_hooks_right) (defBody s_l_hooks_right) (defScope s_l_hooks_right) .none kV24 dc24 pm24 an24 cd24 ct24), sl24⟩) (c24 : PySem.W.codeIn K cd24 "_law_hooks_right" = true) (k24 : PySem.W.keepIn K (.ref f24) = true)
    (a25 : PySem.W.nsIn K mainGlobals "law" = some (some (.ref f25))) (l25 : K.lookup f25 = some ⟨oc25, od25, .func (PySem.W.fnOf "law" "law" (defArgs s_law) (defBody s_law) (defScope s_law) .none kV25 dc25 pm25 an25 cd25 ct25), sl25⟩) (c25 : PySem.W.codeIn K cd25 "law" = true) (k25 : PySem.W.keepIn K (.ref f25) = true)
    {fI : Addr}
    {c_InvalidNumber d_InvalidNumber N_InvalidNumber : Addr} {nm_InvalidNumber q_InvalidNumber : Str} {bs_InvalidNumber : List Value} {sn_InvalidNumber : List Str} {su_InvalidNumber : List Value} {ab_InvalidNumber : Bool} {col_InvalidNumber : Option Bool} {dd_InvalidNumber : Option Addr} {m0_InvalidNumber m1_InvalidNumber m2_InvalidNumber m3_InvalidNumber m5_InvalidNumber : Option Value}
    (aC_InvalidNumber : PySem.W.nsIn K mainGlobals "InvalidNumber" = some (some (.ref c_InvalidNumber))) (xC_InvalidNumber : K.lookup c_InvalidNumber = some (excClassObj nm_InvalidNumber q_InvalidNumber c_InvalidNumber N_InvalidNumber bs_InvalidNumber [.ref d_InvalidNumber, .type "ValueError", .type "Exception", .type "BaseException", .type "object"] true sn_InvalidNumber su_InvalidNumber ab_InvalidNumber col_InvalidNumber dd_InvalidNumber m0_InvalidNumber m1_InvalidNumber m2_InvalidNumber m3_InvalidNumber m5_InvalidNumber "ValueError.__new__"))
    (sa_InvalidNumber : PySem.W.findIn K (.ref c_InvalidNumber) "__setattr__" = some (some (.builtin "object.__setattr__"))) (gg_InvalidNumber : PySem.W.findIn K (.ref c_InvalidNumber) "__getattribute__" = some (some (.builtin "BaseException.__getattribute__"))) (gn_InvalidNumber : PySem.W.findIn K (.ref c_InvalidNumber) "__getattr__" = some none) (nv_InvalidNumber : PySem.W.findIn K (.ref c_InvalidNumber) "value" = some none)
    (iC_InvalidNumber : PySem.W.findIn K (.ref c_InvalidNumber) "__init__" = some (some (.ref fI))) (kC_InvalidNumber : PySem.W.keepIn K (.ref c_InvalidNumber) = true) (eC_InvalidNumber : PySem.W.subIn K (.ref c_InvalidNumber) (.type "BaseException") = some true) (tC_InvalidNumber : PySem.W.typeIn K (.ref c_InvalidNumber) = some (.type "type")) (hC_InvalidNumber : PySem.W.hasDictIn K c_InvalidNumber = true)
    (cc_InvalidNumber : PySem.W.findIn K (.ref c_InvalidNumber) "__class__" = some (some (.builtin "object.__class__"))) (ob_InvalidNumber : PySem.W.mroIn K c_InvalidNumber (.type "object") = some true) (me_InvalidNumber : PySem.W.subIn K (.ref c_InvalidNumber) (.ref c_InvalidNumber) = some true)
    {c_InvalidHook d_InvalidHook N_InvalidHook : Addr} {nm_InvalidHook q_InvalidHook : Str} {bs_InvalidHook : List Value} {sn_InvalidHook : List Str} {su_InvalidHook : List Value} {ab_InvalidHook : Bool} {col_InvalidHook : Option Bool} {dd_InvalidHook : Option Addr} {m0_InvalidHook m1_InvalidHook m2_InvalidHook m3_InvalidHook m5_InvalidHook : Option Value}
    (aC_InvalidHook : PySem.W.nsIn K mainGlobals "InvalidHook" = some (some (.ref c_InvalidHook))) (xC_InvalidHook : K.lookup c_InvalidHook = some (excClassObj nm_InvalidHook q_InvalidHook c_InvalidHook N_InvalidHook bs_InvalidHook [.ref d_InvalidHook, .type "ValueError", .type "Exception", .type "BaseException", .type "object"] true sn_InvalidHook su_InvalidHook ab_InvalidHook col_InvalidHook dd_InvalidHook m0_InvalidHook m1_InvalidHook m2_InvalidHook m3_InvalidHook m5_InvalidHook "ValueError.__new__"))
    (sa_InvalidHook : PySem.W.findIn K (.ref c_InvalidHook) "__setattr__" = some (some (.builtin "object.__setattr__"))) (gg_InvalidHook : PySem.W.findIn K (.ref c_InvalidHook) "__getattribute__" = some (some (.builtin "BaseException.__getattribute__"))) (gn_InvalidHook : PySem.W.findIn K (.ref c_InvalidHook) "__getattr__" = some none) (nv_InvalidHook : PySem.W.findIn K (.ref c_InvalidHook) "value" = some none)
    (iC_InvalidHook : PySem.W.findIn K (.ref c_InvalidHook) "__init__" = some (some (.ref fI))) (kC_InvalidHook : PySem.W.keepIn K (.ref c_InvalidHook) = true) (eC_InvalidHook : PySem.W.subIn K (.ref c_InvalidHook) (.type "BaseException") = some true) (tC_InvalidHook : PySem.W.typeIn K (.ref c_InvalidHook) = some (.type "type")) (hC_InvalidHook : PySem.W.hasDictIn K c_InvalidHook = true)
    (cc_InvalidHook : PySem.W.findIn K (.ref c_InvalidHook) "__class__" = some (some (.builtin "object.__class__"))) (ob_InvalidHook : PySem.W.mroIn K c_InvalidHook (.type "object") = some true) (me_InvalidHook : PySem.W.subIn K (.ref c_InvalidHook) (.ref c_InvalidHook) = some true)
    {c_MatError N_MatError : Addr} {nm_MatError q_MatError : Str} {bs_MatError : List Value} {sn_MatError : List Str} {su_MatError : List Value} {ab_MatError : Bool} {col_MatError : Option Bool} {dd_MatError : Option Addr} {m0_MatError m1_MatError m2_MatError m3_MatError m5_MatError : Option Value}
    (aC_MatError : PySem.W.nsIn K mainGlobals "MatError" = some (some (.ref c_MatError))) (xC_MatError : K.lookup c_MatError = some (excClassObj nm_MatError q_MatError c_MatError N_MatError bs_MatError [.type "ValueError", .type "Exception", .type "BaseException", .type "object"] true sn_MatError su_MatError ab_MatError col_MatError dd_MatError m0_MatError m1_MatError m2_MatError m3_MatError m5_MatError "ValueError.__new__"))
    (sa_MatError : PySem.W.findIn K (.ref c_MatError) "__setattr__" = some (some (.builtin "object.__setattr__"))) (gg_MatError : PySem.W.findIn K (.ref c_MatError) "__getattribute__" = some (some (.builtin "BaseException.__getattribute__"))) (gn_MatError : PySem.W.findIn K (.ref c_MatError) "__getattr__" = some none) (nv_MatError : PySem.W.findIn K (.ref c_MatError) "value" = some none)
    (iC_MatError : PySem.W.findIn K (.ref c_MatError) "__init__" = some (some (.ref fI))) (kC_MatError : PySem.W.keepIn K (.ref c_MatError) = true) (eC_MatError : PySem.W.subIn K (.ref c_MatError) (.type "BaseException") = some true) (tC_MatError : PySem.W.typeIn K (.ref c_MatError) = some (.type "type")) (hC_MatError : PySem.W.hasDictIn K c_MatError = true)
    (cc_MatError : PySem.W.findIn K (.ref c_MatError) "__class__" = some (some (.builtin "object.__class__"))) (ob_MatError : PySem.W.mroIn K c_MatError (.type "object") = some true) (me_MatError : PySem.W.subIn K (.ref c_MatError) (.ref c_MatError) = some true)
    {cdI ctI dcI pmI : Value} {odI anI : Option Addr} {slI : Array (Option Value)} {kVI ocI : Value} (tI : PySem.W.typeIn K (.ref fI) = some (.type "function")) (lI : K.lookup fI = some ⟨ocI, odI, .func (PySem.W.fnOf "__init__" "MatError.__init__" (defArgs s_init) (defBody s_init) (defScope s_init) .none kVI dcI pmI anI cdI ctI), slI⟩) (oI : PySem.W.codeIn K cdI "MatError.__init__" = true) (qI : PySem.W.keepIn K (.ref fI) = true)
    (gtI : PySem.W.specialIn K (.builtin "object.__class__") "__get__" = some (some (.builtin "getset_descriptor.__get__"))) (tkI : PySem.W.takesIn K (.builtin "object.__class__") = some true)
    (sb_InvalidNumber_MatError : PySem.W.subIn K (.ref c_InvalidNumber) (.ref c_MatError) = some true)
    (sb_InvalidNumber_InvalidNumber : PySem.W.subIn K (.ref c_InvalidNumber) (.ref c_InvalidNumber) = some true)
    (sb_InvalidNumber_InvalidHook : PySem.W.subIn K (.ref c_InvalidNumber) (.ref c_InvalidHook) = some false)
    (sb_InvalidHook_MatError : PySem.W.subIn K (.ref c_InvalidHook) (.ref c_MatError) = some true)
    (sb_InvalidHook_InvalidNumber : PySem.W.subIn K (.ref c_InvalidHook) (.ref c_InvalidNumber) = some false)
    (sb_InvalidHook_InvalidHook : PySem.W.subIn K (.ref c_InvalidHook) (.ref c_InvalidHook) = some true)
    (z_list : PySem.W.nsIn K mainGlobals "list" = some none)
    (z_range : PySem.W.nsIn K mainGlobals "range" = some none)
    (z_len : PySem.W.nsIn K mainGlobals "len" = some none)
    (z_all : PySem.W.nsIn K mainGlobals "all" = some none)
    (z_enumerate : PySem.W.nsIn K mainGlobals "enumerate" = some none)
    (z_tuple : PySem.W.nsIn K mainGlobals "tuple" = some none)
    (z_int : PySem.W.nsIn K mainGlobals "int" = some none)
    (z_max : PySem.W.nsIn K mainGlobals "max" = some none)
    (z_isinstance : PySem.W.nsIn K mainGlobals "isinstance" = some none)
    (z_str : PySem.W.nsIn K mainGlobals "str" = some none)
    (z_zip : PySem.W.nsIn K mainGlobals "zip" = some none)
    (z_bool : PySem.W.nsIn K mainGlobals "bool" = some none)
    (z_sorted : PySem.W.nsIn K mainGlobals "sorted" = some none)
    (z_min : PySem.W.nsIn K mainGlobals "min" = some none)
    : ∃ fd : FuncData, (∀ (s : Shared) (v : Value), BindsTo s fd ⟨[v], []⟩ [("_law_script", v)]) ∧ ∀ base : Heap, K.In base → base.Ns mainGlobals mg → FnOk l.prog w K mg base CX0 7 fa fd ["_law_script"] (toSp K spLaw) := by
  have e := hfa.symm.trans (PySem.W.mg_of X G a25)
  cases e
  have FI := fun_mk (st := s_init) lI oI qI
  have bI := FI.binds (ps := ["self", "value"]) fun _ _ _ _ _ _ us hl => match us, hl with | [_, _], _ => rfl
  have F1 := fun_mk (st := s_check_mat) l1 c1 k1
  have F2 := fun_mk (st := s_check_from) l2 c2 k2
  have F3 := fun_mk (st := s_round_about) l3 c3 k3
  have F4 := fun_mk (st := s_p_are_mates) l4 c4 k4
  have F5 := fun_mk (st := s_p_none_cross) l5 c5 k5
  have F6 := fun_mk (st := s_is_mat) l6 c6 k6
  have F7 := fun_mk (st := s_mat_of_pairs) l7 c7 k7
  have F8 := fun_mk (st := s_straight) l8 c8 k8
  have F9 := fun_mk (st := s_hook) l9 c9 k9
  have F10 := fun_mk (st := s_p_strings) l10 c10 k10
  have F11 := fun_mk (st := s_strings) l11 c11 k11
  have F12 := fun_mk (st := s_l_well) l12 c12 k12
  have F13 := fun_mk (st := s_l_draw) l13 c13 k13
  have F14 := fun_mk (st := s_l_same) l14 c14 k14
  have F15 := fun_mk (st := s_l_ring) l15 c15 k15
  have F16 := fun_mk (st := s_l_made) l16 c16 k16
  have F17 := fun_mk (st := s_l_pairs) l17 c17 k17
  have F18 := fun_mk (st := s_l_counts) l18 c18 k18
  have F19 := fun_mk (st := s_l_ends) l19 c19 k19
  have F20 := fun_mk (st := s_l_level) l20 c20 k20
  have F21 := fun_mk (st := s_l_hooked) l21 c21 k21
  have F22 := fun_mk (st := s_l_refused) l22 c22 k22
  have F23 := fun_mk (st := s_l_wrong_right) l23 c23 k23
  have F24 := fun_mk (st := s_l_hooks_right) l24 c24 k24
  have F25 := fun_mk (st := s_law) l25 c25 k25
  have b1 := F1.binds (ps := ["mat"]) fun _ _ _ _ _ _ us hl => match us, hl with | [_], _ => rfl
  have b2 := F2.binds (ps := ["number", "least"]) fun _ _ _ _ _ _ us hl => match us, hl with | [_, _], _ => rfl
  have b3 := F3.binds (ps := ["n", "m"]) fun _ _ _ _ _ _ us hl => match us, hl with | [_, _], _ => rfl
  have b4 := F4.binds (ps := ["mates"]) fun _ _ _ _ _ _ us hl => match us, hl with | [_], _ => rfl
  have b5 := F5.binds (ps := ["n", "m", "mates"]) fun _ _ _ _ _ _ us hl => match us, hl with | [_, _, _], _ => rfl
  have b6 := F6.binds (ps := ["told"]) fun _ _ _ _ _ _ us hl => match us, hl with | [_], _ => rfl
  have b7 := F7.binds (ps := ["n", "m", "pairs"]) fun _ _ _ _ _ _ us hl => match us, hl with | [_, _, _], _ => rfl
  have b8 := F8.binds (ps := ["n"]) fun _ _ _ _ _ _ us hl => match us, hl with | [_], _ => rfl
  have b9 := F9.binds (ps := ["n", "i"]) fun _ _ _ _ _ _ us hl => match us, hl with | [_, _], _ => rfl
  have b10 := F10.binds (ps := ["mat"]) fun _ _ _ _ _ _ us hl => match us, hl with | [_], _ => rfl
  have b11 := F11.binds (ps := ["mat"]) fun _ _ _ _ _ _ us hl => match us, hl with | [_], _ => rfl
  have b12 := F12.binds (ps := ["_law_script", "_law_place"]) fun _ _ _ _ _ _ us hl => match us, hl with | [_, _], _ => rfl
  have b13 := F13.binds (ps := ["_law_well_here", "_law_limit"]) fun _ _ _ _ _ _ us hl => match us, hl with | [_, _], _ => rfl
  have b14 := F14.binds (ps := ["_law_found", "_law_due"]) fun _ _ _ _ _ _ us hl => match us, hl with | [_, _], _ => rfl
  have b15 := F15.binds (ps := ["_law_up", "_law_down"]) fun _ _ _ _ _ _ us hl => match us, hl with | [_, _], _ => rfl
  have b16 := F16.binds (ps := ["_law_up", "_law_down", "_law_pairs_here"]) fun _ _ _ _ _ _ us hl => match us, hl with | [_, _, _], _ => rfl
  have b17 := F17.binds (ps := ["_law_well_here", "_law_up", "_law_down"]) fun _ _ _ _ _ _ us hl => match us, hl with | [_, _, _], _ => rfl
  have b18 := F18.binds (ps := ["_law_well_here", "_law_most"]) fun _ _ _ _ _ _ us hl => match us, hl with | [_, _], _ => rfl
  have b19 := F19.binds (ps := ["_law_up", "_law_pairs_here"]) fun _ _ _ _ _ _ us hl => match us, hl with | [_, _], _ => rfl
  have b20 := F20.binds (ps := ["_law_size"]) fun _ _ _ _ _ _ us hl => match us, hl with | [_], _ => rfl
  have b21 := F21.binds (ps := ["_law_size", "_law_place"]) fun _ _ _ _ _ _ us hl => match us, hl with | [_, _], _ => rfl
  have b22 := F22.binds (ps := ["_law_size", "_law_place", "_law_by_name"]) fun _ _ _ _ _ _ us hl => match us, hl with | [_, _, _], _ => rfl
  have b23 := F23.binds (ps := ["_law_well_here", "_law_size"]) fun _ _ _ _ _ _ us hl => match us, hl with | [_, _], _ => rfl
  have b24 := F24.binds (ps := ["_law_size"]) fun _ _ _ _ _ _ us hl => match us, hl with | [_], _ => rfl
  have bR0_9_i_n := fun_kbr F9 (ps := ["n", "i"]) 0 ["i", "n"] [1, 0] (by decide) fun _ _ _ _ _ _ us ws h1 h2 => match us, ws, h1, h2 with | [], [_, _], _, _ => rfl
  have bK0_9 := fun_kbp F9 (ps := ["n", "i"]) 0 ["n", "i"] (by decide) fun _ _ _ _ _ _ us ws h1 h2 => match us, ws, h1, h2 with | [], [_, _], _, _ => rfl
  have bK0_8 := fun_kbp F8 (ps := ["n"]) 0 ["n"] (by decide) fun _ _ _ _ _ _ us ws h1 h2 => match us, ws, h1, h2 with | [], [_], _, _ => rfl
  have bK0_11 := fun_kbp F11 (ps := ["mat"]) 0 ["mat"] (by decide) fun _ _ _ _ _ _ us ws h1 h2 => match us, ws, h1, h2 with | [], [_], _, _ => rfl
  refine ⟨PySem.W.fnOf "law" "law" (defArgs s_law) (defBody s_law) (defScope s_law) .none kV25 dc25 pm25 an25 cd25 ct25, fun s v => .of_eq rfl, fun base _ _ => ?_⟩
  have E_InvalidNumber : EOk l.prog w K mg base "InvalidNumber" c_InvalidNumber (spIn K) := ⟨⟨⟨⟨_, _, _, _, _, _, _, _, _, _, _, _, _, _, _, xC_InvalidNumber, by first | rfl | decide +kernel⟩, sa_InvalidNumber, eC_InvalidNumber, tC_InvalidNumber, kC_InvalidNumber⟩, ⟨gg_InvalidNumber, gn_InvalidNumber, eC_InvalidNumber, hC_InvalidNumber⟩, nv_InvalidNumber, cc_InvalidNumber, gtI, tkI, ob_InvalidNumber, me_InvalidNumber⟩, PySem.W.mg_of X G aC_InvalidNumber, fI, _, iC_InvalidNumber, tI, ok_init FI, bI⟩
  have E_InvalidHook : EOk l.prog w K mg base "InvalidHook" c_InvalidHook (spIn K) := ⟨⟨⟨⟨_, _, _, _, _, _, _, _, _, _, _, _, _, _, _, xC_InvalidHook, by first | rfl | decide +kernel⟩, sa_InvalidHook, eC_InvalidHook, tC_InvalidHook, kC_InvalidHook⟩, ⟨gg_InvalidHook, gn_InvalidHook, eC_InvalidHook, hC_InvalidHook⟩, nv_InvalidHook, cc_InvalidHook, gtI, tkI, ob_InvalidHook, me_InvalidHook⟩, PySem.W.mg_of X G aC_InvalidHook, fI, _, iC_InvalidHook, tI, ok_init FI, bI⟩
  have E_MatError : EOk l.prog w K mg base "MatError" c_MatError (spIn K) := ⟨⟨⟨⟨_, _, _, _, _, _, _, _, _, _, _, _, _, _, _, xC_MatError, by first | rfl | decide +kernel⟩, sa_MatError, eC_MatError, tC_MatError, kC_MatError⟩, ⟨gg_MatError, gn_MatError, eC_MatError, hC_MatError⟩, nv_MatError, cc_MatError, gtI, tkI, ob_MatError, me_MatError⟩, PySem.W.mg_of X G aC_MatError, fI, _, iC_MatError, tI, ok_init FI, bI⟩
  have G14 := ok_l_same (P := l.prog) (w := w) (mg := mg) (base := base) F14 (m__law_same := PySem.W.mg_of X G a14) (k__law_same := k14) (b__law_same := b14) (m_isinstance := PySem.W.mg_none_of X G z_isinstance) (m_str := PySem.W.mg_none_of X G z_str) (m_list := PySem.W.mg_none_of X G z_list) (m_tuple := PySem.W.mg_none_of X G z_tuple) (m_zip := PySem.W.mg_none_of X G z_zip) (m_bool := PySem.W.mg_none_of X G z_bool) (m_int := PySem.W.mg_none_of X G z_int) (m_len := PySem.W.mg_none_of X G z_len) 3
  have G2 := ok_check_from (P := l.prog) (w := w) (mg := mg) (base := base) F2
  have G3 := ok_round_about (P := l.prog) (w := w) (mg := mg) (base := base) F3 (m_list := PySem.W.mg_none_of X G z_list) (m_range := PySem.W.mg_none_of X G z_range)
  have G4 := ok_p_are_mates (P := l.prog) (w := w) (mg := mg) (base := base) F4 (m_len := PySem.W.mg_none_of X G z_len) (m_all := PySem.W.mg_none_of X G z_all) (m_enumerate := PySem.W.mg_none_of X G z_enumerate)
  have G7 := ok_mat_of_pairs (P := l.prog) (w := w) (mg := mg) (base := base) F7 (m_tuple := PySem.W.mg_none_of X G z_tuple)
  have G10 := ok_p_strings (P := l.prog) (w := w) (mg := mg) (base := base) F10 (m_enumerate := PySem.W.mg_none_of X G z_enumerate)
  have G12 := ok_l_well (P := l.prog) (w := w) (mg := mg) (base := base) F12 (m_len := PySem.W.mg_none_of X G z_len) (m_int := PySem.W.mg_none_of X G z_int) (m_max := PySem.W.mg_none_of X G z_max)
  have G13 := ok_l_draw (P := l.prog) (w := w) (mg := mg) (base := base) F13 (m_int := PySem.W.mg_none_of X G z_int)
  have G15 := ok_l_ring (P := l.prog) (w := w) (mg := mg) (base := base) F15 (m_range := PySem.W.mg_none_of X G z_range)
  have G16 := ok_l_made (P := l.prog) (w := w) (mg := mg) (base := base) F16 (m_tuple := PySem.W.mg_none_of X G z_tuple)
  have G19 := ok_l_ends (P := l.prog) (w := w) (mg := mg) (base := base) F19 (m_sorted := PySem.W.mg_none_of X G z_sorted) (m_tuple := PySem.W.mg_none_of X G z_tuple)
  have G20 := ok_l_level (P := l.prog) (w := w) (mg := mg) (base := base) F20 (m_range := PySem.W.mg_none_of X G z_range)
  have G5 := ok_p_none_cross (P := l.prog) (w := w) (mg := mg) (base := base) F5 (F_round_about := G3) (m_round_about := PySem.W.mg_of X G a3) (k_round_about := k3) (b_round_about := b3)
  have G8 := ok_straight (P := l.prog) (w := w) (mg := mg) (base := base) F8 (F_check_from := G2) (m_check_from := PySem.W.mg_of X G a2) (k_check_from := k2) (b_check_from := b2) (F_mat_of_pairs := G7) (m_mat_of_pairs := PySem.W.mg_of X G a7) (k_mat_of_pairs := k7) (b_mat_of_pairs := b7) (m_range := PySem.W.mg_none_of X G z_range)
  have G9 := ok_hook (P := l.prog) (w := w) (mg := mg) (base := base) F9 (F_check_from := G2) (m_check_from := PySem.W.mg_of X G a2) (k_check_from := k2) (b_check_from := b2) (F_mat_of_pairs := G7) (m_mat_of_pairs := PySem.W.mg_of X G a7) (k_mat_of_pairs := k7) (b_mat_of_pairs := b7) (m_range := PySem.W.mg_none_of X G z_range)
  have G17 := ok_l_pairs (P := l.prog) (w := w) (mg := mg) (base := base) F17 (F__law_ring := G15) (m__law_ring := PySem.W.mg_of X G a15) (k__law_ring := k15) (b__law_ring := b15) (F__law_draw := G13) (m__law_draw := PySem.W.mg_of X G a13) (k__law_draw := k13) (b__law_draw := b13) (m_range := PySem.W.mg_none_of X G z_range) (m_len := PySem.W.mg_none_of X G z_len)
  have G18 := ok_l_counts (P := l.prog) (w := w) (mg := mg) (base := base) F18 (F__law_draw := G13) (m__law_draw := PySem.W.mg_of X G a13) (k__law_draw := k13) (b__law_draw := b13) (m_int := PySem.W.mg_none_of X G z_int)
  have G21 := ok_l_hooked (P := l.prog) (w := w) (mg := mg) (base := base) F21 (F__law_level := G20) (m__law_level := PySem.W.mg_of X G a20) (k__law_level := k20) (b__law_level := b20)
  have G6 := ok_is_mat (P := l.prog) (w := w) (mg := mg) (base := base) F6 (F__are_mates := G4) (m__are_mates := PySem.W.mg_of X G a4) (k__are_mates := k4) (b__are_mates := b4) (F__none_cross := G5) (m__none_cross := PySem.W.mg_of X G a5) (k__none_cross := k5) (b__none_cross := b5) (m_len := PySem.W.mg_none_of X G z_len)
  have GX2 := okx_check_from (P := l.prog) (w := w) (mg := mg) (base := base) F2 (E_InvalidNumber := E_InvalidNumber)
  have G1 := ok_check_mat (P := l.prog) (w := w) (mg := mg) (base := base) F1 (F_is_mat := G6) (m_is_mat := PySem.W.mg_of X G a6) (k_is_mat := k6) (b_is_mat := b6)
  have GX8 := okx_straight (P := l.prog) (w := w) (mg := mg) (base := base) F8 (E_InvalidNumber := E_InvalidNumber) (F_check_from := G2) (FX_check_from := GX2) (m_check_from := PySem.W.mg_of X G a2) (k_check_from := k2) (b_check_from := b2) (F_mat_of_pairs := G7) (m_mat_of_pairs := PySem.W.mg_of X G a7) (k_mat_of_pairs := k7) (b_mat_of_pairs := b7) (m_range := PySem.W.mg_none_of X G z_range)
  have GX9 := fnokx_or (okx_hook_n (P := l.prog) (w := w) (mg := mg) (base := base) F9 (E_InvalidNumber := E_InvalidNumber) (F_check_from := G2) (FX_check_from := GX2) (m_check_from := PySem.W.mg_of X G a2) (k_check_from := k2) (b_check_from := b2) (F_mat_of_pairs := G7) (m_mat_of_pairs := PySem.W.mg_of X G a7) (k_mat_of_pairs := k7) (b_mat_of_pairs := b7) (m_range := PySem.W.mg_none_of X G z_range)) (okx_hook_i (P := l.prog) (w := w) (mg := mg) (base := base) F9 (E_InvalidHook := E_InvalidHook) (F_check_from := G2) (m_check_from := PySem.W.mg_of X G a2) (k_check_from := k2) (b_check_from := b2) (F_mat_of_pairs := G7) (m_mat_of_pairs := PySem.W.mg_of X G a7) (k_mat_of_pairs := k7) (b_mat_of_pairs := b7) (m_range := PySem.W.mg_none_of X G z_range))
  have G11 := ok_strings (P := l.prog) (w := w) (mg := mg) (base := base) F11 (F_check_mat := G1) (m_check_mat := PySem.W.mg_of X G a1) (k_check_mat := k1) (b_check_mat := b1) (F__strings := G10) (m__strings := PySem.W.mg_of X G a10) (k__strings := k10) (b__strings := b10)
  have G22 := fnok_or (ok_l_refused_n (P := l.prog) (w := w) (mg := mg) (base := base) F22 (E_MatError := E_MatError) (E_InvalidNumber := E_InvalidNumber) (E_InvalidHook := E_InvalidHook) (sb_InvalidNumber_MatError := sb_InvalidNumber_MatError) (sb_InvalidNumber_InvalidNumber := sb_InvalidNumber_InvalidNumber) (sb_InvalidNumber_InvalidHook := sb_InvalidNumber_InvalidHook) (F_straight := G8) (FX_straight := GX8) (m_straight := PySem.W.mg_of X G a8) (k_straight := k8) (b_straight := b8) (F_hook := G9) (m_hook := PySem.W.mg_of X G a9) (k_hook := k9) (b_hook := b9) (m_isinstance := PySem.W.mg_none_of X G z_isinstance)) (fnok_or (ok_l_refused_a1 (P := l.prog) (w := w) (mg := mg) (base := base) F22 (E_MatError := E_MatError) (E_InvalidNumber := E_InvalidNumber) (E_InvalidHook := E_InvalidHook) (sb_InvalidNumber_MatError := sb_InvalidNumber_MatError) (sb_InvalidNumber_InvalidNumber := sb_InvalidNumber_InvalidNumber) (sb_InvalidNumber_InvalidHook := sb_InvalidNumber_InvalidHook) (sb_InvalidHook_MatError := sb_InvalidHook_MatError) (sb_InvalidHook_InvalidNumber := sb_InvalidHook_InvalidNumber) (sb_InvalidHook_InvalidHook := sb_InvalidHook_InvalidHook) (F_straight := G8) (m_straight := PySem.W.mg_of X G a8) (k_straight := k8) (b_straight := b8) (F_hook := G9) (FX_hook := GX9) (m_hook := PySem.W.mg_of X G a9) (k_hook := k9) (b_hook := b9) (m_isinstance := PySem.W.mg_none_of X G z_isinstance) (bR0_hook_i_n := bR0_9_i_n)) (fnok_or (ok_l_refused_a0 (P := l.prog) (w := w) (mg := mg) (base := base) F22 (E_MatError := E_MatError) (E_InvalidNumber := E_InvalidNumber) (E_InvalidHook := E_InvalidHook) (sb_InvalidNumber_MatError := sb_InvalidNumber_MatError) (sb_InvalidNumber_InvalidNumber := sb_InvalidNumber_InvalidNumber) (sb_InvalidNumber_InvalidHook := sb_InvalidNumber_InvalidHook) (sb_InvalidHook_MatError := sb_InvalidHook_MatError) (sb_InvalidHook_InvalidNumber := sb_InvalidHook_InvalidNumber) (sb_InvalidHook_InvalidHook := sb_InvalidHook_InvalidHook) (F_straight := G8) (m_straight := PySem.W.mg_of X G a8) (k_straight := k8) (b_straight := b8) (F_hook := G9) (FX_hook := GX9) (m_hook := PySem.W.mg_of X G a9) (k_hook := k9) (b_hook := b9) (m_isinstance := PySem.W.mg_none_of X G z_isinstance)) (fnok_or (ok_l_refused_b1 (P := l.prog) (w := w) (mg := mg) (base := base) F22 (E_MatError := E_MatError) (E_InvalidNumber := E_InvalidNumber) (E_InvalidHook := E_InvalidHook) (sb_InvalidNumber_MatError := sb_InvalidNumber_MatError) (sb_InvalidNumber_InvalidNumber := sb_InvalidNumber_InvalidNumber) (sb_InvalidNumber_InvalidHook := sb_InvalidNumber_InvalidHook) (sb_InvalidHook_MatError := sb_InvalidHook_MatError) (sb_InvalidHook_InvalidNumber := sb_InvalidHook_InvalidNumber) (sb_InvalidHook_InvalidHook := sb_InvalidHook_InvalidHook) (F_straight := G8) (m_straight := PySem.W.mg_of X G a8) (k_straight := k8) (b_straight := b8) (F_hook := G9) (FX_hook := GX9) (m_hook := PySem.W.mg_of X G a9) (k_hook := k9) (b_hook := b9) (m_isinstance := PySem.W.mg_none_of X G z_isinstance) (bR0_hook_i_n := bR0_9_i_n)) (ok_l_refused_b0 (P := l.prog) (w := w) (mg := mg) (base := base) F22 (E_MatError := E_MatError) (E_InvalidNumber := E_InvalidNumber) (E_InvalidHook := E_InvalidHook) (sb_InvalidNumber_MatError := sb_InvalidNumber_MatError) (sb_InvalidNumber_InvalidNumber := sb_InvalidNumber_InvalidNumber) (sb_InvalidNumber_InvalidHook := sb_InvalidNumber_InvalidHook) (sb_InvalidHook_MatError := sb_InvalidHook_MatError) (sb_InvalidHook_InvalidNumber := sb_InvalidHook_InvalidNumber) (sb_InvalidHook_InvalidHook := sb_InvalidHook_InvalidHook) (F_straight := G8) (m_straight := PySem.W.mg_of X G a8) (k_straight := k8) (b_straight := b8) (F_hook := G9) (FX_hook := GX9) (m_hook := PySem.W.mg_of X G a9) (k_hook := k9) (b_hook := b9) (m_isinstance := PySem.W.mg_none_of X G z_isinstance)))))
  have G23 := ok_l_wrong_right (P := l.prog) (w := w) (mg := mg) (base := base) F23 (F__law_draw := G13) (m__law_draw := PySem.W.mg_of X G a13) (k__law_draw := k13) (b__law_draw := b13) (F__law_same := G14) (m__law_same := PySem.W.mg_of X G a14) (k__law_same := k14) (b__law_same := b14) (F__law_refused := G22) (m__law_refused := PySem.W.mg_of X G a22) (k__law_refused := k22) (b__law_refused := b22)
  have G24 := ok_l_hooks_right (P := l.prog) (w := w) (mg := mg) (base := base) F24 (F__law_made := G16) (m__law_made := PySem.W.mg_of X G a16) (k__law_made := k16) (b__law_made := b16) (F__law_level := G20) (m__law_level := PySem.W.mg_of X G a20) (k__law_level := k20) (b__law_level := b20) (F__law_same := G14) (m__law_same := PySem.W.mg_of X G a14) (k__law_same := k14) (b__law_same := b14) (F__law_hooked := G21) (m__law_hooked := PySem.W.mg_of X G a21) (k__law_hooked := k21) (b__law_hooked := b21) (F_strings := G11) (m_strings := PySem.W.mg_of X G a11) (k_strings := k11) (b_strings := b11) (F_straight := G8) (m_straight := PySem.W.mg_of X G a8) (k_straight := k8) (b_straight := b8) (F__law_ends := G19) (m__law_ends := PySem.W.mg_of X G a19) (k__law_ends := k19) (b__law_ends := b19) (F_hook := G9) (m_hook := PySem.W.mg_of X G a9) (k_hook := k9) (b_hook := b9) (m_range := PySem.W.mg_none_of X G z_range) (bK0_hook := bK0_9) (bK0_straight := bK0_8) (bK0_strings := bK0_11)
  exact ok_law (P := l.prog) (w := w) (mg := mg) (base := base) F25 (F__law_well := G12) (m__law_well := PySem.W.mg_of X G a12) (k__law_well := k12) (b__law_well := b12) (F__law_counts := G18) (m__law_counts := PySem.W.mg_of X G a18) (k__law_counts := k18) (b__law_counts := b18) (F__law_pairs := G17) (m__law_pairs := PySem.W.mg_of X G a17) (k__law_pairs := k17) (b__law_pairs := b17) (F__law_made := G16) (m__law_made := PySem.W.mg_of X G a16) (k__law_made := k16) (b__law_made := b16) (F__law_draw := G13) (m__law_draw := PySem.W.mg_of X G a13) (k__law_draw := k13) (b__law_draw := b13) (F__law_same := G14) (m__law_same := PySem.W.mg_of X G a14) (k__law_same := k14) (b__law_same := b14) (F__law_hooks_right := G24) (m__law_hooks_right := PySem.W.mg_of X G a24) (k__law_hooks_right := k24) (b__law_hooks_right := b24) (F__law_wrong_right := G23) (m__law_wrong_right := PySem.W.mg_of X G a23) (k__law_wrong_right := k23) (b__law_wrong_right := b23) (F_strings := G11) (m_strings := PySem.W.mg_of X G a11) (k_strings := k11) (b_strings := b11) (F__law_ends := G19) (m__law_ends := PySem.W.mg_of X G a19) (k__law_ends := k19) (b__law_ends := b19) (m_range := PySem.W.mg_none_of X G z_range) (m_max := PySem.W.mg_none_of X G z_max) (m_min := PySem.W.mg_none_of X G z_min) (m_len := PySem.W.mg_none_of X G z_len) (bK0_strings := bK0_11)
end K04
open PySem PySem.W PyProof.Rows
set_option maxHeartbeats 0 in
theorem PySem.Challenge.cw_hookmats_k04_whole_straight_hooks_and_st_holds : PySem.Challenge.rw_hookmats_k04_whole_straight_hooks_and_st.Holds := by
  w_on; o_law; k_head; (case hw => w_witness2)
  k_fill
  refine L2.walk_ofB (l := PySem.Challenge.rw_hookmats_k04_whole_straight_hooks_and_st) (n := 63) (k := 7) (x := "_law_script") (CX := fun _ => L2.CX0) (sp := fun w => PP.toSp _ PP.spLaw) rfl (by decide) rfl ⟨rfl, by decide, by decide⟩ (fun w h Y => PySem.W.kIn_of Y) ?F (fun _ _ a ns hl hb _ hS => PP.law_sp hl hb hS) (fun _ _ _ _ _ h => h)
  case F =>
    intro w mg fa h KX G hmg
    refine' K04.all_mk KX G hmg ?a1 ?l1 ?c1 ?k1 ?a2 ?l2 ?c2 ?k2 ?a3 ?l3 ?c3 ?k3 ?a4 ?l4 ?c4 ?k4 ?a5 ?l5 ?c5 ?k5 ?a6 ?l6 ?c6 ?k6 ?a7 ?l7 ?c7 ?k7 ?a8 ?l8 ?c8 ?k8 ?a9 ?l9 ?c9 ?k9 ?a10 ?l10 ?c10 ?k10 ?a11 ?l11 ?c11 ?k11 ?a12 ?l12 ?c12 ?k12 ?a13 ?l13 ?c13 ?k13 ?a14 ?l14 ?c14 ?k14 ?a15 ?l15 ?c15 ?k15 ?a16 ?l16 ?c16 ?k16 ?a17 ?l17 ?c17 ?k17 ?a18 ?l18 ?c18 ?k18 ?a19 ?l19 ?c19 ?k19 ?a20 ?l20 ?c20 ?k20 ?a21 ?l21 ?c21 ?k21 ?a22 ?l22 ?c22 ?k22 ?a23 ?l23 ?c23 ?k23 ?a24 ?l24 ?c24 ?k24 ?a25 ?l25 ?c25 ?k25 ?aC_InvalidNumber ?xC_InvalidNumber ?sa_InvalidNumber ?gg_InvalidNumber ?gn_InvalidNumber ?nv_InvalidNumber ?iC_InvalidNumber ?kC_InvalidNumber ?eC_InvalidNumber ?tC_InvalidNumber ?hC_InvalidNumber ?cc_InvalidNumber ?ob_InvalidNumber ?me_InvalidNumber ?aC_InvalidHook ?xC_InvalidHook ?sa_InvalidHook ?gg_InvalidHook ?gn_InvalidHook ?nv_InvalidHook ?iC_InvalidHook ?kC_InvalidHook ?eC_InvalidHook ?tC_InvalidHook ?hC_InvalidHook ?cc_InvalidHook ?ob_InvalidHook ?me_InvalidHook ?aC_MatError ?xC_MatError ?sa_MatError ?gg_MatError ?gn_MatError ?nv_MatError ?iC_MatError ?kC_MatError ?eC_MatError ?tC_MatError ?hC_MatError ?cc_MatError ?ob_MatError ?me_MatError ?tI ?lI ?oI ?qI ?gtI ?tkI ?sb_InvalidNumber_MatError ?sb_InvalidNumber_InvalidNumber ?sb_InvalidNumber_InvalidHook ?sb_InvalidHook_MatError ?sb_InvalidHook_InvalidNumber ?sb_InvalidHook_InvalidHook ?z_list ?z_range ?z_len ?z_all ?z_enumerate ?z_tuple ?z_int ?z_max ?z_isinstance ?z_str ?z_zip ?z_bool ?z_sorted ?z_min
    (case a1 => k_is); (case l1 => k_is); (case c1 => k_is); (case k1 => k_is); (case a2 => k_is); (case l2 => k_is); (case c2 => k_is); (case k2 => k_is); (case a3 => k_is); (case l3 => k_is); (case c3 => k_is); (case k3 => k_is); (case a4 => k_is); (case l4 => k_is); (case c4 => k_is); (case k4 => k_is); (case a5 => k_is); (case l5 => k_is); (case c5 => k_is); (case k5 => k_is); (case a6 => k_is); (case l6 => k_is); (case c6 => k_is); (case k6 => k_is); (case a7 => k_is); (case l7 => k_is); (case c7 => k_is); (case k7 => k_is); (case a8 => k_is); (case l8 => k_is); (case c8 => k_is); (case k8 => k_is); (case a9 => k_is); (case l9 => k_is); (case c9 => k_is); (case k9 => k_is); (case a10 => k_is); (case l10 => k_is); (case c10 => k_is); (case k10 => k_is); (case a11 => k_is); (case l11 => k_is); (case c11 => k_is); (case k11 => k_is); (case a12 => k_is); (case l12 => k_is); (case c12 => k_is); (case k12 => k_is); (case a13 => k_is); (case l13 => k_is); (case c13 => k_is); (case k13 => k_is); (case a14 => k_is); (case l14 => k_is); (case c14 => k_is); (case k14 => k_is); (case a15 => k_is); (case l15 => k_is); (case c15 => k_is); (case k15 => k_is); (case a16 => k_is); (case l16 => k_is); (case c16 => k_is); (case k16 => k_is); (case a17 => k_is); (case l17 => k_is); (case c17 => k_is); (case k17 => k_is); (case a18 => k_is); (case l18 => k_is); (case c18 => k_is); (case k18 => k_is); (case a19 => k_is); (case l19 => k_is); (case c19 => k_is); (case k19 => k_is); (case a20 => k_is); (case l20 => k_is); (case c20 => k_is); (case k20 => k_is); (case a21 => k_is); (case l21 => k_is); (case c21 => k_is); (case k21 => k_is); (case a22 => k_is); (case l22 => k_is); (case c22 => k_is); (case k22 => k_is); (case a23 => k_is); (case l23 => k_is); (case c23 => k_is); (case k23 => k_is); (case a24 => k_is); (case l24 => k_is); (case c24 => k_is); (case k24 => k_is); (case a25 => k_is); (case l25 => k_is); (case c25 => k_is); (case k25 => k_is); (case aC_InvalidNumber => k_is); (case xC_InvalidNumber => k_is); (case sa_InvalidNumber => k_is); (case gg_InvalidNumber => k_is); (case gn_InvalidNumber => k_is); (case nv_InvalidNumber => k_is); (case iC_InvalidNumber => k_is); (case kC_InvalidNumber => k_is); (case eC_InvalidNumber => k_is); (case tC_InvalidNumber => k_is); (case hC_InvalidNumber => k_is); (case cc_InvalidNumber => k_is); (case ob_InvalidNumber => k_is); (case me_InvalidNumber => first | rfl | k_is); (case aC_InvalidHook => k_is); (case xC_InvalidHook => k_is); (case sa_InvalidHook => k_is); (case gg_InvalidHook => k_is); (case gn_InvalidHook => k_is); (case nv_InvalidHook => k_is); (case iC_InvalidHook => k_is); (case kC_InvalidHook => k_is); (case eC_InvalidHook => k_is); (case tC_InvalidHook => k_is); (case hC_InvalidHook => k_is); (case cc_InvalidHook => k_is); (case ob_InvalidHook => k_is); (case me_InvalidHook => first | rfl | k_is); (case aC_MatError => k_is); (case xC_MatError => k_is); (case sa_MatError => k_is); (case gg_MatError => k_is); (case gn_MatError => k_is); (case nv_MatError => k_is); (case iC_MatError => k_is); (case kC_MatError => k_is); (case eC_MatError => k_is); (case tC_MatError => k_is); (case hC_MatError => k_is); (case cc_MatError => k_is); (case ob_MatError => k_is); (case me_MatError => first | rfl | k_is); (case tI => k_is); (case lI => k_is); (case oI => k_is); (case qI => k_is); (case gtI => k_is); (case tkI => k_is); (case sb_InvalidNumber_MatError => first | rfl | k_is); (case sb_InvalidNumber_InvalidNumber => first | rfl | k_is); (case sb_InvalidNumber_InvalidHook => first | rfl | k_is); (case sb_InvalidHook_MatError => first | rfl | k_is); (case sb_InvalidHook_InvalidNumber => first | rfl | k_is); (case sb_InvalidHook_InvalidHook => first | rfl | k_is); (case z_list => k_is); (case z_range => k_is); (case z_len => k_is); (case z_all => k_is); (case z_enumerate => k_is); (case z_tuple => k_is); (case z_int => k_is); (case z_max => k_is); (case z_isinstance => k_is); (case z_str => k_is); (case z_zip => k_is); (case z_bool => k_is); (case z_sorted => k_is); (case z_min => k_is)
