import PyProof.Rows.All
import Wide.All
import OpenK.AllK
import Wide.FinOn
import HandS.ForMost
import HandS.Wide
import HandS.Conv
import HandS.Flow
import KE.GoesEnum
import HandS.Rev
import HandS.Zip
import HandS.IsInst
import HandS.Deep
import HandS.Style
import HandS.More
import HandS.TupAny
import HandS.TryOnly
import HandS.EndBits
import HandS.DictComp
import KE.DataMinMax
import KE.SortData
import HandS.SortInts
import HandS.TupMul
import HandS.List
import KE.KDictZip
import HandS.Dict
import HandS.DictSub
import KE.KMathGC
import KE.KTupSum
import HandS.SetFor
import KE.BitLaws
import HandS.RevRange
import HandS.WideBits
import KE.GoesEnumKw
import HandS.ForExc
import HandS.ExcInit
import HandS.ExcField
import HandS.ExcIs
import KE.KExcIs
import KE.DataMinKey
import HandS.Gcd
import PySem.Challenge.RW_hookmats_k31_whole_the_row_u
set_option Elab.async false
set_option linter.all false
set_option maxRecDepth 100000
set_option maxHeartbeats 8000000
set_option autoImplicit false
namespace PP
open PySem PySem.Spec PyProof.Rows L2
def Sub (F F' : Hp) : Prop := ∀ a o, F a = some o → F' a = some o
theorem Sub.refl (F : Hp) : Sub F F := fun _ _ h => h
theorem Sub.trans {F G H : Hp} (a : Sub F G) (b : Sub G H) : Sub F H := fun x o h => b x o (a x o h)
theorem Sub.upd {F : Hp} {p : Addr} {o : HO} (h : F p = none) : Sub F (upd F p o) := fun a u e => by
  rw [upd_ne (ne_of_none e h)]; exact e
theorem Sub.none {F F' : Hp} (e : Sub F F') {p : Addr} (h : F' p = none) : F p = none := by
  cases q : F p with
  | none => rfl
  | some o => rw [e p o q] at h; cases h
theorem Sub.rd {F F' : Hp} (e : Sub F F') {a : Addr} {u : HO} (h : Rd F a u) : Rd F' a u := by
  rcases h with h | ⟨o, h⟩
  · exact .inl (e _ _ h)
  · exact .inr ⟨o, e _ _ h⟩
theorem Sub.sql {K : PySem.W.Frag} {F F' : Hp} (e : Sub F F') {a : Addr} {xs : List V} (h : SqL K F a xs) : SqL K F' a xs := h.imp e.rd id
theorem Sub.sqt {K : PySem.W.Frag} {F F' : Hp} (e : Sub F F') {a : Addr} {xs : List V} (h : SqT K F a xs) : SqT K F' a xs := h.imp e.rd id
mutual
inductive DP (K : PySem.W.Frag) (F : Hp) : V → PyData → Prop
  | non : DP K F .non .none
  | bl (b : Bool) : DP K F (.bl b) (.bool b)
  | int (i : Int) : DP K F (.int i) (.int i)
  | str (x : Str) : DP K F (.str x) (.str x)
  | lst {a : Addr} {xs : List V} {ds : List PyData} : F a = some (.lst xs) → DPs K F xs ds → DP K F (.ref a) (.list ds)
  | tup {a : Addr} {xs : List V} {ds : List PyData} : SqT K F a xs → DPs K F xs ds → DP K F (.ref a) (.tuple ds)
inductive DPs (K : PySem.W.Frag) (F : Hp) : List V → List PyData → Prop
  | nil : DPs K F [] []
  | cons {v : V} {vs : List V} {d : PyData} {ds : List PyData} : DP K F v d → DPs K F vs ds → DPs K F (v :: vs) (d :: ds)
end
mutual
theorem DP.toDp {K : PySem.W.Frag} {F : Hp} : ∀ (d : PyData) (v : V), DP K F v d → Dp K F v d
  | .none, _, h => by cases h; exact .non
  | .bool b, _, h => by cases h; exact .bl b
  | .int i, _, h => by cases h; exact .int i
  | .str x, _, h => by cases h; exact .str x
  | .list ds, _, h => by
    cases h with
    | lst hs ha => exact .lst (.of hs) (DPs.toDp ds _ ha)
  | .tuple ds, _, h => by
    cases h with
    | tup hs ha => exact .tup hs (DPs.toDp ds _ ha)
  | .dict _, _, h => by cases h
theorem DPs.toDp {K : PySem.W.Frag} {F : Hp} : ∀ (ds : List PyData) (vs : List V), DPs K F vs ds → DpAll K F vs ds
  | [], _, h => by cases h; exact .nil
  | d :: ds, _, h => by
    cases h with
    | cons h1 h2 => exact .cons (DP.toDp d _ h1) (DPs.toDp ds _ h2)
end
mutual
theorem dp_mono {K : PySem.W.Frag} {F F' : Hp} (e : Sub F F') : ∀ (d : PyData) (v : V), DP K F v d → DP K F' v d
  | .none, _, h => by cases h; exact .non
  | .bool b, _, h => by cases h; exact .bl b
  | .int i, _, h => by cases h; exact .int i
  | .str x, _, h => by cases h; exact .str x
  | .list ds, _, h => by
    cases h with
    | lst hs ha => exact .lst (e _ _ hs) (dpa_mono e ds _ ha)
  | .tuple ds, _, h => by
    cases h with
    | tup hs ha => exact .tup (e.sqt hs) (dpa_mono e ds _ ha)
  | .dict _, _, h => by cases h
theorem dpa_mono {K : PySem.W.Frag} {F F' : Hp} (e : Sub F F') : ∀ (ds : List PyData) (vs : List V), DPs K F vs ds → DPs K F' vs ds
  | [], _, h => by cases h; exact .nil
  | d :: ds, _, h => by
    cases h with
    | cons h1 h2 => exact .cons (dp_mono e d _ h1) (dpa_mono e ds _ h2)
end
section
variable {K : PySem.W.Frag} {F : Hp}
theorem dpa_len : ∀ {vs : List V} {ds : List PyData}, DPs K F vs ds → vs.length = ds.length
  | _, _, .nil => rfl
  | _, _, .cons _ t => by rw [List.length_cons, List.length_cons, dpa_len t]
theorem dpa_get : ∀ {vs : List V} {ds : List PyData} {i : Nat} {d : PyData}, DPs K F vs ds → ds[i]? = some d → ∃ v, vs[i]? = some v ∧ DP K F v d
  | _, _, _, _, .nil, e => by simp at e
  | _, _, 0, _, .cons r _, e => by simp at e; subst e; exact ⟨_, rfl, r⟩
  | _, _, i + 1, _, .cons _ t, e => by
    obtain ⟨v, h1, h2⟩ := dpa_get (i := i) t (by simpa using e)
    exact ⟨v, by simpa using h1, h2⟩
theorem dpa_app : ∀ {vs : List V} {ds : List PyData} {ws : List V} {es : List PyData}, DPs K F vs ds → DPs K F ws es → DPs K F (vs ++ ws) (ds ++ es)
  | _, _, _, _, .nil, s => s
  | _, _, _, _, .cons r t, s => .cons r (dpa_app t s)
theorem dpa_take : ∀ {vs : List V} {ds : List PyData} (n : Nat), DPs K F vs ds → DPs K F (vs.take n) (ds.take n)
  | _, _, 0, _ => .nil
  | _, _, _ + 1, .nil => .nil
  | _, _, n + 1, .cons r t => .cons r (dpa_take n t)
theorem dpa_drop : ∀ {vs : List V} {ds : List PyData} (n : Nat), DPs K F vs ds → DPs K F (vs.drop n) (ds.drop n)
  | _, _, 0, r => r
  | _, _, _ + 1, .nil => .nil
  | _, _, n + 1, .cons _ t => dpa_drop n t
theorem dpa_set {v : V} {d : PyData} (r : DP K F v d) : ∀ {vs : List V} {ds : List PyData} (i : Nat), DPs K F vs ds → DPs K F (vs.set i v) (ds.set i d)
  | _, _, _, .nil => .nil
  | _, _, 0, .cons _ t => .cons r t
  | _, _, i + 1, .cons q t => .cons q (dpa_set r i t)
theorem dpa_rev {vs : List V} {ds : List PyData} (h : DPs K F vs ds) : DPs K F vs.reverse ds.reverse := by
  induction vs generalizing ds with
  | nil => cases h; exact .nil
  | cons v vs ih =>
    cases h with
    | cons h1 h2 => rw [List.reverse_cons, List.reverse_cons]; exact dpa_app (ih h2) (.cons h1 .nil)
theorem dpa_dropLast {vs : List V} {ds : List PyData} (h : DPs K F vs ds) : DPs K F vs.dropLast ds.dropLast := by
  rw [List.dropLast_eq_take, List.dropLast_eq_take, dpa_len h]
  exact dpa_take _ h
theorem dpa_rep {vs : List V} {ds : List PyData} (h : DPs K F vs ds) : ∀ k : Nat, DPs K F (List.replicate k vs).flatten (List.replicate k ds).flatten
  | 0 => .nil
  | k + 1 => by
    rw [List.replicate_succ, List.replicate_succ, List.flatten_cons, List.flatten_cons]
    exact dpa_app h (dpa_rep h k)
theorem dpa_ints : ∀ (ns : List Int), DPs K F (ns.map V.int) (ns.map PyData.int)
  | [] => .nil
  | n :: ns => .cons (.int n) (dpa_ints ns)
theorem dp_int {v : V} {i : Int} (h : DP K F v (.int i)) : v = .int i := by cases h; rfl
theorem dp_bool {v : V} {i : Bool} (h : DP K F v (.bool i)) : v = .bl i := by cases h; rfl
theorem dp_none {v : V} (h : DP K F v .none) : v = .non := by cases h; rfl
theorem dp_list {v : V} {ds : List PyData} (h : DP K F v (.list ds)) : ∃ a vs, v = .ref a ∧ F a = some (.lst vs) ∧ DPs K F vs ds := by
  cases h with
  | lst hs ha => exact ⟨_, _, rfl, hs, ha⟩
theorem dp_tuple {v : V} {ds : List PyData} (h : DP K F v (.tuple ds)) : ∃ a vs, v = .ref a ∧ SqT K F a vs ∧ DPs K F vs ds := by
  cases h with
  | tup hs ha => exact ⟨_, _, rfl, hs, ha⟩
theorem dpa_ints_inv : ∀ {vs : List V} {ns : List Int}, DPs K F vs (ns.map PyData.int) → vs = ns.map V.int
  | _, [], h => by cases h; rfl
  | _, n :: ns, h => by
    cases h with
    | cons h1 h2 => rw [dp_int h1, dpa_ints_inv h2]; rfl
end
inductive PV where
  | d (x : PyData)
  | ref (k : Nat)
  | raw (xs : List PyData)
  | exc (C : Addr) (x : PyData)
def exH (a C d : Addr) : HO := .ext fun h => ∃ (oe : Obj) (vs : Array Value), h.get? a = some oe ∧ oe.cls = .ref C ∧ oe.dict = some d ∧ oe.data = .fields vs
inductive Cell where
  | lst (xs : List PyData)
  | dK (kvs : List (Key × PyData))
  /-- a list of the cell just ahead and three numbers -/
  | own (a b c : Int)
abbrev Mem := List (Option Cell)
abbrev Loc := List (Option PV)
structure Wd where
  A : List Addr
  T : List (Addr × HO)
  F : Hp
structure Wd.le0 (w w' : Wd) : Prop where
  pre : ∃ more, w'.A = w.A ++ more
  sub : Sub w.F w'.F
structure Wd.le (w w' : Wd) : Prop extends toLe0 : Wd.le0 w w' where
  hid : w'.T = w.T
theorem Wd.le0.refl (w : Wd) : w.le0 w := ⟨⟨[], by simp⟩, Sub.refl _⟩
theorem Wd.le.refl (w : Wd) : w.le w := ⟨.refl w, rfl⟩
theorem Wd.le0.trans {a b c : Wd} (h : a.le0 b) (g : b.le0 c) : a.le0 c := by
  obtain ⟨m1, e1⟩ := h.pre
  obtain ⟨m2, e2⟩ := g.pre
  exact ⟨⟨m1 ++ m2, by rw [e2, e1, List.append_assoc]⟩, h.sub.trans g.sub⟩
theorem Wd.le.trans {a b c : Wd} (h : a.le b) (g : b.le c) : a.le c := ⟨h.toLe0.trans g.toLe0, g.hid.trans h.hid⟩
theorem Wd.le0.at {a b : Wd} (h : a.le0 b) {k : Nat} {x : Addr} (e : a.A[k]? = some x) : b.A[k]? = some x := by
  obtain ⟨m, em⟩ := h.pre
  rw [em, List.getElem?_append_left (List.getElem?_eq_some_iff.mp e).1]
  exact e
section
variable (K : PySem.W.Frag)
def RV (w : Wd) (v : V) : PV → Prop
  | .d x => DP K w.F v x
  | .ref k => ∃ a, w.A[k]? = some a ∧ v = .ref a
  | .raw xs => ∃ a vs, v = .ref a ∧ SqL K w.F a vs ∧ DPs K w.F vs xs
  | .exc C x => ∃ (a d : Addr) (vv : V), v = .ref a ∧ w.F a = some (exH a C d) ∧ w.F d = some (.xd [("value", vv)]) ∧ DP K w.F vv x
abbrev RVs (w : Wd) : List V → List PV → Prop := Paired (RV K w)
def CR (w : Wd) (k : Nat) : Cell → HO → Prop
  | .lst ds, o => ∃ vs, o = .lst vs ∧ DPs K w.F vs ds
  | .dK kvs, o => ∃ us, o = .dK us ∧ Paired (fun (p : Key × V) (q : Key × PyData) => p.1 = q.1 ∧ DP K w.F p.2 q.2) us kvs
  | .own a b c, o => ∃ j q, k = j + 1 ∧ w.A[j]? = some q ∧ o = .lst [V.ref q, V.int a, V.int b, V.int c]
structure HR (w : Wd) (m : Mem) (H : Hp) : Prop where
  fz : Sub w.F H
  len : w.A.length = m.length
  nd : w.A.Nodup
  sep : ∀ (k : Nat) (a : Addr) (c : Cell), w.A[k]? = some a → m[k]? = some (some c) → w.F a = none
  occ : ∀ a : Addr, a ∈ w.A → H a ≠ none
  tp : ∀ p : Addr × HO, p ∈ w.T → H p.1 = some p.2 ∧ w.F p.1 = none ∧ p.1 ∉ w.A
  tnd : (w.T.map (·.1)).Nodup
  cell : ∀ (k : Nat) (c : Cell), m[k]? = some (some c) → ∃ (a : Addr) (o : HO), w.A[k]? = some a ∧ H a = some o ∧ CR K w k c o
structure Rep (w : Wd) (L : Loc) (m : Mem) (σ : L2.St) (H : Hp) : Prop extends toHR : HR K w m H where
  sl : σ.length = L.length
  loc : ∀ (i : Nat) (p : PV), L[i]? = some (some p) → ∃ v, σ[i]? = some (some v) ∧ RV K w v p
end
section
variable {K : PySem.W.Frag} {w w' : Wd} {L : Loc} {m m' : Mem} {σ : L2.St} {H H' : Hp} {v : V} {p : PV}
theorem RV.mono (h : RV K w v p) (l : w.le0 w') : RV K w' v p := by
  cases p with
  | d x => exact dp_mono l.sub x v h
  | ref k => obtain ⟨a, e, r⟩ := h; exact ⟨a, l.at e, r⟩
  | raw u => obtain ⟨a, vs, e, s, d⟩ := h; exact ⟨a, vs, e, l.sub.sql s, dpa_mono l.sub _ _ d⟩
  | exc C x => obtain ⟨a, d, vv, e, h1, h2, h3⟩ := h; exact ⟨a, d, vv, e, l.sub _ _ h1, l.sub _ _ h2, dp_mono l.sub _ _ h3⟩
theorem RVs.mono : ∀ {vs : List V} {ps : List PV}, RVs K w vs ps → w.le0 w' → RVs K w' vs ps
  | _, _, .nil, _ => .nil
  | _, _, .cons r t, l => .cons (r.mono l) (RVs.mono t l)
theorem CR.mono {k : Nat} {c : Cell} {o : HO} (h : CR K w k c o) (l : Sub w.F w'.F) (la : ∀ j a, j < k → w.A[j]? = some a → w'.A[j]? = some a := by exact fun _ _ _ z => z) : CR K w' k c o := by
  cases c with
  | lst ds => obtain ⟨vs, e, r⟩ := h; exact ⟨vs, e, dpa_mono l _ _ r⟩
  | dK kvs => obtain ⟨us, e, r⟩ := h; exact ⟨us, e, L2.Paired.mapP r fun a b z => ⟨z.1, dp_mono l _ _ z.2⟩⟩
  | own a b c => obtain ⟨j, q, e1, e2, e3⟩ := h; exact ⟨j, q, e1, la j q (by omega) e2, e3⟩
theorem Rep.go (h : Rep K w L m σ H) (l : w.le w') (r : HR K w' m' H') : Rep K w' L m' σ H' :=
  ⟨r, h.sl, fun i p e => let ⟨v, e1, q⟩ := h.loc i p e; ⟨v, e1, q.mono l.toLe0⟩⟩
def Wd.fz (w : Wd) (p : Addr) (o : HO) : Wd := { w with F := upd w.F p o }
theorem HR.fnone (h : HR K w m H) {p : Addr} (hp : H p = none) : w.F p = none := h.fz.none hp
theorem HR.fnew (h : HR K w m H) {p : Addr} {o : HO} (hp : H p = none) : w.le (w.fz p o) ∧ HR K (w.fz p o) m (upd H p o) := by
  have hF := h.fnone hp
  have hA : p ∉ w.A := fun z => h.occ p z hp
  have hs : Sub w.F (upd w.F p o) := Sub.upd hF
  refine ⟨⟨⟨⟨[], by simp [Wd.fz]⟩, hs⟩, rfl⟩, ?_, h.len, h.nd, fun k a c e1 e2 => ?_, fun a ha => ?_, fun q hq => ?_, h.tnd, fun k c e => ?_⟩
  · intro a u e
    by_cases ha : a = p
    · subst ha; rw [show (w.fz a o).F a = some o from upd_same] at e; rw [upd_same]; exact e
    · rw [show (w.fz p o).F a = w.F a from upd_ne ha] at e; rw [upd_ne ha]; exact h.fz a u e
  · have hne : a ≠ p := fun z => hA (z ▸ List.mem_of_getElem? e1)
    show upd w.F p o a = none
    rw [upd_ne hne]; exact h.sep k a c e1 e2
  · by_cases hne : a = p
    · subst hne; rw [upd_same]; exact fun z => by cases z
    · rw [upd_ne hne]; exact h.occ a ha
  · obtain ⟨e1, e2, e3⟩ := h.tp q hq
    have hne : q.1 ≠ p := fun z => by rw [z, hp] at e1; cases e1
    refine ⟨by rw [upd_ne hne]; exact e1, ?_, e3⟩
    show upd w.F p o q.1 = none
    rw [upd_ne hne]; exact e2
  · obtain ⟨a, u, e1, e2, r⟩ := h.cell k c e
    have hne : a ≠ p := fun z => by rw [z, hp] at e2; cases e2
    exact ⟨a, u, e1, by rw [upd_ne hne]; exact e2, r.mono hs⟩
structure Un1 (w : Wd) (p : Addr) : Prop where
  f : w.F p = none
  a : p ∉ w.A
  t : p ∉ w.T.map (·.1)
theorem HR.un (h : HR K w m H) {p : Addr} {o : HO} (hp : H p = none) : HR K w m (upd H p o) ∧ Un1 w p := by
  have hF := h.fnone hp
  have hA : p ∉ w.A := fun z => h.occ p z hp
  have hT : p ∉ w.T.map (·.1) := fun z => by
    obtain ⟨q, hq, e⟩ := List.mem_map.mp z
    have := (h.tp q hq).1
    rw [e, hp] at this; cases this
  have hq : ∀ a, H a ≠ none → upd H p o a = H a := fun a ha => upd_ne fun z => ha (z ▸ hp)
  refine ⟨⟨fun a u e => ?_, h.len, h.nd, h.sep, fun a ha => ?_, fun q hq' => ?_, h.tnd, fun k c e => ?_⟩, hF, hA, hT⟩
  · have e' := h.fz a u e
    rw [hq a (by rw [e']; exact fun z => by cases z)]; exact e'
  · rw [hq a (h.occ a ha)]; exact h.occ a ha
  · obtain ⟨e1, e2, e3⟩ := h.tp q hq'
    exact ⟨by rw [hq q.1 (by rw [e1]; exact fun z => by cases z)]; exact e1, e2, e3⟩
  · obtain ⟨a, u, e1, e2, r⟩ := h.cell k c e
    exact ⟨a, u, e1, by rw [hq a (by rw [e2]; exact fun z => by cases z)]; exact e2, r⟩
theorem HR.freeze (h : HR K w m H) {p : Addr} {o : HO} (u : Un1 w p) (e : H p = some o) : w.le (w.fz p o) ∧ HR K (w.fz p o) m H := by
  have hs : Sub w.F (upd w.F p o) := Sub.upd u.f
  refine ⟨⟨⟨⟨[], by simp [Wd.fz]⟩, hs⟩, rfl⟩, ?_, h.len, h.nd, fun k a c e1 e2 => ?_, h.occ, fun q hq => ?_, h.tnd, fun k c e => ?_⟩
  · intro a x ea
    by_cases ha : a = p
    · subst ha; rw [show (w.fz a o).F a = some o from upd_same] at ea; rw [← ea]; exact e
    · rw [show (w.fz p o).F a = w.F a from upd_ne ha] at ea; exact h.fz a x ea
  · have hne : a ≠ p := fun z => u.a (z ▸ List.mem_of_getElem? e1)
    show upd w.F p o a = none
    rw [upd_ne hne]; exact h.sep k a c e1 e2
  · obtain ⟨e1, e2, e3⟩ := h.tp q hq
    have hne : q.1 ≠ p := fun z => u.t (z ▸ List.mem_map_of_mem hq)
    refine ⟨e1, ?_, e3⟩
    show upd w.F p o q.1 = none
    rw [upd_ne hne]; exact e2
  · obtain ⟨a, x, e1, e2, r⟩ := h.cell k c e
    exact ⟨a, x, e1, e2, r.mono hs⟩
def Wd.push (w : Wd) (p : Addr) : Wd := { w with A := w.A ++ [p] }
theorem HR.adopt (h : HR K w m H) {p : Addr} {o : HO} {c : Cell} (u : Un1 w p) (e : H p = some o) (r : CR K w m.length c o) : w.le (w.push p) ∧ HR K (w.push p) (m ++ [some c]) H := by
  refine ⟨⟨⟨⟨[p], rfl⟩, Sub.refl _⟩, rfl⟩, h.fz, ?_, ?_, fun k a c' e1 e2 => ?_, fun a ha => ?_, fun q hq => ?_, h.tnd, fun k c' e' => ?_⟩
  · show (w.A ++ [p]).length = _
    rw [List.length_append, List.length_append, h.len]; rfl
  · show (w.A ++ [p]).Nodup
    refine List.nodup_append.mpr ⟨h.nd, by simp, fun a ha b hb z => ?_⟩
    have hb' : b = p := by simpa using hb
    exact u.a (hb' ▸ z ▸ ha)
  · have e1' : (w.A ++ [p])[k]? = some a := e1
    by_cases hk : k < w.A.length
    · rw [List.getElem?_append_left hk] at e1'
      rw [List.getElem?_append_left (by rw [← h.len]; exact hk)] at e2
      exact h.sep k a c' e1' e2
    · have hk2 := (List.getElem?_eq_some_iff.mp e1').1
      rw [List.length_append] at hk2
      have hk3 : k = w.A.length := by simp at hk2; omega
      subst hk3
      rw [List.getElem?_append_right (Nat.le_refl _)] at e1'
      simp at e1'
      rw [← e1']; exact u.f
  · rcases List.mem_append.mp ha with z | z
    · exact h.occ a z
    · have : a = p := by simpa using z
      rw [this, e]; exact fun z => by cases z
  · obtain ⟨e1, e2, e3⟩ := h.tp q hq
    refine ⟨e1, e2, fun z => ?_⟩
    rcases List.mem_append.mp z with z | z
    · exact e3 z
    · have : q.1 = p := by simpa using z
      exact u.t (this ▸ List.mem_map_of_mem hq)
  · by_cases hk : k < m.length
    · rw [List.getElem?_append_left hk] at e'
      obtain ⟨a, x, e1, e2, r'⟩ := h.cell k c' e'
      refine ⟨a, x, ?_, e2, r'.mono (Sub.refl _) fun j b hj z => by
        show (w.A ++ [p])[j]? = some b
        rw [List.getElem?_append_left (List.getElem?_eq_some_iff.mp z).1]; exact z⟩
      show (w.A ++ [p])[k]? = some a
      rw [List.getElem?_append_left (by rw [h.len]; exact hk)]; exact e1
    · have hk2 := (List.getElem?_eq_some_iff.mp e').1
      rw [List.length_append] at hk2
      have hk3 : k = m.length := by simp at hk2; omega
      subst hk3
      rw [List.getElem?_append_right (Nat.le_refl _)] at e'
      simp at e'
      refine ⟨p, o, ?_, e, by rw [← e']; exact r.mono (Sub.refl _) fun j b hj z => (by
        show (w.A ++ [p])[j]? = some b
        rw [List.getElem?_append_left (List.getElem?_eq_some_iff.mp z).1]; exact z)⟩
      show (w.A ++ [p])[m.length]? = some p
      rw [← h.len, List.getElem?_append_right (Nat.le_refl _)]; simp
theorem nodup_at {A : List Addr} (nd : A.Nodup) {i j : Nat} {a : Addr} (h1 : A[i]? = some a) (h2 : A[j]? = some a) : i = j := by
  obtain ⟨l1, e1⟩ := List.getElem?_eq_some_iff.mp h1
  obtain ⟨l2, e2⟩ := List.getElem?_eq_some_iff.mp h2
  exact (List.getElem_inj nd).mp (e1.trans e2.symm)
theorem HR.write (h : HR K w m H) {k : Nat} {a : Addr} {c : Cell} {o : HO} {c' : Cell} (ea : w.A[k]? = some a) (ec : m[k]? = some (some c)) (r : CR K w k c' o) : HR K w (m.set k (some c')) (upd H a o) := by
  have hk : k < m.length := (List.getElem?_eq_some_iff.mp ec).1
  refine ⟨fun b u e => ?_, by rw [List.length_set]; exact h.len, h.nd, fun j b c2 e1 e2 => ?_, fun b hb => ?_, fun q hq => ?_, h.tnd, fun j c2 e => ?_⟩
  · have hne : b ≠ a := fun z => by rw [z, h.sep k a c ea ec] at e; cases e
    rw [upd_ne hne]; exact h.fz b u e
  · by_cases hj : j = k
    · subst hj; rw [ea] at e1; cases e1; exact h.sep _ _ _ ea ec
    · rw [List.getElem?_set_ne (Ne.symm hj)] at e2; exact h.sep j b c2 e1 e2
  · by_cases hne : b = a
    · subst hne; rw [upd_same]; exact fun z => by cases z
    · rw [upd_ne hne]; exact h.occ b hb
  · obtain ⟨e1, e2, e3⟩ := h.tp q hq
    have hne : q.1 ≠ a := fun z => e3 (z ▸ List.mem_of_getElem? ea)
    exact ⟨by rw [upd_ne hne]; exact e1, e2, e3⟩
  · by_cases hj : j = k
    · subst hj
      rw [List.getElem?_set_self hk] at e
      cases e
      exact ⟨a, o, ea, upd_same, r⟩
    · rw [List.getElem?_set_ne (Ne.symm hj)] at e
      obtain ⟨b, x, e1, e2, r'⟩ := h.cell j c2 e
      have hne : b ≠ a := fun z => hj (nodup_at h.nd (z ▸ e1) ea)
      exact ⟨b, x, e1, by rw [upd_ne hne]; exact e2, r'⟩
def Wd.cut (w : Wd) (n : Nat) : Wd := { w with A := w.A.take n }
theorem HR.cut (h : HR K w m H) (n : Nat) : HR K (w.cut n) (m.take n) H := by
  refine ⟨h.fz, ?_, h.nd.sublist (List.take_sublist _ _), fun k a c e1 e2 => ?_, fun a ha => h.occ a (List.mem_of_mem_take ha), fun q hq => ?_, h.tnd, fun k c e => ?_⟩
  · show (w.A.take n).length = _
    rw [List.length_take, List.length_take, h.len]
  · have e1' : (w.A.take n)[k]? = some a := e1
    rw [List.getElem?_take] at e1' e2
    split at e1' <;> simp_all
    exact h.sep k a c e1' e2
  · obtain ⟨e1, e2, e3⟩ := h.tp q hq
    exact ⟨e1, e2, fun z => e3 (List.mem_of_mem_take z)⟩
  · rw [List.getElem?_take] at e
    split at e
    · rename_i hk
      obtain ⟨a, o, e1, e2, r⟩ := h.cell k c e
      refine ⟨a, o, ?_, e2, r.mono (Sub.refl _) fun j b hj z => by
        show (w.A.take n)[j]? = some b
        rw [List.getElem?_take, if_pos (by omega)]; exact z⟩
      show (w.A.take n)[k]? = some a
      rw [List.getElem?_take, if_pos hk]; exact e1
    · cases e
theorem Wd.le.cut {w w' : Wd} (h : w.le w') {n : Nat} (hn : w.A.length ≤ n) : w.le (w'.cut n) := by
  obtain ⟨mo, e⟩ := h.pre
  refine ⟨⟨⟨mo.take (n - w.A.length), ?_⟩, h.sub⟩, h.hid⟩
  show w'.A.take n = _
  rw [e, List.take_append, List.take_of_length_le hn]
end
end PP
namespace PP
open PySem PySem.Spec PyProof.Rows L2
section
variable (X : Cx)
def tU (e : Expr) : TE := fun σ H Q => ∀ (pins : List (Addr × Obj)) (s : Shared), Inv X pins σ H s → wpAny (model X.prog X.w) X.A (eval e X.env) (EP X pins σ Q) X.xe s
def tUT (e : Expr) : TT := fun σ H Q => ∀ (pins : List (Addr × Obj)) (s : Shared), Inv X pins σ H s → wpAny (model X.prog X.w) X.A (isTrue e X.env (eval e X.env)) (TP X pins σ Q) X.xe s
def tUW (e : Expr) : TT := fun σ H Q => ∀ (wh : Sem Value) (pins : List (Addr × Obj)) (s : Shared), Inv X pins σ H s → wpAny (model X.prog X.w) X.A (isTrue e X.env wh) (TP X pins σ Q) X.xe s
def tUA (es : List Expr) : TA := fun σ H Q => ∀ (pos : Pos) (pins : List (Addr × Obj)) (s : Shared), Inv X pins σ H s → wpAny (model X.prog X.w) X.A (spliced (backTo pos (starEach es X.env))) (AP X pins σ Q) X.xe s
def tUS (st : Stmt) : TS := fun D σ H => ∀ (pins : List (Addr × Obj)) (s : Shared), Inv X pins σ H s → wpAny (model X.prog X.w) X.A (exec st X.env) (SP X pins D) X.xe s
def tUSs (st : List Stmt) : TS := fun D σ H => ∀ (pins : List (Addr × Obj)) (s : Shared), Inv X pins σ H s → wpAny (model X.prog X.w) X.A (execs st X.env) (SP X pins D) X.xe s
def tUI (tg iter : Expr) : TI := fun σ H R => ∀ (pins : List (Addr × Obj)) (s : Shared), Inv X pins σ H s → wpAny (model X.prog X.w) X.A (eval iter X.env) (fun v s1 => wpAny (model X.prog X.w) X.A (pyIter v) (PIE X pins σ tg R) X.xe s1) X.xe s
def tUO (o : Option Expr) : TO := fun σ H Q => ∀ (pins : List (Addr × Obj)) (s : Shared), Inv X pins σ H s → wpAny (model X.prog X.w) X.A (evalPart o X.env) (fun u s' => ∃ i H', Inv X pins σ H' s' ∧ IsPart u i ∧ Q i H') X.xe s
def tUG (tg : Expr) : TG := fun v σ H Q => ∀ (pins : List (Addr × Obj)) (s : Shared) (u : Value), Inv X pins σ H s → RelV v u → wpAny (model X.prog X.w) X.A (assign tg X.env u) (fun _ s' => ∃ σ' H', Inv X pins σ' H' s' ∧ Q σ' H') X.xe s
variable {X}
theorem peU (e : Expr) : PE X e (tU X e) := ⟨fun pins s _ _ _ I h => h pins s I⟩
theorem ptU (e : Expr) : PT X e (tUT X e) := ⟨fun pins s _ _ _ I h => h pins s I⟩
theorem pwU (e : Expr) : PW X e (tUW X e) := ⟨fun wh pins s _ _ _ I h => h wh pins s I⟩
theorem paU (es : List Expr) : PA X es (tUA X es) := ⟨fun pos pins s _ _ _ I h => h pos pins s I⟩
theorem psU (st : Stmt) : PS X st (tUS X st) := ⟨fun pins s _ _ _ I h => h pins s I⟩
theorem pssU (st : List Stmt) : PSs X st (tUSs X st) := ⟨fun pins s _ _ _ I h => h pins s I⟩
theorem piU (tg iter : Expr) : PI X tg iter (tUI X tg iter) := ⟨fun pins s _ _ _ I h => h pins s I⟩
theorem pgU (tg : Expr) : PG X tg (tUG X tg) := ⟨fun pins s _ _ _ u _ I r h => h pins s u I r⟩
theorem poU (o : Option Expr) : L2.PO X o (tUO X o) := ⟨fun pins s _ _ _ I h => h pins s I⟩
theorem tUO_mono {e : Option Expr} {σ : L2.St} {H : Hp} {Q Q' : Option Int → Hp → Prop} (h : tUO X e σ H Q) (k : ∀ v H', Q v H' → Q' v H') : tUO X e σ H Q' := fun pins s I =>
  thn (h pins s I) fun b _ ⟨i, H', I', p, q⟩ => ⟨i, H', I', p, k i H' q⟩
theorem tU_mono {e : Expr} {σ : L2.St} {H : Hp} {Q Q' : VK} (h : tU X e σ H Q) (k : ∀ v H', Q v H' → Q' v H') : tU X e σ H Q' := fun pins s I =>
  thn (h pins s I) fun _ _ ⟨v, H', I', r, q⟩ => ⟨v, H', I', r, k v H' q⟩
theorem tUT_mono {e : Expr} {σ : L2.St} {H : Hp} {Q Q' : Bool → Hp → Prop} (h : tUT X e σ H Q) (k : ∀ v H', Q v H' → Q' v H') : tUT X e σ H Q' := fun pins s I =>
  thn (h pins s I) fun b _ ⟨H', I', q⟩ => ⟨H', I', k b H' q⟩
theorem tUW_mono {e : Expr} {σ : L2.St} {H : Hp} {Q Q' : Bool → Hp → Prop} (h : tUW X e σ H Q) (k : ∀ v H', Q v H' → Q' v H') : tUW X e σ H Q' := fun wh pins s I =>
  thn (h wh pins s I) fun b _ ⟨H', I', q⟩ => ⟨H', I', k b H' q⟩
theorem tUA_mono {es : List Expr} {σ : L2.St} {H : Hp} {Q Q' : List V → Hp → Prop} (h : tUA X es σ H Q) (k : ∀ v H', Q v H' → Q' v H') : tUA X es σ H Q' := fun pos pins s I =>
  thn (h pos pins s I) fun _ _ ⟨v, H', I', r, q⟩ => ⟨v, H', I', r, k v H' q⟩
theorem tUI_mono {tg e : Expr} {σ : L2.St} {H : Hp} {Q Q' : It → Hp → Prop} (h : tUI X tg e σ H Q) (k : ∀ v H', Q v H' → Q' v H') : tUI X tg e σ H Q' := fun pins s I =>
  thn (h pins s I) fun v s1 h1 => thn h1 fun itv s2 ⟨it, fp, tn, J, H', e, I', T, st, f, q⟩ => ⟨it, fp, tn, J, H', e, I', T, st, f, k J H' q⟩
theorem tUG_mono {tg : Expr} {v : V} {σ : L2.St} {H : Hp} {Q Q' : L2.St → Hp → Prop} (h : tUG X tg v σ H Q) (k : ∀ σ' H', Q σ' H' → Q' σ' H') : tUG X tg v σ H Q' := fun pins s u I r =>
  thn (h pins s u I r) fun _ s' ⟨σ', H', I', q⟩ => ⟨σ', H', I', k σ' H' q⟩
theorem sp_mono {pins : List (Addr × Obj)} {D D' : Ends} {f : Flow} {s : Shared} (h : SP X pins D f s) (n : ∀ σ H, D.nx σ H → D'.nx σ H) (r : ∀ v H, D.rt v H → D'.rt v H) (b : ∀ σ H, D.bk σ H → D'.bk σ H) (c : ∀ σ H, D.ct σ H → D'.ct σ H) : SP X pins D' f s := by
  cases f with
  | next => obtain ⟨σ', H', I, q⟩ := h; exact ⟨σ', H', I, n _ _ q⟩
  | brk => obtain ⟨σ', H', I, q⟩ := h; exact ⟨σ', H', I, b _ _ q⟩
  | cont => obtain ⟨σ', H', I, q⟩ := h; exact ⟨σ', H', I, c _ _ q⟩
  | ret u => obtain ⟨v, σ', H', I, rr, q⟩ := h; exact ⟨v, σ', H', I, rr, r _ _ q⟩
theorem tUS_mono {st : Stmt} {D D' : Ends} {σ : L2.St} {H : Hp} (h : tUS X st D σ H) (n : ∀ σ H, D.nx σ H → D'.nx σ H) (r : ∀ v H, D.rt v H → D'.rt v H) (b : ∀ σ H, D.bk σ H → D'.bk σ H) (c : ∀ σ H, D.ct σ H → D'.ct σ H) : tUS X st D' σ H := fun pins s I =>
  thn (h pins s I) fun _ _ q => sp_mono q n r b c
theorem tUSs_mono {st : List Stmt} {D D' : Ends} {σ : L2.St} {H : Hp} (h : tUSs X st D σ H) (n : ∀ σ H, D.nx σ H → D'.nx σ H) (r : ∀ v H, D.rt v H → D'.rt v H) (b : ∀ σ H, D.bk σ H → D'.bk σ H) (c : ∀ σ H, D.ct σ H → D'.ct σ H) : tUSs X st D' σ H := fun pins s I =>
  thn (h pins s I) fun _ _ q => sp_mono q n r b c
end
abbrev QE := PyData → Mem → Prop
section
variable (K : PySem.W.Frag) (w : Wd)
def POE (Q : QE) : VK := fun v H => ∃ w' x m, w.le w' ∧ HR K w' m H ∧ DP K w'.F v x ∧ Q x m
def PF (Q : List PyData → Mem → Prop) : VK := fun v H => ∃ w' xs m p vs, v = .ref p ∧ w.le w' ∧ HR K w' m H ∧ H p = some (.lst vs) ∧ Un1 w' p ∧ DPs K w'.F vs xs ∧ Q xs m
def POV (Q : PV → Mem → Prop) : VK := fun v H => ∃ w' x m, w.le w' ∧ HR K w' m H ∧ RV K w' v x ∧ Q x m
def POT (Q : Bool → Mem → Prop) : Bool → Hp → Prop := fun b H => ∃ w' m, w.le w' ∧ HR K w' m H ∧ Q b m
def POA (Q : List PV → Mem → Prop) : List V → Hp → Prop := fun vs H => ∃ w' ps m, w.le w' ∧ HR K w' m H ∧ RVs K w' vs ps ∧ Q ps m
structure PEnds where
  nx : Loc → Mem → Prop
  rt : PV → Mem → Prop
  bk : Loc → Mem → Prop := fun _ _ => False
  ct : Loc → Mem → Prop := fun _ _ => False
def POS (Q : Loc → Mem → Prop) : L2.St → Hp → Prop := fun σ H => ∃ w' L m, w.le w' ∧ Rep K w' L m σ H ∧ Q L m
def toE (D : PEnds) : Ends := { nx := POS K w D.nx, rt := POV K w D.rt, bk := POS K w D.bk, ct := POS K w D.ct }
end
section
variable (X : Cx)
def WE (e : Expr) (L : Loc) (m : Mem) (Q : QE) : Prop := ∀ (w : Wd) (σ : L2.St) (H : Hp), Rep X.K w L m σ H → tU X e σ H (POE X.K w Q)
def WF (e : Expr) (L : Loc) (m : Mem) (Q : List PyData → Mem → Prop) : Prop := ∀ (w : Wd) (σ : L2.St) (H : Hp), Rep X.K w L m σ H → tU X e σ H (PF X.K w Q)
def WV (e : Expr) (L : Loc) (m : Mem) (Q : PV → Mem → Prop) : Prop := ∀ (w : Wd) (σ : L2.St) (H : Hp), Rep X.K w L m σ H → tU X e σ H (POV X.K w Q)
def WT (e : Expr) (L : Loc) (m : Mem) (Q : Bool → Mem → Prop) : Prop := ∀ (w : Wd) (σ : L2.St) (H : Hp), Rep X.K w L m σ H → tUT X e σ H (POT X.K w Q)
def WW (e : Expr) (L : Loc) (m : Mem) (Q : Bool → Mem → Prop) : Prop := ∀ (w : Wd) (σ : L2.St) (H : Hp), Rep X.K w L m σ H → tUW X e σ H (POT X.K w Q)
def WO (o : Option Expr) (L : Loc) (m : Mem) (Q : Option Int → Mem → Prop) : Prop := ∀ (w : Wd) (σ : L2.St) (H : Hp), Rep X.K w L m σ H → tUO X o σ H fun i H' => ∃ w' m', w.le w' ∧ HR X.K w' m' H' ∧ Q i m'
def WA (es : List Expr) (L : Loc) (m : Mem) (Q : List PV → Mem → Prop) : Prop := ∀ (w : Wd) (σ : L2.St) (H : Hp), Rep X.K w L m σ H → tUA X es σ H (POA X.K w Q)
def WS (st : Stmt) (L : Loc) (m : Mem) (D : PEnds) : Prop := ∀ (w : Wd) (σ : L2.St) (H : Hp), Rep X.K w L m σ H → tUS X st (toE X.K w D) σ H
def WSs (st : List Stmt) (L : Loc) (m : Mem) (D : PEnds) : Prop := ∀ (w : Wd) (σ : L2.St) (H : Hp), Rep X.K w L m σ H → tUSs X st (toE X.K w D) σ H
def WG (tg : Expr) (x : PyData) (L : Loc) (m : Mem) (Q : Loc → Mem → Prop) : Prop := ∀ (w : Wd) (σ : L2.St) (H : Hp) (v : V), Rep X.K w L m σ H → DP X.K w.F v x → tUG X tg v σ H (POS X.K w Q)
end
section
variable {K : PySem.W.Frag} {w w1 : Wd}
theorem POE.back {Q : QE} {v : V} {H : Hp} (l : w.le w1) (h : POE K w1 Q v H) : POE K w Q v H := let ⟨w', x, m, l', r⟩ := h; ⟨w', x, m, l.trans l', r⟩
theorem PF.back {Q : List PyData → Mem → Prop} {v : V} {H : Hp} (l : w.le w1) (h : PF K w1 Q v H) : PF K w Q v H := let ⟨w', x, m, p, vs, e, l', r⟩ := h; ⟨w', x, m, p, vs, e, l.trans l', r⟩
theorem POV.back {Q : PV → Mem → Prop} {v : V} {H : Hp} (l : w.le w1) (h : POV K w1 Q v H) : POV K w Q v H := let ⟨w', x, m, l', r⟩ := h; ⟨w', x, m, l.trans l', r⟩
theorem POT.back {Q : Bool → Mem → Prop} {b : Bool} {H : Hp} (l : w.le w1) (h : POT K w1 Q b H) : POT K w Q b H := let ⟨w', m, l', r⟩ := h; ⟨w', m, l.trans l', r⟩
theorem POA.back {Q : List PV → Mem → Prop} {vs : List V} {H : Hp} (l : w.le w1) (h : POA K w1 Q vs H) : POA K w Q vs H := let ⟨w', x, m, l', r⟩ := h; ⟨w', x, m, l.trans l', r⟩
theorem POS.back {Q : Loc → Mem → Prop} {σ : L2.St} {H : Hp} (l : w.le w1) (h : POS K w1 Q σ H) : POS K w Q σ H := let ⟨w', x, m, l', r⟩ := h; ⟨w', x, m, l.trans l', r⟩
end
section
variable {X : Cx} {L : Loc} {m : Mem} {e a b : Expr} {pos : Pos}
theorem WE.mono {Q Q' : QE} (h : WE X e L m Q) (k : ∀ x m', Q x m' → Q' x m') : WE X e L m Q' := fun w σ H r => tU_mono (h w σ H r) fun _ _ ⟨w', x, m', l, hr, d, q⟩ => ⟨w', x, m', l, hr, d, k _ _ q⟩
theorem WF.mono {Q Q' : List PyData → Mem → Prop} (h : WF X e L m Q) (k : ∀ x m', Q x m' → Q' x m') : WF X e L m Q' := fun w σ H r => tU_mono (h w σ H r) fun _ _ ⟨w', x, m', p, vs, e1, l, hr, hp, u, d, q⟩ => ⟨w', x, m', p, vs, e1, l, hr, hp, u, d, k _ _ q⟩
theorem WT.mono {Q Q' : Bool → Mem → Prop} (h : WT X e L m Q) (k : ∀ x m', Q x m' → Q' x m') : WT X e L m Q' := fun w σ H r => tUT_mono (h w σ H r) fun _ _ ⟨w', m', l, hr, q⟩ => ⟨w', m', l, hr, k _ _ q⟩
theorem we_of {t : TE} {Q : QE} (h : PE X e t) (k : ∀ (w : Wd) (σ : L2.St) (H : Hp), Rep X.K w L m σ H → t σ H (POE X.K w Q)) : WE X e L m Q := fun w σ H r pins s I => h.run pins s σ H _ I (k w σ H r)
theorem wf_of {t : TE} {Q : List PyData → Mem → Prop} (h : PE X e t) (k : ∀ (w : Wd) (σ : L2.St) (H : Hp), Rep X.K w L m σ H → t σ H (PF X.K w Q)) : WF X e L m Q := fun w σ H r pins s I => h.run pins s σ H _ I (k w σ H r)
theorem wt_of {t : TT} {Q : Bool → Mem → Prop} (h : PT X e t) (k : ∀ (w : Wd) (σ : L2.St) (H : Hp), Rep X.K w L m σ H → t σ H (POT X.K w Q)) : WT X e L m Q := fun w σ H r pins s I => h.run pins s σ H _ I (k w σ H r)
theorem ws_of {st : Stmt} {t : TS} {D : PEnds} (h : PS X st t) (k : ∀ (w : Wd) (σ : L2.St) (H : Hp), Rep X.K w L m σ H → t (toE X.K w D) σ H) : WS X st L m D := fun w σ H r pins s I => h.run pins s σ H _ I (k w σ H r)
theorem wss_of {st : List Stmt} {t : TS} {D : PEnds} (h : PSs X st t) (k : ∀ (w : Wd) (σ : L2.St) (H : Hp), Rep X.K w L m σ H → t (toE X.K w D) σ H) : WSs X st L m D := fun w σ H r pins s I => h.run pins s σ H _ I (k w σ H r)
theorem WE.go {Q : QE} (h : WE X e L m Q) {w : Wd} {σ : L2.St} {H : Hp} (r : Rep X.K w L m σ H) {R : VK} (k : ∀ (w' : Wd) (v : V) (x : PyData) (m' : Mem) (H' : Hp), w.le w' → Rep X.K w' L m' σ H' → DP X.K w'.F v x → Q x m' → R v H') : tU X e σ H R :=
  tU_mono (h w σ H r) fun v H' ⟨w', x, m', l, hr, d, q⟩ => k w' v x m' H' l (r.go l hr) d q
theorem WF.go {Q : List PyData → Mem → Prop} (h : WF X e L m Q) {w : Wd} {σ : L2.St} {H : Hp} (r : Rep X.K w L m σ H) {R : VK} (k : ∀ (w' : Wd) (p : Addr) (vs : List V) (xs : List PyData) (m' : Mem) (H' : Hp), w.le w' → Rep X.K w' L m' σ H' → H' p = some (.lst vs) → Un1 w' p → DPs X.K w'.F vs xs → Q xs m' → R (.ref p) H') : tU X e σ H R :=
  tU_mono (h w σ H r) fun v H' ⟨w', xs, m', p, vs, e1, l, hr, hp, u, d, q⟩ => e1 ▸ k w' p vs xs m' H' l (r.go l hr) hp u d q
theorem WV.go {Q : PV → Mem → Prop} (h : WV X e L m Q) {w : Wd} {σ : L2.St} {H : Hp} (r : Rep X.K w L m σ H) {R : VK} (k : ∀ (w' : Wd) (v : V) (x : PV) (m' : Mem) (H' : Hp), w.le w' → Rep X.K w' L m' σ H' → RV X.K w' v x → Q x m' → R v H') : tU X e σ H R :=
  tU_mono (h w σ H r) fun v H' ⟨w', x, m', l, hr, d, q⟩ => k w' v x m' H' l (r.go l hr) d q
theorem WT.go {Q : Bool → Mem → Prop} (h : WT X e L m Q) {w : Wd} {σ : L2.St} {H : Hp} (r : Rep X.K w L m σ H) {R : Bool → Hp → Prop} (k : ∀ (w' : Wd) (b : Bool) (m' : Mem) (H' : Hp), w.le w' → Rep X.K w' L m' σ H' → Q b m' → R b H') : tUT X e σ H R :=
  tUT_mono (h w σ H r) fun b H' ⟨w', m', l, hr, q⟩ => k w' b m' H' l (r.go l hr) q
theorem WW.go {Q : Bool → Mem → Prop} (h : WW X e L m Q) {w : Wd} {σ : L2.St} {H : Hp} (r : Rep X.K w L m σ H) {R : Bool → Hp → Prop} (k : ∀ (w' : Wd) (b : Bool) (m' : Mem) (H' : Hp), w.le w' → Rep X.K w' L m' σ H' → Q b m' → R b H') : tUW X e σ H R :=
  tUW_mono (h w σ H r) fun b H' ⟨w', m', l, hr, q⟩ => k w' b m' H' l (r.go l hr) q
theorem WO.go {o : Option Expr} {Q : Option Int → Mem → Prop} (h : WO X o L m Q) {w : Wd} {σ : L2.St} {H : Hp} (r : Rep X.K w L m σ H) {R : Option Int → Hp → Prop} (k : ∀ (w' : Wd) (b : Option Int) (m' : Mem) (H' : Hp), w.le w' → Rep X.K w' L m' σ H' → Q b m' → R b H') : tUO X o σ H R :=
  tUO_mono (h w σ H r) fun b H' ⟨w', m', l, hr, q⟩ => k w' b m' H' l (r.go l hr) q
theorem WA.go {es : List Expr} {Q : List PV → Mem → Prop} (h : WA X es L m Q) {w : Wd} {σ : L2.St} {H : Hp} (r : Rep X.K w L m σ H) {R : List V → Hp → Prop} (k : ∀ (w' : Wd) (vs : List V) (ps : List PV) (m' : Mem) (H' : Hp), w.le w' → Rep X.K w' L m' σ H' → RVs X.K w' vs ps → Q ps m' → R vs H') : tUA X es σ H R :=
  tUA_mono (h w σ H r) fun v H' ⟨w', x, m', l, hr, d, q⟩ => k w' v x m' H' l (r.go l hr) d q
theorem we_name {Q : QE} {x : Str} {y : PyData} (i : Nat) (hN : X.N[i]? = some x) (hv : Vis X.env.scope x) (hL : L[i]? = some (some (.d y))) (q : Q y m) (hd : (x == ("__debug__" : Str)) = false := by decide) (hcd : (x == ("__classdict__" : Str)) = false := by decide) : WE X (.Name x pos) L m Q :=
  we_of (pe_var hN hv hd hcd) fun w σ H r => let ⟨v, e1, d⟩ := r.loc i _ hL; ⟨v, e1, w, y, m, .refl w, r.toHR, d, q⟩
theorem wv_name {Q : PV → Mem → Prop} {x : Str} {y : PV} (i : Nat) (hN : X.N[i]? = some x) (hv : Vis X.env.scope x) (hL : L[i]? = some (some y)) (q : Q y m) (hd : (x == ("__debug__" : Str)) = false := by decide) (hcd : (x == ("__classdict__" : Str)) = false := by decide) : WV X (.Name x pos) L m Q := fun w σ H r pins s I =>
  (pe_var hN hv hd hcd).run pins s σ H _ I (let ⟨v, e1, d⟩ := r.loc i _ hL; ⟨v, e1, w, y, m, .refl w, r.toHR, d, q⟩)
theorem wv_we {Q : PV → Mem → Prop} (h : WE X e L m fun x m' => Q (.d x) m') : WV X e L m Q := fun w σ H r => tU_mono (h w σ H r) fun _ _ ⟨w', x, m', l, hr, d, q⟩ => ⟨w', .d x, m', l, hr, d, q⟩
theorem we_int {Q : QE} {i : Int} {j : Nat} (q : Q (.int i) m) : WE X (.Constant (.int i) j pos) L m Q := we_of pe_int fun w _ _ r => ⟨w, _, m, .refl w, r.toHR, .int i, q⟩
theorem we_bool {Q : QE} {i : Bool} {j : Nat} (q : Q (.bool i) m) : WE X (.Constant (.bool i) j pos) L m Q := we_of pe_bl fun w _ _ r => ⟨w, _, m, .refl w, r.toHR, .bl i, q⟩
theorem we_none {Q : QE} {j : Nat} (q : Q .none m) : WE X (.Constant .none j pos) L m Q := we_of pe_non fun w _ _ r => ⟨w, _, m, .refl w, r.toHR, .non, q⟩
def OpW (X : Cx) (r : R2) (x y : PyData) (m : Mem) (Q : QE) : Prop := ∀ (w0 w : Wd) (H : Hp) (v u : V), w0.le w → HR X.K w m H → DP X.K w.F v x → DP X.K w.F u y → r v u H (POE X.K w0 Q)
theorem two {r : R2} {w : Wd} {σ : L2.St} {H : Hp} {Q : VK} {Qr : PyData → PyData → Mem → Prop} (rp : Rep X.K w L m σ H) (h : WE X a L m fun x m1 => WE X b L m1 fun y m2 => Qr x y m2)
    (k : ∀ (w' : Wd) (v u : V) (x y : PyData) (m' : Mem) (H' : Hp), w.le w' → Rep X.K w' L m' σ H' → DP X.K w'.F v x → DP X.K w'.F u y → Qr x y m' → r v u H' Q) : tOp r (tU X a) (tU X b) σ H Q :=
  h.go rp fun w1 v x m1 H1 l1 r1 d1 q1 => q1.go r1 fun w2 u y m2 H2 l2 r2 d2 q2 => k w2 v u x y m2 H2 (l1.trans l2) r2 (dp_mono l2.sub _ _ d1) d2 q2
theorem we_op {op : Operator} {r : R2} {Q : QE} (ho : OpR X (binaryOp op) r) (h : WE X a L m fun x m1 => WE X b L m1 fun y m2 => OpW X r x y m2 Q) : WE X (.BinOp a op b pos) L m Q :=
  we_of (pe_op ho (peU a) (peU b)) fun w _ _ rp => two rp h fun w' v u _ _ _ H' l rp' d1 d2 q => q w w' H' v u l rp'.toHR d1 d2
theorem we_cmp {op : CmpOp} {r : R2} {Q : QE} (ho : OpR X (compareOp op) r) (h : WE X a L m fun x m1 => WE X b L m1 fun y m2 => OpW X r x y m2 Q) (hm : behindInMarks op b = false) : WE X (.Compare a [op] [b] pos) L m Q :=
  we_of (pe_cmpR ho (peU a) (peU b) hm) fun w _ _ rp => two rp h fun w' v u _ _ _ H' l rp' d1 d2 q => q w w' H' v u l rp'.toHR d1 d2
theorem wt_cmp {op : CmpOp} {r : R2} {Q : Bool → Mem → Prop} (ho : OpR X (compareOp op) r) (h : WE X a L m fun x m1 => WE X b L m1 fun y m2 => OpW X r x y m2 fun z m3 => ∃ c, z = .bool c ∧ Q c m3) (hm : behindInMarks op b = false)
    (rm : ∀ (v u : V) (H : Hp) (Q Q' : VK), (∀ z H', Q z H' → Q' z H') → r v u H Q → r v u H Q') : WT X (.Compare a [op] [b] pos) L m Q :=
  wt_of (pt_cmpR ho (peU a) (peU b) hm) fun w _ _ rp => two rp h fun w' v u _ _ _ H' l rp' d1 d2 q => rm _ _ _ _ _ (fun z H2 ⟨w2, x, m2, l2, hr, d, c, e, q2⟩ => by
    subst e
    exact ⟨c, dp_bool d, w2, m2, l2, hr, q2⟩) (q w w' H' v u l rp'.toHR d1 d2)
section
variable {w0 w : Wd} {H : Hp} {Q : QE}
theorem po_int (l : w0.le w) (h : HR X.K w m H) {i : Int} (q : Q (.int i) m) : POE X.K w0 Q (.int i) H := ⟨w, _, m, l, h, .int i, q⟩
theorem po_bool (l : w0.le w) (h : HR X.K w m H) {i : Bool} (q : Q (.bool i) m) : POE X.K w0 Q (.bl i) H := ⟨w, _, m, l, h, .bl i, q⟩
end
variable {Q : QE} {x y : PyData}
theorem opw_I0 {g : Int → Int → Int} (h : ∃ i j, x = .int i ∧ y = .int j ∧ Q (.int (g i j)) m) : OpW X (rI0 fun i j => .int (g i j)) x y m Q := by
  obtain ⟨i, j, rfl, rfl, q⟩ := h
  exact fun w0 w H v u l hr d1 d2 => ⟨i, j, dp_int d1, dp_int d2, po_int l hr q⟩
theorem opw_I {C : Int → Int → Prop} {g : Int → Int → Int} (h : ∃ i j, x = .int i ∧ y = .int j ∧ C i j ∧ Q (.int (g i j)) m) : OpW X (rI C fun i j => .int (g i j)) x y m Q := by
  obtain ⟨i, j, rfl, rfl, c, q⟩ := h
  exact fun w0 w H v u l hr d1 d2 => ⟨i, j, dp_int d1, dp_int d2, c, po_int l hr q⟩
theorem opw_B0 {g : Int → Int → Bool} (h : ∃ i j, x = .int i ∧ y = .int j ∧ Q (.bool (g i j)) m) : OpW X (rI0 fun i j => .bl (g i j)) x y m Q := by
  obtain ⟨i, j, rfl, rfl, q⟩ := h
  exact fun w0 w H v u l hr d1 d2 => ⟨i, j, dp_int d1, dp_int d2, po_bool l hr q⟩
theorem rI0_mono {g : Int → Int → V} : ∀ (v u : V) (H : Hp) (Q Q' : VK), (∀ z H', Q z H' → Q' z H') → rI0 g v u H Q → rI0 g v u H Q' := fun _ _ _ _ _ k ⟨i, j, e1, e2, q⟩ => ⟨i, j, e1, e2, k _ _ q⟩
abbrev AskI (x y : PyData) (R : Int → Int → Prop) : Prop := ∃ i j, x = .int i ∧ y = .int j ∧ R i j
theorem we_add (h : WE X a L m fun x m1 => WE X b L m1 fun y m2 => AskI x y fun i j => Q (.int (i + j)) m2) : WE X (.BinOp a .Add b pos) L m Q := we_op op_add (h.mono fun _ _ h => h.mono fun _ _ q => opw_I0 q)
theorem we_sub (h : WE X a L m fun x m1 => WE X b L m1 fun y m2 => AskI x y fun i j => Q (.int (i - j)) m2) : WE X (.BinOp a .Sub b pos) L m Q := we_op op_sub (h.mono fun _ _ h => h.mono fun _ _ q => opw_I0 q)
theorem we_mul (h : WE X a L m fun x m1 => WE X b L m1 fun y m2 => AskI x y fun i j => CMulW i j ∧ Q (.int (i * j)) m2) : WE X (.BinOp a .Mult b pos) L m Q := we_op op_mulW (h.mono fun _ _ h => h.mono fun _ _ q => opw_I q)
theorem we_fdiv (h : WE X a L m fun x m1 => WE X b L m1 fun y m2 => AskI x y fun i j => CDivW i j ∧ Q (.int (i / j)) m2) : WE X (.BinOp a .FloorDiv b pos) L m Q := we_op op_fdivW (h.mono fun _ _ h => h.mono fun _ _ q => opw_I q)
theorem we_mod (h : WE X a L m fun x m1 => WE X b L m1 fun y m2 => AskI x y fun i j => 0 < j ∧ Q (.int (i % j)) m2) : WE X (.BinOp a .Mod b pos) L m Q := we_op op_mod (h.mono fun _ _ h => h.mono fun _ _ q => opw_I q)
section
variable {QT : Bool → Mem → Prop}
theorem wt_int {op : CmpOp} {g : Int → Int → Bool} (ho : OpR X (compareOp op) (rI0 fun i j => .bl (g i j))) (hm : behindInMarks op b = false) (h : WE X a L m fun x m1 => WE X b L m1 fun y m2 => AskI x y fun i j => QT (g i j) m2) : WT X (.Compare a [op] [b] pos) L m QT :=
  wt_cmp ho (h.mono fun _ _ h => h.mono fun _ _ ⟨i, j, e1, e2, q⟩ => opw_B0 ⟨i, j, e1, e2, _, rfl, q⟩) hm rI0_mono
theorem wt_lt (h : WE X a L m fun x m1 => WE X b L m1 fun y m2 => AskI x y fun i j => QT (decide (i < j)) m2) : WT X (.Compare a [.Lt] [b] pos) L m QT := wt_int op_lt (nomark _) h
theorem wt_gt (h : WE X a L m fun x m1 => WE X b L m1 fun y m2 => AskI x y fun i j => QT (decide (j < i)) m2) : WT X (.Compare a [.Gt] [b] pos) L m QT := wt_int op_gt (nomark _) h
theorem wt_ge (h : WE X a L m fun x m1 => WE X b L m1 fun y m2 => AskI x y fun i j => QT (decide (j ≤ i)) m2) : WT X (.Compare a [.GtE] [b] pos) L m QT := wt_int op_ge (nomark _) h
end
abbrev shp (d : PyData) : Prop := SeqAt.shaped d = true
theorem we_eq (hu : X.A.units + 64 < cLine) (h : WE X a L m fun x m1 => WE X b L m1 fun y m2 => shp x ∧ shp y ∧ Q (.bool (PyData.eqv x y)) m2) : WE X (.Compare a [.Eq] [b] pos) L m Q :=
  we_cmp (op_eqD hu) (h.mono fun _ _ h => h.mono fun _ _ ⟨s1, s2, q⟩ w0 w H v u l hr d1 d2 => ⟨_, _, dp_mono hr.fz _ _ d1 |>.toDp _ _, dp_mono hr.fz _ _ d2 |>.toDp _ _, s1, s2, po_bool l hr q⟩) (nomark _)
theorem rNeD_mono {K : PySem.W.Frag} : ∀ (v u : V) (H : Hp) (Q Q' : VK), (∀ z H', Q z H' → Q' z H') → rNeD K v u H Q → rNeD K v u H Q' := fun _ _ _ _ _ k ⟨d, e, a, b, c, f, q⟩ => ⟨d, e, a, b, c, f, k _ _ q⟩
section
variable {QT : Bool → Mem → Prop}
theorem wt_ne (hu : X.A.units + 64 < cLine) (h : WE X a L m fun x m1 => WE X b L m1 fun y m2 => shp x ∧ shp y ∧ QT (!PyData.eqv x y) m2) : WT X (.Compare a [.NotEq] [b] pos) L m QT :=
  wt_cmp (op_neD hu) (h.mono fun _ _ h => h.mono fun _ _ ⟨s1, s2, q⟩ w0 w H v u l hr d1 d2 => ⟨_, _, dp_mono hr.fz _ _ d1 |>.toDp _ _, dp_mono hr.fz _ _ d2 |>.toDp _ _, s1, s2, po_bool l hr ⟨_, rfl, q⟩⟩) (nomark _) rNeD_mono
theorem wt_eqI (h : WE X a L m fun x m1 => WE X b L m1 fun y m2 => AskI x y fun i j => QT (decide (i = j)) m2) : WT X (.Compare a [.Eq] [b] pos) L m QT := by
  refine wt_of (pt_cmp (pc_eqI (peU a) (peU b))) fun w σ H rp => ?_
  refine h.go rp fun w1 v x m1 H1 l1 r1 d1 q1 => q1.go r1 fun w2 u y m2 H2 l2 r2 d2 ⟨i, j, e1, e2, q⟩ => ?_
  subst e1; subst e2
  exact ⟨i, j, dp_int (dp_mono l2.sub _ _ d1), dp_int d2, _, rfl, w2, m2, l1.trans l2, r2.toHR, q⟩
theorem wt_neI (h : WE X a L m fun x m1 => WE X b L m1 fun y m2 => AskI x y fun i j => QT (!decide (i = j)) m2) : WT X (.Compare a [.NotEq] [b] pos) L m QT := by
  refine wt_of (pt_cmp (pc_neI (peU a) (peU b))) fun w σ H rp => ?_
  refine h.go rp fun w1 v x m1 H1 l1 r1 d1 q1 => q1.go r1 fun w2 u y m2 H2 l2 r2 d2 ⟨i, j, e1, e2, q⟩ => ?_
  subst e1; subst e2
  exact ⟨i, j, dp_int (dp_mono l2.sub _ _ d1), dp_int d2, _, rfl, w2, m2, l1.trans l2, r2.toHR, q⟩
end
end
end PP
namespace PP
open PySem PySem.Spec PyProof.Rows L2
section
variable {X : Cx} {L : Loc} {m : Mem} {e a b c : Expr} {rest es : List Expr} {pos : Pos} {Q : QE} {QT : Bool → Mem → Prop}
theorem wt_ww (h : WW X e L m QT) : WT X e L m QT := fun w σ H r pins s I => h w σ H r _ pins s I
theorem wt_val (h : WE X e L m fun x m' => ∃ c, x = .bool c ∧ QT c m') (he : ∀ whole, isTrue e X.env whole = (do let v ← whole; standAt e.pos; holding [v] (truthy v)) := by intro _; rfl) : WT X e L m QT :=
  wt_of (pt_val (peU e) he) fun w σ H rp => h.go rp fun w1 v x m1 H1 l1 r1 d1 ⟨c, e1, q⟩ => by
    subst e1
    exact ⟨c, dp_bool d1, w1, m1, l1, r1.toHR, q⟩
theorem ww_and1 (h : WT X a L m QT) : WW X (.BoolOp .And [a] pos) L m QT := fun w σ H r wh pins s I => (pw_and1 (ptU a)).run wh pins s σ H _ I (h w σ H r)
theorem ww_or1 (h : WT X a L m QT) : WW X (.BoolOp .Or [a] pos) L m QT := fun w σ H r wh pins s I => (pw_or1 (ptU a)).run wh pins s σ H _ I (h w σ H r)
theorem ww_and (h : WT X a L m fun c m1 => (c = true → WW X (.BoolOp .And (b :: rest) pos) L m1 QT) ∧ (c = false → QT false m1)) : WW X (.BoolOp .And (a :: b :: rest) pos) L m QT := fun w σ H r wh pins s I =>
  (pw_and (ptU a) (pwU _)).run wh pins s σ H _ I (h.go r fun w1 c m1 H1 l1 r1 ⟨q1, q2⟩ => by
    cases c with
    | true =>
      rw [if_pos rfl]
      exact (q1 rfl).go r1 fun w2 d m2 H2 l2 r2 q => ⟨w2, m2, l1.trans l2, r2.toHR, q⟩
    | false =>
      rw [if_neg Bool.false_ne_true]
      exact ⟨w1, m1, l1, r1.toHR, q2 rfl⟩)
theorem ww_or (h : WT X a L m fun c m1 => (c = true → QT true m1) ∧ (c = false → WW X (.BoolOp .Or (b :: rest) pos) L m1 QT)) : WW X (.BoolOp .Or (a :: b :: rest) pos) L m QT := fun w σ H r wh pins s I =>
  (pw_or (ptU a) (pwU _)).run wh pins s σ H _ I (h.go r fun w1 c m1 H1 l1 r1 ⟨q1, q2⟩ => by
    cases c with
    | true =>
      rw [if_pos rfl]
      exact ⟨w1, m1, l1, r1.toHR, q1 rfl⟩
    | false =>
      rw [if_neg Bool.false_ne_true]
      exact (q2 rfl).go r1 fun w2 d m2 H2 l2 r2 q => ⟨w2, m2, l1.trans l2, r2.toHR, q⟩)
theorem wt_not (h : WT X a L m fun c m1 => QT (!c) m1) : WT X (.UnaryOp .Not a pos) L m QT :=
  wt_of (pt_not (ptU a)) fun w σ H r => h.go r fun w1 c m1 H1 l1 r1 q => ⟨w1, m1, l1, r1.toHR, q⟩
theorem we_one {op : BoolOp} (h : WE X a L m Q) : WE X (.BoolOp op [a] pos) L m Q := we_of (pe_one (peU a)) fun w σ H r => h w σ H r
theorem we_andV (h : WE X a L m fun x m1 => ∃ c, x = .bool c ∧ (c = true → WE X (.BoolOp .And (b :: rest) pos) L m1 Q) ∧ (c = false → Q (.bool false) m1)) : WE X (.BoolOp .And (a :: b :: rest) pos) L m Q :=
  we_of (pe_and (peU a) (peU _)) fun w σ H r => h.go r fun w1 v x m1 H1 l1 r1 d1 ⟨c, e1, q1, q2⟩ => by
    subst e1
    refine ⟨c, dp_bool d1, ?_⟩
    cases c with
    | true =>
      rw [if_pos rfl]
      exact (q1 rfl).go r1 fun w2 u y m2 H2 l2 r2 d2 q => ⟨w2, y, m2, l1.trans l2, r2.toHR, d2, q⟩
    | false =>
      rw [if_neg Bool.false_ne_true]
      exact ⟨w1, _, m1, l1, r1.toHR, .bl false, q2 rfl⟩
theorem we_orV (h : WE X a L m fun x m1 => ∃ c, x = .bool c ∧ (c = true → Q (.bool true) m1) ∧ (c = false → WE X (.BoolOp .Or (b :: rest) pos) L m1 Q)) : WE X (.BoolOp .Or (a :: b :: rest) pos) L m Q :=
  we_of (pe_or (peU a) (peU _)) fun w σ H r => h.go r fun w1 v x m1 H1 l1 r1 d1 ⟨c, e1, q1, q2⟩ => by
    subst e1
    refine ⟨c, dp_bool d1, ?_⟩
    cases c with
    | true =>
      rw [if_pos rfl]
      exact ⟨w1, _, m1, l1, r1.toHR, .bl true, q1 rfl⟩
    | false =>
      rw [if_neg Bool.false_ne_true]
      exact (q2 rfl).go r1 fun w2 u y m2 H2 l2 r2 d2 q => ⟨w2, y, m2, l1.trans l2, r2.toHR, d2, q⟩
theorem we_neg (h : WE X a L m fun x m1 => ∃ i, x = .int i ∧ Q (.int (-i)) m1) : WE X (.UnaryOp .USub a pos) L m Q :=
  we_of (pe_un un_neg (peU a)) fun w σ H r => h.go r fun w1 v x m1 H1 l1 r1 d1 ⟨i, e1, q⟩ => by
    subst e1
    exact ⟨i, dp_int d1, w1, _, m1, l1, r1.toHR, .int _, q⟩
theorem we_if (h : WT X c L m fun t m1 => (t = true → WE X a L m1 Q) ∧ (t = false → WE X b L m1 Q)) : WE X (.IfExp c a b pos) L m Q :=
  we_of (pe_ifExp (ptU c) (peU a) (peU b)) fun w σ H r => h.go r fun w1 t m1 H1 l1 r1 ⟨q1, q2⟩ => by
    cases t with
    | true =>
      rw [if_pos rfl]
      exact (q1 rfl).go r1 fun w2 u y m2 H2 l2 r2 d2 q => ⟨w2, y, m2, l1.trans l2, r2.toHR, d2, q⟩
    | false =>
      rw [if_neg Bool.false_ne_true]
      exact (q2 rfl).go r1 fun w2 u y m2 H2 l2 r2 d2 q => ⟨w2, y, m2, l1.trans l2, r2.toHR, d2, q⟩
theorem we_wf (h : WF X e L m fun xs m1 => Q (.list xs) m1) : WE X e L m Q := fun w σ H r => tU_mono (h w σ H r) fun v H' ⟨w', xs, m', p, vs, e1, l, hr, hp, u, d, q⟩ => by
  obtain ⟨l2, hr2⟩ := hr.freeze u hp
  exact ⟨_, _, m', l.trans l2, hr2, e1 ▸ .lst upd_same (dpa_mono l2.sub _ _ d), q⟩
theorem wa_nil {Q : List PV → Mem → Prop} (q : Q [] m) : WA X [] L m Q := fun w σ H r pos pins s I => pa_nil.run pos pins s σ H _ I ⟨w, [], m, .refl w, r.toHR, .nil, q⟩
theorem wa_cons {Q : List PV → Mem → Prop} (h : WV X e L m fun x m1 => WA X es L m1 fun xs m2 => Q (x :: xs) m2) (hs : starEach (e :: es) X.env = (false, eval e X.env) :: starEach es X.env := by rfl) : WA X (e :: es) L m Q := fun w σ H r pos pins s I =>
  (pa_cons (peU e) (paU es) hs).run pos pins s σ H _ I (h.go r fun w1 v x m1 H1 l1 r1 d1 q1 => q1.go r1 fun w2 vs xs m2 H2 l2 r2 d2 q2 => ⟨w2, x :: xs, m2, l1.trans l2, r2.toHR, .cons (d1.mono l2.toLe0) d2, q2⟩)
theorem wa_d {Q : List PV → Mem → Prop} (h : WE X e L m fun x m1 => WA X es L m1 fun xs m2 => Q (.d x :: xs) m2) (hs : starEach (e :: es) X.env = (false, eval e X.env) :: starEach es X.env := by rfl) : WA X (e :: es) L m Q := wa_cons (wv_we h) hs
def WD (X : Cx) (es : List Expr) (L : Loc) (m : Mem) (Q : List PyData → Mem → Prop) : Prop := WA X es L m fun ps m' => ∃ xs, ps = xs.map .d ∧ Q xs m'
theorem wd_nil {Q : List PyData → Mem → Prop} (q : Q [] m) : WD X [] L m Q := wa_nil ⟨[], rfl, q⟩
theorem wd_cons {Q : List PyData → Mem → Prop} (h : WE X e L m fun x m1 => WD X es L m1 fun xs m2 => Q (x :: xs) m2) (hs : starEach (e :: es) X.env = (false, eval e X.env) :: starEach es X.env := by rfl) : WD X (e :: es) L m Q :=
  wa_d (h.mono fun x m1 q w σ H r => tUA_mono (q w σ H r) fun vs H' ⟨w', ps, m', l, hr, d, xs, e1, q⟩ => ⟨w', ps, m', l, hr, d, x :: xs, by rw [e1]; rfl, q⟩) hs
theorem rvs_d {K : PySem.W.Frag} {w : Wd} : ∀ {vs : List V} {xs : List PyData}, RVs K w vs (xs.map .d) → DPs K w.F vs xs
  | _, [], h => by cases h; exact .nil
  | _, x :: xs, h => by
    cases h with
    | cons h1 h2 => exact .cons h1 (rvs_d h2)
theorem WD.go {Q : List PyData → Mem → Prop} (h : WD X es L m Q) {w : Wd} {σ : L2.St} {H : Hp} (r : Rep X.K w L m σ H) {R : List V → Hp → Prop} (k : ∀ (w' : Wd) (vs : List V) (xs : List PyData) (m' : Mem) (H' : Hp), w.le w' → Rep X.K w' L m' σ H' → DPs X.K w'.F vs xs → Q xs m' → R vs H') : tUA X es σ H R :=
  WA.go h r fun w' vs ps m' H' l r' d ⟨xs, e1, q⟩ => k w' vs xs m' H' l r' (rvs_d (e1 ▸ d)) q
theorem we_tup {x1 : Nat} (h : WD X es L m fun xs m1 => xs.length ≤ sizeLine ∧ Q (.tuple xs) m1) : WE X (.Tuple es x1 pos) L m Q :=
  we_of (pe_tup (paU es)) fun w σ H r => h.go r fun w1 vs xs m1 H1 l1 r1 d1 ⟨hz, q⟩ => ⟨by rw [dpa_len d1]; exact hz, fun p hp => by
    obtain ⟨l2, hr2⟩ := r1.toHR.fnew (o := .tup vs) hp
    exact ⟨_, _, m1, l1.trans l2, hr2, .tup (.of upd_same) (dpa_mono l2.sub _ _ d1), q⟩⟩
theorem wf_lst {Q : List PyData → Mem → Prop} (h : WD X es L m fun xs m1 => xs.length ≤ sizeLine ∧ Q xs m1) : WF X (.List es pos) L m Q :=
  wf_of (pe_lst (paU es)) fun w σ H r => h.go r fun w1 vs xs m1 H1 l1 r1 d1 ⟨hz, q⟩ => ⟨by rw [dpa_len d1]; exact hz, fun p hp => by
    obtain ⟨hr2, u⟩ := r1.toHR.un (o := .lst vs) hp
    exact ⟨w1, xs, m1, p, vs, rfl, l1, hr2, upd_same, u, d1, q⟩⟩
def seqP (m : Mem) : PV → Option (List PyData)
  | .d (.list xs) => some xs
  | .d (.tuple xs) => some xs
  | .ref k => match m[k]? with
    | some (some (.lst xs)) => some xs
    | _ => none
  | .raw xs => some xs
  | _ => none
theorem seqP_ok {K : PySem.W.Frag} {w : Wd} {H : Hp} {v : V} {p : PV} {xs : List PyData} (hr : HR K w m H) (r : RV K w v p) (h : seqP m p = some xs) : ∃ a vs, v = .ref a ∧ (SqL K H a vs ∨ SqT K H a vs) ∧ DPs K w.F vs xs := by
  cases p with
  | d x =>
    cases x with
    | list ds =>
      have e : ds = xs := Option.some.inj h
      subst e
      obtain ⟨a, vs, e1, e2, d⟩ := dp_list r
      exact ⟨a, vs, e1, .inl (.of (hr.fz _ _ e2)), d⟩
    | tuple ds =>
      have e : ds = xs := Option.some.inj h
      subst e
      obtain ⟨a, vs, e1, e2, d⟩ := dp_tuple r
      exact ⟨a, vs, e1, .inr (hr.fz.sqt e2), d⟩
    | none => cases h
    | bool _ => cases h
    | int _ => cases h
    | str _ => cases h
    | dict _ => cases h
  | ref k =>
    have h' : (match m[k]? with | some (some (.lst xs)) => some xs | _ => none) = some xs := h
    split at h'
    · rename_i ys hk
      cases h'
      obtain ⟨a, o, ea, eo, vs, rfl, d⟩ := hr.cell k _ hk
      obtain ⟨a', ea', rfl⟩ := r
      rw [ea] at ea'; cases ea'
      exact ⟨a, vs, rfl, .inl (.of eo), d⟩
    · cases h'
  | raw u =>
    cases h
    obtain ⟨a, vs, e, s, d⟩ := r
    exact ⟨a, vs, e, .inl (hr.fz.sql s), d⟩
  | exc C x => cases h
theorem atI_dpa {K : PySem.W.Frag} {F : Hp} {vs : List V} {xs : List PyData} {i : Int} {x : PyData} (d : DPs K F vs xs) (h : atI xs i = some x) : ∃ v, atI vs i = some v ∧ DP K F v x := by
  unfold atI at h ⊢
  rw [dpa_len d]
  cases q : ixN xs.length i with
  | none => rw [q] at h; cases h
  | some j =>
    rw [q] at h
    exact dpa_get d h
theorem we_ix (h : WV X a L m fun p m1 => WE X b L m1 fun y m2 => ∃ i xs x, y = .int i ∧ seqP m2 p = some xs ∧ atI xs i = some x ∧ Q x m2) (hs : PlainIx b := by exact fun _ _ => rfl) : WE X (.Subscript a b pos) L m Q :=
  we_of (pe_ix ix_seq (peU a) (peU b) hs) fun w σ H r => h.go r fun w1 v p m1 H1 l1 r1 d1 q1 => q1.go r1 fun w2 u y m2 H2 l2 r2 d2 ⟨i, xs, x, e1, e2, e3, q⟩ => by
    subst e1
    obtain ⟨ad, vs, rfl, hh, d⟩ := seqP_ok r2.toHR (d1.mono l2.toLe0) e2
    obtain ⟨z, ez, dz⟩ := atI_dpa d e3
    rcases hh with hh | hh
    · exact .inl ⟨ad, vs, i, z, rfl, dp_int d2, hh, ez, w2, x, m2, l1.trans l2, r2.toHR, dz, q⟩
    · exact .inr (.inl ⟨ad, vs, i, z, rfl, dp_int d2, hh, ez, w2, x, m2, l1.trans l2, r2.toHR, dz, q⟩)
theorem wo_none {Q : Option Int → Mem → Prop} (q : Q none m) : WO X none L m Q := fun w σ H r pins s I => po_none.run pins s σ H _ I ⟨w, m, .refl w, r.toHR, q⟩
theorem wo_some {Q : Option Int → Mem → Prop} (h : WE X e L m fun x m1 => ∃ i, x = .int i ∧ Q (some i) m1) : WO X (some e) L m Q := fun w σ H r pins s I =>
  (po_some (peU e)).run pins s σ H _ I (h.go r fun w1 v x m1 H1 l1 r1 d1 ⟨i, e1, q⟩ => by
    subst e1
    exact ⟨i, dp_int d1, w1, m1, l1, r1.toHR, q⟩)
def cutD (xs : List PyData) (lo hi : Option Int) : List PyData := (xs.drop (HT.sIx xs.length 0 lo)).take (HT.sIx xs.length xs.length hi - HT.sIx xs.length 0 lo)
theorem cut_dpa {K : PySem.W.Frag} {F : Hp} {vs : List V} {xs : List PyData} (d : DPs K F vs xs) (lo hi : Option Int) : DPs K F (cutV vs lo hi) (cutD xs lo hi) := by
  unfold cutV cutD
  rw [dpa_len d]
  exact dpa_take _ (dpa_drop _ d)
def lstP (m : Mem) : PV → Option (List PyData)
  | .d (.list xs) => some xs
  | .ref k => match m[k]? with
    | some (some (.lst xs)) => some xs
    | _ => none
  | _ => none
theorem lstP_ok {K : PySem.W.Frag} {w : Wd} {H : Hp} {v : V} {p : PV} {xs : List PyData} (hr : HR K w m H) (r : RV K w v p) (h : lstP m p = some xs) : ∃ a vs, v = .ref a ∧ H a = some (.lst vs) ∧ DPs K w.F vs xs := by
  cases p with
  | d x =>
    cases x with
    | list ds =>
      have e : ds = xs := Option.some.inj h
      subst e
      obtain ⟨a, vs, e1, e2, d⟩ := dp_list r
      exact ⟨a, vs, e1, hr.fz _ _ e2, d⟩
    | tuple ds => cases h
    | none => cases h
    | bool _ => cases h
    | int _ => cases h
    | str _ => cases h
    | dict _ => cases h
  | ref k =>
    have h' : (match m[k]? with | some (some (.lst xs)) => some xs | _ => none) = some xs := h
    split at h'
    · rename_i ys hk
      cases h'
      obtain ⟨a, o, ea, eo, vs, rfl, d⟩ := hr.cell k _ hk
      obtain ⟨a', ea', rfl⟩ := r
      rw [ea] at ea'; cases ea'
      exact ⟨a, vs, rfl, eo, d⟩
    · cases h'
  | raw u => cases h
  | exc C x => cases h
theorem wf_slice {lo hi : Option Expr} {p2 : Pos} {Q : List PyData → Mem → Prop} (h : WV X a L m fun p m1 => WO X lo L m1 fun i m2 => WO X hi L m2 fun j m3 => ∃ xs, lstP m3 p = some xs ∧ Q (cutD xs i j) m3) : WF X (.Subscript a (.Slice lo hi none p2) pos) L m Q :=
  wf_of (pe_slice sl_list (peU a) (poU lo) (poU hi)) fun w σ H r => h.go r fun w1 v p m1 H1 l1 r1 d1 q1 => q1.go r1 fun w2 i m2 H2 l2 r2 q2 => q2.go r2 fun w3 j m3 H3 l3 r3 ⟨xs, e1, q⟩ => by
    obtain ⟨ad, vs, rfl, hh, d⟩ := lstP_ok r3.toHR ((d1.mono l2.toLe0).mono l3.toLe0) e1
    refine ⟨ad, vs, rfl, .of hh, fun p hp => ?_⟩
    obtain ⟨hr2, u⟩ := r3.toHR.un (o := .lst (cutV vs i j)) hp
    exact ⟨w3, _, m3, p, _, rfl, (l1.trans l2).trans l3, hr2, upd_same, u, cut_dpa d i j, q⟩
theorem wf_cat {Q : List PyData → Mem → Prop} (h : WV X a L m fun p m1 => WV X b L m1 fun p' m2 => ∃ xs ys, lstP m2 p = some xs ∧ lstP m2 p' = some ys ∧ xs.length + ys.length ≤ sizeLine ∧ Q (xs ++ ys) m2) : WF X (.BinOp a .Add b pos) L m Q :=
  wf_of (pe_op op_cat (peU a) (peU b)) fun w σ H r => h.go r fun w1 v p m1 H1 l1 r1 d1 q1 => q1.go r1 fun w2 u p' m2 H2 l2 r2 d2 ⟨xs, ys, e1, e2, hz, q⟩ => by
    obtain ⟨a1, vs, rfl, hh, d⟩ := lstP_ok r2.toHR (d1.mono l2.toLe0) e1
    obtain ⟨a2, us, rfl, hh', d'⟩ := lstP_ok r2.toHR d2 e2
    refine ⟨a1, a2, vs, us, rfl, rfl, hh, hh', by rw [dpa_len d, dpa_len d']; exact hz, fun p hp => ?_⟩
    obtain ⟨hr2, u⟩ := r2.toHR.un (o := .lst (vs ++ us)) hp
    exact ⟨w2, _, m2, p, _, rfl, l1.trans l2, hr2, upd_same, u, dpa_app d d', q⟩
theorem wf_rep {Q : List PyData → Mem → Prop} (h : WV X a L m fun p m1 => WE X b L m1 fun y m2 => ∃ k xs, y = .int k ∧ lstP m2 p = some xs ∧ -(2 ^ 63) ≤ k ∧ k < 2 ^ 63 ∧ xs.length * k.toNat ≤ sizeLine ∧ Q (List.replicate k.toNat xs).flatten m2) : WF X (.BinOp a .Mult b pos) L m Q :=
  wf_of (pe_op op_rep (peU a) (peU b)) fun w σ H r => h.go r fun w1 v p m1 H1 l1 r1 d1 q1 => q1.go r1 fun w2 u y m2 H2 l2 r2 d2 ⟨k, xs, e0, e1, k1, k2, hz, q⟩ => by
    subst e0
    obtain ⟨a1, vs, rfl, hh, d⟩ := lstP_ok r2.toHR (d1.mono l2.toLe0) e1
    refine ⟨a1, k, vs, rfl, dp_int d2, hh, k1, k2, by rw [dpa_len d]; exact hz, fun p hp => ?_⟩
    obtain ⟨hr2, u⟩ := r2.toHR.un (o := .lst (List.replicate k.toNat vs).flatten) hp
    exact ⟨w2, _, m2, p, _, rfl, l1.trans l2, hr2, upd_same, u, dpa_rep d _, q⟩
theorem sqv {K : PySem.W.Frag} {H : Hp} {a : Addr} {vs : List V} (h : SqL K H a vs ∨ SqT K H a vs) : SqL K H a vs ∨ SqT K H a vs := h
theorem we_len {p : Pos} (hm : X.mg "len" = none) (h : WV X a L m fun p m1 => ∃ xs, seqP m1 p = some xs ∧ Q (.int xs.length) m1) (hg : Gl X "len" := by rfl) (he : starEach [a] X.env = (false, eval a X.env) :: starEach [] X.env := by rfl)
    (hpl : (backTo pos (starEach [] X.env)).any (·.1) = false := by rfl) : WE X (.Call (.Name "len" p) [a] [] pos) L m Q :=
  we_of (pe_callB call_len_seq hg hm boot_len (paU [a]) (he := he) (hpl := hpl)) fun w σ H r => WA.go (X := X) (Q := fun ps m1 => ∃ p, ps = [p] ∧ ∃ xs, seqP m1 p = some xs ∧ Q (.int xs.length) m1) (wa_cons (h := fun w σ H r => tU_mono (h w σ H r) fun _ _ ⟨w', x, m', l, hr, d, q⟩ => ⟨w', x, m', l, hr, d, wa_nil ⟨x, rfl, q⟩⟩) he) r fun w1 vs ps m1 H1 l1 r1 d1 ⟨p, e1, xs, e2, q⟩ => by
    subst e1
    cases d1 with
    | cons d1 d2 =>
      cases d2
      obtain ⟨ad, vs, rfl, hh, d⟩ := seqP_ok r1.toHR d1 e2
      refine ⟨ad, vs, rfl, sqv hh, w1, _, m1, l1, r1.toHR, .int _, ?_⟩
      rw [dpa_len d]
      exact q
theorem wa1 {Q : PV → Mem → Prop} (h : WV X a L m Q) (he : starEach [a] X.env = (false, eval a X.env) :: starEach [] X.env) : WA X [a] L m fun ps m1 => ∃ p, ps = [p] ∧ Q p m1 :=
  wa_cons (h := fun w σ H r => tU_mono (h w σ H r) fun _ _ ⟨w', x, m', l, hr, d, q⟩ => ⟨w', x, m', l, hr, d, wa_nil ⟨x, rfl, q⟩⟩) he
theorem wd1 {Q : PyData → Mem → Prop} (h : WE X a L m Q) (he : starEach [a] X.env = (false, eval a X.env) :: starEach [] X.env) : WA X [a] L m fun ps m1 => ∃ x, ps = [.d x] ∧ Q x m1 :=
  wa_d (h := h.mono fun x m1 q => wa_nil ⟨x, rfl, q⟩) he
theorem wd2 {Q : PyData → PyData → Mem → Prop} (h : WE X a L m fun x m1 => WE X b L m1 fun y m2 => Q x y m2) (he : starEach [a, b] X.env = (false, eval a X.env) :: starEach [b] X.env) (he2 : starEach [b] X.env = (false, eval b X.env) :: starEach [] X.env) : WA X [a, b] L m fun ps m1 => ∃ x y, ps = [.d x, .d y] ∧ Q x y m1 :=
  wa_d (h := h.mono fun x m1 h => wa_d (h := h.mono fun y m2 q => wa_nil ⟨x, y, rfl, q⟩) he2) he
theorem rvs1 {K : PySem.W.Frag} {w : Wd} {vs : List V} {p : PV} (h : RVs K w vs [p]) : ∃ v, vs = [v] ∧ RV K w v p := by
  cases h with
  | cons h1 h2 => cases h2; exact ⟨_, rfl, h1⟩
theorem rvs2 {K : PySem.W.Frag} {w : Wd} {vs : List V} {p q : PV} (h : RVs K w vs [p, q]) : ∃ v u, vs = [v, u] ∧ RV K w v p ∧ RV K w u q := by
  cases h with
  | cons h1 h2 =>
    obtain ⟨u, e, r⟩ := rvs1 h2
    exact ⟨_, u, by rw [e], h1, r⟩
theorem we_int1 {p : Pos} (hm : X.mg "int" = none) (h : WE X a L m fun x m1 => (∃ i, x = .int i ∧ Q (.int i) m1) ∨ (∃ k, x = .bool k ∧ Q (.int (if k then 1 else 0)) m1)) (hg : Gl X "int" := by rfl) (he : starEach [a] X.env = (false, eval a X.env) :: starEach [] X.env := by rfl)
    (hpl : (backTo pos (starEach [] X.env)).any (·.1) = false := by rfl) : WE X (.Call (.Name "int" p) [a] [] pos) L m Q :=
  we_of (pe_callTy call_int1 hg hm (by decide +kernel) (paU [a]) (he := he) (hpl := hpl)) fun w σ H r => WA.go (wd1 h he) r fun w1 vs ps m1 H1 l1 r1 d1 ⟨x, e1, q⟩ => by
    subst e1
    obtain ⟨v, rfl, d2⟩ := rvs1 d1
    rcases q with ⟨i, e, q⟩ | ⟨k, e, q⟩
    · subst e
      exact .inl ⟨i, by rw [dp_int d2], w1, _, m1, l1, r1.toHR, .int _, q⟩
    · subst e
      exact .inr ⟨k, by rw [dp_bool d2], w1, _, m1, l1, r1.toHR, .int _, q⟩
theorem we_tuple1 {p : Pos} (hm : X.mg "tuple" = none) (h : WV X a L m fun p m1 => ∃ xs, seqP m1 p = some xs ∧ Q (.tuple xs) m1) (hg : Gl X "tuple" := by rfl) (he : starEach [a] X.env = (false, eval a X.env) :: starEach [] X.env := by rfl)
    (hpl : (backTo pos (starEach [] X.env)).any (·.1) = false := by rfl) : WE X (.Call (.Name "tuple" p) [a] [] pos) L m Q :=
  we_of (pe_callTy call_tuple_of hg hm (by decide +kernel) (paU [a]) (he := he) (hpl := hpl)) fun w σ H r => WA.go (wa1 h he) r fun w1 vs ps m1 H1 l1 r1 d1 ⟨p, e1, xs, e2, q⟩ => by
    subst e1
    obtain ⟨v, rfl, d2⟩ := rvs1 d1
    by_cases ht : p = .d (.tuple xs)
    · subst ht
      obtain ⟨ad, vs, e3, e4, d⟩ := dp_tuple d2
      subst e3
      exact ⟨ad, vs, rfl, .inr ⟨r1.toHR.fz.sqt e4, w1, _, m1, l1, r1.toHR, d2, q⟩⟩
    · have e3 : ∃ ad vs, v = .ref ad ∧ SqL X.K H1 ad vs ∧ DPs X.K w1.F vs xs := by
        have key : ∀ p', p' = p → lstP m1 p' = some xs → ∃ ad vs, v = .ref ad ∧ SqL X.K H1 ad vs ∧ DPs X.K w1.F vs xs := fun p' e3 e4 => by
          subst e3
          obtain ⟨ad, vs, e5, hh, d⟩ := lstP_ok r1.toHR d2 e4
          exact ⟨ad, vs, e5, .of hh, d⟩
        cases p with
        | d x =>
          cases x <;> first | exact key _ rfl e2 | (cases e2; exact absurd rfl ht) | cases e2
        | ref k => exact key _ rfl e2
        | raw u =>
          cases e2
          obtain ⟨a, vs, e, s, d⟩ := d2
          exact ⟨a, vs, e, r1.toHR.fz.sql s, d⟩
        | exc C x => cases e2
      obtain ⟨ad, vs, rfl, hh, d⟩ := e3
      refine ⟨ad, vs, rfl, .inl ⟨hh, fun l hl => ?_⟩⟩
      obtain ⟨l2, hr2⟩ := r1.toHR.fnew (o := .tup vs) hl
      exact ⟨_, _, m1, l1.trans l2, hr2, .tup (.of upd_same) (dpa_mono l2.sub _ _ d), q⟩
theorem wf_list1 {p : Pos} {Q : List PyData → Mem → Prop} (hm : X.mg "list" = none) (h : WV X a L m fun p m1 => ∃ xs, seqP m1 p = some xs ∧ Q xs m1) (hg : Gl X "list" := by rfl) (he : starEach [a] X.env = (false, eval a X.env) :: starEach [] X.env := by rfl)
    (hpl : (backTo pos (starEach [] X.env)).any (·.1) = false := by rfl) : WF X (.Call (.Name "list" p) [a] [] pos) L m Q :=
  wf_of (pe_callTy call_list_of hg hm (by decide +kernel) (paU [a]) (he := he) (hpl := hpl)) fun w σ H r => WA.go (wa1 h he) r fun w1 vs ps m1 H1 l1 r1 d1 ⟨p, e1, xs, e2, q⟩ => by
    subst e1
    obtain ⟨v, rfl, d2⟩ := rvs1 d1
    obtain ⟨ad, vs, rfl, hh, d⟩ := seqP_ok r1.toHR d2 e2
    refine ⟨ad, vs, rfl, sqv hh, fun p hp => ?_⟩
    obtain ⟨hr2, u⟩ := r1.toHR.un (o := .lst vs) hp
    exact ⟨w1, _, m1, p, _, rfl, l1, hr2, upd_same, u, d, q⟩
def rgD (a b : Int) : List PyData := (List.range (b - a).toNat).map fun i => PyData.int (a + (i : Nat))
def rgD3 (a c : Int) (n : Nat) : List PyData := (List.range n).map fun i => PyData.int (a + (i : Nat) * c)
end
end PP
namespace PP
open PySem PySem.Spec PyProof.Rows L2
section
variable {X : Cx} {L : Loc} {m : Mem} {e a b c : Expr} {es : List Expr} {pos : Pos} {D : PEnds} {st : Stmt} {rest body : List Stmt}
theorem RV.backE {K : PySem.W.Frag} {w w1 : Wd} (l : w.le w1) (D : PEnds) : (∀ σ H, (toE K w1 D).nx σ H → (toE K w D).nx σ H) ∧ (∀ v H, (toE K w1 D).rt v H → (toE K w D).rt v H) ∧ (∀ σ H, (toE K w1 D).bk σ H → (toE K w D).bk σ H) ∧ (∀ σ H, (toE K w1 D).ct σ H → (toE K w D).ct σ H) :=
  ⟨fun _ _ h => POS.back l h, fun _ _ h => POV.back l h, fun _ _ h => POS.back l h, fun _ _ h => POS.back l h⟩
theorem tUSs_back {w w1 : Wd} {σ : L2.St} {H : Hp} (l : w.le w1) (h : tUSs X body (toE X.K w1 D) σ H) : tUSs X body (toE X.K w D) σ H := let ⟨a, b, c, d⟩ := RV.backE l D; tUSs_mono h a b c d
theorem WSs.imp {D' : PEnds} (h : WSs X body L m D) (n : ∀ L m, D.nx L m → D'.nx L m) (r : ∀ p m, D.rt p m → D'.rt p m) (b : ∀ L m, D.bk L m → D'.bk L m) (k : ∀ L m, D.ct L m → D'.ct L m) : WSs X body L m D' := fun w σ H rp =>
  tUSs_mono (h w σ H rp) (fun _ _ ⟨w', L, m, l, r', q⟩ => ⟨w', L, m, l, r', n _ _ q⟩) (fun _ _ ⟨w', p, m, l, hr, d, q⟩ => ⟨w', p, m, l, hr, d, r _ _ q⟩) (fun _ _ ⟨w', L, m, l, r', q⟩ => ⟨w', L, m, l, r', b _ _ q⟩) (fun _ _ ⟨w', L, m, l, r', q⟩ => ⟨w', L, m, l, r', k _ _ q⟩)
theorem WS.imp {D' : PEnds} (h : WS X st L m D) (n : ∀ L m, D.nx L m → D'.nx L m) (r : ∀ p m, D.rt p m → D'.rt p m) (b : ∀ L m, D.bk L m → D'.bk L m) (k : ∀ L m, D.ct L m → D'.ct L m) : WS X st L m D' := fun w σ H rp =>
  tUS_mono (h w σ H rp) (fun _ _ ⟨w', L, m, l, r', q⟩ => ⟨w', L, m, l, r', n _ _ q⟩) (fun _ _ ⟨w', p, m, l, hr, d, q⟩ => ⟨w', p, m, l, hr, d, r _ _ q⟩) (fun _ _ ⟨w', L, m, l, r', q⟩ => ⟨w', L, m, l, r', b _ _ q⟩) (fun _ _ ⟨w', L, m, l, r', q⟩ => ⟨w', L, m, l, r', k _ _ q⟩)
theorem wss_nil (q : D.nx L m) : WSs X [] L m D := wss_of pss_nil fun w σ H r => ⟨w, L, m, .refl w, r, q⟩
theorem wss_cons (h : WS X st L m { D with nx := fun L1 m1 => WSs X rest L1 m1 D }) : WSs X (st :: rest) L m D :=
  wss_of (pss_cons (psU st) (pssU rest)) fun w σ H r => tUS_mono (h w σ H r) (fun σ' H' ⟨w', L', m', l, r', q⟩ => tUSs_back l (q w' σ' H' r')) (fun _ _ h => h) (fun _ _ h => h) (fun _ _ h => h)
theorem wss_one (h : WS X st L m D) : WSs X [st] L m D := wss_of (pss_one (psU st)) fun w σ H r => h w σ H r
theorem ws_expr (h : WE X e L m fun _ m1 => D.nx L m1) (hs : swapsWith e none pos.line X.env = pure false := by rfl) : WS X (.Expr e pos) L m D := ws_of (ps_expr (peU e) hs) fun w σ H r => h.go r fun w1 v x m1 H1 l1 r1 d1 q => ⟨w1, L, m1, l1, r1, q⟩
theorem ws_ret (h : WE X e L m fun x m1 => D.rt (.d x) m1) : WS X (.Return (some e) pos) L m D := ws_of (ps_ret (peU e)) fun w σ H r => h.go r fun w1 v x m1 H1 l1 r1 d1 q => ⟨w1, .d x, m1, l1, r1.toHR, d1, q⟩
theorem ws_retV (h : WV X e L m fun x m1 => D.rt x m1) : WS X (.Return (some e) pos) L m D := ws_of (ps_ret (peU e)) fun w σ H r => h.go r fun w1 v x m1 H1 l1 r1 d1 q => ⟨w1, x, m1, l1, r1.toHR, d1, q⟩
theorem ws_if {t f : List Stmt} (h : WT X c L m fun k m1 => (k = true → WSs X t L m1 D) ∧ (k = false → WSs X f L m1 D)) : WS X (.If c t f pos) L m D :=
  ws_of (ps_if (ptU c) (pssU t) (pssU f)) fun w σ H r => h.go r fun w1 k m1 H1 l1 r1 ⟨q1, q2⟩ => by
    cases k with
    | true =>
      rw [if_pos rfl]
      exact tUSs_back l1 (q1 rfl _ _ _ r1)
    | false =>
      rw [if_neg Bool.false_ne_true]
      exact tUSs_back l1 (q2 rfl _ _ _ r1)
theorem Rep.set {K : PySem.W.Frag} {w : Wd} {σ : L2.St} {H : Hp} {i : Nat} {v : V} {p : PV} (r : Rep K w L m σ H) (d : RV K w v p) : Rep K w (L.set i (some p)) m (σ.set i (some v)) H :=
  ⟨r.toHR, by rw [List.length_set, List.length_set]; exact r.sl, fun j q e => by
    by_cases hj : i = j
    · subst hj
      by_cases hi : i < L.length
      · rw [List.getElem?_set_self hi] at e
        cases e
        exact ⟨v, by rw [List.getElem?_set_self (by rw [r.sl]; exact hi)], d⟩
      · rw [List.getElem?_eq_none (by rw [List.length_set]; omega)] at e; cases e
    · rw [List.getElem?_set_ne hj] at e
      obtain ⟨u, e1, r1⟩ := r.loc j q e
      exact ⟨u, by rw [List.getElem?_set_ne hj]; exact e1, r1⟩⟩
section
variable {i : Nat} {x : Str} {pos' : Pos}
theorem ws_set (i : Nat) (hN : X.N.Nodup) (hi : X.N[i]? = some x) (hx : L2.Loc X.env.scope x) (h : WE X e L m fun y m1 => D.nx (L.set i (some (.d y))) m1) (hs : swapsWith e (some (.Name x pos')) pos.line X.env = pure false := by rfl) (hf : X.fn x = true ∨ X.env.scope.names.lookup x = some .local := by first | exact .inl rfl | exact .inr rfl | assumption) :
    WS X (.Assign [.Name x pos'] e pos) L m D := ws_of (ps_set hN hi hx (peU e) hs hf) fun w σ H r => h.go r fun w1 v y m1 H1 l1 r1 d1 q => ⟨w1, _, m1, l1, r1.set (p := .d y) d1, q⟩
theorem ws_setV (i : Nat) (hN : X.N.Nodup) (hi : X.N[i]? = some x) (hx : L2.Loc X.env.scope x) (h : WV X e L m fun y m1 => D.nx (L.set i (some y)) m1) (hs : swapsWith e (some (.Name x pos')) pos.line X.env = pure false := by rfl) (hf : X.fn x = true ∨ X.env.scope.names.lookup x = some .local := by first | exact .inl rfl | exact .inr rfl | assumption) :
    WS X (.Assign [.Name x pos'] e pos) L m D := ws_of (ps_set hN hi hx (peU e) hs hf) fun w σ H r => h.go r fun w1 v y m1 H1 l1 r1 d1 q => ⟨w1, _, m1, l1, r1.set d1, q⟩
theorem wv_wf {Q : PV → Mem → Prop} (h : WF X e L m fun xs m1 => Q (.ref m1.length) (m1 ++ [some (.lst xs)])) : WV X e L m Q := fun w σ H r => h.go r fun w1 p vs xs m1 H1 l1 r1 hp u d q => by
  obtain ⟨l2, hr2⟩ := r1.toHR.adopt (c := .lst xs) u hp ⟨vs, rfl, d⟩
  refine ⟨_, .ref m1.length, _, l1.trans l2, hr2, ⟨p, ?_, rfl⟩, q⟩
  show (w1.A ++ [p])[m1.length]? = some p
  rw [← r1.toHR.len, List.getElem?_append_right (Nat.le_refl _)]; simp
theorem ws_augI {op : Operator} {g : Int → Int → Int} (i : Nat) (ho : PIp X op (ipI g)) (hN : X.N.Nodup) (hi : X.N[i]? = some x) (hx : L2.Loc X.env.scope x) (k : Int) (hL : L[i]? = some (some (.d (.int k)))) (h : WE X e L m fun y m1 => ∃ j, y = .int j ∧ D.nx (L.set i (some (.d (.int (g k j))))) m1) (hf : X.fn x = true ∨ X.env.scope.names.lookup x = some .local := by first | exact .inl rfl | exact .inr rfl | assumption) :
    WS X (.AugAssign (.Name x pos') op e pos) L m D := ws_of (ps_aug hN hi hx (peU e) ho hf) fun w σ H r => by
  obtain ⟨v, e1, d⟩ := r.loc i _ hL
  refine ⟨v, e1, h.go r fun w1 u y m1 H1 l1 r1 d1 ⟨j, e2, q⟩ => ?_⟩
  subst e2
  exact ⟨k, j, dp_int d, dp_int d1, w1, _, m1, l1, r1.set (p := .d (.int (g k j))) (.int _), q⟩
end
theorem wg_of {tg : Expr} {t : TG} {x : PyData} {Q : Loc → Mem → Prop} (h : PG X tg t) (k : ∀ (w : Wd) (σ : L2.St) (H : Hp) (v : V), Rep X.K w L m σ H → DP X.K w.F v x → t v σ H (POS X.K w Q)) : WG X tg x L m Q := fun w σ H v r d pins s u I rv => h.run pins s σ H v u _ I rv (k w σ H v r d)
theorem wg_name {x : Str} {y : PyData} {Q : Loc → Mem → Prop} (i : Nat) (hN : X.N.Nodup) (hi : X.N[i]? = some x) (hx : L2.Loc X.env.scope x) (q : Q (L.set i (some (.d y))) m) (hf : X.fn x = true ∨ X.env.scope.names.lookup x = some .local := by first | exact .inl rfl | exact .inr rfl | assumption) : WG X (.Name x pos) y L m Q :=
  wg_of (pg_name hN hi hx hf) fun w σ H v r d => ⟨w, _, m, .refl w, r.set (p := .d y) d, q⟩
end
def tUGs (X : Cx) (ts : List Expr) : TGs := fun vs σ H Q => ∀ (pins : List (Addr × Obj)) (s : Shared) (us : List Value), Inv X pins σ H s → Vals vs us → wpAny (model X.prog X.w) X.A (assignInOrder ((assignEach ts X.env).map (·.2)) us) (fun _ s' => ∃ σ' H', Inv X pins σ' H' s' ∧ Q σ' H') X.xe s
theorem pgsU {X : Cx} (ts : List Expr) : PGs X ts (tUGs X ts) := ⟨fun pins s _ _ _ us _ I r h => h pins s us I r⟩
def WGn (X : Cx) (es : List Expr) (xs : List PyData) (L : Loc) (m : Mem) (Q : Loc → Mem → Prop) : Prop := ∀ (w : Wd) (σ : L2.St) (H : Hp) (vs : List V), Rep X.K w L m σ H → DPs X.K w.F vs xs → tUGs X es vs σ H (POS X.K w Q)
section
variable {X : Cx} {L : Loc} {m : Mem} {e a b c tg : Expr} {es : List Expr} {pos : Pos} {D : PEnds} {st : Stmt} {rest body : List Stmt} {Q : Loc → Mem → Prop}
theorem wgn_nil (q : Q L m) : WGn X [] [] L m Q := fun w σ H vs r d pins s us I rv => pgs_nil.run pins s σ H vs us _ I rv (by cases d; exact ⟨rfl, w, L, m, .refl w, r, q⟩)
theorem wgn_cons {x : PyData} {xs : List PyData} (h : WG X e x L m fun L1 m1 => WGn X es xs L1 m1 Q) (hs : (assignEach (e :: es) X.env).map (·.2) = assign e X.env :: (assignEach es X.env).map (·.2) := by rfl) : WGn X (e :: es) (x :: xs) L m Q := fun w σ H vs r d pins s us I rv =>
  (pgs_cons (pgU e) (pgsU es) hs).run pins s σ H vs us _ I rv (by
    cases d with
    | cons d1 d2 =>
      refine ⟨_, _, rfl, tUG_mono (h w σ H _ r d1) fun σ' H' ⟨w', L', m', l, r', q⟩ => ?_⟩
      intro pins s us I rv
      exact thn (q w' σ' H' _ r' (dpa_mono l.sub _ _ d2) pins s us I rv) fun _ s' ⟨σ2, H2, I2, q2⟩ => ⟨σ2, H2, I2, POS.back l q2⟩)
theorem wg_tup {k n : Nat} {x : PyData} (hc : X.calm = true) (h : ∃ xs, x = .tuple xs ∧ xs.length = n ∧ WGn X es xs L m Q) (hn : (assignEach es X.env).length = n := by rfl) (hst : (assignEach es X.env).findIdx? (·.1) = none := by rfl) : WG X (.Tuple es k pos) x L m Q := by
  obtain ⟨xs, rfl, hl, h⟩ := h
  refine wg_of (pg_tup hc (pgsU es) hn hst) fun w σ H v r d => ?_
  obtain ⟨a, vs, rfl, e1, d1⟩ := dp_tuple d
  exact ⟨a, vs, rfl, r.toHR.fz.sqt e1, by rw [dpa_len d1]; exact hl, h w σ H vs r d1⟩
theorem wg_sub {x : PyData} (h : WV X a L m fun p m1 => WE X b L m1 fun y m2 => ∃ k i xs j, p = .ref k ∧ y = .int i ∧ m2[k]? = some (some (.lst xs)) ∧ ixN xs.length i = some j ∧ Q L (m2.set k (some (.lst (xs.set j x)))))
    (ha : ∀ v, assign (.Subscript a b pos) X.env v = (do
      let ov ← holding [v] (eval a X.env)
      let iv ← holding [v, ov] (eval b X.env)
      standAt pos
      holding [v, ov, iv] (setItem ov iv v)
      release [v, ov, iv] []) := by intro _; rfl) : WG X (.Subscript a b pos) x L m Q := by
  refine wg_of (pg_sub (peU a) (peU b) set_list ha) fun w σ H v r d => ?_
  refine h.go r fun w1 ov p m1 H1 l1 r1 d1 q1 => q1.go r1 fun w2 iv y m2 H2 l2 r2 d2 ⟨k, i, xs, j, e1, e2, e3, e4, q⟩ => ?_
  subst e1; subst e2
  obtain ⟨ad, o, ea, eo, vs, rfl, dv⟩ := r2.cell k _ e3
  obtain ⟨ad', ea', rfl⟩ := d1.mono l2.toLe0
  rw [ea] at ea'; cases ea'
  have dd := dp_mono (l1.trans l2).sub _ _ d
  have hr3 := r2.toHR.write (c' := .lst (xs.set j x)) (o := .lst (vs.set j v)) ea e3 ⟨_, rfl, dpa_set dd j dv⟩
  exact ⟨ad, vs, i, j, rfl, dp_int d2, eo, by rw [dpa_len dv]; exact e4, w2, L, _, l1.trans l2, r2.go (.refl w2) hr3, q⟩
theorem ws_asg (h : WE X e L m fun x m1 => WG X tg x L m1 D.nx) (hs : swapsWithSole [tg] e pos.line X.env = pure false := by rfl) (hw : swappedStores [tg] e X.env = pure none := by rfl)
    (h1 : (assignEach [tg] X.env).map (·.2) = [assign tg X.env] := by rfl) : WS X (.Assign [tg] e pos) L m D :=
  ws_of (ps_asg (peU e) (pgU tg) hs hw h1) fun w σ H r => h.go r fun w1 v x m1 H1 l1 r1 d1 q => tUG_mono (q w1 σ H1 v r1 d1) fun σ' H' q => POS.back l1 q
theorem ws_par {x y : Str} {px py pt : Pos} {kt k2 pt2} (i j : Nat) (hc : X.calm = true) (hN : X.N.Nodup) (hi : X.N[i]? = some x) (hj : X.N[j]? = some y) (hij : i ≠ j)
    (hx : X.env.scope.names.lookup x = some .local) (hy : X.env.scope.names.lookup y = some .local) (h : WA X [a, b] L m fun ps m1 => ∃ p q, ps = [p, q] ∧ D.nx ((L.set i (some p)).set j (some q)) m1)
    (hw : swappedStores [.Tuple [.Name x px, .Name y py] kt pt] (.Tuple [a, b] k2 pt2) X.env = pure (some [x, y]) := by rfl)
    (hs : swapsWithSole [.Tuple [.Name x px, .Name y py] kt pt] (.Tuple [a, b] k2 pt2) pos.line X.env = pure false := by rfl) :
    WS X (.Assign [.Tuple [.Name x px, .Name y py] kt pt] (.Tuple [a, b] k2 pt2) pos) L m D :=
  ws_of (ps_par hc hN hi hj hij hx hy (paU [a, b]) hw hs) fun w σ H r => h.go r fun w1 vs ps m1 H1 l1 r1 d1 ⟨p, q, e1, qq⟩ => by
    subst e1
    obtain ⟨v, u, rfl, d1, d2⟩ := rvs2 d1
    exact ⟨v, u, rfl, w1, _, m1, l1, (r1.set d1).set d2, qq⟩
theorem ws_while (hp : PassesOwn (model X.prog X.w) X.A X.env X.xe) (I : Nat → Loc → Mem → Prop) (n0 : Nat) (h0 : I n0 L m)
    (hs : ∀ n L1 m1, m.length = m1.length → I n L1 m1 → WT X c L1 m1 fun k m2 => (k = true → WSs X body L1 m2 { D with nx := fun L3 m3 => m3.length = m1.length ∧ ∃ n', n' < n ∧ I n' L3 m3, ct := fun L3 m3 => m3.length = m1.length ∧ ∃ n', n' < n ∧ I n' L3 m3, bk := D.nx }) ∧ (k = false → D.nx L1 m2)) : WS X (.While c body [] pos) L m D := by
  refine ws_of (ps_while hp (ptU c) (pssU body)) fun w σ H r => ?_
  refine ⟨fun n σ' H' => ∃ w' L' m', w.le w' ∧ Rep X.K w' L' m' σ' H' ∧ m.length = m'.length ∧ I n L' m', ⟨n0, w, L, m, .refl w, r, rfl, h0⟩, fun n σ1 H1 ⟨w1, L1, m1, l1, r1, hl, q1⟩ => ?_⟩
  refine (hs n L1 m1 hl q1).go r1 fun w2 k m2 H2 l2 r2 ⟨qt, qf⟩ => ?_
  cases k with
  | true =>
    rw [if_pos rfl]
    refine ⟨fun σ' H' => ∃ w' L' m', w.le w' ∧ Rep X.K w' L' m' σ' H' ∧ m.length = m'.length ∧ ∃ n', n' < n ∧ I n' L' m', fun σ' H' ⟨w', L', m', l, r', hl', n', hn, q⟩ => ⟨n', hn, w', L', m', l, r', hl', q⟩, ?_⟩
    refine tUSs_mono (qt rfl w2 σ1 H2 r2) ?_ ?_ ?_ ?_
    · exact fun σ' H' ⟨w', L', m', l, r', hl', q⟩ => ⟨w', L', m', (l1.trans l2).trans l, r', hl.trans hl'.symm, q⟩
    · exact fun v H' q => POV.back (l1.trans l2) q
    · exact fun σ' H' q => POS.back (l1.trans l2) q
    · exact fun σ' H' ⟨w', L', m', l, r', hl', q⟩ => ⟨w', L', m', (l1.trans l2).trans l, r', hl.trans hl'.symm, q⟩
  | false =>
    rw [if_neg Bool.false_ne_true]
    exact ⟨w2, L1, m2, l1.trans l2, r2, qf rfl⟩
structure JOk (K : PySem.W.Frag) (w1 : Wd) (J : It) (xs : List PyData) (g : Mem → Prop) : Prop where
  go : ∀ (w' : Wd) (m' : Mem) (H' : Hp) (i : Nat) (x : PyData), w1.le0 w' → HR K w' m' H' → g m' → xs[i]? = some x → J.go i H' ∧ ∀ v H'', J.yld i H' v H'' → ∃ w'', w'.le w'' ∧ HR K w'' m' H'' ∧ DP K w''.F v x
  stop : ∀ (w' : Wd) (m' : Mem) (H' : Hp) (i : Nat), w1.le0 w' → HR K w' m' H' → g m' → xs.length ≤ i → J.stop i H'
def WI (X : Cx) (tg iter : Expr) (L : Loc) (m : Mem) (Q : List PyData → (Mem → Prop) → Mem → Prop) : Prop := ∀ (w : Wd) (σ : L2.St) (H : Hp), Rep X.K w L m σ H → tUI X tg iter σ H fun J H1 => ∃ w1 m1 xs g, w.le w1 ∧ HR X.K w1 m1 H1 ∧ JOk X.K w1 J xs g ∧ Q xs g m1
theorem WI.go {iter : Expr} {Q : List PyData → (Mem → Prop) → Mem → Prop} (h : WI X tg iter L m Q) {w : Wd} {σ : L2.St} {H : Hp} (r : Rep X.K w L m σ H) {R : It → Hp → Prop} (k : ∀ (w' : Wd) (J : It) (xs : List PyData) (g : Mem → Prop) (m' : Mem) (H' : Hp), w.le w' → Rep X.K w' L m' σ H' → JOk X.K w' J xs g → Q xs g m' → R J H') : tUI X tg iter σ H R :=
  tUI_mono (h w σ H r) fun J H' ⟨w', m', xs, g, l, hr, j, q⟩ => k w' J xs g m' H' l (r.go l hr) j q
structure Wk (n : Nat) (L : Loc) (m : Mem) (L' : Loc) (m' : Mem) : Prop where
  ln : L'.length = L.length
  lc : ∀ (i : Nat) (p : PV), L'[i]? = some (some p) → L[i]? = some (some p) ∧ ∀ k, p = .ref k → k < m'.length
  mm : ∃ j, n ≤ j ∧ m' = m.take j
theorem Wk.refl {n : Nat} (h : n ≤ m.length) (hl : ∀ (i k : Nat), L[i]? = some (some (.ref k)) → k < m.length) : Wk n L m L m := ⟨rfl, fun i p e => ⟨e, fun k e2 => hl i k (e2 ▸ e)⟩, m.length, h, by rw [List.take_length]⟩
theorem Wk.rep {K : PySem.W.Frag} {n : Nat} {L' : Loc} {m' : Mem} {w : Wd} {σ : L2.St} {H : Hp} (k : Wk n L m L' m') (r : Rep K w L m σ H) : ∃ w', Rep K w' L' m' σ H ∧ ∀ w0 : Wd, w0.A.length ≤ n → w0.le w → w0.le w' := by
  obtain ⟨j, hj, rfl⟩ := k.mm
  refine ⟨w.cut j, ⟨r.toHR.cut j, by rw [k.ln]; exact r.sl, fun i p e => ?_⟩, fun w0 h0 l => l.cut (Nat.le_trans h0 hj)⟩
  obtain ⟨e1, hk⟩ := k.lc i p e
  obtain ⟨v, e2, d⟩ := r.loc i p e1
  refine ⟨v, e2, ?_⟩
  cases p with
  | d x => exact d
  | raw u => exact d
  | exc C x => exact d
  | ref kk =>
    obtain ⟨ad, ea, ev⟩ := d
    refine ⟨ad, ?_, ev⟩
    have h1 := hk kk rfl
    show (w.A.take j)[kk]? = some ad
    have : kk < j := by
      rw [List.length_take] at h1
      exact Nat.lt_of_lt_of_le h1 (Nat.min_le_left _ _)
    rw [List.getElem?_take, if_pos this]
    exact ea
theorem ws_for {iter : Expr} (hp : PassesOwn (model X.prog X.w) X.A X.env X.xe) (hc : X.calm = true)
    (h : WI X tg iter L m fun xs g m1 => ∃ I : Nat → Loc → Mem → Prop, I 0 L m1 ∧ (∀ (i : Nat) (x : PyData) (L' : Loc) (m' : Mem), xs[i]? = some x → I i L' m' → g m' ∧ WG X tg x L' m' fun L2 m2 =>
        WSs X body L2 m2 { D with nx := fun L3 m3 => ∃ L4 m4, Wk m'.length L3 m3 L4 m4 ∧ I (i + 1) L4 m4, ct := fun L3 m3 => ∃ L4 m4, Wk m'.length L3 m3 L4 m4 ∧ I (i + 1) L4 m4, bk := D.nx }) ∧ (∀ L' m', I xs.length L' m' → g m' ∧ D.nx L' m'))
    (hs : ∀ x, foldedSetIterable iter X.env x = pure x := by intro _; rfl) : WS X (.For tg iter body [] pos) L m D := by
  refine ws_of (ps_for hp hc (piU tg iter) (pgU tg) (pssU body) hs) fun w σ H r => ?_
  refine h.go r fun w1 J xs g m1 H1 l1 r1 jo ⟨I, i0, it, ie⟩ => ?_
  refine ⟨fun i n σ' H' => n = xs.length - i ∧ i ≤ xs.length ∧ ∃ w' L' m', w1.le w' ∧ Rep X.K w' L' m' σ' H' ∧ I i L' m', ⟨xs.length, by simp, Nat.zero_le _, w1, L, m1, .refl w1, r1, i0⟩, ?_⟩
  rintro i n σ' H' ⟨rfl, hi, w', L', m', l', r', q⟩
  by_cases hlt : i < xs.length
  · refine .inr ?_
    have hx : xs[i]? = some xs[i] := List.getElem?_eq_getElem hlt
    obtain ⟨gm, wg⟩ := it i _ L' m' hx q
    obtain ⟨jg, jy⟩ := jo.go w' m' H' i _ l'.toLe0 r'.toHR gm hx
    refine ⟨jg, fun σ2 H2 => ∃ w2 L2 m2, w1.le w2 ∧ Rep X.K w2 L2 m2 σ2 H2 ∧ I (i + 1) L2 m2, fun σ2 H2 ⟨w2, L2, m2, l2, r2, q2⟩ => ⟨xs.length - (i + 1), by omega, rfl, hlt, w2, L2, m2, l2, r2, q2⟩, fun v H'' y => ?_⟩
    obtain ⟨w2, l2, hr2, d2⟩ := jy v H'' y
    have r2 := r'.go l2 hr2
    have nxt : ∀ (w3 : Wd) (σ3 : L2.St) (H3 : Hp), w2.le w3 → POS X.K w3 (fun L3 m3 => ∃ L4 m4, Wk m'.length L3 m3 L4 m4 ∧ I (i + 1) L4 m4) σ3 H3 → ∃ w2 L2 m2, w1.le w2 ∧ Rep X.K w2 L2 m2 σ3 H3 ∧ I (i + 1) L2 m2 := fun w3 σ3 H3 l3 ⟨w4, L3, m3, l4, r3, L4, m4, k, q4⟩ => by
      obtain ⟨w5, r5, h5⟩ := k.rep r3
      have l24 : w'.le w4 := (l2.trans l3).trans l4
      have : w'.le w5 := h5 w' (by rw [r'.toHR.len]; exact Nat.le_refl _) l24
      exact ⟨w5, L4, m4, l'.trans this, r5, q4⟩
    refine tUG_mono (wg w2 σ' H'' v r2 d2) fun σ3 H3 ⟨w3, L3, m3, l3, r3, q3⟩ => ?_
    refine tUSs_mono (q3 w3 σ3 H3 r3) ?_ ?_ ?_ ?_
    · exact fun σ4 H4 q4 => nxt w3 σ4 H4 l3 q4
    · exact fun v H4 q4 => POV.back (((l1.trans l').trans l2).trans l3) q4
    · exact fun σ4 H4 q4 => POS.back (((l1.trans l').trans l2).trans l3) q4
    · exact fun σ4 H4 q4 => nxt w3 σ4 H4 l3 q4
  · have e : i = xs.length := by omega
    subst e
    obtain ⟨gm, qd⟩ := ie L' m' q
    exact .inl ⟨jo.stop w' m' H' _ l'.toLe0 r'.toHR gm (Nat.le_refl _), w', L', m', l1.trans l', r', qd⟩
end
end PP
namespace PP
open PySem PySem.Spec PyProof.Rows L2
section
variable {X : Cx} {L : Loc} {m : Mem} {e a b c tg : Expr} {pos : Pos} {QI : List PyData → (Mem → Prop) → Mem → Prop}
theorem WV.mono {Q Q' : PV → Mem → Prop} (h : WV X e L m Q) (k : ∀ x m', Q x m' → Q' x m') : WV X e L m Q' := fun w σ H r => tU_mono (h w σ H r) fun _ _ ⟨w', x, m', l, hr, d, q⟩ => ⟨w', x, m', l, hr, d, k _ _ q⟩
theorem wi_of {iter : Expr} {t : TI} (h : PI X tg iter t) (k : ∀ (w : Wd) (σ : L2.St) (H : Hp), Rep X.K w L m σ H → t σ H fun J H1 => ∃ w1 m1 xs g, w.le w1 ∧ HR X.K w1 m1 H1 ∧ JOk X.K w1 J xs g ∧ QI xs g m1) : WI X tg iter L m QI := fun w σ H r pins s I => h.run pins s σ H _ I (k w σ H r)
theorem jok_tup {K : PySem.W.Frag} {w : Wd} {a : Addr} {xs : List PyData} (r : DP K w.F (.ref a) (.tuple xs)) : JOk K w (Itt K a) xs fun _ => True where
  go := fun w' m' H' i x l hr g hx => by
    obtain ⟨ad, vs, e1, e2, d⟩ := dp_tuple (dp_mono l.sub _ _ r)
    cases e1
    obtain ⟨v, hv, dv⟩ := dpa_get d hx
    have e2 := hr.fz.sqt e2
    refine ⟨⟨vs, v, e2, hv⟩, fun u H'' ⟨e3, y⟩ => ?_⟩
    subst e3
    have : u = v := Option.some.inj ((y vs e2).symm.trans hv)
    subst this
    exact ⟨w', .refl w', hr, dv⟩
  stop := fun w' m' H' i l hr g hi => by
    obtain ⟨ad, vs, e1, e2, d⟩ := dp_tuple (dp_mono l.sub _ _ r)
    cases e1
    exact ⟨vs, hr.fz.sqt e2, by rw [dpa_len d]; exact hi⟩
theorem wi_tup (h : WE X e L m fun x m1 => ∃ xs, x = .tuple xs ∧ QI xs (fun _ => True) m1) : WI X tg e L m QI :=
  wi_of (pi_tup (peU e)) fun w σ H r => h.go r fun w1 v p m1 H1 l1 r1 d1 ⟨xs, e1, q⟩ => by
    subst e1
    obtain ⟨ad, vs, rfl, e2, d⟩ := dp_tuple d1
    exact ⟨ad, rfl, ⟨vs, r1.toHR.fz.sqt e2⟩, w1, m1, xs, _, l1, r1.toHR, jok_tup d1, q⟩
theorem rgD3_get {a c : Int} {n i : Nat} {x : PyData} (h : (rgD3 a c n)[i]? = some x) : i < n ∧ x = .int (a + i * c) := by
  unfold rgD3 at h
  rw [List.getElem?_map] at h
  by_cases hi : i < n
  · rw [List.getElem?_range hi] at h
    cases h
    exact ⟨hi, rfl⟩
  · rw [List.getElem?_eq_none (by rw [List.length_range]; omega)] at h; cases h
theorem rgD3_len {a c : Int} {n : Nat} : (rgD3 a c n).length = n := by unfold rgD3; rw [List.length_map, List.length_range]
theorem rgD_get {a b : Int} {i : Nat} {x : PyData} (h : (rgD a b)[i]? = some x) : i < (b - a).toNat ∧ x = .int (a + i) := by
  unfold rgD at h
  rw [List.getElem?_map] at h
  by_cases hi : i < (b - a).toNat
  · rw [List.getElem?_range hi] at h
    cases h
    exact ⟨hi, rfl⟩
  · rw [List.getElem?_eq_none (by rw [List.length_range]; omega)] at h; cases h
theorem rgD_len {a b : Int} : (rgD a b).length = (b - a).toNat := by unfold rgD; rw [List.length_map, List.length_range]
theorem jok_rng {K : PySem.W.Frag} {w : Wd} {a b : Int} : JOk K w (Itr a (b - a).toNat) (rgD a b) fun _ => True where
  go := fun w' m' H' i x l hr g hx => by
    obtain ⟨hi, rfl⟩ := rgD_get hx
    refine ⟨hi, fun u H'' ⟨e3, y⟩ => ?_⟩
    subst e3; subst y
    exact ⟨w', .refl w', hr, .int _⟩
  stop := fun w' m' H' i l hr g hi => by rw [rgD_len] at hi; exact hi
theorem jok_rng3 {K : PySem.W.Frag} {w : Wd} {a c : Int} {n : Nat} : JOk K w (Itc a c n) (rgD3 a c n) fun _ => True where
  go := fun w' m' H' i x l hr g hx => by
    obtain ⟨hi, rfl⟩ := rgD3_get hx
    refine ⟨hi, fun u H'' ⟨e3, y⟩ => ?_⟩
    subst e3; subst y
    exact ⟨w', .refl w', hr, .int _⟩
  stop := fun w' m' H' i l hr g hi => by rw [rgD3_len] at hi; exact hi
theorem wi_rng1 {p : Pos} (hm : X.mg "range" = none) (h : WE X a L m fun x m1 => ∃ n, x = .int n ∧ -(2 ^ 62) ≤ n ∧ n < 2 ^ 62 ∧ QI (rgD 0 n) (fun _ => True) m1) (hg : Gl X "range" := by rfl) (hs : starEach [a] X.env = [(false, eval a X.env)] := by rfl)
    (he : starEach [a] X.env = (false, eval a X.env) :: starEach [] X.env := by rfl) : WI X tg (.Call (.Name "range" p) [a] [] pos) L m QI :=
  wi_of (pi_range1 hg hm (paU [a]) hs) fun w σ H r => WA.go (wd1 h he) r fun w1 vs ps m1 H1 l1 r1 d1 ⟨x, e1, n, e2, n1, n2, q⟩ => by
    subst e1; subst e2
    obtain ⟨v, rfl, d2⟩ := rvs1 d1
    refine ⟨n, by rw [dp_int d2], n1, n2, w1, m1, rgD 0 n, _, l1, r1.toHR, ?_, q⟩
    have := jok_rng (K := X.K) (w := w1) (a := 0) (b := n)
    rwa [Int.sub_zero] at this
end
def enD (xs : List PyData) : List PyData := xs.zipIdx.map fun p => .tuple [.int (p.2 : Int), p.1]
theorem enD_get {xs : List PyData} {i : Nat} {x : PyData} (h : (enD xs)[i]? = some x) : ∃ y, xs[i]? = some y ∧ x = .tuple [.int (i : Int), y] := by
  unfold enD at h
  rw [List.getElem?_map, List.getElem?_zipIdx] at h
  cases e : xs[i]? with
  | none => rw [e] at h; cases h
  | some y => rw [e] at h; simp at h; exact ⟨y, rfl, h.symm⟩
theorem enD_len {xs : List PyData} : (enD xs).length = xs.length := by unfold enD; rw [List.length_map, List.length_zipIdx]
theorem HR.pair {K : PySem.W.Frag} {w : Wd} {m : Mem} {H : Hp} {T : Addr} {v u : V} {x y : PyData} (hr : HR K w m H) (hT : H T = none) (d1 : DP K w.F v x) (d2 : DP K w.F u y) : ∃ w', w.le w' ∧ HR K w' m (upd H T (.tup [v, u])) ∧ DP K w'.F (.ref T) (.tuple [x, y]) := by
  obtain ⟨l, hr2⟩ := hr.fnew (o := .tup [v, u]) hT
  exact ⟨_, l, hr2, .tup (.of upd_same) (.cons (dp_mono l.sub _ _ d1) (.cons (dp_mono l.sub _ _ d2) .nil))⟩
set_option maxHeartbeats 1000000 in
theorem meets_enumerate_new1 {v : Value} {o : Obj} {H : Heap → Prop} (B : Begins v o H) :
    Meets (Builtin.«enumerate.__new__» ⟨[.type "enumerate", v], []⟩) (fun _ R s => H s.heap ∧
      R (.ok (.ret (.ref (s.heap.push o).objs.size))) { s with heap := (s.heap.push o).push { cls := .type "enumerate", data := .fields #[.none, .bool false, .ref s.heap.objs.size, rawInt 0, .none, .none] } }) :=
  .of_wp fun prog w A R s h => by
    obtain ⟨hp, g, d, tk, os⟩ := s; obtain ⟨h1, h⟩ := h
    have hsub := sub_enumerate
    have q1 : ∀ {A' : Around} {E : Value → Shared → Prop} {Q : Value → Shared → Prop}, Q (.ref hp.objs.size) ⟨hp.push o, g, d, tk, os⟩ → wpAny (model prog w) A' (pyIter v) Q E ⟨hp, g, d, tk, os⟩ :=
      fun q => B.iter prog w _ _ ⟨hp, g, d, tk, os⟩ _ h1 q
    wp_walk using q1
    refine wpAny_stack_any fun st => wpAny_pure ?_
    split
    · rename_i c _ _ _ _ _
      cases (c == Value.type "enumerate")
      · wp_walk using q1
        exact ⟨_, rfl, h⟩
      · wp_walk using q1
        exact ⟨_, rfl, h⟩
    · wp_walk using q1
      exact ⟨_, rfl, h⟩
section
variable {prog : Program} {w : World} {A : Around} {E : Value → Shared → Prop} {s : Shared}
theorem enum_begins1 {v : Value} {o : Obj} {H : Heap → Prop} {Q : Value → Shared → Prop} (B : Begins v o H) (h1 : H s.heap)
    (h : ∀ h', IsEnum h' (s.heap.objs.size + 1) s.heap.objs.size 0 .none → h'.get? s.heap.objs.size = some o → h'.objs.size = s.heap.objs.size + 2 →
      (∀ b o, s.heap.get? b = some o → h'.get? b = some o) → Q (.ref (s.heap.objs.size + 1)) { s with heap := h' }) :
    wpAny (model prog w) A (call (.type "enumerate") [v]) Q E s := by
  refine callType_new F.called_enumerate (by decide) (F.typeCall_enumerate_1 _) (F.newCall_enumerate_1 _) (fun obj => F.args_object_init_2 obj _) F.entry_enumerate_new
    (meets_enumerate_new1 B) ⟨h1, ?_⟩
  have hz : (s.heap.push o).objs.size = s.heap.objs.size + 1 := Heap.size_push ..
  show _ ∧ _
  rw [hz]
  have he : IsEnum ((s.heap.push o).push { cls := .type "enumerate", data := .fields #[.none, .bool false, .ref s.heap.objs.size, rawInt 0, .none, .none] }) (s.heap.objs.size + 1) s.heap.objs.size 0 .none := by
    have := Heap.get?_push_size (s.heap.push o) (o := { cls := .type "enumerate", data := .fields #[.none, .bool false, .ref s.heap.objs.size, rawInt 0, .none, .none] }) rfl
    rw [hz] at this; exact this
  refine ⟨⟨_, he, rfl⟩, h _ he (Heap.get?_push_of_some _ (Heap.get?_push_size _ B.free)) (by rw [Heap.size_push, hz]) fun b o x => Heap.get?_push_of_some _ (Heap.get?_push_of_some _ x)⟩
end
def IteT (K : PySem.W.Frag) (a : Addr) : It :=
  ⟨fun i H => ∃ (xs : List V) (x : V), SqT K H a xs ∧ xs[i]? = some x, fun i H v H' => ∃ T x, v = .ref T ∧ H T = none ∧ H' = upd H T (.tup [.int (i : Nat), x]) ∧ ∀ xs, SqT K H a xs → xs[i]? = some x, fun i H => ∃ xs : List V, SqT K H a xs ∧ xs.length ≤ i⟩
theorem turn_enumT {P : Program} {w : World} {K : PySem.W.Frag} {elts : List Expr} {kk : Nat} {tpos : Pos} (a e it : Addr) (items : Array Value) :
    Turn P w K (.Tuple elts kk tpos) (IteT K a) [e, it] e (fun i h => (∃ old, IsEnum h e it ((i : Nat) : Int) old) ∧ h.IsTupleIter it a i ∧ e ≠ it) where
  mem := by simp
  obj := fun i h st b hb => by
    obtain ⟨⟨old, he⟩, ⟨o, ho, hc, hd⟩, _⟩ := st
    have e' : b = e ∨ b = it := by simpa using hb
    rcases e' with z | z
    · rw [z]; exact ⟨_, he, fun v q => nomatch q⟩
    · rw [z]; exact ⟨o, ho, fun v q => by rw [hd] at q; cases q⟩
  keep := fun i h h' st k => let ⟨⟨old, he⟩, hi, hne⟩ := st; ⟨⟨old, k e (by simp) _ he⟩, hi.at fun o q => k it (by simp) o q, hne⟩
  item := by
    intro X hP hw hK hc i pins s σ H E I hf st hg
    subst hP hw hK
    obtain ⟨⟨old, he⟩, hit, hne⟩ := st
    obtain ⟨xs, x, hq, hx⟩ := hg
    obtain ⟨its, rv, p, hz⟩ := I.tuple hq
    obtain ⟨u, hu, ru⟩ := rv.get hx
    have hel : e < s.heap.objs.size := Heap.lt_size he
    have hil : it < s.heap.objs.size := by obtain ⟨_, q, _⟩ := hit; exact Heap.lt_size q
    have hpt : s.heap.IsTuple a its.toArray := p
    obtain ⟨oa, hoa, hca, na, hda⟩ := hpt
    have hne2 : a ≠ it := fun z => by
      obtain ⟨oi, hoi, hci, hdi⟩ := hit
      rw [z, hoi] at hoa; cases hoa; rw [hdi] at hda; cases hda
    have hea : e ≠ a := fun z => by
      have he2 : s.heap.get? e = _ := he
      rw [z, hoa] at he2
      have := Option.some.inj he2
      rw [this] at hda
      cases hda
    have D := Draws.tuple (prog := X.prog) (w := X.w) (A := X.A.in1) (I.ok.hd hc) it a hne2 its.toArray
    refine wpAny_pyNext_enum_itemD D he ⟨hit, p⟩ (by rw [List.size_toArray]; exact (List.getElem?_eq_some_iff.mp hu).1) hne (by simp [hne, hea]) fun y h' tk hy ho hst' hT hsz hk => ?_
    have ey : y = u := by
      have hy' : its[i]? = some y := by simpa using hy
      rw [hu] at hy'; exact (Option.some.inj hy').symm
    subst ey
    refine ⟨_, rfl, wpAny_letOwnedTupleGo_enum (s := { s with heap := h', toks := tk + 1 }) ho fun h'' he' sb => ?_⟩
    have hT2 : h''.get? s.heap.objs.size = some { cls := .type "tuple", data := .seq #[.int i tk, y] } := (sb.2 _ (Nat.ne_of_gt hel)).trans hT
    have new : ObjOk X.prog X.w (upd H s.heap.objs.size (.tup [.int (i : Nat), x])) h'' s.heap.objs.size (.tup [.int (i : Nat), x]) :=
      ⟨by show 2 ≤ sizeLine; decide, [.int i tk, y], .cons ⟨_, rfl⟩ (.cons ru .nil), ⟨_, hT2, rfl, _, rfl⟩⟩
    have I1 : Inv X pins σ (upd H s.heap.objs.size (.tup [.int (i : Nat), x])) { s with heap := h'', toks := tk + 1 } :=
      I.turnedNew (ch := [e, it]) (fun b ob hb q => (sb.2 b (fun z => hb (by simp [z]))).trans (hk b ob (fun z => hb (by simp [z])) (fun z => hb (by simp [z])) q)) hf (Nat.le_refl _) new
    refine ⟨.ref s.heap.objs.size, _, I1, rfl, ⟨_, x, rfl, I.hok.fresh (Nat.le_refl _), rfl, fun ys hy => by rw [I.tuple_inj hy hq]; exact hx⟩, ⟨⟨y, ?_⟩, hst'.1.at fun o q => (sb.2 it (Ne.symm hne)).trans q, hne⟩, fun b hb => ?_⟩
    · have e1 : ((i + 1 : Nat) : Int) = (i : Int) + 1 := by omega
      rw [e1]; exact he'
    · have hb' : b < s.heap.objs.size := by
        have e' : b = e ∨ b = it := by simpa using hb
        rcases e' with z | z
        · rw [z]; exact hel
        · rw [z]; exact hil
      rw [upd_ne (Nat.ne_of_lt hb')]
      exact (hf b hb).1
  done := by
    intro X hP hw hK hc i pins s σ H E I hf st hg
    subst hP hw hK
    obtain ⟨⟨old, he⟩, hit, hne⟩ := st
    obtain ⟨xs, hq, hx⟩ := hg
    obtain ⟨its, rv, p, hz⟩ := I.tuple hq
    obtain ⟨f0, f1, f2, f3, f4, f5⟩ := hf it (by simp)
    have hl := rv.length
    have hpt : s.heap.IsTuple a its.toArray := p
    obtain ⟨oa, hoa, hca, na, hda⟩ := hpt
    have hne2 : a ≠ it := fun z => by
      obtain ⟨oi, hoi, hci, hdi⟩ := hit
      rw [z, hoi] at hoa; cases hoa; rw [hdi] at hda; cases hda
    have hT : s.TypeIs (.ref e) "enumerate" := ⟨_, he, rfl⟩
    unfold pyNext
    refine wpAny_bind (wpAny_attempt (wpAny_callSpecial?_slot (name := Str.ofString "__next__") hT F.slot_enumerate_next
      (wpAny_call_entry F.slot_enumerate_next hT F.entry_enumerate_next ?_ (F.args_enumerate_next_1 _))))
    show wpAny _ _ (field (.ref e) 2 >>= _) _ _ _
    refine wpAny_bind (wpAny_field he rfl (x := .ref it) rfl ?_)
    refine wpAny_bind (wpAny_nextOf_tuple_end (I.ok.hd hc) hit p (by simp; omega) fun h' x he' hx' => ?_)
    obtain ⟨o, ho, hc⟩ := hx'
    refine wpAny_bind (wpAny_isInstance (T := "StopIteration") (b := true) ⟨o, ho, hc⟩ isSubtype_stop ?_)
    exact wpAny_pure ⟨rfl, I.turned (t' := s.toks) (fun b o hb q => he' b o hb q) f0 f1 f3 f4 f5⟩
  self := fun A i s Q E st h => let ⟨⟨_, he⟩, _⟩ := st; wpAny_pyIter_enum he h
section
variable {X : Cx} {L : Loc} {m : Mem} {e a b c tg : Expr} {pos : Pos} {QI : List PyData → (Mem → Prop) → Mem → Prop}
theorem pi_enumT {e : Expr} {ta : TA} {p pos tpos : Pos} {elts : List Expr} {kk : Nat} (hg : Gl X "enumerate") (hm : X.mg "enumerate" = none) (ha : PA X [e] ta) (hs : starEach [e] X.env = [(false, eval e X.env)] := by rfl) :
    PI X (.Tuple elts kk tpos) (.Call (.Name "enumerate" p) [e] [] pos) (fun σ H R => ta σ H fun vs H1 => ∃ a xs, vs = [.ref a] ∧ SqT X.K H1 a xs ∧ R (IteT X.K a) H1) := by
  refine ⟨fun pins s σ H R I h => ?_⟩
  refine Call_ (ld_blt I hg hm boot_enumerate (PyProof.Rows.callWith_type1 (thn (ha.run pos pins s σ H _ I h) fun us s1 ⟨vs, H1, I1, r1, q1⟩ => ?_) hs rfl))
  obtain ⟨a, xs, ex, hq, q⟩ := q1
  subst ex
  cases r1 with
  | cons r rr =>
    cases rr
    cases r
    obtain ⟨its, rv, p', hz⟩ := I1.tuple hq
    refine enum_begins1 (begins_tuple a its.toArray) p' fun h' he hit hsz hk => wpAny_pyIter_enum he ?_
    have I2 : Inv X pins σ H1 { s1 with heap := h' } := I1.kept (t' := s1.toks) hk
    refine ⟨s1.heap.objs.size + 1, [s1.heap.objs.size + 1, s1.heap.objs.size], _, _, H1, rfl, I2, turn_enumT a (s1.heap.objs.size + 1) s1.heap.objs.size its.toArray, ⟨⟨.none, he⟩, ⟨_, hit, rfl, rfl⟩, Nat.succ_ne_self _⟩, fun b hb => ?_, q⟩
    have e' : b = s1.heap.objs.size + 1 ∨ b = s1.heap.objs.size := by simpa using hb
    have hle : s1.heap.objs.size ≤ b := by
      rcases e' with z | z
      · rw [z]; exact Nat.le_add_right _ _
      · rw [z]; exact Nat.le_refl _
    exact I1.fpOk hle (I1.hok.fresh hle)
theorem wi_enumT {p tpos : Pos} {elts : List Expr} {kk : Nat} (hm : X.mg "enumerate" = none) (h : WE X a L m fun x m1 => ∃ xs, x = .tuple xs ∧ QI (enD xs) (fun _ => True) m1) (hg : Gl X "enumerate" := by rfl) (hs : starEach [a] X.env = [(false, eval a X.env)] := by rfl)
    (he : starEach [a] X.env = (false, eval a X.env) :: starEach [] X.env := by rfl) : WI X (.Tuple elts kk tpos) (.Call (.Name "enumerate" p) [a] [] pos) L m QI :=
  wi_of (pi_enumT hg hm (paU [a]) hs) fun w σ H r => WA.go (wd1 h he) r fun w1 vs ps m1 H1 l1 r1 d1 ⟨x, e1, xs, e2, q⟩ => by
    subst e1; subst e2
    obtain ⟨v, rfl, d2⟩ := rvs1 d1
    obtain ⟨ad, vs, rfl, e3, d⟩ := dp_tuple d2
    refine ⟨ad, vs, rfl, r1.toHR.fz.sqt e3, w1, m1, enD xs, _, l1, r1.toHR, ⟨fun w' m' H' i x l hr _ hx => ?_, fun w' m' H' i l hr _ hi => ?_⟩, q⟩
    · obtain ⟨y, hy, rfl⟩ := enD_get hx
      obtain ⟨ad', vs', e4, e5, d'⟩ := dp_tuple (dp_mono l.sub _ _ d2)
      cases e4
      obtain ⟨v, hv, dv⟩ := dpa_get d' hy
      have e5 := hr.fz.sqt e5
      refine ⟨⟨vs', v, e5, hv⟩, fun u H'' ⟨T, x, e6, hT, e7, yy⟩ => ?_⟩
      have : x = v := Option.some.inj ((yy vs' e5).symm.trans hv)
      subst this; subst e6; subst e7
      exact hr.pair hT (.int _) dv
    · obtain ⟨ad', vs', e4, e5, d'⟩ := dp_tuple (dp_mono l.sub _ _ d2)
      cases e4
      rw [enD_len] at hi
      exact ⟨vs', hr.fz.sqt e5, by rw [dpa_len d']; exact hi⟩
end
end PP
namespace PP
open PySem PySem.Spec PyProof.Rows L2
section
variable {K : PySem.W.Frag} {w w' : Wd} {L : PP.Loc} {m m' : Mem} {σ : L2.St} {H H' : Hp} {D : Addr} {o o' : HO}
theorem Rep.go0 (h : Rep K w L m σ H) (l : w.le0 w') (r : HR K w' m' H') : Rep K w' L m' σ H' :=
  ⟨r, h.sl, fun i p e => let ⟨v, e1, q⟩ := h.loc i p e; ⟨v, e1, q.mono l⟩⟩
def Wd.hide (w : Wd) (D : Addr) (o : HO) : Wd := { w with T := (D, o) :: w.T }
theorem Wd.le0_hide (w : Wd) (D : Addr) (o : HO) : w.le0 (w.hide D o) := ⟨⟨[], by simp [Wd.hide]⟩, Sub.refl _⟩
theorem HR.hide (h : HR K w m H) (u : Un1 w D) (e : H D = some o) : HR K (w.hide D o) m H :=
  ⟨h.fz, h.len, h.nd, h.sep, h.occ, fun p hp => by
    rcases List.mem_cons.mp hp with z | z
    · subst z; exact ⟨e, u.f, u.a⟩
    · exact h.tp p z, by
    show ((D, o) :: w.T |>.map (·.1)).Nodup
    rw [List.map_cons, List.nodup_cons]
    exact ⟨u.t, h.tnd⟩, fun k c e => let ⟨a, x, e1, e2, r⟩ := h.cell k c e; ⟨a, x, e1, e2, r.mono (Sub.refl _)⟩⟩
theorem HR.unhide (h : HR K (w.hide D o) m H) : HR K w m H ∧ Un1 w D ∧ H D = some o := by
  obtain ⟨e1, e2, e3⟩ := h.tp (D, o) List.mem_cons_self
  have nd : ((D, o) :: w.T |>.map (·.1)).Nodup := h.tnd
  rw [List.map_cons, List.nodup_cons] at nd
  exact ⟨⟨h.fz, h.len, h.nd, h.sep, h.occ, fun p hp => h.tp p (List.mem_cons_of_mem _ hp), nd.2, fun k c e => let ⟨a, x, e1, e2, r⟩ := h.cell k c e; ⟨a, x, e1, e2, r.mono (Sub.refl _)⟩⟩, ⟨e2, e3, nd.1⟩, e1⟩
theorem HR.updUn (h : HR K w m H) (u : Un1 w D) : HR K w m (upd H D o) := by
  refine ⟨fun a x e => ?_, h.len, h.nd, h.sep, fun a ha => ?_, fun q hq => ?_, h.tnd, fun k c e => ?_⟩
  · have hne : a ≠ D := fun z => by rw [z, u.f] at e; cases e
    rw [upd_ne hne]; exact h.fz a x e
  · have hne : a ≠ D := fun z => u.a (z ▸ ha)
    rw [upd_ne hne]; exact h.occ a ha
  · obtain ⟨e1, e2, e3⟩ := h.tp q hq
    have hne : q.1 ≠ D := fun z => u.t (z ▸ List.mem_map_of_mem hq)
    exact ⟨by rw [upd_ne hne]; exact e1, e2, e3⟩
  · obtain ⟨a, x, e1, e2, r⟩ := h.cell k c e
    have hne : a ≠ D := fun z => u.a (z ▸ List.mem_of_getElem? e1)
    exact ⟨a, x, e1, by rw [upd_ne hne]; exact e2, r⟩
theorem le_hide {w'' : Wd} (l : (w.hide D o).le w'') : ∃ w3, w'' = w3.hide D o ∧ w.le w3 := by
  refine ⟨{ w'' with T := w.T }, ?_, ⟨⟨l.pre, l.sub⟩, rfl⟩⟩
  obtain ⟨A, T, F⟩ := w''
  have e : T = (D, o) :: w.T := l.hid
  subst e
  rfl
def wipeL (L : PP.Loc) : List Nat → PP.Loc
  | [] => L
  | v :: vs => (wipeL L vs).set v none
theorem wipeL_length (L : PP.Loc) : ∀ vs : List Nat, (wipeL L vs).length = L.length
  | [] => rfl
  | v :: vs => by unfold wipeL; rw [List.length_set, wipeL_length L vs]
theorem wipeL_some {i : Nat} {x : PV} : ∀ {vs : List Nat}, (wipeL L vs)[i]? = some (some x) → L[i]? = some (some x) ∧ i ∉ vs
  | [], h => ⟨h, by simp⟩
  | v :: vs, h => by
    unfold wipeL at h
    by_cases hi : v = i
    · subst hi
      by_cases hv : v < (wipeL L vs).length
      · rw [List.getElem?_set_self hv] at h; cases h
      · rw [List.getElem?_eq_none (by simpa using hv)] at h; cases h
    · rw [List.getElem?_set_ne hi] at h
      obtain ⟨h1, h2⟩ := wipeL_some h
      exact ⟨h1, by simp only [List.mem_cons, not_or]; exact ⟨fun e => hi e.symm, h2⟩⟩
theorem Rep.wipe (h : Rep K w L m σ H) (vs : List Nat) : Rep K w (wipeL L vs) m (L2.wipe σ vs) H :=
  ⟨h.toHR, by rw [wipe_length, wipeL_length]; exact h.sl, fun i p e => by
    obtain ⟨e1, hi⟩ := wipeL_some e
    obtain ⟨v, e2, d⟩ := h.loc i p e1
    exact ⟨v, by rw [wipe_out hi]; exact e2, d⟩⟩
theorem wipe_in {i : Nat} : ∀ {vs : List Nat}, i ∈ vs → i < σ.length → (L2.wipe σ vs)[i]? = some none
  | v :: vs, h, hl => by
    unfold L2.wipe
    by_cases e : v = i
    · subst e
      rw [List.getElem?_set_self (by rw [wipe_length]; exact hl)]
    · rw [List.getElem?_set_ne e]
      exact wipe_in ((List.mem_cons.mp h).resolve_left (Ne.symm e)) hl
theorem wipe_eq {σ' : L2.St} {vs : List Nat} (hl : σ'.length = σ.length) (h : ∀ i, i ∉ vs → σ'[i]? = (L2.wipe σ vs)[i]?) : L2.wipe σ' vs = L2.wipe σ vs := by
  apply List.ext_getElem?
  intro i
  by_cases hi : i ∈ vs
  · by_cases hs : i < σ.length
    · rw [wipe_in hi (by omega), wipe_in hi hs]
    · rw [List.getElem?_eq_none (by rw [wipe_length]; omega), List.getElem?_eq_none (by rw [wipe_length]; omega)]
  · rw [wipe_out hi, h i hi]
end
inductive Pat where
  | nm (j : Nat)
  | tp (js : List Nat)
def gNames : List Nat → TGs
  | [] => gNil
  | j :: js => gCons (gName j) (gNames js)
def gP (K : PySem.W.Frag) : Pat → TG
  | .nm j => gName j
  | .tp js => gTup K js.length (gNames js)
def Pat.slots : Pat → List Nat
  | .nm j => [j]
  | .tp js => js
def setN (L : PP.Loc) : List Nat → List PyData → PP.Loc
  | j :: js, x :: xs => setN (L.set j (some (.d x))) js xs
  | _, _ => L
def setP (L : PP.Loc) : Pat → PyData → Option PP.Loc
  | .nm j, x => some (L.set j (some (.d x)))
  | .tp js, .tuple xs => if xs.length = js.length then some (setN L js xs) else none
  | .tp _, _ => none
section
variable {K : PySem.W.Frag} {w : Wd} {m : Mem}
theorem gNames_ok {H : Hp} {Q : L2.St → Hp → Prop} {vsl : List Nat} : ∀ {js : List Nat} {xs : List PyData} {vs : List V} {σ : L2.St} {L : PP.Loc}, xs.length = js.length → DPs K w.F vs xs → Rep K w L m σ H → (∀ j ∈ js, j ∈ vsl) →
    (∀ σ', σ'.length = σ.length → Rep K w (setN L js xs) m σ' H → (∀ i, i ∉ vsl → σ'[i]? = σ[i]?) → Q σ' H) → gNames js vs σ H Q
  | [], [], _, σ, L, _, d, r, _, k => by
    cases d
    exact ⟨rfl, k σ rfl r fun _ _ => rfl⟩
  | j :: js, x :: xs, _, σ, L, hl, d, r, hj, k => by
    cases d with
    | cons d1 d2 =>
      refine ⟨_, _, rfl, ?_⟩
      show gNames js _ (σ.set j (some _)) H Q
      refine gNames_ok (by simpa using hl) d2 (r.set (p := .d x) d1) (fun i hi => hj i (List.mem_cons_of_mem _ hi)) fun σ' e1 r' h' => k σ' (by rw [e1, List.length_set]) r' fun i hi => ?_
      rw [h' i hi, List.getElem?_set_ne (fun z => hi (by rw [← z]; exact hj j List.mem_cons_self))]
  | [], _ :: _, _, _, _, hl, _, _, _, _ => by simp at hl
  | _ :: _, [], _, _, _, hl, _, _, _, _ => by simp at hl
theorem gP_ok {H : Hp} {σ : L2.St} {L Lx : PP.Loc} {Q : L2.St → Hp → Prop} {vsl : List Nat} {pat : Pat} {x : PyData} {v : V} (d : DP K w.F v x) (r : Rep K w L m σ H) (hp : ∀ j ∈ pat.slots, j ∈ vsl) (hs : setP L pat x = some Lx)
    (k : ∀ σ', σ'.length = σ.length → Rep K w Lx m σ' H → (∀ i, i ∉ vsl → σ'[i]? = σ[i]?) → Q σ' H) : gP K pat v σ H Q := by
  cases pat with
  | nm j =>
    cases hs
    exact k _ (List.length_set ..) (r.set (p := .d x) d) fun i hi => by rw [List.getElem?_set_ne (fun z => hi (by rw [← z]; exact hp j List.mem_cons_self))]
  | tp js =>
    cases x with
    | tuple xs =>
      have hs : (if xs.length = js.length then some (setN L js xs) else none) = some Lx := hs
      split at hs
      · rename_i hl
        cases hs
        obtain ⟨a, vs, rfl, e1, d1⟩ := dp_tuple d
        exact ⟨a, vs, rfl, r.toHR.fz.sqt e1, by rw [dpa_len d1]; exact hl, gNames_ok hl d1 r hp k⟩
      · cases hs
    | none => cases hs
    | bool _ => cases hs
    | int _ => cases hs
    | str _ => cases hs
    | list _ => cases hs
    | dict _ => cases hs
end
abbrev BX (X : Cx) (scope : Scope) (s : Shared) (H : Hp) (C : Addr) (cl : List (Str × Addr)) (fp : List Addr) : Cx := X.blk s H scope (compEnvC scope cl C X.env) fp
def WEb (X : Cx) (scope : Scope) (e : Expr) (L : PP.Loc) (m : Mem) (Q : QE) : Prop := ∀ (s : Shared) (H : Hp) (C : Addr) (cl : List (Str × Addr)) (fp : List Addr), WE (BX X scope s H C cl fp) e L m Q
section
variable {X : Cx} {L : PP.Loc} {m : Mem} {elt tg iter c : Expr} {ifs : List Expr} {scope : Scope} {own : List (Str × Nat)} {pos : Pos} {pat : Pat} {Q : List PyData → Mem → Prop}
theorem lc_read {tt : TT} {te : TE} {w : Wd} {σ : L2.St} {H : Hp} (rp : Rep X.K w L m σ H) (hp : ∀ j ∈ pat.slots, j ∈ own.map (·.2))
    (h : WI X tg iter L m fun xs g m1 => xs.length ≤ sizeLine ∧ ∃ I : Nat → List PyData → Mem → Prop, I 0 [] m1 ∧
      (∀ (i : Nat) (x : PyData) (ys : List PyData) (m' : Mem), xs[i]? = some x → ys.length ≤ i → I i ys m' → g m' ∧ ∃ Lx, setP (wipeL L (own.map (·.2))) pat x = some Lx ∧
        ∀ (w : Wd) (σ : L2.St) (H : Hp), Rep X.K w Lx m' σ H → tt σ H fun b H3 => ∃ w3 m3, w.le w3 ∧ HR X.K w3 m3 H3 ∧ (b = true → ∀ (w : Wd) (H : Hp), Rep X.K w Lx m3 σ H → te σ H (POE X.K w fun y m4 => I (i + 1) (ys ++ [y]) m4)) ∧ (b = false → I (i + 1) ys m3)) ∧
      ∀ ys m', ys.length ≤ xs.length → I xs.length ys m' → g m' ∧ Q ys m')
    (ttm : ∀ (σ : L2.St) (H : Hp) (Q Q' : Bool → Hp → Prop), (∀ b H', Q b H' → Q' b H') → tt σ H Q → tt σ H Q') (tem : ∀ (σ : L2.St) (H : Hp) (Q Q' : VK), (∀ b H', Q b H' → Q' b H') → te σ H Q → te σ H Q') :
    tLc (tUI X tg iter) (gP X.K pat) tt te (own.map (·.2)) σ H (PF X.K w Q) := by
  refine h.go rp fun w1 J xs g m1 H1 l1 r1 jo ⟨hz, I, i0, it, ie⟩ => ?_
  intro D hD
  generalize hvs : own.map (·.2) = vs at *
  obtain ⟨hr0, u0⟩ := r1.toHR.un (o := .lst []) hD
  refine ⟨fun i n H' => n = xs.length - i ∧ i ≤ xs.length ∧ ∃ w' m' ys us, w1.le w' ∧ HR X.K (w'.hide D (.lst us)) m' H' ∧ DPs X.K w'.F us ys ∧ ys.length ≤ i ∧ I i ys m', ⟨xs.length, by simp, Nat.zero_le _, w1, m1, [], [], .refl w1, hr0.hide u0 upd_same, .nil, Nat.le_refl _, i0⟩, ?_⟩
  rintro i n H' ⟨rfl, hi, w', m', ys, us, l', hr', d', hy, q⟩
  by_cases hlt : i < xs.length
  · refine .inr ?_
    have hx : xs[i]? = some xs[i] := List.getElem?_eq_getElem hlt
    obtain ⟨gm, Lx, hs, tst⟩ := it i _ ys m' hx hy q
    obtain ⟨jg, jy⟩ := jo.go (w'.hide D (.lst us)) m' H' i _ (l'.toLe0.trans (Wd.le0_hide _ _ _)) hr' gm hx
    refine ⟨jg, fun H2 => ∃ w2 m2 ys us, w1.le w2 ∧ HR X.K (w2.hide D (.lst us)) m2 H2 ∧ DPs X.K w2.F us ys ∧ ys.length ≤ i + 1 ∧ I (i + 1) ys m2, fun H2 ⟨w2, m2, ys, us, a, b, c, d, e⟩ => ⟨xs.length - (i + 1), by omega, rfl, hlt, w2, m2, ys, us, a, b, c, d, e⟩, fun v H'' y => ?_⟩
    obtain ⟨w2, l2, hr2, d2⟩ := jy v H'' y
    obtain ⟨w3, rfl, l3⟩ := le_hide l2
    have r2 : Rep X.K (w3.hide D (.lst us)) L m' σ H'' := r1.go0 ((l'.trans l3).toLe0.trans (Wd.le0_hide _ _ _)) hr2
    refine gP_ok d2 (r2.wipe vs) hp hs fun σ' e1 r3 e2 => ⟨?_, ?_⟩
    · exact wipe_eq (by rw [e1, wipe_length]) e2
    refine ttm _ _ _ _ (fun b H3 ⟨w4, m3, l4, hr4, qt, qf⟩ => ?_) (tst _ σ' H'' r3)
    obtain ⟨w5, rfl, l5⟩ := le_hide l4
    cases b with
    | true =>
      rw [if_pos rfl]
      refine tem _ _ _ _ (fun v4 H4 ⟨w6, y, m4, l6, hr6, d6, q6⟩ => ?_) (qt rfl _ H3 (r3.go l4 hr4))
      obtain ⟨w7, rfl, l7⟩ := le_hide l6
      obtain ⟨hr7, u7, e7⟩ := hr6.unhide
      have lall : w'.le w7 := (l3.trans l5).trans l7
      have dus := dpa_mono lall.sub _ _ d'
      refine ⟨us, e7, by rw [dpa_len d']; omega, w7, m4, ys ++ [y], us ++ [v4], l'.trans lall, (hr7.updUn u7).hide u7 upd_same, dpa_app dus (.cons d6 .nil), by rw [List.length_append]; simp; omega, q6⟩
    | false =>
      rw [if_neg Bool.false_ne_true]
      have lall : w'.le w5 := l3.trans l5
      exact ⟨w5, m3, ys, us, l'.trans lall, hr4, dpa_mono lall.sub _ _ d', by omega, qf rfl⟩
  · have e : i = xs.length := by omega
    subst e
    obtain ⟨gm, qd⟩ := ie ys m' hy q
    obtain ⟨hr7, u7, e7⟩ := hr'.unhide
    exact .inl ⟨jo.stop (w'.hide D (.lst us)) m' H' _ (l'.toLe0.trans (Wd.le0_hide _ _ _)) hr' gm (Nat.le_refl _), w', ys, m', D, us, rfl, l1.trans l', hr7, e7, u7, d', qd⟩
def tUb (X : Cx) (scope : Scope) (e : Expr) : TE := fun σ H Q => ∀ (s : Shared) (H0 : Hp) (C : Addr) (cl : List (Str × Addr)) (fp : List Addr), tU (BX X scope s H0 C cl fp) e σ H Q
theorem peUb (e : Expr) (s : Shared) (H : Hp) (C : Addr) (cl : List (Str × Addr)) (fp : List Addr) : PE (BX X scope s H C cl fp) e (tUb X scope e) := ⟨fun pins s1 _ _ _ I h => h s H C cl fp pins s1 I⟩
abbrev LcAsk (X : Cx) (L : PP.Loc) (m : Mem) (elt tg iter : Expr) (scope : Scope) (own : List (Str × Nat)) (pat : Pat) (Q : List PyData → Mem → Prop) : Prop :=
  WI X tg iter L m fun xs g m1 => xs.length ≤ sizeLine ∧ ∃ I : Nat → List PyData → Mem → Prop, I 0 [] m1 ∧
      (∀ (i : Nat) (x : PyData) (ys : List PyData) (m' : Mem), xs[i]? = some x → ys.length ≤ i → I i ys m' → g m' ∧ ∃ Lx, setP (wipeL L (own.map (·.2))) pat x = some Lx ∧ WEb X scope elt Lx m' fun y m4 => I (i + 1) (ys ++ [y]) m4) ∧
      ∀ ys m', ys.length ≤ xs.length → I xs.length ys m' → g m' ∧ Q ys m'
theorem lc_read0 {w : Wd} {σ : L2.St} {H : Hp} (rp : Rep X.K w L m σ H) (hp : ∀ j ∈ pat.slots, j ∈ own.map (·.2)) (h : LcAsk X L m elt tg iter scope own pat Q) : tLc (tUI X tg iter) (gP X.K pat) tYes (tUb X scope elt) (own.map (·.2)) σ H (PF X.K w Q) :=
  lc_read rp hp (fun w σ H r => tUI_mono (h w σ H r) fun J H1 ⟨w1, m1, xs, g, l, hr, jo, hz, I, i0, it, ie⟩ => ⟨w1, m1, xs, g, l, hr, jo, hz, I, i0, fun i x ys m' hx hy q => let ⟨gm, Lx, hs, k⟩ := it i x ys m' hx hy q; ⟨gm, Lx, hs, fun w σ H r => ⟨w, m', .refl w, r.toHR, fun _ w H r s H0 C cl fp => k s H0 C cl fp w σ H r, fun z => by cases z⟩⟩, ie⟩)
    (fun _ _ _ _ k h => k _ _ h) (fun _ _ _ _ k h s H0 C cl fp => tU_mono (h s H0 C cl fp) k)
theorem wf_lc (own : List (Str × Nat)) (pat : Pat) (hc : X.calm = true) (hN : X.N.Nodup) (ok : BlkOk X.N X.env.scope scope own) (hg : ∀ (s : Shared) (H : Hp) (C : Addr) (cl : List (Str × Addr)) (fp : List Addr), PG (BX X scope s H C cl fp) tg (gP X.K pat)) (hp : ∀ j ∈ pat.slots, j ∈ own.map (·.2))
    (h : LcAsk X L m elt tg iter scope own pat Q) (hs : ∀ x, foldedSetIterable iter X.env x = pure x := by intro _; rfl) : WF X (.ListComp elt [⟨tg, iter, [], 0⟩] scope pos) L m Q :=
  wf_of (pe_lc hc hN (piU tg iter) ok hg (fun _ _ _ _ _ => pts_nil) (fun s H C cl fp => peUb elt s H C cl fp) hs) fun w σ H r => lc_read0 r hp h
theorem setF_core {i : Nat} {y : Str} {py : Pos} {e : Expr} {spos : Pos} {D : PEnds} {t : TE} (ps : PS X (.Assign [.Name y py] e spos) (tAsg t (gName i)))
    (h : ∀ (w : Wd) (σ : L2.St) (H : Hp), Rep X.K w L m σ H → t σ H (PF X.K w fun xs m1 => D.nx (L.set i (some (.d (.list xs)))) m1 ∨ D.nx (L.set i (some (.ref m1.length))) (m1 ++ [some (.lst xs)])))
    (tm : ∀ (σ : L2.St) (H : Hp) (Q Q' : VK), (∀ b H', Q b H' → Q' b H') → t σ H Q → t σ H Q') : WS X (.Assign [.Name y py] e spos) L m D :=
  ws_of ps fun w σ H r => tm _ _ _ _ (fun v H' ⟨w', xs, m1, p, vs, e1, l, hr, hp, u, d, q⟩ => by
    subst e1
    have r' := r.go l hr
    rcases q with q | q
    · obtain ⟨l2, hr2⟩ := hr.freeze u hp
      exact ⟨_, _, m1, l.trans l2, (r'.go l2 hr2).set (p := .d (.list xs)) (.lst upd_same (dpa_mono l2.sub _ _ d)), q⟩
    · obtain ⟨l2, hr2⟩ := hr.adopt (c := .lst xs) u hp ⟨vs, rfl, d⟩
      refine ⟨_, _, _, l.trans l2, (r'.go l2 hr2).set (p := .ref m1.length) ⟨p, ?_, rfl⟩, q⟩
      show (w'.A ++ [p])[m1.length]? = some p
      rw [← hr.len, List.getElem?_append_right (Nat.le_refl _)]; simp) (h w σ H r)
theorem tLc_mono {wi : TI} {g : TG} {tt : TT} {te : TE} {vs : List Nat} (wm : ∀ (σ : L2.St) (H : Hp) (R R' : It → Hp → Prop), (∀ J H', R J H' → R' J H') → wi σ H R → wi σ H R') (σ : L2.St) (H : Hp) (Q Q' : VK) (k : ∀ b H', Q b H' → Q' b H') (h : tLc wi g tt te vs σ H Q) : tLc wi g tt te vs σ H Q' :=
  wm _ _ _ _ (fun J H1 h D hD => by
    obtain ⟨W, w0, st⟩ := h D hD
    exact ⟨W, w0, fun i n H' wt => (st i n H' wt).imp (fun ⟨a, b⟩ => ⟨a, k _ _ b⟩) id⟩) h
theorem ws_setLc {y : Str} {py : Pos} {spos : Pos} {D : PEnds} (i : Nat) (own : List (Str × Nat)) (pat : Pat) (hc : X.calm = true) (hN : X.N.Nodup) (hy : X.N[i]? = some y) (hyl : X.env.scope.names.lookup y = some .local) (hsw : swapsWith (.ListComp elt [⟨tg, iter, [], 0⟩] scope pos) (some (.Name y py)) spos.line X.env = pure true)
    (ok : BlkOk X.N X.env.scope scope own) (hg : ∀ (s : Shared) (H : Hp) (C : Addr) (cl : List (Str × Addr)) (fp : List Addr), PG (BX X scope s H C cl fp) tg (gP X.K pat)) (hp : ∀ j ∈ pat.slots, j ∈ own.map (·.2))
    (h : LcAsk X L m elt tg iter scope own pat fun xs m1 => D.nx (L.set i (some (.d (.list xs)))) m1 ∨ D.nx (L.set i (some (.ref m1.length))) (m1 ++ [some (.lst xs)])) (hs : ∀ x, foldedSetIterable iter X.env x = pure x := by intro _; rfl) : WS X (.Assign [.Name y py] (.ListComp elt [⟨tg, iter, [], 0⟩] scope pos) spos) L m D :=
  setF_core (ps_setLc hc hN hy hyl hsw (piU tg iter) ok hg (fun _ _ _ _ _ => pts_nil) (fun s H C cl fp => peUb elt s H C cl fp) hs) (fun w σ H r => lc_read0 r hp h) (tLc_mono fun _ _ _ _ k h => tUI_mono h k)
theorem ws_setF {y : Str} {py : Pos} {e : Expr} {spos : Pos} {D : PEnds} (i : Nat) (hN : X.N.Nodup) (hi : X.N[i]? = some y) (hx : L2.Loc X.env.scope y) (h : WF X e L m fun xs m1 => D.nx (L.set i (some (.ref m1.length))) (m1 ++ [some (.lst xs)])) (hs : swapsWith e (some (.Name y py)) spos.line X.env = pure false := by rfl) (hf : X.fn y = true ∨ X.env.scope.names.lookup y = some .local := by first | exact .inl rfl | exact .inr rfl | assumption) : WS X (.Assign [.Name y py] e spos) L m D :=
  setF_core (ps_set hN hi hx (peU e) hs hf) (fun w σ H r => tU_mono (h w σ H r) fun v H' ⟨w', xs, m1, p, vs, e1, l, hr, hp, u, d, q⟩ => ⟨w', xs, m1, p, vs, e1, l, hr, hp, u, d, .inr q⟩) fun _ _ _ _ k h => tU_mono h k
theorem pg_nm {x : Str} {tp : Pos} {j : Nat} {s : Shared} {H : Hp} {C : Addr} {cl : List (Str × Addr)} {fp : List Addr} (hN : X.N.Nodup) (hi : X.N[j]? = some x) (hx : L2.Loc (compEnvC scope cl C X.env).scope x) (hf : (scope.names.lookup x == some .cell) = true ∨ (compEnvC scope cl C X.env).scope.names.lookup x = some .local) : PG (BX X scope s H C cl fp) (.Name x tp) (gP X.K (.nm j)) := pg_name (X := BX X scope s H C cl fp) hN hi hx hf
end
end PP
namespace PP
open PySem PySem.Spec PyProof.Rows L2
abbrev FSp := List PV → Mem → (PV → Mem → Prop) → Prop
def toSp (K : PySem.W.Frag) (f : FSp) : Sp := fun vs H Q _ => ∃ (w : Wd) (pvs : List PV) (m : Mem) (q : PV → Mem → Prop), HR K w m H ∧ RVs K w vs pvs ∧ f pvs m q ∧
  ∀ (w' : Wd) (v : V) (p : PV) (m' : Mem) (H' : Hp), w.le w' → HR K w' m' H' → RV K w' v p → q p m' → Q v H'
def Adj (n : Nat) (q : PV → Mem → Prop) : PV → Mem → Prop := fun p m => n ≤ m.length ∧
  ((∃ x, p = .d x ∧ q (.d x) (m.take n)) ∨
   ((∃ k, p = .ref k ∧ k < n ∧ q (.ref k) (m.take n)) ∨ (∃ k g x y z, p = .ref (k + 1) ∧ n ≤ k ∧ m[k]? = some (some (.lst g)) ∧ m[k + 1]? = some (some (.own x y z)) ∧ q (.ref (n + 1)) (m.take n ++ [some (.lst g), some (.own x y z)]))) ∨
   (∃ k c, p = .ref k ∧ n ≤ k ∧ m[k]? = some (some c) ∧ match c with
    | .own _ _ _ => False
    | c => q (.ref n) (m.take n ++ [some c])))
theorem RVs.length {K : PySem.W.Frag} {w : Wd} {vs : List V} {ps : List PV} (h : RVs K w vs ps) : vs.length = ps.length := Paired.length h
section
variable {K : PySem.W.Frag} {w w' : Wd} {m m' : Mem} {H H' : Hp}
theorem adj_ok {q : PV → Mem → Prop} {v : V} {p : PV} {Q : VK} (hl : w.A.length = m.length) (l : w.le w') (hr : HR K w' m' H') (r : RV K w' v p) (a : Adj m.length q p m')
    (k : ∀ (w' : Wd) (v : V) (p : PV) (m' : Mem) (H' : Hp), w.le w' → HR K w' m' H' → RV K w' v p → q p m' → Q v H') : Q v H' := by
  obtain ⟨hn, a⟩ := a
  have lc : w.le (w'.cut m.length) := l.cut (by omega)
  have hc := hr.cut m.length
  rcases a with ⟨x, rfl, qq⟩ | (⟨j, rfl, hj, qq⟩ | ⟨j, g, x, y, z, rfl, hj, hm, hm2, qq⟩) | ⟨j, c, rfl, hj, hm, qq⟩
  · exact k _ v (.d x) _ H' lc hc r qq
  · obtain ⟨ad, ea, ev⟩ := r
    refine k _ v (.ref j) _ H' lc hc ⟨ad, ?_, ev⟩ qq
    show (w'.A.take m.length)[j]? = some ad
    rw [List.getElem?_take, if_pos hj]; exact ea
  · obtain ⟨a1, o1, ea1, eo1, us, rfl, dg⟩ := hr.cell j _ hm
    obtain ⟨a2, o2, ea2, eo2, j', q', e3, e4, rfl⟩ := hr.cell (j + 1) _ hm2
    obtain ⟨ad', ea', ev⟩ := r
    rw [ea2] at ea'; cases ea'
    have e5 : j' = j := by omega
    subst e5
    rw [ea1] at e4; cases e4
    have un : ∀ (i : Nat) (ad : Addr) (c : Cell), m.length ≤ i → w'.A[i]? = some ad → m'[i]? = some (some c) → Un1 (w'.cut m.length) ad := fun i ad c hi ea hc2 => by
      refine ⟨hr.sep i ad c ea hc2, fun z => ?_, fun z => ?_⟩
      · obtain ⟨i2, hi2⟩ := List.getElem?_of_mem z
        have hi' : (w'.A.take m.length)[i2]? = some ad := hi2
        rw [List.getElem?_take] at hi'
        split at hi'
        · rename_i hlt
          have := nodup_at hr.nd hi' ea
          omega
        · cases hi'
      · obtain ⟨t, ht, et⟩ := List.mem_map.mp z
        exact (hr.tp t ht).2.2 (et ▸ List.mem_of_getElem? ea)
    have hcl : (w'.A.take m.length).length = m.length := by rw [List.length_take, hr.len]; omega
    obtain ⟨l2, hr2⟩ := hc.adopt (c := .lst g) (un j' a1 _ hj ea1 hm) eo1 ⟨us, rfl, dg⟩
    have u2 := un (j' + 1) a2 _ (by omega) ea2 hm2
    have u3 : Un1 ((w'.cut m.length).push a1) a2 := ⟨u2.f, fun z => by
      rcases List.mem_append.mp (show a2 ∈ (w'.cut m.length).A ++ [a1] from z) with z | z
      · exact u2.a z
      · have e6 : a2 = a1 := by simpa using z
        rw [e6] at ea2
        have := nodup_at hr.nd ea1 ea2
        omega, u2.t⟩
    have hml : (m'.take m.length ++ [some (Cell.lst g)]).length = m.length + 1 := by rw [List.length_append, List.length_take, List.length_singleton]; omega
    obtain ⟨l3, hr3⟩ := hr2.adopt (c := .own x y z) u3 eo2 ⟨m.length, a1, hml, by
      show ((w'.A.take m.length) ++ [a1])[m.length]? = some a1
      rw [List.getElem?_append_right (by omega), hcl]; simp, rfl⟩
    refine k _ v (.ref (m.length + 1)) _ H' (lc.trans (l2.trans l3)) (by rw [List.append_assoc] at hr3; exact hr3) ⟨a2, ?_, ev⟩ qq
    show (((w'.A.take m.length) ++ [a1]) ++ [a2])[m.length + 1]? = some a2
    rw [List.getElem?_append_right (by rw [List.length_append, hcl]; simp), List.length_append, hcl]; simp
  · obtain ⟨ad, o, ea, eo, cr⟩ := hr.cell j c hm
    obtain ⟨ad', ea', ev⟩ := r
    rw [ea] at ea'; cases ea'
    have un : Un1 (w'.cut m.length) ad := by
      refine ⟨hr.sep j ad c ea hm, fun z => ?_, fun z => ?_⟩
      · obtain ⟨i, hi⟩ := List.getElem?_of_mem z
        have hi' : (w'.A.take m.length)[i]? = some ad := hi
        rw [List.getElem?_take] at hi'
        split at hi'
        · rename_i hlt
          have := nodup_at hr.nd hi' ea
          omega
        · cases hi'
      · obtain ⟨t, ht, et⟩ := List.mem_map.mp z
        exact (hr.tp t ht).2.2 (et ▸ List.mem_of_getElem? ea)
    obtain ⟨cr2, qq⟩ : CR K (w'.cut m.length) (m'.take m.length).length c o ∧ q (.ref m.length) (m'.take m.length ++ [some c]) := by
      cases c with
      | lst ds => exact ⟨cr, qq⟩
      | dK kvs => exact ⟨cr, qq⟩
      | own a b c => exact False.elim qq
    obtain ⟨l2, hr2⟩ := hc.adopt (c := c) un eo cr2
    refine k _ v (.ref m.length) _ H' (lc.trans l2) hr2 ⟨ad, ?_, ev⟩ qq
    show ((w'.A.take m.length) ++ [ad])[m.length]? = some ad
    have : (w'.A.take m.length).length = m.length := by rw [List.length_take, hr.len]; omega
    rw [List.getElem?_append_right (by omega), this]; simp
end
abbrev startL (N : List Str) (pvs : List PV) : PP.Loc := pvs.map some ++ List.replicate (N.length - pvs.length) none
theorem rep_start {K : PySem.W.Frag} {w : Wd} {m : Mem} {H : Hp} {vs : List V} {pvs : List PV} (N : List Str) (hr : HR K w m H) (r : RVs K w vs pvs) : Rep K w (startL N pvs) m (L2.start N vs) H := by
  refine ⟨hr, ?_, fun i p e => ?_⟩
  · unfold L2.start startL
    rw [List.length_append, List.length_append, List.length_map, List.length_map, List.length_replicate, List.length_replicate, r.length]
  · unfold startL at e
    unfold L2.start
    by_cases hi : i < pvs.length
    · rw [List.getElem?_append_left (by simpa using hi), List.getElem?_map] at e
      rw [List.getElem?_append_left (by rw [List.length_map, r.length]; exact hi), List.getElem?_map]
      cases e1 : pvs[i]? with
      | none => rw [e1] at e; cases e
      | some q =>
        rw [e1] at e
        have e' : q = p := by simpa using e
        subst e'
        have key : ∀ {vs : List V} {ps : List PV} {i : Nat} {q : PV}, RVs K w vs ps → ps[i]? = some q → ∃ v, vs[i]? = some v ∧ RV K w v q := by
          intro vs ps i q r e
          induction r generalizing i with
          | nil => simp at e
          | cons r1 _ ih =>
            cases i with
            | zero => simp at e; subst e; exact ⟨_, rfl, r1⟩
            | succ i =>
              obtain ⟨v, h1, h2⟩ := ih (i := i) (by simpa using e)
              exact ⟨v, by simpa using h1, h2⟩
        obtain ⟨v, h1, h2⟩ := key r e1
        exact ⟨v, by rw [h1]; rfl, h2⟩
    · rw [List.getElem?_append_right (by simpa using hi), List.getElem?_replicate] at e
      split at e <;> cases e
abbrev DX (P : Program) (w : World) (K : PySem.W.Frag) (mg : Str → Option Value) (base : Heap) (N : List Str) (qual : Str) (st : Stmt) (f : Addr) (cdv : Value) (A : Around) (outer : List Env) (s : Shared) (H : Hp) (E : XK) : Cx := (cxOf CX0 P w K mg base N qual (defScope st) f cdv A outer s H E).nox
abbrev fnE (n : Nat) (q : PV → Mem → Prop) : PEnds := { nx := fun _ m => Adj n q (.d .none) m, rt := Adj n q }
section
variable {P : Program} {w : World} {K : PySem.W.Frag} {mg : Str → Option Value} {base : Heap}
theorem fn_pp {x qual : Str} {st : Stmt} {f : Addr} {fd : FuncData} {N ps : List Str} {k : Nat} {sp : FSp} (F : Fun K x qual st f fd) (S : FnScope N ps (defScope st)) (len : ∀ pvs m q, sp pvs m q → pvs.length = ps.length)
    (body : ∀ (cdv : Value) (A : Around) (outer : List Env) (s : Shared) (H : Hp) (E : XK), Room k (DX P w K mg base N qual st f cdv A outer s H E).A → ∀ pvs m q, sp pvs m q → WSs (DX P w K mg base N qual st f cdv A outer s H E) (defBody st) (startL N pvs) m (fnE m.length q)) :
    FnOk P w K mg base CX0 (k + 1) f fd ps (toSp K sp) := by
  refine F.ok S (fun vs H Q E ⟨w, pvs, m, q, hr, r, h, k⟩ => by rw [r.length]; exact len _ _ _ h) fun cdv A outer s H vs Q E hrm h => ?_
  refine ⟨_, pssU _, ?_⟩
  obtain ⟨wd, pvs, m, q, hr, r, h, kk⟩ := h
  refine tUSs_mono (body cdv A outer s H E hrm pvs m q h wd _ H (rep_start N hr r)) ?_ ?_ ?_ ?_
  · rintro σ' H' ⟨w', L', m', l, r', a⟩
    exact adj_ok hr.len l r'.toHR (show RV K w' V.non (.d .none) from DP.non) a kk
  · rintro v H' ⟨w', p, m', l, hr', d, a⟩
    exact adj_ok hr.len l hr' d a kk
  · rintro σ' H' ⟨_, _, _, _, _, z⟩
    exact z
  · rintro σ' H' ⟨_, _, _, _, _, z⟩
    exact z
end
def ren (ks : List Nat) : PV → PV
  | .ref k => .ref (ks.idxOf k)
  | p => p
def refsIn (ks : List Nat) : PV → Prop
  | .ref k => k ∈ ks
  | _ => True
def keepO (pv : Option Nat) (k : Nat) : Option Cell → Option Cell
  | some (.own a b c) => match pv with
    | some j => if j + 1 = k then some (.own a b c) else none
    | none => none
  | c => c
def cellsFr (m : Mem) : Option Nat → List Nat → Mem
  | _, [] => []
  | pv, k :: ks => keepO pv k (m[k]?).join :: cellsFr m (some k) ks
def cellsAt (m : Mem) (ks : List Nat) : Mem := cellsFr m none ks
theorem cellsFr_len (m : Mem) : ∀ (pv : Option Nat) (ks : List Nat), (cellsFr m pv ks).length = ks.length
  | _, [] => rfl
  | _, k :: ks => congrArg (· + 1) (cellsFr_len m (some k) ks)
theorem cellsAt_len {m : Mem} {ks : List Nat} : (cellsAt m ks).length = ks.length := cellsFr_len m none ks
def ahead (pv : Option Nat) (ks : List Nat) : Nat → Option Nat
  | 0 => pv
  | j + 1 => ks[j]?
theorem cellsFr_at {m : Mem} {c : Cell} : ∀ {pv : Option Nat} {ks : List Nat} {j : Nat}, (cellsFr m pv ks)[j]? = some (some c) → ∃ k, ks[j]? = some k ∧ m[k]? = some (some c) ∧ ((∃ x y z, c = .own x y z) → ∃ i, ahead pv ks j = some i ∧ i + 1 = k)
  | _, [], _, e => by cases e
  | pv, k :: ks, 0, e => by
    have e : keepO pv k (m[k]?).join = some c := by simpa [cellsFr] using e
    refine ⟨k, rfl, ?_, ?_⟩
    · cases r : (m[k]?).join with
      | none => rw [r] at e; cases e
      | some d =>
        rw [r] at e
        have ed : d = c := by
          cases d with
          | lst _ => exact Option.some.inj e
          | dK _ => exact Option.some.inj e
          | own x y z =>
            unfold keepO at e
            cases pv with
            | none => cases e
            | some i =>
              dsimp only at e
              split at e
              · exact Option.some.inj e
              · cases e
        subst ed
        cases q : m[k]? with
        | none => rw [q] at r; cases r
        | some o => rw [q] at r; rw [show o = some d from r]
    · rintro ⟨x, y, z, rfl⟩
      cases r : (m[k]?).join with
      | none => rw [r] at e; cases e
      | some d =>
        rw [r] at e
        cases d with
        | lst _ => cases e
        | dK _ => cases e
        | own x y z =>
          unfold keepO at e
          cases pv with
          | none => cases e
          | some i =>
            dsimp only at e
            split at e
            · rename_i h; exact ⟨i, rfl, h⟩
            · cases e
  | pv, k :: ks, j + 1, e => by
    have e : (cellsFr m (some k) ks)[j]? = some (some c) := by simpa [cellsFr] using e
    obtain ⟨k', h1, h2, h3⟩ := cellsFr_at e
    refine ⟨k', by simpa using h1, h2, fun h => ?_⟩
    obtain ⟨i, h4, h5⟩ := h3 h
    refine ⟨i, ?_, h5⟩
    cases j with
    | zero => exact h4
    | succ j => exact h4
def setAll (m : Mem) : List Nat → Mem → Mem
  | k :: ks, c :: cs => setAll (m.set k c) ks cs
  | _, _ => m
theorem setAll_len : ∀ (ks : List Nat) (cs m : Mem), (setAll m ks cs).length = m.length
  | [], [], _ => rfl
  | [], _ :: _, _ => rfl
  | k :: ks, [], m => rfl
  | k :: ks, c :: cs, m => by unfold setAll; rw [setAll_len ks cs, List.length_set]
theorem setAll_out : ∀ {ks : List Nat} {cs m : Mem} {i : Nat}, i ∉ ks → (setAll m ks cs)[i]? = m[i]?
  | [], cs, m, i, _ => by cases cs <;> rfl
  | k :: ks, [], m, i, _ => rfl
  | k :: ks, c :: cs, m, i, h => by
    unfold setAll
    rw [setAll_out (fun z => h (List.mem_cons_of_mem _ z)), List.getElem?_set_ne (fun z => h (by rw [← z]; exact List.mem_cons_self))]
theorem setAll_in : ∀ {ks : List Nat} {cs m : Mem} {j k : Nat} {c : Option Cell}, ks.Nodup → (∀ k ∈ ks, k < m.length) → ks[j]? = some k → cs[j]? = some c → (setAll m ks cs)[k]? = some c
  | [], _, _, _, _, _, _, _, e, _ => by simp at e
  | _ :: _, [], _, _, _, _, _, _, _, e => by simp at e
  | k0 :: ks, c0 :: cs, m, 0, k, c, nd, hl, e1, e2 => by
    have e1' : k0 = k := by simpa using e1
    have e2' : c0 = c := by simpa using e2
    subst e1'; subst e2'
    unfold setAll
    rw [setAll_out (List.nodup_cons.mp nd).1, List.getElem?_set_self (hl k0 List.mem_cons_self)]
  | k0 :: ks, c0 :: cs, m, j + 1, k, c, nd, hl, e1, e2 => by
    unfold setAll
    exact setAll_in (List.nodup_cons.mp nd).2 (fun i hi => by rw [List.length_set]; exact hl i (List.mem_cons_of_mem _ hi)) (by simpa using e1) (by simpa using e2)
section
variable {K : PySem.W.Frag} {w : Wd} {m : Mem} {H : Hp} {ks : List Nat}
def othersOf (w : Wd) (H : Hp) (ks : List Nat) : List (Addr × HO) := (List.range w.A.length).filterMap fun k => if k ∈ ks then none else
  match w.A[k]? with
  | some a => match w.F a with
    | none => (H a).map fun o => (a, o)
    | some _ => none
  | none => none
theorem mem_others {p : Addr × HO} : p ∈ othersOf w H ks ↔ ∃ k, k ∉ ks ∧ w.A[k]? = some p.1 ∧ w.F p.1 = none ∧ H p.1 = some p.2 := by
  unfold othersOf
  rw [List.mem_filterMap]
  constructor
  · rintro ⟨k, _, e⟩
    split at e
    · cases e
    · rename_i hk
      split at e
      · rename_i a ea
        split at e
        · rename_i hf
          cases q : H a with
          | none => rw [q] at e; cases e
          | some o =>
            rw [q] at e
            have e' : (a, o) = p := by simpa using e
            subst e'
            exact ⟨k, hk, ea, hf, q⟩
        · cases e
      · cases e
  · rintro ⟨k, hk, ea, hf, q⟩
    refine ⟨k, List.mem_range.mpr (List.getElem?_eq_some_iff.mp ea).1, ?_⟩
    rw [if_neg hk, ea]
    simp only [hf, q, Option.map_some]
theorem others_nodup (nd : w.A.Nodup) : ((othersOf w H ks).map (·.1)).Nodup := by
  have gen : ∀ (l : List Nat), l.Nodup → ((l.filterMap fun k => if k ∈ ks then none else match w.A[k]? with | some a => (match w.F a with | none => (H a).map fun o => (a, o) | some _ => none) | none => none).map (·.1)).Nodup := by
    intro l
    induction l with
    | nil => intro _; exact .nil
    | cons k l ih =>
      intro hl
      rw [List.nodup_cons] at hl
      rw [List.filterMap_cons]
      split
      · exact ih hl.2
      · rename_i p e
        rw [List.map_cons, List.nodup_cons]
        refine ⟨fun z => ?_, ih hl.2⟩
        have hk : w.A[k]? = some p.1 := by
          split at e
          · cases e
          · split at e
            · rename_i a ea
              split at e
              · cases q : H a with
                | none => rw [q] at e; cases e
                | some o => rw [q] at e; simp at e; rw [← e]; exact ea
              · cases e
            · cases e
        obtain ⟨p', hp', ep⟩ := List.mem_map.mp z
        obtain ⟨k', hk', e'⟩ := List.mem_filterMap.mp hp'
        have hk2 : w.A[k']? = some p'.1 := by
          split at e'
          · cases e'
          · split at e'
            · rename_i a ea
              split at e'
              · cases q : H a with
                | none => rw [q] at e'; cases e'
                | some o => rw [q] at e'; simp at e'; rw [← e']; exact ea
              · cases e'
            · cases e'
        rw [ep] at hk2
        have := nodup_at nd hk2 hk
        subst this
        exact hl.1 hk'
  exact gen _ List.nodup_range
def Wd.sub (w : Wd) (H : Hp) (ks : List Nat) : Wd := { A := ks.map fun k => w.A.getD k 0, T := w.T ++ othersOf w H ks, F := w.F }
theorem sub_at (w : Wd) (H : Hp) {j k : Nat} (e : ks[j]? = some k) (hk : k < w.A.length) : (w.sub H ks).A[j]? = w.A[k]? := by
  show (ks.map fun k => w.A.getD k 0)[j]? = _
  rw [List.getElem?_map, e, List.getElem?_eq_getElem hk]
  simp [List.getD, List.getElem?_eq_getElem hk]
theorem sub_inv (w : Wd) (H : Hp) (hk : ∀ k ∈ ks, k < w.A.length) {j : Nat} {a : Addr} (e : (w.sub H ks).A[j]? = some a) : ∃ k, ks[j]? = some k ∧ w.A[k]? = some a := by
  have e' : (ks.map fun k => w.A.getD k 0)[j]? = some a := e
  rw [List.getElem?_map] at e'
  cases q : ks[j]? with
  | none => rw [q] at e'; cases e'
  | some k =>
    refine ⟨k, rfl, ?_⟩
    rw [← sub_at w H q (hk k (List.mem_of_getElem? q))]; exact e
theorem HR.subWorld (h : HR K w m H) (nd : ks.Nodup) (hk : ∀ k ∈ ks, k < m.length) : HR K (w.sub H ks) (cellsAt m ks) H := by
  have hk' : ∀ k ∈ ks, k < w.A.length := fun k z => by rw [h.len]; exact hk k z
  refine ⟨h.fz, ?_, ?_, fun j a c e1 e2 => ?_, fun a ha => ?_, fun p hp => ?_, ?_, fun j c e => ?_⟩
  · show (ks.map _).length = _
    rw [List.length_map, cellsAt_len]
  · show (ks.map fun k => w.A.getD k 0).Nodup
    refine List.Pairwise.map _ (R := fun a b => a ≠ b ∧ a ∈ ks ∧ b ∈ ks) (fun a b ⟨hab, ha, hb⟩ z => hab ?_) ?_
    · have h1 := hk' a ha
      have h2 := hk' b hb
      have e1 : w.A[a]? = some (w.A.getD a 0) := by rw [List.getElem?_eq_getElem h1]; simp [List.getD, List.getElem?_eq_getElem h1]
      have e2 : w.A[b]? = some (w.A.getD a 0) := by rw [z, List.getElem?_eq_getElem h2]; simp [List.getD, List.getElem?_eq_getElem h2]
      exact nodup_at h.nd e1 e2
    · exact List.Pairwise.imp_of_mem (fun {a b} ha hb hab => ⟨hab, ha, hb⟩) nd
  · obtain ⟨k, e3, e4⟩ := sub_inv w H hk' e1
    obtain ⟨k', e5, e6, _⟩ := cellsFr_at e2
    rw [e3] at e5; cases e5
    exact h.sep k a c e4 e6
  · obtain ⟨j, e1⟩ := List.getElem?_of_mem ha
    obtain ⟨k, e3, e4⟩ := sub_inv w H hk' e1
    exact h.occ a (List.mem_of_getElem? e4)
  · have notin : ∀ a, (∀ k, w.A[k]? = some a → k ∉ ks) → a ∉ (w.sub H ks).A := fun a hn z => by
      obtain ⟨j, e1⟩ := List.getElem?_of_mem z
      obtain ⟨k, e3, e4⟩ := sub_inv w H hk' e1
      exact hn k e4 (List.mem_of_getElem? e3)
    rcases List.mem_append.mp hp with z | z
    · obtain ⟨e1, e2, e3⟩ := h.tp p z
      exact ⟨e1, e2, notin _ fun k ek _ => e3 (List.mem_of_getElem? ek)⟩
    · obtain ⟨k, hk1, ea, hf, eh⟩ := mem_others.mp z
      exact ⟨eh, hf, notin _ fun k2 ek2 z2 => hk1 (nodup_at h.nd ek2 ea ▸ z2)⟩
  · show ((w.T ++ othersOf w H ks).map (·.1)).Nodup
    rw [List.map_append]
    refine List.nodup_append.mpr ⟨h.tnd, others_nodup h.nd, fun a ha b hb z => ?_⟩
    obtain ⟨p, hp, e1⟩ := List.mem_map.mp ha
    obtain ⟨q, hq, e2⟩ := List.mem_map.mp hb
    obtain ⟨k, _, ea, _⟩ := mem_others.mp hq
    exact (h.tp p hp).2.2 (by rw [e1, z, ← e2]; exact List.mem_of_getElem? ea)
  · obtain ⟨k, e3, e4, e0⟩ := cellsFr_at e
    obtain ⟨a, o, e5, e6, r⟩ := h.cell k c e4
    refine ⟨a, o, by rw [sub_at w H e3 (hk' k (List.mem_of_getElem? e3))]; exact e5, e6, ?_⟩
    cases c with
    | lst ds => exact r
    | dK kvs => exact r
    | own x y z =>
      obtain ⟨i, h1, h2⟩ := e0 ⟨x, y, z, rfl⟩
      obtain ⟨j', q, r1, r2, r3⟩ := r
      cases j with
      | zero => cases h1
      | succ j =>
        have h1 : ks[j]? = some i := h1
        refine ⟨j, q, rfl, ?_, r3⟩
        rw [sub_at w H h1 (hk' i (List.mem_of_getElem? h1)), show i = j' by omega]
        exact r2
theorem sub_rv (h : HR K w m H) (hk : ∀ k ∈ ks, k < m.length) {v : V} {p : PV} (r : RV K w v p) (hp : refsIn ks p) : RV K (w.sub H ks) v (ren ks p) := by
  cases p with
  | d x => exact r
  | raw u => exact r
  | exc C x => exact r
  | ref k =>
    obtain ⟨a, ea, ev⟩ := r
    have hin : k ∈ ks := hp
    refine ⟨a, ?_, ev⟩
    have : ks[ks.idxOf k]? = some k := by
      rw [List.getElem?_eq_getElem (List.idxOf_lt_length_of_mem hin)]
      exact congrArg some (List.getElem_idxOf _)
    rw [sub_at w H this (by rw [h.len]; exact hk k hin)]; exact ea
theorem sub_rvs (h : HR K w m H) (hk : ∀ k ∈ ks, k < m.length) : ∀ {vs : List V} {ps : List PV}, RVs K w vs ps → (∀ p ∈ ps, refsIn ks p) → RVs K (w.sub H ks) vs (ps.map (ren ks))
  | _, _, .nil, _ => .nil
  | _, _, .cons r t, hp => .cons (sub_rv h hk r (hp _ List.mem_cons_self)) (sub_rvs h hk t fun p z => hp p (List.mem_cons_of_mem _ z))
def okO (pv : Option Nat) (k : Nat) : Option Cell → Bool
  | some (.own _ _ _) => match pv with
    | some j => decide (j + 1 = k)
    | none => false
  | _ => true
def backB : Option Nat → List Nat → Mem → Bool
  | _, [], [] => true
  | pv, k :: ks, c :: cs => okO pv k c && backB (some k) ks cs
  | _, _, _ => false
theorem backB_len : ∀ {pv : Option Nat} {ks : List Nat} {cs : Mem}, backB pv ks cs = true → cs.length = ks.length
  | _, [], [], _ => rfl
  | _, [], _ :: _, h => by cases h
  | _, _ :: _, [], h => by cases h
  | pv, k :: ks, c :: cs, h => by
    unfold backB at h
    rw [List.length_cons, List.length_cons, backB_len (Bool.and_eq_true_iff.mp h).2]
theorem backB_own {x y z : Int} : ∀ {pv : Option Nat} {ks : List Nat} {cs : Mem} {j : Nat}, backB pv ks cs = true → cs[j]? = some (some (.own x y z)) → ∃ i k, ahead pv ks j = some i ∧ ks[j]? = some k ∧ i + 1 = k
  | _, [], [], _, _, e => by cases e
  | _, [], _ :: _, _, h, _ => by cases h
  | _, _ :: _, [], _, h, _ => by cases h
  | pv, k :: ks, c :: cs, 0, h, e => by
    unfold backB at h
    have e : c = some (.own x y z) := by simpa using e
    subst e
    have h1 := (Bool.and_eq_true_iff.mp h).1
    unfold okO at h1
    cases pv with
    | none => cases h1
    | some i => exact ⟨i, k, rfl, rfl, of_decide_eq_true h1⟩
  | pv, k :: ks, c :: cs, j + 1, h, e => by
    unfold backB at h
    obtain ⟨i, k', h1, h2, h3⟩ := backB_own (Bool.and_eq_true_iff.mp h).2 (by simpa using e)
    refine ⟨i, k', ?_, by simpa using h2, h3⟩
    cases j with
    | zero => exact h1
    | succ j => exact h1
theorem HR.back {w' : Wd} {mc : Mem} {H' : Hp} {mo : List Addr} {ex : Mem} (h : HR K w m H) (nd : ks.Nodup) (hk : ∀ k ∈ ks, k < m.length) (l : (w.sub H ks).le w') (hr : HR K w' (mc ++ ex) H') (hbk : backB none ks mc = true) :
    w.le { w with F := w'.F } ∧ HR K { w with F := w'.F } (setAll m ks mc) H' := by
  have hl := backB_len hbk
  have hk' : ∀ k ∈ ks, k < w.A.length := fun k z => by rw [h.len]; exact hk k z
  obtain ⟨more, em⟩ := l.pre
  have hT : w'.T = w.T ++ othersOf w H ks := l.hid
  have inA : ∀ {j k : Nat} {a : Addr}, ks[j]? = some k → w.A[k]? = some a → w'.A[j]? = some a := fun {j k a} e1 e2 => by
    rw [em, List.getElem?_append_left]
    · rw [sub_at w H e1 (hk' k (List.mem_of_getElem? e1))]; exact e2
    · show j < (ks.map _).length
      rw [List.length_map]; exact (List.getElem?_eq_some_iff.mp e1).1
  have out : ∀ {k : Nat} {a : Addr}, w.A[k]? = some a → k ∉ ks → w.F a = none → ∃ o, H a = some o ∧ H' a = some o ∧ w'.F a = none := fun {k a} ea hn hf => by
    cases q : H a with
    | none => exact absurd q (h.occ a (List.mem_of_getElem? ea))
    | some o =>
      have := hr.tp (a, o) (by rw [hT]; exact List.mem_append_right _ (mem_others.mpr ⟨k, hn, ea, hf, q⟩))
      exact ⟨o, rfl, this.1, this.2.1⟩
  refine ⟨⟨⟨⟨[], by simp⟩, l.sub⟩, rfl⟩, hr.fz, by rw [setAll_len]; exact h.len, h.nd, fun k a c e1 e2 => ?_, fun a ha => ?_, fun p hp => ?_, h.tnd, fun k c e => ?_⟩
  · by_cases hin : k ∈ ks
    · obtain ⟨j, ej⟩ := List.getElem?_of_mem hin
      have hj : j < mc.length := by rw [hl]; exact (List.getElem?_eq_some_iff.mp ej).1
      have e3 := setAll_in nd hk ej (List.getElem?_eq_getElem hj)
      rw [e3] at e2
      have e4 : (mc ++ ex)[j]? = some (some c) := by rw [List.getElem?_append_left hj, List.getElem?_eq_getElem hj]; exact e2
      exact hr.sep j a c (inA ej e1) e4
    · rw [setAll_out hin] at e2
      exact (out e1 hin (h.sep k a c e1 e2)).choose_spec.2.2
  · obtain ⟨k, ek⟩ := List.getElem?_of_mem ha
    by_cases hin : k ∈ ks
    · obtain ⟨j, ej⟩ := List.getElem?_of_mem hin
      exact hr.occ a (List.mem_of_getElem? (inA ej ek))
    · cases hf : w.F a with
      | none =>
        obtain ⟨o, _, e2, _⟩ := out ek hin hf
        rw [e2]; exact fun z => by cases z
      | some o =>
        rw [hr.fz a o (l.sub a o hf)]; exact fun z => by cases z
  · obtain ⟨e1, e2, _⟩ := hr.tp p (by rw [hT]; exact List.mem_append_left _ hp)
    exact ⟨e1, e2, (h.tp p hp).2.2⟩
  · by_cases hin : k ∈ ks
    · obtain ⟨j, ej⟩ := List.getElem?_of_mem hin
      have hj : j < mc.length := by rw [hl]; exact (List.getElem?_eq_some_iff.mp ej).1
      have e3 := setAll_in nd hk ej (List.getElem?_eq_getElem hj)
      rw [e3] at e
      have e4 : (mc ++ ex)[j]? = some (some c) := by rw [List.getElem?_append_left hj, List.getElem?_eq_getElem hj]; exact e
      obtain ⟨a, o, e5, e6, r⟩ := hr.cell j c e4
      have hkl := hk' k hin
      have e7 := inA ej (List.getElem?_eq_getElem hkl)
      rw [e5] at e7
      cases e7
      refine ⟨_, o, List.getElem?_eq_getElem hkl, e6, ?_⟩
      cases c with
      | lst ds => exact r
      | dK kvs => exact r
      | own x y z =>
        have e9 : mc[j]? = some (some (.own x y z)) := by rw [← e4, List.getElem?_append_left hj]
        obtain ⟨i, k2, b1, b2, b3⟩ := backB_own hbk e9
        obtain ⟨j', q, r1, r2, r3⟩ := r
        subst r1
        have b1 : ks[j']? = some i := b1
        rw [ej] at b2
        cases b2
        have hi := hk' i (List.mem_of_getElem? b1)
        have e10 := inA b1 (List.getElem?_eq_getElem hi)
        rw [r2] at e10
        refine ⟨i, q, b3.symm, ?_, r3⟩
        show w.A[i]? = some q
        rw [List.getElem?_eq_getElem hi, e10]
    · rw [setAll_out hin] at e
      obtain ⟨a, o, e5, e6, r⟩ := h.cell k c e
      obtain ⟨o', h1, h2, _⟩ := out e5 hin (h.sep k a c e5 e)
      rw [e6] at h1; cases h1
      exact ⟨a, o, e5, h2, r.mono l.sub⟩
end
section
variable {X : Cx} {L : PP.Loc} {m : Mem} {e a b : Expr} {es : List Expr} {pos p : Pos} {Q : QE} {k : Nat} {f : Addr} {fd : FuncData} {ps : List Str} {sp : FSp} {x : Str}
def CallAsk (sp : FSp) (ks : List Nat) (pvs : List PV) (m : Mem) (q : PV → Mem → Prop) : Prop := ks.Nodup ∧ (∀ k ∈ ks, k < m.length) ∧ (∀ p ∈ pvs, refsIn ks p) ∧ sp (pvs.map (ren ks)) (cellsAt m ks) q
theorem we_call (ks : List Nat) (F : FnOk X.prog X.w X.K X.mg X.base CX0 k f fd ps (toSp X.K sp)) (hr : Room k X.A) (hm : X.mg x = some (.ref f)) (hk : PySem.W.keepIn X.K (.ref f) = true) (hb : Binds X.K fd ps [])
    (h : WA X (e :: es) L m fun pvs m1 => CallAsk sp ks pvs m1 fun p mc => ∃ y, p = .d y ∧ backB none ks mc = true ∧ Q y (setAll m1 ks mc))
    (hg : Gl X x := by rfl) (hdb : (x == ("__debug__" : Str)) = false := by decide) (he : starEach (e :: es) X.env = (false, eval e X.env) :: starEach es X.env := by rfl) (hpl : (backTo pos (starEach es X.env)).any (·.1) = false := by rfl) : WE X (.Call (.Name x p) (e :: es) [] pos) L m Q :=
  we_of (pe_call F hr hg hm hk hb .nil pass0 (paU (e :: es)) hdb he hpl) fun w σ H r => h.go r fun w1 vs pvs m1 H1 l1 r1 d1 ⟨nd, hl, hi, hs⟩ => by
    show toSp X.K sp (vs ++ []) H1 _ _
    rw [List.append_nil]
    refine ⟨_, _, _, _, r1.toHR.subWorld nd hl, sub_rvs r1.toHR hl d1 hi, hs, fun w' v q mc H' l hr' d ⟨y, ey, hmc, qq⟩ => ?_⟩
    subst ey
    obtain ⟨l3, hr3⟩ := r1.toHR.back (mo := []) (ex := []) nd hl l (by rw [List.append_nil]; exact hr') hmc
    exact ⟨_, y, _, l1.trans l3, hr3, d, qq⟩
theorem wf_call {Q : List PyData → Mem → Prop} (ks : List Nat) (F : FnOk X.prog X.w X.K X.mg X.base CX0 k f fd ps (toSp X.K sp)) (hr : Room k X.A) (hm : X.mg x = some (.ref f)) (hk : PySem.W.keepIn X.K (.ref f) = true) (hb : Binds X.K fd ps [])
    (h : WA X (e :: es) L m fun pvs m1 => CallAsk sp ks pvs m1 fun p mc => ∃ mc0 xs, p = .ref ks.length ∧ mc = mc0 ++ [some (.lst xs)] ∧ backB none ks mc0 = true ∧ Q xs (setAll m1 ks mc0))
    (hg : Gl X x := by rfl) (hdb : (x == ("__debug__" : Str)) = false := by decide) (he : starEach (e :: es) X.env = (false, eval e X.env) :: starEach es X.env := by rfl) (hpl : (backTo pos (starEach es X.env)).any (·.1) = false := by rfl) : WF X (.Call (.Name x p) (e :: es) [] pos) L m Q :=
  wf_of (pe_call F hr hg hm hk hb .nil pass0 (paU (e :: es)) hdb he hpl) fun w σ H r => h.go r fun w1 vs pvs m1 H1 l1 r1 d1 ⟨nd, hl, hi, hs⟩ => by
    show toSp X.K sp (vs ++ []) H1 _ _
    rw [List.append_nil]
    refine ⟨_, _, _, _, r1.toHR.subWorld nd hl, sub_rvs r1.toHR hl d1 hi, hs, fun w' v q mc H' l hr' d ⟨mc0, xs, ey, em, hmc, qq⟩ => ?_⟩
    subst ey; subst em
    obtain ⟨l3, hr3⟩ := r1.toHR.back (mo := []) (ex := [some (.lst xs)]) nd hl l hr' hmc
    have ec : (mc0 ++ [some (Cell.lst xs)])[ks.length]? = some (some (.lst xs)) := by rw [← backB_len hmc, List.getElem?_append_right (Nat.le_refl _)]; simp
    obtain ⟨ad, o, ea, eo, us, rfl, dd⟩ := hr'.cell _ _ ec
    obtain ⟨ad', ea', rfl⟩ := d
    rw [ea] at ea'; cases ea'
    have hF := hr'.sep _ _ _ ea ec
    obtain ⟨more, em⟩ := l.pre
    have hT : w'.T = w1.T ++ othersOf w1 H1 ks := l.hid
    refine ⟨_, xs, _, ad, us, rfl, l1.trans l3, hr3, eo, ⟨hF, fun z => ?_, fun z => ?_⟩, dd, qq⟩
    · have z : ad ∈ w1.A := z
      obtain ⟨i, ei⟩ := List.getElem?_of_mem z
      by_cases hin : i ∈ ks
      · obtain ⟨j, ej⟩ := List.getElem?_of_mem hin
        have hil : i < w1.A.length := (List.getElem?_eq_some_iff.mp ei).1
        have hj : j < ks.length := (List.getElem?_eq_some_iff.mp ej).1
        have e3 : w'.A[j]? = some ad := by
          rw [em, List.getElem?_append_left (by show j < (ks.map _).length; rw [List.length_map]; exact hj), sub_at w1 H1 ej hil]; exact ei
        have := nodup_at hr'.nd e3 ea
        omega
      · have hf : w1.F ad = none := l.sub.none hF
        cases q : H1 ad with
        | none => exact r1.toHR.occ ad z q
        | some o =>
          have := hr'.tp (ad, o) (by rw [hT]; exact List.mem_append_right _ (mem_others.mpr ⟨i, hin, ei, hf, q⟩))
          exact this.2.2 (List.mem_of_getElem? ea)
    · obtain ⟨t, ht, et⟩ := List.mem_map.mp z
      exact (hr'.tp t (by rw [hT]; exact List.mem_append_left _ ht)).2.2 (et ▸ List.mem_of_getElem? ea)
theorem cell_at {w : Wd} {H : Hp} {v : V} {k : Nat} {xs : List PyData} (hr : HR X.K w m H) (r : RV X.K w v (.ref k)) (hm : m[k]? = some (some (.lst xs))) : ∃ a vs, v = .ref a ∧ w.A[k]? = some a ∧ H a = some (.lst vs) ∧ DPs X.K w.F vs xs := by
  obtain ⟨a, o, ea, eo, vs, rfl, d⟩ := hr.cell k _ hm
  obtain ⟨a', ea', rfl⟩ := r
  rw [ea] at ea'; cases ea'
  exact ⟨a, vs, rfl, ea, eo, d⟩
theorem cell_upd {w : Wd} {H : Hp} {k : Nat} {a0 : Addr} {vs us : List V} {xs ys : List PyData} (hr : HR X.K w m H) (ea : w.A[k]? = some a0) (hm : m[k]? = some (some (.lst xs))) (d : DPs X.K w.F us ys) : HR X.K w (m.set k (some (.lst ys))) (upd H a0 (.lst us)) := hr.write (c' := .lst ys) (o := .lst us) ea hm ⟨us, rfl, d⟩
theorem we_lm1 {name : Str} {id : String} {r : V → List V → Hp → VK → Prop} {apos : Pos} {Qr : Nat → PyData → Mem → Prop} (slot : Slot "list" name id) (hty : typeOf (.builtin id) = pure (.type "method_descriptor")) (hmt : MtM X id r)
    (rule : ∀ (w0 w : Wd) (k : Nat) (y : PyData) (m : Mem) (H : Hp) (v u : V), w0.le w → HR X.K w m H → RV X.K w v (.ref k) → DP X.K w.F u y → Qr k y m → r v [u] H (POE X.K w0 Q))
    (h : WV X a L m fun p m1 => ∃ k xs0, p = .ref k ∧ m1[k]? = some (some (.lst xs0)) ∧ WE X e L m1 fun y m2 => Qr k y m2)
    (hb : attributeBase a name X.env (eval a X.env) = eval a X.env := by rfl)
    (hfew : ((backTo pos (starEach [e] X.env)).all (fun x => !x.1) && (backToKw pos (keywordEach [] X.env)).all (fun x => x.1.isSome)
      && decide ([e].length + ([] : List Keyword).length + (if ([] : List Keyword).isEmpty then 0 else 1) < 30)) = true := by rfl)
    (hline : (apos.endLine == pos.line) = true := by rfl) (he : starEach [e] X.env = (false, eval e X.env) :: starEach [] X.env := by rfl) (hpl : (backTo pos (starEach [] X.env)).any (·.1) = false := by rfl) : WE X (.Call (.Attribute a name apos) [e] [] pos) L m Q :=
  we_of (pe_bm PySem.F.plainAttrs_list slot hty hmt (peU a) (paU [e]) hb hfew hline he hpl) fun w σ H r => h.go r fun w1 v p m1 H1 l1 r1 d1 ⟨k, xs0, e1, e2, q1⟩ => by
    subst e1
    obtain ⟨a0, vs0, rfl, ea0, eo0, dd0⟩ := cell_at r1.toHR d1 e2
    refine ⟨.inl ⟨rfl, _, .inl (.inl eo0)⟩, WA.go (wd1 q1 he) r1 fun w2 us ps m2 H2 l2 r2 d2 ⟨y, e3, q⟩ => ?_⟩
    subst e3
    obtain ⟨u, rfl, d3⟩ := rvs1 d2
    exact rule w w2 k y m2 H2 _ u (l1.trans l2) r2.toHR (d1.mono l2.toLe0) d3 q
theorem we_lm0 {name : Str} {id : String} {r : V → List V → Hp → VK → Prop} {apos : Pos} {Qr : Nat → Mem → Prop} (slot : Slot "list" name id) (hty : typeOf (.builtin id) = pure (.type "method_descriptor")) (hmt : MtM X id r)
    (rule : ∀ (w0 w : Wd) (k : Nat) (m : Mem) (H : Hp) (v : V), w0.le w → HR X.K w m H → RV X.K w v (.ref k) → Qr k m → r v [] H (POE X.K w0 Q))
    (h : WV X a L m fun p m1 => ∃ k xs0, p = .ref k ∧ m1[k]? = some (some (.lst xs0)) ∧ Qr k m1)
    (hb : attributeBase a name X.env (eval a X.env) = eval a X.env := by rfl) (hline : (apos.endLine == pos.line) = true := by rfl) : WE X (.Call (.Attribute a name apos) [] [] pos) L m Q :=
  we_of (pe_bm0 PySem.F.plainAttrs_list slot hty hmt (peU a) hb hline) fun w σ H r => h.go r fun w1 v p m1 H1 l1 r1 d1 ⟨k, xs0, e1, e2, q1⟩ => by
    subst e1
    obtain ⟨a0, vs0, rfl, ea0, eo0, dd0⟩ := cell_at r1.toHR d1 e2
    exact ⟨.inl ⟨rfl, _, .inl (.inl eo0)⟩, rule w w1 k m1 H1 _ l1 r1.toHR d1 q1⟩
theorem we_append {apos : Pos} (h : WV X a L m fun p m1 => ∃ k xs0, p = .ref k ∧ m1[k]? = some (some (.lst xs0)) ∧ WE X e L m1 fun y m2 => ∃ xs, m2[k]? = some (some (.lst xs)) ∧ xs.length < sizeLine ∧ Q .none (m2.set k (some (.lst (xs ++ [y])))))
    (hb : attributeBase a "append" X.env (eval a X.env) = eval a X.env := by rfl)
    (hfew : ((backTo pos (starEach [e] X.env)).all (fun x => !x.1) && (backToKw pos (keywordEach [] X.env)).all (fun x => x.1.isSome)
      && decide ([e].length + ([] : List Keyword).length + (if ([] : List Keyword).isEmpty then 0 else 1) < 30)) = true := by rfl)
    (hline : (apos.endLine == pos.line) = true := by rfl) (he : starEach [e] X.env = (false, eval e X.env) :: starEach [] X.env := by rfl) (hpl : (backTo pos (starEach [] X.env)).any (·.1) = false := by rfl) : WE X (.Call (.Attribute a "append" apos) [e] [] pos) L m Q :=
  we_lm1 PySem.F.slot_list_append PySem.F.type_list_append mt_append (fun w0 w k y m H v u l hr d1 d2 ⟨xs, e4, hz, q⟩ => by
    obtain ⟨a1, vs, rfl, ea, eo, dd⟩ := cell_at hr d1 e4
    exact ⟨_, vs, u, rfl, rfl, eo, by rw [dpa_len dd]; exact hz, w, _, _, l, cell_upd (vs := vs) hr ea e4 (dpa_app dd (.cons d2 .nil)), .non, q⟩) h hb hfew hline he hpl
theorem we_pop {apos : Pos} (h : WV X a L m fun p m1 => ∃ k xs0, p = .ref k ∧ m1[k]? = some (some (.lst xs0)) ∧ ∃ xs z, m1[k]? = some (some (.lst xs)) ∧ xs[xs.length - 1]? = some z ∧ Q z (m1.set k (some (.lst xs.dropLast))))
    (hb : attributeBase a "pop" X.env (eval a X.env) = eval a X.env := by rfl) (hline : (apos.endLine == pos.line) = true := by rfl) : WE X (.Call (.Attribute a "pop" apos) [] [] pos) L m Q :=
  we_lm0 PySem.F.slot_list_pop PySem.F.type_list_pop mt_pop (fun w0 w k m H v l hr d1 ⟨xs, z, e4, e5, q⟩ => by
    obtain ⟨a1, vs, rfl, ea, eo, dd⟩ := cell_at hr d1 e4
    obtain ⟨z', ez, dz⟩ := dpa_get dd e5
    exact ⟨_, vs, z', rfl, rfl, eo, by rw [dpa_len dd]; exact ez, w, z, _, l, cell_upd (vs := vs) hr ea e4 (dpa_dropLast dd), dz, q⟩) h hb hline
end
end PP
namespace PP
open PySem PySem.Spec PyProof.Rows L2
def Bd (k : Nat) (i : Int) : Prop := i.natAbs < 2 ^ k
theorem Bd.of {k : Nat} {i : Int} (h0 : 0 ≤ i) (h : i < 2 ^ k) : Bd k i := by
  unfold Bd
  have : ((2 ^ k : Nat) : Int) = (2 : Int) ^ k := by simp
  omega
theorem Bd.mono {j k : Nat} {i : Int} (h : Bd j i) (l : j ≤ k) : Bd k i := Nat.lt_of_lt_of_le h (Nat.pow_le_pow_right (by decide) l)
theorem Bd.mul {j k : Nat} {a b : Int} (h : Bd j a) (g : Bd k b) : Bd (j + k) (a * b) := wide_lt h g
theorem Bd.log {k : Nat} {i : Int} (h : Bd k i) : i.natAbs.log2 ≤ k := by
  rcases Nat.eq_zero_or_pos i.natAbs with z | z
  · rw [z]; exact Nat.zero_le _
  · exact Nat.le_of_lt ((Nat.log2_lt (Nat.ne_of_gt z)).mpr h)
theorem cmul_of {j k : Nat} {a b : Int} (h : Bd j a) (g : Bd k b) (l : j + k < 1000000 := by decide) : CMulW a b := by
  have := h.log
  have := g.log
  unfold CMulW
  omega
theorem cdiv_of {k : Nat} {a b : Int} (h0 : 0 < b) (g : Bd k b) (l : k < 9000 := by decide) : CDivW a b := ⟨h0, Nat.lt_of_le_of_lt g.log l⟩
def CPowW (i j : Int) : Prop := 0 ≤ j ∧ (Builtin.Int.intBits i : Int) * j ≤ 2 ^ 27
theorem cpow_of {k : Nat} {a b : Int} (h : Bd k a) (h0 : 0 ≤ b) (h1 : b ≤ 64) (l : k ≤ 1000000 := by decide) : CPowW a b := by
  refine ⟨h0, ?_⟩
  have e : Builtin.Int.intBits a ≤ a.natAbs.log2 + 1 := by
    unfold Builtin.Int.intBits
    split <;> omega
  have := h.log
  have e2 : (Builtin.Int.intBits a : Int) * b ≤ 1000001 * 64 := Int.mul_le_mul (by omega) h1 h0 (by omega)
  have e3 : (2 : Int) ^ 27 = 134217728 := by decide
  omega
section
variable {X : Cx} {L : PP.Loc} {m : Mem} {a b : Expr} {pos : Pos} {Q : QE}
theorem op_powW : OpR X (binaryOp .Pow) (rI CPowW fun i j => .int (i ^ j.toNat)) := opI fun _ _ _ _ _ _ _ hc q => pow_int hc.1 hc.2 q
theorem we_pow (h : WE X a L m fun x m1 => WE X b L m1 fun y m2 => AskI x y fun i j => CPowW i j ∧ Q (.int (i ^ j.toNat)) m2) : WE X (.BinOp a .Pow b pos) L m Q := we_op op_powW (h.mono fun _ _ h => h.mono fun _ _ q => opw_I q)
end
end PP
namespace PP
open PySem PySem.Spec PyProof.Rows L2
section
variable {X : Cx} {L : PP.Loc} {m : Mem} {a b c e : Expr} {es : List Expr} {pos p : Pos} {Q : QE} {QT : Bool → Mem → Prop} {QL : List PyData → Mem → Prop} {D : PEnds}
def VT (X : Cx) (e : Expr) (L : PP.Loc) (m : Mem) (b : Bool) : Prop := ∀ Q : Bool → Mem → Prop, Q b m → WT X e L m Q
def VW (X : Cx) (e : Expr) (L : PP.Loc) (m : Mem) (b : Bool) : Prop := ∀ Q : Bool → Mem → Prop, Q b m → WW X e L m Q
def VE (X : Cx) (e : Expr) (L : PP.Loc) (m : Mem) (x : PyData) : Prop := ∀ Q : QE, Q x m → WE X e L m Q
theorem VT.use {k : Bool} (h : VT X e L m k) (q : QT k m) : WT X e L m QT := h QT q
theorem VE.use {k : PyData} (h : VE X e L m k) (q : Q k m) : WE X e L m Q := h Q q
theorem VW.vt {k : Bool} (h : VW X e L m k) : VT X e L m k := fun Q q => wt_ww (h Q q)
theorem vw_and1 {k : Bool} (h : VT X a L m k) : VW X (.BoolOp .And [a] pos) L m k := fun Q q => ww_and1 (h Q q)
theorem vw_or1 {k : Bool} (h : VT X a L m k) : VW X (.BoolOp .Or [a] pos) L m k := fun Q q => ww_or1 (h Q q)
theorem vw_and {k j : Bool} (h : VT X a L m k) (g : k = true → VW X (.BoolOp .And (b :: es) pos) L m j) : VW X (.BoolOp .And (a :: b :: es) pos) L m (k && j) := fun Q q => ww_and (h _ ⟨fun e => by
  subst e; exact g rfl Q q, fun e => by subst e; exact q⟩)
theorem vw_or {k j : Bool} (h : VT X a L m k) (g : k = false → VW X (.BoolOp .Or (b :: es) pos) L m j) : VW X (.BoolOp .Or (a :: b :: es) pos) L m (k || j) := fun Q q => ww_or (h _ ⟨fun e => by
  subst e; exact q, fun e => by subst e; exact g rfl Q q⟩)
theorem vt_not {k : Bool} (h : VT X a L m k) : VT X (.UnaryOp .Not a pos) L m (!k) := fun Q q => wt_not (h _ q)
theorem ve_one {op : BoolOp} {x : PyData} (h : VE X a L m x) : VE X (.BoolOp op [a] pos) L m x := fun Q q => we_one (h Q q)
theorem ve_and {k j : Bool} (h : VE X a L m (.bool k)) (g : k = true → VE X (.BoolOp .And (b :: es) pos) L m (.bool j)) : VE X (.BoolOp .And (a :: b :: es) pos) L m (.bool (k && j)) := fun Q q => we_andV (h _ ⟨k, rfl, fun e => by
  subst e; exact g rfl Q q, fun e => by subst e; exact q⟩)
theorem ve_or {k j : Bool} (h : VE X a L m (.bool k)) (g : k = false → VE X (.BoolOp .Or (b :: es) pos) L m (.bool j)) : VE X (.BoolOp .Or (a :: b :: es) pos) L m (.bool (k || j)) := fun Q q => we_orV (h _ ⟨k, rfl, fun e => by
  subst e; exact q, fun e => by subst e; exact g rfl Q q⟩)
theorem wt_truth (h : WV X a L m fun p m1 => ∃ xs, seqP m1 p = some xs ∧ QT (!xs.isEmpty) m1) (he : ∀ whole, isTrue a X.env whole = (do let v ← whole; standAt a.pos; holding [v] (truthy v)) := by intro _; rfl) : WT X a L m QT :=
  wt_of (pt_truth (peU a) he) fun w σ H r => h.go r fun w1 v p m1 H1 l1 r1 d1 ⟨xs, e1, q⟩ => by
    obtain ⟨ad, vs, rfl, hh, d⟩ := seqP_ok r1.toHR d1 e1
    have e2 : (!vs.isEmpty) = (!xs.isEmpty) := by
      cases d with
      | nil => rfl
      | cons _ _ => rfl
    rcases hh with hh | hh
    · exact ⟨_, .inl ⟨vs, hh, rfl⟩, w1, m1, l1, r1.toHR, by rw [e2]; exact q⟩
    · exact ⟨_, .inr (.inl ⟨vs, hh, rfl⟩), w1, m1, l1, r1.toHR, by rw [e2]; exact q⟩
theorem we_neI (h : WE X a L m fun x m1 => WE X b L m1 fun y m2 => AskI x y fun i j => Q (.bool (!decide (i = j))) m2) : WE X (.Compare a [.NotEq] [b] pos) L m Q :=
  we_of (pe_cmp (pc_neI (peU a) (peU b))) fun w σ H rp => by
    refine h.go rp fun w1 v x m1 H1 l1 r1 d1 q1 => q1.go r1 fun w2 u y m2 H2 l2 r2 d2 ⟨i, j, e1, e2, q⟩ => ?_
    subst e1; subst e2
    exact ⟨i, j, dp_int (dp_mono l2.sub _ _ d1), dp_int d2, w2, _, m2, l1.trans l2, r2.toHR, .bl _, q⟩
theorem dp_cell {w : Wd} {H : Hp} {v : V} {pv : PV} {xs : List PyData} (hr : HR X.K w m H) (r : RV X.K w v pv) (h : lstP m pv = some xs) : Dp X.K H v (.list xs) := by
  obtain ⟨a, vs, rfl, e, d⟩ := lstP_ok hr r h
  exact .lst (.of e) (DPs.toDp _ _ (dpa_mono hr.fz _ _ d))
def asD (m : Mem) : PV → Option PyData
  | .d x => some x
  | .ref k => match m[k]? with
    | some (some (.lst xs)) => some (.list xs)
    | _ => none
  | _ => none
theorem asD_ok {w : Wd} {H : Hp} {v : V} {pv : PV} {x : PyData} (hr : HR X.K w m H) (r : RV X.K w v pv) (h : asD m pv = some x) : Dp X.K H v x := by
  cases pv with
  | d y => cases h; exact DP.toDp _ _ (dp_mono hr.fz _ _ r)
  | ref k =>
    have h' : (match m[k]? with | some (some (.lst xs)) => some (PyData.list xs) | _ => none) = some x := h
    split at h'
    · rename_i ys hk
      cases h'
      exact dp_cell hr r (show (match m[k]? with | some (some (.lst xs)) => some xs | _ => none) = some ys by rw [hk])
    · cases h'
  | raw u => cases h
  | exc C x => cases h
theorem wt_neV (hu : X.A.units + 64 < cLine) (h : WV X a L m fun x m1 => WV X b L m1 fun y m2 => ∃ d e, asD m2 x = some d ∧ asD m2 y = some e ∧ shp d ∧ shp e ∧ QT (!PyData.eqv d e) m2) : WT X (.Compare a [.NotEq] [b] pos) L m QT :=
  wt_of (pt_cmpR (op_neD hu) (peU a) (peU b) (nomark _)) fun w σ H r => h.go r fun w1 v x m1 H1 l1 r1 d1 q1 => q1.go r1 fun w2 u y m2 H2 l2 r2 d2 ⟨d, e, e1, e2, s1, s2, q⟩ =>
    ⟨_, _, asD_ok r2.toHR (d1.mono l2.toLe0) e1, asD_ok r2.toHR d2 e2, s1, s2, _, rfl, w2, m2, l1.trans l2, r2.toHR, q⟩
theorem dpa_bools_inv {K : PySem.W.Frag} {F : Hp} : ∀ {vs : List V} {bs : List Bool}, DPs K F vs (bs.map PyData.bool) → vs = bs.map V.bl
  | _, [], h => by cases h; rfl
  | _, b :: bs, h => by
    cases h with
    | cons h1 h2 => rw [dp_bool h1, dpa_bools_inv h2]; rfl
theorem we_all (hc : X.calm = true) (hm : X.mg "all" = none) (h : WV X a L m fun p m1 => ∃ bs : List Bool, lstP m1 p = some (bs.map .bool) ∧ Q (.bool (bs.all id)) m1) (hg : Gl X "all" := by rfl) (he : starEach [a] X.env = (false, eval a X.env) :: starEach [] X.env := by rfl)
    (hpl : (backTo pos (starEach [] X.env)).any (·.1) = false := by rfl) : WE X (.Call (.Name "all" p) [a] [] pos) L m Q :=
  we_of (pe_callB (cr_all hc) hg hm (by decide +kernel) (paU [a]) (he := he) (hpl := hpl)) fun w σ H r => WA.go (wa1 h he) r fun w1 vs ps m1 H1 l1 r1 d1 ⟨p, e1, bs, e2, q⟩ => by
    subst e1
    obtain ⟨v, rfl, d2⟩ := rvs1 d1
    obtain ⟨ad, vs, rfl, hh, d⟩ := lstP_ok r1.toHR d2 e2
    have e3 := dpa_bools_inv d
    subst e3
    exact ⟨ad, bs, rfl, .of hh, w1, _, m1, l1, r1.toHR, .bl _, q⟩
def tyD : PyData → String
  | .none => "NoneType"
  | .bool _ => "bool"
  | .int _ => "int"
  | .str _ => "str"
  | .list _ => "list"
  | .tuple _ => "tuple"
  | .dict _ => "dict"
theorem tyD_ok {w : Wd} {H : Hp} {v : V} {x : PyData} (hr : HR X.K w m H) (d : DP X.K w.F v x) : TyX X.K H v (.type (tyD x)) ∨ ∃ xs, x = .tuple xs := by
  cases d with
  | non => exact .inl (.base .non)
  | bl b => exact .inl (.base (.bl b))
  | int i => exact .inl (.base (.int i))
  | str s => exact .inl (.base (.str s))
  | lst h _ => exact .inl (.base (.lst (hr.fz _ _ h)))
  | tup h d =>
    refine .inr ⟨_, rfl⟩
theorem tyD_tup {w : Wd} {H : Hp} {v : V} {xs : List PyData} (hr : HR X.K w m H) (d : DP X.K w.F v (.tuple xs)) : TyX X.K H v (.type "tuple") := by
  cases d with
  | tup h d =>
    rcases hr.fz.sqt h with (h | ⟨o, h⟩) | ⟨o, its, n, hk, hcl, _⟩
    · exact .base (.tup h)
    · exact .fTuple h
    · exact .kTuple hk hcl
theorem we_isinst {T : String} {x : Str} {p2 : Pos} (hm : X.mg "isinstance" = none) (hmT : X.mg x = none) (hb : bootBuiltins x = some (.type T)) (h : WE X a L m fun y m1 => ∃ k, kitB (tyD y) T = some k ∧ Q (.bool k) m1) (hg : Gl X "isinstance" := by rfl) (hgT : Gl X x := by rfl)
    (hn : x ≠ "__name__" := by decide) (hd : (x == ("__debug__" : Str)) = false := by decide)
    (he : starEach [a, .Name x p2] X.env = (false, eval a X.env) :: starEach [.Name x p2] X.env := by rfl) (he2 : starEach [.Name x p2] X.env = (false, eval (.Name x p2) X.env) :: starEach [] X.env := by rfl) (hpl : (backTo pos (starEach [.Name x p2] X.env)).any (·.1) = false := by rfl) : WE X (.Call (.Name "isinstance" p) [a, .Name x p2] [] pos) L m Q :=
  we_of (pe_callB call_isi hg hm (by decide +kernel) (pa_cons (peU a) (pa_cons (pe_bltn (v := .ty T) hgT hmT hb rfl hn hd) pa_nil he2) he) (he := he) (hpl := hpl)) fun w σ H r => h.go r fun w1 v y m1 H1 l1 r1 d1 ⟨k, e1, q⟩ => by
    have ty : TyX X.K H1 v (.type (tyD y)) := by
      rcases tyD_ok r1.toHR d1 with t | ⟨xs, rfl⟩
      · exact t
      · exact tyD_tup r1.toHR d1
    exact ⟨v, .ty T, _, _, k, rfl, .ty T, ty, kit_ty e1, w1, _, m1, l1, r1.toHR, .bl k, q⟩
theorem we_catT (h : WE X a L m fun x m1 => WE X b L m1 fun y m2 => ∃ xs ys, x = .tuple xs ∧ y = .tuple ys ∧ xs.length + ys.length ≤ sizeLine ∧ Q (.tuple (xs ++ ys)) m2) : WE X (.BinOp a .Add b pos) L m Q :=
  we_of (pe_op op_catA (peU a) (peU b)) fun w σ H r => h.go r fun w1 v x m1 H1 l1 r1 d1 q1 => q1.go r1 fun w2 u y m2 H2 l2 r2 d2 ⟨xs, ys, e1, e2, hz, q⟩ => by
    subst e1; subst e2
    have d1 := dp_mono l2.sub _ _ d1
    obtain ⟨a1, vs, rfl, hs, d⟩ := dp_tuple d1
    obtain ⟨a2, us, rfl, hs', d'⟩ := dp_tuple d2
    refine ⟨a1, a2, vs, us, rfl, rfl, r2.toHR.fz.sqt hs, r2.toHR.fz.sqt hs', by rw [dpa_len d, dpa_len d']; exact hz, fun z => ?_, fun _ z => ?_, fun _ _ p hp => ?_⟩
    · subst z
      cases d
      exact ⟨w2, _, m2, l1.trans l2, r2.toHR, d2, q⟩
    · subst z
      cases d'
      rw [List.append_nil] at q
      exact ⟨w2, _, m2, l1.trans l2, r2.toHR, d1, q⟩
    · obtain ⟨l3, hr3⟩ := r2.toHR.fnew (o := .tup (vs ++ us)) hp
      exact ⟨_, _, m2, (l1.trans l2).trans l3, hr3, .tup (.of upd_same) (dpa_mono l3.sub _ _ (dpa_app d d')), q⟩
theorem we_insert {apos : Pos} (h : WV X a L m fun p m1 => ∃ k xs0, p = .ref k ∧ m1[k]? = some (some (.lst xs0)) ∧ WE X b L m1 fun x m2 => WE X e L m2 fun y m3 => ∃ xs i, m3[k]? = some (some (.lst xs)) ∧ x = .int i ∧ xs.length < sizeLine ∧ 0 ≤ i ∧ i < 2 ^ 63 ∧ Q .none (m3.set k (some (.lst (xs.take i.toNat ++ [y] ++ xs.drop i.toNat)))))
    (hb : attributeBase a "insert" X.env (eval a X.env) = eval a X.env := by rfl)
    (hfew : ((backTo pos (starEach [b, e] X.env)).all (fun x => !x.1) && (backToKw pos (keywordEach [] X.env)).all (fun x => x.1.isSome)
      && decide ([b, e].length + ([] : List Keyword).length + (if ([] : List Keyword).isEmpty then 0 else 1) < 30)) = true := by rfl)
    (hline : (apos.endLine == pos.line) = true := by rfl) (he : starEach [b, e] X.env = (false, eval b X.env) :: starEach [e] X.env := by rfl) (he2 : starEach [e] X.env = (false, eval e X.env) :: starEach [] X.env := by rfl) (hpl : (backTo pos (starEach [e] X.env)).any (·.1) = false := by rfl) : WE X (.Call (.Attribute a "insert" apos) [b, e] [] pos) L m Q :=
  we_of (pe_bm PySem.F.plainAttrs_list PySem.F.slot_list_insert PySem.F.type_list_insert mt_insert (peU a) (paU [b, e]) hb hfew hline he hpl) fun w σ H r => h.go r fun w1 v p m1 H1 l1 r1 d1 ⟨k, xs0, e1, e2, q1⟩ => by
    subst e1
    obtain ⟨a0, vs0, rfl, ea0, eo0, dd0⟩ := cell_at r1.toHR d1 e2
    refine ⟨.inl ⟨rfl, _, .inl (.inl eo0)⟩, WA.go (wd2 q1 he he2) r1 fun w2 us ps m2 H2 l2 r2 d2 ⟨x, y, e3, xs, i, e4, e5, hz, i0, i1, q⟩ => ?_⟩
    subst e3; subst e5
    obtain ⟨u, t, rfl, d3, d4⟩ := rvs2 d2
    obtain ⟨a1, vs, ev, ea, eo, dd⟩ := cell_at r2.toHR (d1.mono l2.toLe0) e4
    cases ev
    exact ⟨_, vs, i, t, rfl, by rw [dp_int d3], eo, by rw [dpa_len dd]; exact hz, i0, i1, w2, _, _, l1.trans l2, cell_upd (vs := vs) r2.toHR ea e4 (dpa_app (dpa_app (dpa_take _ dd) (.cons d4 .nil)) (dpa_drop _ dd)), .non, q⟩
def valD (kvs : List (Key × PyData)) (k : Key) : Option PyData := (kvs.find? fun kv => decide (kv.1 = k)).map (·.2)
end
end PP
namespace PP
open PySem PySem.Spec PyProof.Rows L2
theorem setAll_nil {m cs : Mem} : setAll m [] cs = m := by cases cs <;> rfl
theorem units65 {k : Nat} {A : Around} (r : Room k A) : A.units + 65 < cLine := by have := r.un; omega
theorem units1 {k : Nat} {A : Around} (r : Room k A) : A.units + 1 < cLine := by have := r.un; omega
theorem Bd.add {j k : Nat} {a b : Int} (h : Bd j a) (g : Bd k b) : Bd (max j k + 1) (a + b) := by
  unfold Bd at *
  have h1 : a.natAbs < 2 ^ max j k := Nat.lt_of_lt_of_le h (Nat.pow_le_pow_right (by decide) (Nat.le_max_left ..))
  have h2 : b.natAbs < 2 ^ max j k := Nat.lt_of_lt_of_le g (Nat.pow_le_pow_right (by decide) (Nat.le_max_right ..))
  rw [Nat.pow_succ]
  omega
theorem Bd.mod {k : Nat} {i j : Int} (h0 : 0 < j) (h : j ≤ 2 ^ k) : Bd k (i % j) := Bd.of (Int.emod_nonneg _ (by omega)) (Int.lt_of_lt_of_le (Int.emod_lt_of_pos _ h0) h)
theorem Bd.div {k : Nat} {a j : Int} (h : Bd k a) (ha : 0 ≤ a) (h0 : 0 < j) : Bd k (a / j) := by
  unfold Bd at *
  have h1 : a / j ≤ a := Int.ediv_le_self _ ha
  have h2 : 0 ≤ a / j := Int.ediv_nonneg ha (by omega)
  omega
theorem Bd.lit {k : Nat} {i : Int} (h : i.natAbs < 2 ^ k := by decide +kernel) : Bd k i := h
def WL (n : Nat) (xs : List PyData) : Prop := ∃ a b c : Int, xs = [.int a, .int b, .int c] ∧ 0 ≤ a ∧ Bd 2000000 a ∧ 0 ≤ b ∧ b < 2 ^ 120 ∧ 0 ≤ c ∧ c ≤ n
theorem WL.mono {n k : Nat} {xs : List PyData} (h : WL n xs) (l : n ≤ k) : WL k xs := by
  obtain ⟨a, b, c, e, h1, h2, h3, h4, h5, h6⟩ := h
  exact ⟨a, b, c, e, h1, h2, h3, h4, h5, by omega⟩
theorem bits_bd {z : Int} (h : Builtin.Int.intBits z ≤ 1048576) : Bd 1048577 z := by
  unfold Builtin.Int.intBits at h
  split at h
  · rename_i e
    have : z.natAbs = 0 := by simpa using e
    unfold Bd
    rw [this]
    exact Nat.pow_pos (by decide)
  · rename_i e
    have e0 : z.natAbs ≠ 0 := by simpa using e
    unfold Bd
    refine (Nat.log2_lt e0).mp ?_
    omega
theorem ixN_of {n : Nat} {i : Int} (h0 : 0 ≤ i) (h : i < n) : ixN n i = some i.toNat := by
  unfold ixN
  rw [if_pos h0, if_pos h]
theorem ixN_ng {n : Nat} {i : Int} (h0 : i < 0) (h : -(n : Int) ≤ i) : ixN n i = some (i + n).toNat := by
  unfold ixN
  rw [if_neg (by omega), if_pos h]
theorem atI_of {α : Type} {xs : List α} {i : Int} (h0 : 0 ≤ i) (h : i < xs.length) : atI xs i = some (xs[i.toNat]'(by omega)) := by
  unfold atI
  rw [ixN_of h0 h, Option.bind_some, List.getElem?_eq_getElem (by omega)]
theorem atI_ng {α : Type} {xs : List α} {i : Int} (h0 : i < 0) (h : -(xs.length : Int) ≤ i) : atI xs i = some (xs[(i + xs.length).toNat]'(by omega)) := by
  unfold atI
  rw [ixN_ng h0 h, Option.bind_some, List.getElem?_eq_getElem (by omega)]
theorem atI_ints {ns : List Int} {i : Int} (h0 : 0 ≤ i) (h : i < ns.length) : atI (ns.map PyData.int) i = some (.int (ns.getD i.toNat 0)) := by
  rw [atI_of h0 (by rw [List.length_map]; exact h), List.getElem_map]
  have h1 : i.toNat < ns.length := by omega
  rw [List.getD_eq_getElem?_getD, List.getElem?_eq_getElem h1, Option.getD_some]
theorem szl {n : Nat} (h : n ≤ 16777216) : n ≤ sizeLine := h
theorem szlt {n : Nat} (h : n < 16777216) : n < sizeLine := h
theorem lcP {X : Cx} {L : PP.Loc} {elt : Expr} {scope : Scope} {own : List (Str × Nat)} {pat : Pat} {Q : List PyData → Mem → Prop} {xs : List PyData} {g : Mem → Prop} {m1 : Mem} (hz : xs.length ≤ sizeLine) (hg : g m1) (f : Nat → PyData)
    (h : ∀ (i : Nat) (x : PyData), xs[i]? = some x → ∃ Lx, setP (wipeL L (own.map (·.2))) pat x = some Lx ∧ WEb X scope elt Lx m1 fun y m4 => y = f i ∧ m4 = m1) (q : Q ((List.range xs.length).map f) m1) :
    xs.length ≤ sizeLine ∧ ∃ I : Nat → List PyData → Mem → Prop, I 0 [] m1 ∧
      (∀ (i : Nat) (x : PyData) (ys : List PyData) (m' : Mem), xs[i]? = some x → ys.length ≤ i → I i ys m' → g m' ∧ ∃ Lx, setP (wipeL L (own.map (·.2))) pat x = some Lx ∧ WEb X scope elt Lx m' fun y m4 => I (i + 1) (ys ++ [y]) m4) ∧
      ∀ ys m', ys.length ≤ xs.length → I xs.length ys m' → g m' ∧ Q ys m' := by
  refine ⟨hz, fun i ys m => m = m1 ∧ ys = (List.range i).map f, ⟨rfl, rfl⟩, ?_, ?_⟩
  · rintro i x ys m' hx _ ⟨rfl, rfl⟩
    obtain ⟨Lx, e, w⟩ := h i x hx
    refine ⟨hg, Lx, e, fun s H C cl fp => (w s H C cl fp).mono ?_⟩
    rintro y m4 ⟨rfl, rfl⟩
    refine ⟨rfl, ?_⟩
    rw [List.range_succ, List.map_append]
    rfl
  · rintro ys m' _ ⟨rfl, rfl⟩
    exact ⟨hg, q⟩
theorem rep_ints {n : Nat} {z : Int} : (List.replicate n z).map PyData.int = (List.replicate n [PyData.int z]).flatten := by
  induction n with
  | zero => rfl
  | succ n ih => rw [List.replicate_succ, List.replicate_succ, List.map_cons, List.flatten_cons, ih]; rfl
inductive WkL (n : Nat) : PP.Loc → PP.Loc → Prop
  | nil : WkL n [] []
  | kd {x : PyData} {L L' : PP.Loc} : WkL n L L' → WkL n (some (.d x) :: L) (some (.d x) :: L')
  | kr {k : Nat} {L L' : PP.Loc} : k < n → WkL n L L' → WkL n (some (.ref k) :: L) (some (.ref k) :: L')
  | kw {x : List PyData} {L L' : PP.Loc} : WkL n L L' → WkL n (some (.raw x) :: L) (some (.raw x) :: L')
  | kx {C : Addr} {x : PyData} {L L' : PP.Loc} : WkL n L L' → WkL n (some (.exc C x) :: L) (some (.exc C x) :: L')
  | drop {y : Option PV} {L L' : PP.Loc} : WkL n L L' → WkL n (y :: L) (none :: L')
theorem WkL.len {n : Nat} : ∀ {L L' : PP.Loc}, WkL n L L' → L'.length = L.length
  | _, _, .nil => rfl
  | _, _, .kd h => by rw [List.length_cons, List.length_cons, h.len]
  | _, _, .kr _ h => by rw [List.length_cons, List.length_cons, h.len]
  | _, _, .kw h => by rw [List.length_cons, List.length_cons, h.len]
  | _, _, .kx h => by rw [List.length_cons, List.length_cons, h.len]
  | _, _, .drop h => by rw [List.length_cons, List.length_cons, h.len]
theorem WkL.at {n : Nat} : ∀ {L L' : PP.Loc}, WkL n L L' → ∀ (i : Nat) (p : PV), L'[i]? = some (some p) → L[i]? = some (some p) ∧ ∀ k, p = .ref k → k < n
  | _, _, .nil, i, p, e => by simp at e
  | _, _, .kd h, 0, p, e => by simp at e; subst e; exact ⟨rfl, fun k z => by cases z⟩
  | _, _, .kr hk h, 0, p, e => by simp at e; subst e; exact ⟨rfl, fun k z => by cases z; exact hk⟩
  | _, _, .kw h, 0, p, e => by simp at e; subst e; exact ⟨rfl, fun k z => by cases z⟩
  | _, _, .kx h, 0, p, e => by simp at e; subst e; exact ⟨rfl, fun k z => by cases z⟩
  | _, _, .drop h, 0, p, e => by simp at e
  | _, _, .kd h, i + 1, p, e => h.at i p (by simpa using e)
  | _, _, .kr _ h, i + 1, p, e => h.at i p (by simpa using e)
  | _, _, .kw h, i + 1, p, e => h.at i p (by simpa using e)
  | _, _, .kx h, i + 1, p, e => h.at i p (by simpa using e)
  | _, _, .drop h, i + 1, p, e => h.at i p (by simpa using e)
theorem Wk.same {n : Nat} {L L' : PP.Loc} {m : Mem} (h : WkL m.length L L') (hn : n ≤ m.length) : Wk n L m L' m := ⟨h.len, h.at, m.length, hn, by rw [List.take_length]⟩
theorem Wk.cut {n : Nat} {L L' : PP.Loc} {m : Mem} (h : WkL (m.take n).length L L') : Wk n L m L' (m.take n) := ⟨h.len, h.at, n, Nat.le_refl _, rfl⟩
theorem atI_gd {xs : List PyData} {i : Int} (h0 : 0 ≤ i) (h : i < xs.length) : atI xs i = some (xs.getD i.toNat .none) := by
  rw [atI_of h0 h, List.getD_eq_getElem?_getD, List.getElem?_eq_getElem (by omega), Option.getD_some]
theorem atI_gdn {xs : List PyData} {i : Int} (h0 : i < 0) (h : -(xs.length : Int) ≤ i) : atI xs i = some (xs.getD (i + xs.length).toNat .none) := by
  rw [atI_ng h0 h, List.getD_eq_getElem?_getD, List.getElem?_eq_getElem (by omega), Option.getD_some]
theorem mem_getD {α : Type} {xs : List α} {j : Nat} {d : α} (h : j < xs.length) : xs.getD j d ∈ xs := by
  rw [List.getD_eq_getElem?_getD, List.getElem?_eq_getElem h, Option.getD_some]
  exact List.getElem_mem h
end PP
namespace PP
open PySem PySem.Spec PyProof.Rows L2
def Sd (n : Nat) (d : PyData) : Prop := d.canLay0 = true ∧ d.depth ≤ n
theorem Sd.mono {n k : Nat} {d : PyData} (h : Sd n d) (l : n ≤ k) : Sd k d := ⟨h.1, Nat.le_trans h.2 l⟩
theorem Sd.shp {n : Nat} {d : PyData} (h : Sd n d) (l : n ≤ 64 := by decide) : shp d := by
  unfold PP.shp SeqAt.shaped
  rw [Bool.and_eq_true]
  exact ⟨h.1, decide_eq_true (Nat.le_trans h.2 l)⟩
theorem sd_int {n : Nat} {i : Int} : Sd n (.int i) := ⟨rfl, Nat.zero_le _⟩
theorem sd_all {n : Nat} : ∀ {xs : List PyData}, (∀ x ∈ xs, Sd n x) → PyData.canLayAll0 xs = true ∧ PyData.depthAll xs ≤ n
  | [], _ => ⟨rfl, Nat.zero_le _⟩
  | x :: xs, h => by
    obtain ⟨h1, h2⟩ := h x List.mem_cons_self
    obtain ⟨h3, h4⟩ := sd_all fun y hy => h y (List.mem_cons_of_mem _ hy)
    refine ⟨?_, ?_⟩
    · simp only [PyData.canLayAll0, h1, h3, Bool.and_self]
    · simp only [PyData.depthAll]; omega
theorem sd_list {n : Nat} {xs : List PyData} (h : ∀ x ∈ xs, Sd n x) : Sd (n + 1) (.list xs) := by
  obtain ⟨h1, h2⟩ := sd_all h
  exact ⟨by simp only [PyData.canLay0, h1], by simp only [PyData.depth]; omega⟩
theorem sd_tuple {n : Nat} {xs : List PyData} (h : ∀ x ∈ xs, Sd n x) : Sd (n + 1) (.tuple xs) := by
  obtain ⟨h1, h2⟩ := sd_all h
  exact ⟨by simp only [PyData.canLay0, h1], by simp only [PyData.depth]; omega⟩
theorem sd_ints {n : Nat} {ns : List Int} : ∀ x ∈ ns.map PyData.int, Sd n x := fun x hx => by
  obtain ⟨i, _, rfl⟩ := List.mem_map.mp hx
  exact sd_int
theorem shp_ints {ns : List Int} : shp (.list (ns.map .int)) := (sd_list (n := 0) sd_ints).shp
theorem eqv_nil {xs : List PyData} : PyData.eqv (.list xs) (.list []) = xs.isEmpty := by
  cases xs <;> rfl
theorem ws_join {X : Cx} {st : Stmt} {L : PP.Loc} {m : Mem} {D : PEnds} (J : PP.Loc → Mem → Prop) (h : WS X st L m { D with nx := J }) (k : ∀ L' m', J L' m' → D.nx L' m') : WS X st L m D :=
  fun w σ H r => tUS_mono (h w σ H r) (fun σ' H' ⟨w', L', m', l, r', q⟩ => ⟨w', L', m', l, r', k _ _ q⟩) (fun _ _ q => q) (fun _ _ q => q) (fun _ _ q => q)
def Tg (k : Int) (x : PyData) : Prop := ∃ (u d : Int) (ns : List Int), x = .tuple [.int u, .int d, .tuple (ns.map .int)] ∧ -(1000 + 10 * k) ≤ u ∧ u ≤ 1000 + 10 * k ∧ -(1000 + 10 * k) ≤ d ∧ d ≤ 1000 + 10 * k ∧ ns.length ≤ 16 ∧
  ∀ z ∈ ns, -(1000000000000000000000000000000 + 100 * k) ≤ z ∧ z ≤ 1000000000000000000000000000000 + 100 * k
theorem Tg.mono {k l : Int} {x : PyData} (h : Tg k x) (e : k ≤ l) : Tg l x := by
  obtain ⟨u, d, ns, e1, h1, h2, h3, h4, h5, h6⟩ := h
  exact ⟨u, d, ns, e1, by omega, by omega, by omega, by omega, h5, fun z hz => by have := h6 z hz; omega⟩
end PP
namespace PP
open PySem PySem.Spec PyProof.Rows L2
section
variable {X : Cx} {L : PP.Loc} {m : Mem} {a b c : Expr} {pos : Pos} {i j k : Int} {Q : QE} {es : List Expr}
theorem we_notL (h : WV X a L m fun p m1 => ∃ xs, seqP m1 p = some xs ∧ Q (.bool xs.isEmpty) m1) : WE X (.UnaryOp .Not a pos) L m Q :=
  we_of (pe_notT (peU a)) fun w σ H r => h.go r fun w1 v p m1 H1 l1 r1 d1 ⟨xs, e1, q⟩ => by
    obtain ⟨ad, vs, rfl, hh, d⟩ := seqP_ok r1.toHR d1 e1
    have e2 : (!(!vs.isEmpty)) = xs.isEmpty := by
      cases d with
      | nil => rfl
      | cons _ _ => rfl
    rcases hh with hh | hh
    · exact ⟨_, .inl ⟨vs, hh, rfl⟩, w1, _, m1, l1, r1.toHR, .bl _, by rw [e2]; exact q⟩
    · exact ⟨_, .inr (.inl ⟨vs, hh, rfl⟩), w1, _, m1, l1, r1.toHR, .bl _, by rw [e2]; exact q⟩
end
end PP
namespace PP
open PySem PySem.Spec PyProof.Rows L2
section
variable {X : Cx} {L : PP.Loc} {m : Mem} {e : Expr} {es : List Expr} {kws : List Keyword} {pos p kpos : Pos} {Q : QE} {k : Nat} {f : Addr} {fd : FuncData} {ps kn : List Str} {sp : FSp} {x : Str} {nm : Option Str}
def tUK (X : Cx) (kws : List Keyword) : TA := fun σ H Q => ∀ (pos : Pos) (pins : List (Addr × Obj)) (s : Shared), Inv X pins σ H s → wpAny (model X.prog X.w) X.A (evalAll ((backToKw pos (keywordEach kws X.env)).map (·.2))) (AP X pins σ Q) X.xe s
theorem pkU (kws : List Keyword) : PK X kws (tUK X kws) := ⟨fun pos pins s _ _ _ I h => h pos pins s I⟩
theorem tUK_mono {kws : List Keyword} {σ : L2.St} {H : Hp} {Q Q' : List V → Hp → Prop} (h : tUK X kws σ H Q) (k : ∀ v H', Q v H' → Q' v H') : tUK X kws σ H Q' := fun pos pins s I =>
  thn (h pos pins s I) fun us s' ⟨vs, H', I', r, q⟩ => ⟨vs, H', I', r, k _ _ q⟩
def WK (X : Cx) (kws : List Keyword) (L : PP.Loc) (m : Mem) (Q : List PV → Mem → Prop) : Prop := ∀ (w : Wd) (σ : L2.St) (H : Hp), Rep X.K w L m σ H → tUK X kws σ H (POA X.K w Q)
theorem WK.go {Q : List PV → Mem → Prop} (h : WK X kws L m Q) {w : Wd} {σ : L2.St} {H : Hp} (r : Rep X.K w L m σ H) {R : List V → Hp → Prop} (k : ∀ (w' : Wd) (vs : List V) (ps : List PV) (m' : Mem) (H' : Hp), w.le w' → Rep X.K w' L m' σ H' → RVs X.K w' vs ps → Q ps m' → R vs H') : tUK X kws σ H R :=
  tUK_mono (h w σ H r) fun v H' ⟨w', x, m', l, hr, d, q⟩ => k w' v x m' H' l (r.go l hr) d q
theorem wk_nil {Q : List PV → Mem → Prop} (q : Q [] m) : WK X [] L m Q := fun w σ H r pos pins s I => pk_nil.run pos pins s σ H _ I ⟨w, [], m, .refl w, r.toHR, .nil, q⟩
theorem wk_cons {Q : List PV → Mem → Prop} (h : WV X e L m fun x m1 => WK X kws L m1 fun xs m2 => Q (x :: xs) m2) : WK X (⟨nm, e, kpos⟩ :: kws) L m Q := fun w σ H r pos pins s I =>
  (pk_cons (peU e) (pkU kws)).run pos pins s σ H _ I (h.go r fun w1 v x m1 H1 l1 r1 d1 q1 => q1.go r1 fun w2 vs xs m2 H2 l2 r2 d2 q2 => ⟨w2, x :: xs, m2, l1.trans l2, r2.toHR, .cons (d1.mono l2.toLe0) d2, q2⟩)
theorem wk_d {Q : List PV → Mem → Prop} (h : WE X e L m fun x m1 => WK X kws L m1 fun xs m2 => Q (.d x :: xs) m2) : WK X (⟨nm, e, kpos⟩ :: kws) L m Q := wk_cons (wv_we h)
theorem pe_callK0 {CX : CXT} {tk : TA} {ps kn : List Str} {sp : Sp} {E : XK} {g : List Value → List Value → List Value} {gV : List V → List V → List V} (F : FnOk X.prog X.w X.K X.mg X.base CX k f fd ps sp) (hr : Room k X.A) (hg : Gl X x) (hm : X.mg x = some (.ref f)) (hk : PySem.W.keepIn X.K (.ref f) = true) (hb : KBinds X.K fd ps kn g gV) (hx : Passes CX X E)
    (hkw : PK X kws tk) (hall : (backToKw pos (keywordEach kws X.env)).all (·.1.isSome) = true := by rfl) (hks : (backToKw pos (keywordEach kws X.env)).filterMap (·.1) = kn := by rfl)
    (hdb : (x == ("__debug__" : Str)) = false := by decide)
    (hpl : ((backTo pos (starEach [] X.env)).any (·.1) || (backToKw pos (keywordEach kws X.env)).any (·.1.isNone)) = false := by rfl) :
    PE X (.Call (.Name x p) [] kws pos) (tCallK sp gV E tNil tk) := by
  refine ⟨fun pins s σ H Q I h => ?_⟩
  refine wpAny_Call_Name_kw (ld_glob I hg hm ?_ hdb)
  refine PySem.W.callWith_KW0 (h₀ := X.base) I.ok.mod.kin hk hall (thn (hkw.run pos pins s σ H _ I h) fun ws s2 ⟨zs, H2, I2, rz, q2⟩ => ⟨I2.kIn, ?_⟩) hpl
  rw [hks]
  exact run_fnk F hr hb hx I2 .nil rz q2
theorem call_readF {Q : List PyData → Mem → Prop} {ks : List Nat} {w w1 : Wd} {σ : L2.St} {H1 : Hp} {vs : List V} {pvs : List PV} {m1 : Mem} {E : XK} (l1 : w.le w1) (r1 : Rep X.K w1 L m1 σ H1) (d1 : RVs X.K w1 vs pvs) (h : CallAsk sp ks pvs m1 fun p mc => ∃ mc0 xs, p = .ref ks.length ∧ mc = mc0 ++ [some (.lst xs)] ∧ backB none ks mc0 = true ∧ Q xs (setAll m1 ks mc0)) : toSp X.K sp vs H1 (PF X.K w Q) E := by
  obtain ⟨nd, hl, hi, hs⟩ := h
  refine ⟨_, _, _, _, r1.toHR.subWorld nd hl, sub_rvs r1.toHR hl d1 hi, hs, fun w' v q mc H' l hr' d ⟨mc0, xs, ey, em, hmc, qq⟩ => ?_⟩
  subst ey; subst em
  obtain ⟨l3, hr3⟩ := r1.toHR.back (mo := []) (ex := [some (.lst xs)]) nd hl l hr' hmc
  have ec : (mc0 ++ [some (Cell.lst xs)])[ks.length]? = some (some (.lst xs)) := by rw [← backB_len hmc, List.getElem?_append_right (Nat.le_refl _)]; simp
  obtain ⟨ad, o, ea, eo, us, rfl, dd⟩ := hr'.cell _ _ ec
  obtain ⟨ad', ea', rfl⟩ := d
  rw [ea] at ea'; cases ea'
  have hF := hr'.sep _ _ _ ea ec
  obtain ⟨more, em⟩ := l.pre
  have hT : w'.T = w1.T ++ othersOf w1 H1 ks := l.hid
  refine ⟨_, xs, _, ad, us, rfl, l1.trans l3, hr3, eo, ⟨hF, fun z => ?_, fun z => ?_⟩, dd, qq⟩
  · have z : ad ∈ w1.A := z
    obtain ⟨i, ei⟩ := List.getElem?_of_mem z
    by_cases hin : i ∈ ks
    · obtain ⟨j, ej⟩ := List.getElem?_of_mem hin
      have hil : i < w1.A.length := (List.getElem?_eq_some_iff.mp ei).1
      have hj : j < ks.length := (List.getElem?_eq_some_iff.mp ej).1
      have e3 : w'.A[j]? = some ad := by
        rw [em, List.getElem?_append_left (by show j < (ks.map _).length; rw [List.length_map]; exact hj), sub_at w1 H1 ej hil]; exact ei
      have := nodup_at hr'.nd e3 ea
      omega
    · have hf : w1.F ad = none := l.sub.none hF
      cases q : H1 ad with
      | none => exact r1.toHR.occ ad z q
      | some o =>
        have := hr'.tp (ad, o) (by rw [hT]; exact List.mem_append_right _ (mem_others.mpr ⟨i, hin, ei, hf, q⟩))
        exact this.2.2 (List.mem_of_getElem? ea)
  · obtain ⟨t, ht, et⟩ := List.mem_map.mp z
    exact (hr'.tp t (by rw [hT]; exact List.mem_append_left _ ht)).2.2 (et ▸ List.mem_of_getElem? ea)
structure KBp (K : PySem.W.Frag) (fd : FuncData) (ps : List Str) (n : Nat) (kn : List Str) : Prop where
  to : ∀ (s : Shared) (us ws : List Value), K.In s.heap → us.length = n → ws.length = kn.length → BindsTo s fd ⟨us, kn.zip ws⟩ (ps.zip (us ++ ws))
  ne : ps ≠ []
def gL {α : Type} (n k : Nat) (us ws : List α) : List α := if us.length = n ∧ ws.length = k then us ++ ws else []
theorem gL_of {α : Type} {n k : Nat} {us ws : List α} (h : us.length = n) (g : ws.length = k) : gL n k us ws = us ++ ws := by unfold gL; rw [if_pos ⟨h, g⟩]
theorem vals_app : ∀ {vs zs : List V} {us ws : List Value}, Vals vs us → Vals zs ws → Vals (vs ++ zs) (us ++ ws)
  | _, _, _, _, .nil, s => s
  | _, _, _, _, .cons r t, s => .cons r (vals_app t s)
theorem KBp.kb {K : PySem.W.Frag} {fd : FuncData} {ps kn : List Str} {n : Nat} (h : KBp K fd ps n kn) : KBinds K fd ps kn (gL n kn.length) (gL n kn.length) where
  to := fun s us ws X hl => by
    unfold gL at hl ⊢
    split at hl
    · rename_i c
      rw [if_pos c]
      exact h.to s us ws X c.1 c.2
    · exact absurd (List.length_eq_zero_iff.mp hl.symm) h.ne
  rel := fun {vs us zs ws} r rz => by
    unfold gL
    rw [r.length, rz.length]
    split
    · exact vals_app r rz
    · exact .nil
theorem fun_kbp {K : PySem.W.Frag} {x qual : Str} {st : Stmt} {f : Addr} {fd : FuncData} {ps : List Str} (F : Fun K x qual st f fd) (n : Nat) (kn : List Str) (ne : ps ≠ [])
    (h : ∀ (kV doc pm : Value) (an : Option Addr) (cdv ct : Value) (us ws : List Value), us.length = n → ws.length = kn.length → bindArgs (PySem.W.fnOf x qual (defArgs st) (defBody st) (defScope st) .none kV doc pm an cdv ct) ⟨us, kn.zip ws⟩ = pure (ps.zip (us ++ ws))) : KBp K fd ps n kn := by
  obtain ⟨oc, od, kV, doc, pm, an, cdv, ct, osl, rfl, lk, hcd⟩ := F.ex
  exact ⟨fun s us ws _ l1 l2 => .of_eq (h kV doc pm an cdv ct us ws l1 l2), ne⟩
theorem wf_callK0 {n : Nat} {Q : List PyData → Mem → Prop} (ks : List Nat) (F : FnOk X.prog X.w X.K X.mg X.base CX0 k f fd ps (toSp X.K sp)) (hr : Room k X.A) (hm : X.mg x = some (.ref f)) (hk : PySem.W.keepIn X.K (.ref f) = true) (hb : KBp X.K fd ps n kn)
    (h : WK X kws L m fun pvs m1 => 0 = n ∧ pvs.length = kn.length ∧ CallAsk sp ks pvs m1 fun p mc => ∃ mc0 xs, p = .ref ks.length ∧ mc = mc0 ++ [some (.lst xs)] ∧ backB none ks mc0 = true ∧ Q xs (setAll m1 ks mc0))
    (hg : Gl X x := by rfl) (hall : (backToKw pos (keywordEach kws X.env)).all (·.1.isSome) = true := by rfl) (hks : (backToKw pos (keywordEach kws X.env)).filterMap (·.1) = kn := by rfl) (hdb : (x == ("__debug__" : Str)) = false := by decide)
    (hpl : ((backTo pos (starEach [] X.env)).any (·.1) || (backToKw pos (keywordEach kws X.env)).any (·.1.isNone)) = false := by rfl) : WF X (.Call (.Name x p) [] kws pos) L m Q :=
  wf_of (pe_callK0 F hr hg hm hk hb.kb pass0 (pkU kws) hall hks hdb hpl) fun w σ H r => WK.go h r fun w1 vs pvs m1 H1 l1 r1 d1 ⟨e1, e2, hs⟩ => by
    show toSp X.K sp (gL n kn.length [] vs) H1 _ _
    rw [gL_of (show ([] : List V).length = n from e1) (d1.length.trans e2), List.nil_append]
    exact call_readF l1 r1 d1 hs
end
def spLaw : FSp := fun pvs m q => ∃ ns : List Int, pvs = [.raw (ns.map .int)] ∧ m = [] ∧ ns.length ≤ 63 ∧ (∀ z ∈ ns, Builtin.Int.intBits z ≤ 1048576) ∧ q (.d (.bool true)) []
end PP
namespace PP
open PySem PySem.Spec PyProof.Rows L2
theorem hr_base {K : PySem.W.Frag} {H : Hp} : HR K ⟨[], [], H⟩ [] H where
  fz := Sub.refl _
  len := rfl
  nd := .nil
  sep := fun k a c e _ => by simp at e
  occ := fun a h => by cases h
  tp := fun p h => by cases h
  tnd := .nil
  cell := fun k c e => by simp at e
theorem law_sp {K : PySem.W.Frag} {H : Hp} {a : Addr} {ns : List Int} {E : XK} (hl : ns.length ≤ 63) (hb : ∀ z ∈ ns, Builtin.Int.intBits z ≤ 1048576) (hS : SqL K H a (ns.map V.int)) : toSp K spLaw [.ref a] H (fun v _ => v = .bl true) E :=
  ⟨⟨[], [], H⟩, [.raw (ns.map .int)], [], fun p _ => p = .d (.bool true), hr_base, .cons ⟨a, _, rfl, hS, dpa_ints ns⟩ .nil, ⟨ns, rfl, rfl, hl, hb, rfl⟩, fun w' v p m' H' _ _ r e => by
    subst e
    exact dp_bool r⟩
end PP
namespace PP
open PySem PySem.Spec PyProof.Rows L2 RZ
section
variable {X : Cx} {L : PP.Loc} {m : Mem} {a b : Expr} {pos p : Pos} {Q : QE} {QT : Bool → Mem → Prop} {QI : List PyData → (Mem → Prop) → Mem → Prop}
theorem we_isinst2 {S T : String} {x y : Str} {x1 : Nat} {p2 p3 p4 : Pos} (hm : X.mg "isinstance" = none) (hmS : X.mg x = none) (hmT : X.mg y = none) (hbS : bootBuiltins x = some (.type S)) (hb : bootBuiltins y = some (.type T)) (h : WE X a L m fun z m1 => ∃ j k, kitB (tyD z) S = some j ∧ kitB (tyD z) T = some k ∧ Q (.bool (j || k)) m1)
    (hg : Gl X "isinstance" := by rfl) (hgS : Gl X x := by rfl) (hgT : Gl X y := by rfl)
    (hnS : x ≠ "__name__" := by decide) (hdS : (x == ("__debug__" : Str)) = false := by decide) (hn : y ≠ "__name__" := by decide) (hd : (y == ("__debug__" : Str)) = false := by decide)
    (he : starEach [a, .Tuple [.Name x p2, .Name y p3] x1 p4] X.env = (false, eval a X.env) :: starEach [.Tuple [.Name x p2, .Name y p3] x1 p4] X.env := by rfl) (he2 : starEach [.Tuple [.Name x p2, .Name y p3] x1 p4] X.env = (false, eval (.Tuple [.Name x p2, .Name y p3] x1 p4) X.env) :: starEach [] X.env := by rfl)
    (he3 : starEach [.Name x p2, .Name y p3] X.env = (false, eval (.Name x p2) X.env) :: starEach [.Name y p3] X.env := by rfl) (he4 : starEach [.Name y p3] X.env = (false, eval (.Name y p3) X.env) :: starEach [] X.env := by rfl)
    (hpl : (backTo pos (starEach [.Tuple [.Name x p2, .Name y p3] x1 p4] X.env)).any (·.1) = false := by rfl) : WE X (.Call (.Name "isinstance" p) [a, .Tuple [.Name x p2, .Name y p3] x1 p4] [] pos) L m Q :=
  we_of (pe_callB call_isiT hg hm (by decide +kernel) (pa_cons (peU a) (pa_cons (pe_tup (pa_cons (pe_bltn (v := .ty S) hgS hmS hbS rfl hnS hdS) (pa_cons (pe_bltn (v := .ty T) hgT hmT hb rfl hn hd) pa_nil he4) he3)) pa_nil he2) he) (he := he) (hpl := hpl)) fun w σ H r => h.go r fun w1 v z m1 H1 l1 r1 d1 ⟨j, k, e1, e2, q⟩ => by
    refine ⟨szl (by simp), fun t ht => ?_⟩
    obtain ⟨l2, hr2⟩ := r1.toHR.fnew (o := .tup [.ty S, .ty T]) ht
    have d2 := dp_mono l2.sub _ _ d1
    have ty : TyX X.K (upd H1 t (.tup [.ty S, .ty T])) v (.type (tyD z)) := by
      rcases tyD_ok hr2 d2 with t | ⟨xs, rfl⟩
      · exact t
      · exact tyD_tup hr2 d2
    refine ⟨v, t, [.ty S, .ty T], _, [.type S, .type T], j || k, rfl, upd_same, .cons (.ty S) (.cons (.ty T) .nil), ty, kitAny_cons (kit_ty e1) (fun hj => kitAny_cons (kit_ty e2) (fun hk => by rw [hj, hk]; rfl) fun hk => by rw [hj, hk]; rfl) (fun hj => by rw [hj]; rfl), _, _, m1, l1.trans l2, hr2, .bl _, q⟩
def isNoneD : PyData → Bool
  | .none => true
  | _ => false
theorem isNone_ok {K : PySem.W.Frag} {F : Hp} {v : V} {x : PyData} (d : DP K F v x) : decide (v = .non) = isNoneD x := by
  cases d <;> simp [isNoneD]
theorem we_isNone (h : WE X a L m fun x m1 => WE X b L m1 fun y m2 => y = .none ∧ Q (.bool (isNoneD x)) m2) : WE X (.Compare a [.Is] [b] pos) L m Q :=
  we_cmp op_isN (h.mono fun _ _ h => h.mono fun _ _ ⟨e, q⟩ w0 w H v u l hr d1 d2 => by
    subst e
    exact ⟨dp_none d2, by rw [isNone_ok d1]; exact po_bool l hr q⟩) (nomark _)
theorem wt_isNone (h : WE X a L m fun x m1 => WE X b L m1 fun y m2 => y = .none ∧ QT (isNoneD x) m2) : WT X (.Compare a [.Is] [b] pos) L m QT :=
  wt_cmp op_isN (h.mono fun _ _ h => h.mono fun _ _ ⟨e, q⟩ w0 w H v u l hr d1 d2 => by
    subst e
    exact ⟨dp_none d2, by rw [isNone_ok d1]; exact po_bool l hr ⟨_, rfl, q⟩⟩) (nomark _) fun _ _ _ _ _ k ⟨e, q⟩ => ⟨e, k _ _ q⟩
end
end PP
namespace PP
open PySem PySem.Spec PyProof.Rows L2
def isT (s : String) (d : PyData) : Bool := tyD d == s
def isSc : PyData → Bool
  | .none => true
  | .bool _ => true
  | .int _ => true
  | .str _ => true
  | _ => false
inductive Dq : Nat → PyData → Prop
  | sc {n : Nat} {d : PyData} : isSc d = true → d.canLay0 = true → d.depth ≤ 64 → Dq n d
  | lst {n : Nat} {xs : List PyData} : (∀ x ∈ xs, Dq n x) → Dq (n + 1) (.list xs)
  | tup {n : Nat} {xs : List PyData} : (∀ x ∈ xs, Dq n x) → Dq (n + 1) (.tuple xs)
theorem kit_list {d : PyData} : kitB (tyD d) "list" = some (isT "list" d) := by cases d <;> (simp only [tyD, isT]; decide +kernel)
theorem kit_tuple {d : PyData} : kitB (tyD d) "tuple" = some (isT "tuple" d) := by cases d <;> (simp only [tyD, isT]; decide +kernel)
theorem kit_str {d : PyData} : kitB (tyD d) "str" = some (isT "str" d) := by cases d <;> (simp only [tyD, isT]; decide +kernel)
theorem kit_int {d : PyData} : kitB (tyD d) "int" = some (isT "int" d || isT "bool" d) := by cases d <;> (simp only [tyD, isT]; decide +kernel)
theorem dq_sc {n : Nat} {d : PyData} (h : Dq n d) (g : (isT "list" d || isT "tuple" d) = false) : isSc d = true ∧ d.canLay0 = true ∧ d.depth ≤ 64 := by
  cases h with
  | sc h a b => exact ⟨h, a, b⟩
  | lst h => exfalso; simp only [isT, tyD] at g; revert g; decide +kernel
  | tup h => exfalso; simp only [isT, tyD] at g; revert g; decide +kernel
theorem seq_of {d : PyData} {xs : List PyData} (h : d = .list xs ∨ d = .tuple xs) (m : Mem) : seqP m (.d d) = some xs := by
  rcases h with rfl | rfl <;> rfl
end PP
namespace PP
open PySem PySem.Spec PyProof.Rows L2
theorem fnok_or {P : Program} {w : World} {K : PySem.W.Frag} {mg : Str → Option Value} {base : Heap} {CX : CXT} {k : Nat} {f : Addr} {fd : FuncData} {ps : List Str} {f1 f2 : FSp} (A : FnOk P w K mg base CX k f fd ps (toSp K f1)) (B : FnOk P w K mg base CX k f fd ps (toSp K f2)) : FnOk P w K mg base CX k f fd ps (toSp K fun pvs m q => f1 pvs m q ∨ f2 pvs m q) := by
  refine ⟨fun vs H Q E h => ?_, fun Ar outer s H args us vs Q E hr he hb hv h => ?_⟩
  · obtain ⟨wd, pvs, m, q, h1, h2, h3, h4⟩ := h
    rcases h3 with h3 | h3
    · exact A.len vs H Q E ⟨wd, pvs, m, q, h1, h2, h3, h4⟩
    · exact B.len vs H Q E ⟨wd, pvs, m, q, h1, h2, h3, h4⟩
  · obtain ⟨wd, pvs, m, q, h1, h2, h3, h4⟩ := h
    rcases h3 with h3 | h3
    · exact A.run Ar outer s H args us vs Q E hr he hb hv ⟨wd, pvs, m, q, h1, h2, h3, h4⟩
    · exact B.run Ar outer s H args us vs Q E hr he hb hv ⟨wd, pvs, m, q, h1, h2, h3, h4⟩
end PP
namespace PP
open PySem PySem.Spec PyProof.Rows L2
def permL {α : Type} (is : List Nat) (ws : List α) : List α := is.filterMap (ws[·]?)
structure KBr (K : PySem.W.Frag) (fd : FuncData) (ps : List Str) (n : Nat) (kn : List Str) (is : List Nat) : Prop where
  to : ∀ (s : Shared) (us ws : List Value), K.In s.heap → us.length = n → ws.length = kn.length → BindsTo s fd ⟨us, kn.zip ws⟩ (ps.zip (us ++ permL is ws))
  ne : ps ≠ []
def gR {α : Type} (n k : Nat) (is : List Nat) (us ws : List α) : List α := if us.length = n ∧ ws.length = k then us ++ permL is ws else []
theorem vals_get : ∀ {xs : List V} {ys : List Value}, Vals xs ys → ∀ i : Nat, (xs[i]? = none ∧ ys[i]? = none) ∨ ∃ a b, xs[i]? = some a ∧ ys[i]? = some b ∧ RelV a b
  | _, _, .nil, i => .inl ⟨rfl, rfl⟩
  | _, _, .cons r _, 0 => .inr ⟨_, _, rfl, rfl, r⟩
  | _, _, .cons _ t, i + 1 => by
    rcases vals_get t i with ⟨a, b⟩ | ⟨a, b, h1, h2, h3⟩
    · exact .inl ⟨by simpa using a, by simpa using b⟩
    · exact .inr ⟨a, b, by simpa using h1, by simpa using h2, h3⟩
theorem vals_perm {vs : List V} {us : List Value} (h : Vals vs us) : ∀ is : List Nat, Vals (permL is vs) (permL is us)
  | [] => .nil
  | i :: is => by
    unfold permL
    rw [List.filterMap_cons, List.filterMap_cons]
    rcases vals_get h i with ⟨a, b⟩ | ⟨a, b, h1, h2, h3⟩
    · rw [a, b]; exact vals_perm h is
    · rw [h1, h2]; exact .cons h3 (vals_perm h is)
theorem KBr.kb {K : PySem.W.Frag} {fd : FuncData} {ps kn : List Str} {n : Nat} {is : List Nat} (h : KBr K fd ps n kn is) : KBinds K fd ps kn (gR n kn.length is) (gR n kn.length is) where
  to := fun s us ws X hl => by
    unfold gR at hl ⊢
    split at hl
    · rename_i c
      rw [if_pos c]
      exact h.to s us ws X c.1 c.2
    · exact absurd (List.length_eq_zero_iff.mp hl.symm) h.ne
  rel := fun {vs us zs ws} r rz => by
    unfold gR
    rw [r.length, rz.length]
    split
    · exact vals_app r (vals_perm rz is)
    · exact .nil
end PP
namespace PP
open PySem PySem.Spec PyProof.Rows L2
open PySem.W (AlikeAll dataLt reads_keeps iter_tupleW cmpIn_lt moved_old)
end PP
namespace PP
open PySem PySem.Spec PyProof.Rows L2
section
variable {prog : Program} {w : World} {A : Around} {R : Result → Shared → Prop} {s : Shared} {kx vx ta ia tb ib : Expr} {scope : Scope} {pos : Pos} {it : Value} {D : Addr} {env : Env}
abbrev dc2 (kx vx ta ia tb ib : Expr) (scope : Scope) (pos : Pos) : Expr := .DictComp kx vx [⟨ta, ia, [], 0⟩, ⟨tb, ib, [], 0⟩] scope pos
end
end PP
namespace PP
open PySem PySem.Spec PyProof.Rows L2
def dropD (kvs : List (Key × PyData)) (k : Key) : List (Key × PyData) := kvs.filter fun kv => decide (kv.1 ≠ k)
theorem valD_drop {k j : Key} : ∀ {kvs : List (Key × PyData)}, valD (dropD kvs k) j = if k = j then none else valD kvs j
  | [] => by simp [valD, dropD]
  | (k1, x) :: kvs => by
    have ih := valD_drop (k := k) (j := j) (kvs := kvs)
    unfold dropD at ih ⊢
    rw [List.filter_cons]
    by_cases h1 : k1 = k
    · subst h1
      rw [if_neg (by simp), ih]
      by_cases h2 : k1 = j
      · rw [if_pos h2, if_pos h2]
      · rw [if_neg h2, if_neg h2]
        simp [valD, List.find?_cons, h2]
    · rw [if_pos (by simpa using h1)]
      by_cases h3 : k1 = j
      · subst h3
        rw [if_neg (fun z => h1 z.symm)]
        simp [valD, List.find?_cons]
      · have e : ∀ t : List (Key × PyData), valD ((k1, x) :: t) j = valD t j := fun t => by simp [valD, List.find?_cons, h3]
        rw [e, e]
        exact ih
end PP
namespace PP
open PySem PySem.Spec PyProof.Rows L2 RZ
end PP
namespace PP
open PySem PySem.Spec PyProof.Rows L2
structure FunD (K : PySem.W.Frag) (x qual : Str) (st : Stmt) (f : Addr) (fd : FuncData) (T : Addr) : Prop where
  ex : ∃ (oc : Value) (od : Option Addr) (kV doc pm : Value) (an : Option Addr) (cdv ct : Value) (osl : Array (Option Value)),
    fd = PySem.W.fnOf x qual (defArgs st) (defBody st) (defScope st) (.ref T) kV doc pm an cdv ct ∧ K.lookup f = some ⟨oc, od, .func fd, osl⟩ ∧ PySem.W.codeIn K cdv qual = true
  kp : PySem.W.keepIn K (.ref f) = true
section
variable {P : Program} {w : World} {K : PySem.W.Frag} {mg : Str → Option Value} {base : Heap} {T : Addr}
theorem FunD.ok {x qual : Str} {st : Stmt} {f : Addr} {fd : FuncData} {N ps : List Str} {k : Nat} {sp : Sp} (F : FunD K x qual st f fd T) (S : FnScope N ps (defScope st)) (len : ∀ vs H Q E, sp vs H Q E → vs.length = ps.length)
    (hbody : ∀ (cdv : Value) (A : Around) (outer : List Env) (s : Shared) (H : Hp) (vs : List V) (Q : VK) (E : XK), Room k (A.deeper (envOfC qual (defScope st) s.heap.objs.size f cdv)) → sp vs H Q E →
      ∃ t, PSs (cxOf CX0 P w K mg base N qual (defScope st) f cdv A outer s H E).nox (defBody st) t ∧ t { nx := fun _ H' => Q .non H', rt := Q } (start N vs) H) : FnOk P w K mg base CX0 (k + 1) f fd ps sp := by
  obtain ⟨oc, od, kV, doc, pm, an, cdv, ct, osl, rfl, lk, hcd⟩ := F.ex
  refine fn_of lk hcd S len fun A outer s H vs Q E hr hsp => ?_
  obtain ⟨t, h, q⟩ := hbody cdv A outer s H vs Q E hr hsp
  exact ⟨t, h.nox, q⟩
theorem FunD.binds {x qual : Str} {st : Stmt} {f : Addr} {fd : FuncData} {ps : List Str} {ds : List Value} {o : Obj} {items : Array Value} {n : Nat} (F : FunD K x qual st f fd T) (ho : K.lookup T = some o) (hs : o.data = .seq items n)
    (h : ∀ (kV doc pm : Value) (an : Option Addr) (cdv ct : Value) (us : List Value), (us ++ ds).length = ps.length → ∃ k, bindArgs (PySem.W.fnOf x qual (defArgs st) (defBody st) (defScope st) (.ref T) kV doc pm an cdv ct) ⟨us, []⟩ = seqItems? (Value.ref T) >>= k ∧ k (some items) = pure (ps.zip (us ++ ds))) : Binds K fd ps ds := by
  obtain ⟨oc, od, kV, doc, pm, an, cdv, ct, osl, rfl, lk, hcd⟩ := F.ex
  intro s us X hl
  obtain ⟨k, e1, e2⟩ := h kV doc pm an cdv ct us hl
  exact BindsTo.of_defaults rfl (X _ _ ho) hs e1 e2
end
section
variable {X : Cx} {L : PP.Loc} {m : Mem} {a b e : Expr} {es : List Expr} {pos p : Pos} {Q : QE} {QT : Bool → Mem → Prop} {k : Nat} {f : Addr} {fd : FuncData} {ps : List Str} {sp : FSp} {x : Str}
theorem cell_ty {w : Wd} {H : Hp} {v : V} {p : PV} {xs : List PyData} (hr : HR X.K w m H) (r : RV X.K w v p) (h : lstP m p = some xs) : TyX X.K H v (.type "list") := by
  obtain ⟨ad, vs, rfl, e, _⟩ := lstP_ok hr r h
  exact .base (.lst e)
theorem we_isinstV {T : String} {x : Str} {p2 : Pos} (hm : X.mg "isinstance" = none) (hmT : X.mg x = none) (hb : bootBuiltins x = some (.type T)) (h : WV X a L m fun y m1 => (∃ xs, lstP m1 y = some xs) ∧ ∃ k, kitB "list" T = some k ∧ Q (.bool k) m1) (hg : Gl X "isinstance" := by rfl) (hgT : Gl X x := by rfl)
    (hn : x ≠ "__name__" := by decide) (hd : (x == ("__debug__" : Str)) = false := by decide)
    (he : starEach [a, .Name x p2] X.env = (false, eval a X.env) :: starEach [.Name x p2] X.env := by rfl) (he2 : starEach [.Name x p2] X.env = (false, eval (.Name x p2) X.env) :: starEach [] X.env := by rfl) (hpl : (backTo pos (starEach [.Name x p2] X.env)).any (·.1) = false := by rfl) : WE X (.Call (.Name "isinstance" p) [a, .Name x p2] [] pos) L m Q :=
  we_of (pe_callB call_isi hg hm (by decide +kernel) (pa_cons (peU a) (pa_cons (pe_bltn (v := .ty T) hgT hmT hb rfl hn hd) pa_nil he2) he) (he := he) (hpl := hpl)) fun w σ H r => h.go r fun w1 v y m1 H1 l1 r1 d1 ⟨⟨xs, e0⟩, k, e1, q⟩ =>
    ⟨v, .ty T, _, _, k, rfl, .ty T, cell_ty r1.toHR d1 e0, kit_ty e1, w1, _, m1, l1, r1.toHR, .bl k, q⟩
end
end PP
namespace PP
open PySem PySem.Spec PyProof.Rows L2
section
variable {X : Cx} {L : PP.Loc} {m : Mem} {a b c e : Expr} {pos p : Pos} {Q : QE}
theorem we_reverse {apos : Pos} (h : WV X a L m fun p m1 => ∃ k xs0, p = .ref k ∧ m1[k]? = some (some (.lst xs0)) ∧ ∃ xs, m1[k]? = some (some (.lst xs)) ∧ Q .none (m1.set k (some (.lst xs.reverse))))
    (hb : attributeBase a "reverse" X.env (eval a X.env) = eval a X.env := by rfl) (hline : (apos.endLine == pos.line) = true := by rfl) : WE X (.Call (.Attribute a "reverse" apos) [] [] pos) L m Q :=
  we_lm0 PySem.F.slot_list_reverse PySem.F.type_list_reverse mt_reverse (fun w0 w k m H v l hr d1 ⟨xs, e4, q⟩ => by
    obtain ⟨a1, vs, rfl, ea, eo, dd⟩ := cell_at hr d1 e4
    exact ⟨_, vs, rfl, rfl, eo, w, .none, _, l, cell_upd (vs := vs) hr ea e4 (dpa_rev dd), .non, q⟩) h hb hline
end
end PP
namespace MM
def stepR (mu : Int → Int) (s : List Int) (p : Int) : List Int := match s with
  | [] => [p]
  | t :: r => if t = mu p then r else p :: t :: r
def stkR (mu : Int → Int) (R : List Int) (i : Nat) : List Int := (R.take i).foldl (stepR mu) []
theorem stkR_zero {mu : Int → Int} {R : List Int} : stkR mu R 0 = [] := by unfold stkR; rw [List.take_zero]; rfl
theorem stkR_succ {mu : Int → Int} {R : List Int} {i : Nat} {p : Int} (h : R[i]? = some p) : stkR mu R (i + 1) = stepR mu (stkR mu R i) p := by
  unfold stkR
  rw [List.take_add_one, h, List.foldl_append]
  rfl
structure Inv (mu : Int → Int) (R : List Int) : Prop where
  nd : R.Nodup
  mem : ∀ p ∈ R, mu p ∈ R
  ne : ∀ p ∈ R, mu p ≠ p
  inv : ∀ p ∈ R, mu (mu p) = p
theorem idx_at {R : List Int} (nd : R.Nodup) {i : Nat} {p : Int} (h : R[i]? = some p) : R.idxOf p = i := by
  obtain ⟨hi, e⟩ := List.getElem?_eq_some_iff.mp h
  have h2 := List.idxOf_lt_length_of_mem (e ▸ List.getElem_mem hi)
  have h3 := List.getElem_idxOf h2
  exact (List.getElem_inj nd).mp (h3.trans e.symm)
theorem at_idx {R : List Int} {p : Int} (h : p ∈ R) : R[R.idxOf p]? = some p := by
  have h2 := List.idxOf_lt_length_of_mem h
  rw [List.getElem?_eq_getElem h2, List.getElem_idxOf h2]
theorem idx_inj {R : List Int} {p q : Int} (hp : p ∈ R) (hq : q ∈ R) (e : R.idxOf p = R.idxOf q) : p = q := by
  have h1 := at_idx hp
  rw [e, at_idx hq] at h1
  exact (Option.some.inj h1).symm
section
variable {mu : Int → Int} {R : List Int} (I : Inv mu R)
include I
theorem stk_sorted : ∀ {i : Nat}, i ≤ R.length → (∀ x ∈ stkR mu R i, x ∈ R ∧ R.idxOf x < i) ∧ (stkR mu R i).Pairwise fun a b => R.idxOf b < R.idxOf a
  | 0, _ => by rw [stkR_zero]; exact ⟨fun x h => (List.not_mem_nil h).elim, .nil⟩
  | i + 1, h => by
    obtain ⟨h1, h2⟩ := stk_sorted (i := i) (by omega)
    have hq : R[i]? = some R[i] := List.getElem?_eq_getElem (by omega)
    have hqp := idx_at I.nd hq
    rw [stkR_succ hq]
    cases e : stkR mu R i with
    | nil =>
      refine ⟨fun x hx => ?_, List.pairwise_singleton _ _⟩
      have := List.mem_singleton.mp hx
      subst this
      exact ⟨List.getElem_mem _, by omega⟩
    | cons t r =>
      rw [e] at h1 h2
      unfold stepR
      dsimp only
      split
      · exact ⟨fun x hx => let ⟨a, b⟩ := h1 x (List.mem_cons_of_mem _ hx); ⟨a, by omega⟩, (List.pairwise_cons.mp h2).2⟩
      · refine ⟨fun x hx => ?_, List.pairwise_cons.mpr ⟨fun y hy => ?_, h2⟩⟩
        · rcases List.mem_cons.mp hx with rfl | hx
          · exact ⟨List.getElem_mem _, by omega⟩
          · obtain ⟨a, b⟩ := h1 x hx
            exact ⟨a, by omega⟩
        · have := (h1 y hy).2
          omega
theorem stk_open : ∀ {i : Nat}, i ≤ R.length → ∀ p ∈ R, R.idxOf p < i → i ≤ R.idxOf (mu p) → p ∈ stkR mu R i
  | 0, _, _, _, h, _ => by omega
  | i + 1, h, p, hp, h1, h2 => by
    have hq : R[i]? = some R[i] := List.getElem?_eq_getElem (by omega)
    have hqm : R[i] ∈ R := List.getElem_mem _
    have hqp := idx_at I.nd hq
    have hs := stk_sorted I (i := i) (by omega)
    rw [stkR_succ hq]
    by_cases e : R.idxOf p = i
    · have ep : p = R[i] := idx_inj hp hqm (by omega)
      cases es : stkR mu R i with
      | nil => rw [ep]; exact List.mem_singleton.mpr rfl
      | cons t r =>
        unfold stepR
        dsimp only
        split
        · rename_i ht
          have h3 := (hs.1 t (by rw [es]; exact List.mem_cons_self)).2
          rw [ht, ← ep] at h3
          omega
        · rw [ep]; exact List.mem_cons_self
    · have ih := stk_open (i := i) (by omega) p hp (by omega) (by omega)
      cases es : stkR mu R i with
      | nil => rw [es] at ih; exact (List.not_mem_nil ih).elim
      | cons t r =>
        rw [es] at ih
        unfold stepR
        dsimp only
        split
        · rename_i ht
          rcases List.mem_cons.mp ih with rfl | ih
          · rw [ht, I.inv _ hqm] at h2
            omega
          · exact ih
        · exact List.mem_cons_of_mem _ ih
theorem stk_stays {i : Nat} {p : Int} (hp : p ∈ R) (hm : R.idxOf (mu p) < i) (h : p ∈ stkR mu R i) : ∀ {j : Nat}, i ≤ j → j ≤ R.length → p ∈ stkR mu R j
  | 0, h1, _ => by
    have : i = 0 := by omega
    subst this; exact h
  | j + 1, h1, h2 => by
    by_cases e : i = j + 1
    · subst e; exact h
    · have ih := stk_stays hp hm h (j := j) (by omega) (by omega)
      have hq : R[j]? = some R[j] := List.getElem?_eq_getElem (by omega)
      have hqm : R[j] ∈ R := List.getElem_mem _
      have hqp := idx_at I.nd hq
      rw [stkR_succ hq]
      cases es : stkR mu R j with
      | nil => rw [es] at ih; exact (List.not_mem_nil ih).elim
      | cons t r =>
        rw [es] at ih
        unfold stepR
        dsimp only
        split
        · rename_i ht
          rcases List.mem_cons.mp ih with rfl | ih
          · rw [ht, I.inv _ hqm] at hm
            omega
          · exact ih
        · exact List.mem_cons_of_mem _ ih
def Crs (mu : Int → Int) (R : List Int) (a b : Int) : Prop := R.idxOf a < R.idxOf b ∧ R.idxOf b < R.idxOf (mu a) ∧ R.idxOf (mu a) < R.idxOf (mu b)
theorem stk_only (nc : ∀ a ∈ R, ∀ b ∈ R, ¬ Crs mu R a b) : ∀ {i : Nat}, i ≤ R.length → ∀ x ∈ stkR mu R i, i ≤ R.idxOf (mu x)
  | 0, _, _, _ => Nat.zero_le _
  | i + 1, h, x, hx => by
    have hq : R[i]? = some R[i] := List.getElem?_eq_getElem (by omega)
    have hqm : R[i] ∈ R := List.getElem_mem _
    have hqp := idx_at I.nd hq
    have hs := stk_sorted I (i := i) (by omega)
    have ih := stk_only nc (i := i) (by omega)
    have hmq := I.mem _ hqm
    -- what is there and is not the mate stays open
    have keep : ∀ y ∈ stkR mu R i, y ≠ mu R[i] → i + 1 ≤ R.idxOf (mu y) := fun y hy hne => by
      have h1 := ih y hy
      have h2 : R.idxOf (mu y) ≠ i := fun z => hne (by
        have : mu y = R[i] := idx_inj (I.mem _ (hs.1 y hy).1) hqm (by omega)
        rw [← this, I.inv _ (hs.1 y hy).1])
      omega
    rw [stkR_succ hq] at hx
    have push : (∀ t r, stkR mu R i = t :: r → t ≠ mu R[i]) → i + 1 ≤ R.idxOf (mu R[i]) ∧ ∀ y ∈ stkR mu R i, y ≠ mu R[i] := fun htop => by
      have h1 : i + 1 ≤ R.idxOf (mu R[i]) := by
        have hne : R.idxOf (mu R[i]) ≠ i := fun z => I.ne _ hqm (idx_inj hmq hqm (by omega))
        have hlt : ¬ R.idxOf (mu R[i]) < i := fun z => by
          have ho := stk_open I (i := i) (by omega) (mu R[i]) hmq z (by rw [I.inv _ hqm]; omega)
          cases es : stkR mu R i with
          | nil => rw [es] at ho; exact (List.not_mem_nil ho).elim
          | cons t r =>
            have ht := htop t r es
            rw [es] at ho hs
            rcases List.mem_cons.mp ho with e | ho
            · exact ht e.symm
            · have h2 := (List.pairwise_cons.mp hs.2).1 _ ho
              have ht1 := hs.1 t List.mem_cons_self
              have h3 := keep t (by rw [es]; exact List.mem_cons_self) ht
              refine nc (mu R[i]) hmq t ht1.1 ⟨h2, ?_, ?_⟩
              · rw [I.inv _ hqm, hqp]; exact ht1.2
              · rw [I.inv _ hqm, hqp]; omega
        omega
      exact ⟨h1, fun y hy e => by
        have := (hs.1 y hy).2
        rw [e] at this
        omega⟩
    cases es : stkR mu R i with
    | nil =>
      rw [es] at hx
      have := List.mem_singleton.mp hx
      subst this
      exact (push fun t r e => by rw [es] at e; cases e).1
    | cons t r =>
      rw [es] at hx
      unfold stepR at hx
      dsimp only at hx
      split at hx
      · rename_i ht
        refine keep x (by rw [es]; exact List.mem_cons_of_mem _ hx) fun e => ?_
        rw [es] at hs
        have := (List.pairwise_cons.mp hs.2).1 _ hx
        rw [e, ht] at this
        omega
      · rename_i ht
        obtain ⟨p1, p2⟩ := push fun t' r' e => by rw [es] at e; cases e; exact ht
        rcases List.mem_cons.mp hx with rfl | hx
        · exact p1
        · exact keep x (by rw [es]; exact hx) (p2 x (by rw [es]; exact hx))
theorem pile_empty : stkR mu R R.length = [] ↔ ∀ a ∈ R, ∀ b ∈ R, ¬ Crs mu R a b := by
  constructor
  · intro e a ha b hb ⟨h1, h2, h3⟩
    have hma := I.mem _ ha
    have hc := List.idxOf_lt_length_of_mem hma
    have h4 := stk_open I (i := R.idxOf (mu a)) (by omega) a ha (by omega) (Nat.le_refl _)
    have h5 := stk_open I (i := R.idxOf (mu a)) (by omega) b hb h2 (by omega)
    have hs := stk_sorted I (i := R.idxOf (mu a)) (by omega)
    have h6 : a ∈ stkR mu R (R.idxOf (mu a) + 1) := by
      rw [stkR_succ (at_idx hma)]
      cases es : stkR mu R (R.idxOf (mu a)) with
      | nil => rw [es] at h4; exact (List.not_mem_nil h4).elim
      | cons t r =>
        rw [es] at h4 h5 hs
        unfold stepR
        dsimp only
        split
        · rename_i ht
          rw [I.inv _ ha] at ht
          subst ht
          rcases List.mem_cons.mp h5 with rfl | h5
          · omega
          · have := (List.pairwise_cons.mp hs.2).1 _ h5
            omega
        · exact List.mem_cons_of_mem _ h4
    have h7 := stk_stays I ha (by omega) h6 (j := R.length) (by omega) (Nat.le_refl _)
    rw [e] at h7
    exact List.not_mem_nil h7
  · intro nc
    cases es : stkR mu R R.length with
    | nil => rfl
    | cons t r =>
      have ht : t ∈ stkR mu R R.length := by rw [es]; exact List.mem_cons_self
      have h1 := stk_only I nc (Nat.le_refl _) t ht
      have h2 := List.idxOf_lt_length_of_mem (I.mem _ ((stk_sorted I (Nat.le_refl _)).1 t ht).1)
      omega
theorem crs_of {p q : Int} (hp : p ∈ R) (hq : q ∈ R) {l r s g : Nat} (e1 : l = min (R.idxOf p) (R.idxOf (mu p))) (e2 : r = max (R.idxOf p) (R.idxOf (mu p))) (e3 : s = min (R.idxOf q) (R.idxOf (mu q))) (e4 : g = max (R.idxOf q) (R.idxOf (mu q)))
    (h : (l < s ∧ s < r) ∧ ¬ (l < g ∧ g < r) ∨ ¬ (l < s ∧ s < r) ∧ (l < g ∧ g < r)) : ∃ a ∈ R, ∃ b ∈ R, Crs mu R a b := by
  -- the lesser end
  have low : ∀ {p : Int}, p ∈ R → ∃ a ∈ R, R.idxOf a = min (R.idxOf p) (R.idxOf (mu p)) ∧ R.idxOf (mu a) = max (R.idxOf p) (R.idxOf (mu p)) := fun {p} hp => by
    by_cases c : R.idxOf p ≤ R.idxOf (mu p)
    · exact ⟨p, hp, by omega, by omega⟩
    · exact ⟨mu p, I.mem _ hp, by omega, by rw [I.inv _ hp]; omega⟩
  obtain ⟨a, ha, a1, a2⟩ := low hp
  obtain ⟨b, hb, b1, b2⟩ := low hq
  have na : R.idxOf a ≠ R.idxOf (mu a) := fun z => I.ne _ ha (idx_inj (I.mem _ ha) ha z.symm)
  have nb : R.idxOf b ≠ R.idxOf (mu b) := fun z => I.ne _ hb (idx_inj (I.mem _ hb) hb z.symm)
  have inj1 : R.idxOf (mu a) = R.idxOf (mu b) → R.idxOf a = R.idxOf b := fun z => by
    have := idx_inj (I.mem _ ha) (I.mem _ hb) z
    rw [← I.inv _ ha, this, I.inv _ hb]
  have inj2 : R.idxOf a = R.idxOf b → R.idxOf (mu a) = R.idxOf (mu b) := fun z => by rw [idx_inj ha hb z]
  rcases h with h | h
  · exact ⟨a, ha, b, hb, by omega, by omega, by omega⟩
  · exact ⟨b, hb, a, ha, by omega, by omega, by omega⟩
end
end MM
namespace MM
open PySem PP L2
def ringI (n m : Int) : List Int := ((List.range (n - 0).toNat).map fun i => 0 + ((i : Nat) : Int)) ++ (List.range (n + m - 1 - (n - 1)).toNat).map fun i => n + m - 1 + ((i : Nat) : Int) * -1
theorem ringI_mem {n m x : Int} (hn : 0 ≤ n) (hm : 0 ≤ m) : x ∈ ringI n m ↔ 0 ≤ x ∧ x < n + m := by
  unfold ringI
  rw [List.mem_append, List.mem_map, List.mem_map]
  constructor
  · rintro (⟨i, hi, rfl⟩ | ⟨i, hi, rfl⟩)
    · have := List.mem_range.mp hi
      omega
    · have := List.mem_range.mp hi
      omega
  · rintro ⟨h1, h2⟩
    by_cases c : x < n
    · exact .inl ⟨x.toNat, List.mem_range.mpr (by omega), by omega⟩
    · exact .inr ⟨(n + m - 1 - x).toNat, List.mem_range.mpr (by omega), by omega⟩
theorem ringI_len {n m : Int} (hn : 0 ≤ n) (hm : 0 ≤ m) : ((ringI n m).length : Int) = n + m := by
  unfold ringI
  rw [List.length_append, List.length_map, List.length_map, List.length_range, List.length_range]
  omega
theorem nodup_map_inj {α β : Type} {f : α → β} {xs : List α} (h : xs.Nodup) (inj : ∀ x ∈ xs, ∀ y ∈ xs, f x = f y → x = y) : (xs.map f).Nodup := by
  induction xs with
  | nil => exact .nil
  | cons x xs ih =>
    rw [List.nodup_cons] at h
    rw [List.map_cons, List.nodup_cons]
    refine ⟨fun z => ?_, ih h.2 fun a ha b hb => inj a (List.mem_cons_of_mem _ ha) b (List.mem_cons_of_mem _ hb)⟩
    obtain ⟨y, hy, e⟩ := List.mem_map.mp z
    exact h.1 (inj y (List.mem_cons_of_mem _ hy) x List.mem_cons_self e ▸ hy)
theorem ringI_nodup {n m : Int} (hn : 0 ≤ n) (hm : 0 ≤ m) : (ringI n m).Nodup := by
  unfold ringI
  refine List.nodup_append.mpr ⟨nodup_map_inj List.nodup_range fun x _ y _ h => by omega, nodup_map_inj List.nodup_range fun x _ y _ h => by omega, fun a ha b hb e => ?_⟩
  obtain ⟨i, hi, rfl⟩ := List.mem_map.mp ha
  obtain ⟨j, hj, e2⟩ := List.mem_map.mp hb
  have := List.mem_range.mp hi
  have := List.mem_range.mp hj
  omega
def mu (ns : List Int) (p : Int) : Int := ns.getD p.toNat 0
def matesAt (ns : List Int) (i : Nat) : Bool := (decide (0 ≤ ns.getD i 0) && decide (ns.getD i 0 < (ns.length : Int))) && (!decide (ns.getD i 0 = (i : Int)) && decide (ns.getD (ns.getD i 0).toNat 0 = (i : Int)))
def matesOk (ns : List Int) : Bool := ((List.range ns.length).map (matesAt ns)).all id
theorem matesOk_iff {ns : List Int} : matesOk ns = true ↔ ∀ i < ns.length, matesAt ns i = true := by
  unfold matesOk
  rw [List.all_eq_true]
  constructor
  · intro h i hi
    exact h _ (List.mem_map.mpr ⟨i, List.mem_range.mpr hi, rfl⟩)
  · intro h x hx
    obtain ⟨i, hi, rfl⟩ := List.mem_map.mp hx
    exact h i (List.mem_range.mp hi)
theorem matesAt_iff {ns : List Int} {i : Nat} : matesAt ns i = true ↔ 0 ≤ ns.getD i 0 ∧ ns.getD i 0 < (ns.length : Int) ∧ ns.getD i 0 ≠ (i : Int) ∧ ns.getD (ns.getD i 0).toNat 0 = (i : Int) := by
  unfold matesAt
  simp only [Bool.and_eq_true, decide_eq_true_eq, Bool.not_eq_true', decide_eq_false_iff_not, and_assoc, ne_eq]
theorem inv_of {ns : List Int} {n m : Int} (hn : 0 ≤ n) (hm : 0 ≤ m) (hl : (ns.length : Int) = n + m) (h : ∀ i < ns.length, matesAt ns i = true) : Inv (mu ns) (ringI n m) := by
  have key : ∀ p ∈ ringI n m, mu ns p ∈ ringI n m ∧ mu ns p ≠ p ∧ mu ns (mu ns p) = p := fun p hp => by
    have hp := (ringI_mem hn hm).mp hp
    obtain ⟨a, b, c, d⟩ := matesAt_iff.mp (h p.toNat (by omega))
    refine ⟨(ringI_mem hn hm).mpr ⟨a, by show ns.getD p.toNat 0 < _; omega⟩, fun e => c (by rw [show ns.getD p.toNat 0 = p from e]; omega), ?_⟩
    show ns.getD (ns.getD p.toNat 0).toNat 0 = p
    rw [d]; omega
  exact ⟨ringI_nodup hn hm, fun p hp => (key p hp).1, fun p hp => (key p hp).2.1, fun p hp => (key p hp).2.2⟩
def isMatB (u d : Int) (ns : List Int) : Bool := !(decide (u < 0) || (decide (d < 0) || (decide (u + d = 0) || !decide ((ns.length : Int) = u + d)))) && (matesOk ns && (stkR (mu ns) (ringI u d) (ringI u d).length).isEmpty)
def loI (ns : List Int) (R : List Int) (i : Nat) : Nat := min (R.idxOf (R.getD i 0)) (R.idxOf (mu ns (R.getD i 0)))
def hiI (ns : List Int) (R : List Int) (i : Nat) : Nat := max (R.idxOf (R.getD i 0)) (R.idxOf (mu ns (R.getD i 0)))
def BadI (ns : List Int) (R : List Int) (i j : Nat) : Prop := (loI ns R i < loI ns R j ∧ loI ns R j < hiI ns R i) ∧ ¬ (loI ns R i < hiI ns R j ∧ hiI ns R j < hiI ns R i) ∨ ¬ (loI ns R i < loI ns R j ∧ loI ns R j < hiI ns R i) ∧ (loI ns R i < hiI ns R j ∧ hiI ns R j < hiI ns R i)
theorem getD_idx {R : List Int} {p : Int} (h : p ∈ R) : R.getD (R.idxOf p) 0 = p := by
  rw [List.getD_eq_getElem?_getD, at_idx h, Option.getD_some]
theorem bad_iff {ns R : List Int} (I : Inv (mu ns) R) : (∀ i < R.length, ∀ j < R.length, ¬ BadI ns R i j) ↔ ∀ a ∈ R, ∀ b ∈ R, ¬ Crs (mu ns) R a b := by
  constructor
  · intro h a ha b hb ⟨h1, h2, h3⟩
    refine h _ (List.idxOf_lt_length_of_mem ha) _ (List.idxOf_lt_length_of_mem hb) (.inl ?_)
    unfold loI hiI
    rw [getD_idx ha, getD_idx hb]
    omega
  · intro h i hi j hj hb
    obtain ⟨a, ha, b, hb, c⟩ := crs_of I (mem_getD hi (d := 0)) (mem_getD hj (d := 0)) rfl rfl rfl rfl hb
    exact h a ha b hb c
theorem isMat_good {u d : Int} {ns : List Int} (hu : 0 ≤ u) (hd : 0 ≤ d) (h0 : 0 < u + d) (hl : (ns.length : Int) = u + d) (hok : ∀ i < ns.length, matesAt ns i = true) (h : ∀ i < (ringI u d).length, ∀ j < (ringI u d).length, ¬ BadI ns (ringI u d) i j) : isMatB u d ns = true := by
  have I := inv_of hu hd hl hok
  have e := (pile_empty I).mpr ((bad_iff I).mp h)
  unfold isMatB
  rw [e, matesOk_iff.mpr hok, show decide (u < 0) = false by simpa using hu, show decide (d < 0) = false by simpa using hd, show decide (u + d = 0) = false by simp; omega, show decide ((ns.length : Int) = u + d) = true by simpa using hl]
  rfl
end MM
namespace MM
open PySem PP L2
def ends (prs : List (Int × Int)) : List Int := prs.flatMap fun p => [p.1, p.2]
theorem mem_ends {prs : List (Int × Int)} {x : Int} : x ∈ ends prs ↔ ∃ p ∈ prs, x = p.1 ∨ x = p.2 := by
  unfold ends
  rw [List.mem_flatMap]
  simp
def Btw (x l h : Nat) : Prop := l < x ∧ x < h
def SepP (a b c d : Nat) : Prop := ¬ (Btw c (min a b) (max a b) ↔ Btw d (min a b) (max a b))
def Sep (R : List Int) (p q : Int × Int) : Prop := SepP (R.idxOf p.1) (R.idxOf p.2) (R.idxOf q.1) (R.idxOf q.2)
structure Match (R : List Int) (prs : List (Int × Int)) : Prop where
  nd : (ends prs).Nodup
  mem : ∀ x, x ∈ ends prs ↔ x ∈ R
  nc : ∀ p ∈ prs, ∀ q ∈ prs, ¬ Sep R p q
theorem sep_self {a b : Nat} : ¬ SepP a b a b := by
  unfold SepP Btw
  omega
theorem ends_apart {prs : List (Int × Int)} (nd : (ends prs).Nodup) {p q : Int × Int} (hp : p ∈ prs) (hq : q ∈ prs) : p = q ∨ (q.1 ≠ p.1 ∧ q.1 ≠ p.2 ∧ q.2 ≠ p.1 ∧ q.2 ≠ p.2) := by
  induction prs with
  | nil => cases hp
  | cons r prs ih =>
    have nd' : (r.1 :: r.2 :: ends prs).Nodup := nd
    rw [List.nodup_cons, List.nodup_cons] at nd'
    obtain ⟨n1, n2, n3⟩ := nd'
    have far : ∀ q ∈ prs, (q.1 ≠ r.1 ∧ q.1 ≠ r.2 ∧ q.2 ≠ r.1 ∧ q.2 ≠ r.2) := fun q hq => by
      have e1 : q.1 ∈ ends prs := mem_ends.mpr ⟨q, hq, .inl rfl⟩
      have e2 : q.2 ∈ ends prs := mem_ends.mpr ⟨q, hq, .inr rfl⟩
      refine ⟨fun z => n1 ?_, fun z => n2 ?_, fun z => n1 ?_, fun z => n2 ?_⟩
      · rw [← z]; exact List.mem_cons_of_mem _ e1
      · rw [← z]; exact e1
      · rw [← z]; exact List.mem_cons_of_mem _ e2
      · rw [← z]; exact e2
    rcases List.mem_cons.mp hp with hp2 | hp2
    · rcases List.mem_cons.mp hq with hq2 | hq2
      · exact .inl (hp2.trans hq2.symm)
      · rw [hp2]; exact .inr (far q hq2)
    · rcases List.mem_cons.mp hq with hq2 | hq2
      · obtain ⟨a, b, c, d⟩ := far p hp2
        rw [hq2]
        exact .inr ⟨fun z => a z.symm, fun z => c z.symm, fun z => b z.symm, fun z => d z.symm⟩
      · exact ih n3 hp2 hq2
theorem Match.in {R : List Int} {prs : List (Int × Int)} (M : Match R prs) {p : Int × Int} (hp : p ∈ prs) : p.1 ∈ R ∧ p.2 ∈ R :=
  ⟨(M.mem _).mp (mem_ends.mpr ⟨p, hp, .inl rfl⟩), (M.mem _).mp (mem_ends.mpr ⟨p, hp, .inr rfl⟩)⟩
theorem idx_map {f : Int → Int} : ∀ {R : List Int} {x : Int}, (∀ a ∈ R, ∀ b ∈ R, f a = f b → a = b) → x ∈ R → (R.map f).idxOf (f x) = R.idxOf x
  | [], _, _, h => by cases h
  | r :: R, x, inj, h => by
    rw [List.map_cons, List.idxOf_cons, List.idxOf_cons]
    by_cases e : r = x
    · subst e; simp
    · have hx : x ∈ R := (List.mem_cons.mp h).elim (fun z => absurd z.symm e) id
      have e2 : f r ≠ f x := fun z => e (inj r List.mem_cons_self x h z)
      rw [show (r == x) = false by simpa using e, show (f r == f x) = false by simpa using e2]
      simp only [cond_false]
      rw [idx_map (fun a ha b hb => inj a (List.mem_cons_of_mem _ ha) b (List.mem_cons_of_mem _ hb)) hx]
theorem Match.map {R : List Int} {prs : List (Int × Int)} {f : Int → Int} (inj : ∀ a ∈ R, ∀ b ∈ R, f a = f b → a = b) (M : Match R prs) : Match (R.map f) (prs.map fun p => (f p.1, f p.2)) := by
  have ee : ends (prs.map fun p => (f p.1, f p.2)) = (ends prs).map f := by
    unfold ends
    rw [List.flatMap_map, List.map_flatMap]
    rfl
  refine ⟨?_, fun x => ?_, fun p hp q hq => ?_⟩
  · rw [ee]
    exact nodup_map_inj M.nd fun a ha b hb => inj a ((M.mem _).mp ha) b ((M.mem _).mp hb)
  · rw [ee, List.mem_map, List.mem_map]
    constructor
    · rintro ⟨a, ha, rfl⟩; exact ⟨a, (M.mem _).mp ha, rfl⟩
    · rintro ⟨a, ha, rfl⟩; exact ⟨a, (M.mem _).mpr ha, rfl⟩
  · obtain ⟨p0, hp0, rfl⟩ := List.mem_map.mp hp
    obtain ⟨q0, hq0, rfl⟩ := List.mem_map.mp hq
    obtain ⟨h1, h2⟩ := M.in hp0
    obtain ⟨h3, h4⟩ := M.in hq0
    unfold Sep
    rw [idx_map inj h1, idx_map inj h2, idx_map inj h3, idx_map inj h4]
    exact M.nc p0 hp0 q0 hq0
def Row (prs : List (Int × Int)) (ns : List Int) : Prop := ∀ p ∈ prs, mu ns p.1 = p.2 ∧ mu ns p.2 = p.1
theorem match_isMat {u d : Int} {ns : List Int} {prs : List (Int × Int)} (hu : 0 ≤ u) (hd : 0 ≤ d) (h0 : 0 < u + d) (hl : (ns.length : Int) = u + d) (M : Match (ringI u d) prs) (W : Row prs ns) : isMatB u d ns = true := by
  have key : ∀ x ∈ ringI u d, ∃ p ∈ prs, (x = p.1 ∧ mu ns x = p.2) ∨ (x = p.2 ∧ mu ns x = p.1) := fun x hx => by
    obtain ⟨p, hp, e⟩ := mem_ends.mp ((M.mem x).mpr hx)
    obtain ⟨w1, w2⟩ := W p hp
    rcases e with rfl | rfl
    · exact ⟨p, hp, .inl ⟨rfl, w1⟩⟩
    · exact ⟨p, hp, .inr ⟨rfl, w2⟩⟩
  have ne : ∀ p ∈ prs, p.1 ≠ p.2 := fun p hp z => by
    have : ∀ (prs : List (Int × Int)), (ends prs).Nodup → p ∈ prs → p.1 ≠ p.2 := by
      intro prs
      induction prs with
      | nil => intro _ h; cases h
      | cons r prs ih =>
        intro nd h
        have nd' : (r.1 :: r.2 :: ends prs).Nodup := nd
        rw [List.nodup_cons, List.nodup_cons] at nd'
        rcases List.mem_cons.mp h with rfl | h
        · exact fun z => nd'.1 (z ▸ List.mem_cons_self)
        · exact ih nd'.2.2 h
    exact this prs M.nd hp z
  have hok : ∀ i < ns.length, matesAt ns i = true := fun i hi => by
    have hm : ((i : Nat) : Int) ∈ ringI u d := (ringI_mem hu hd).mpr ⟨by omega, by omega⟩
    obtain ⟨p, hp, e⟩ := key _ hm
    obtain ⟨w1, w2⟩ := W p hp
    obtain ⟨r1, r2⟩ := M.in hp
    have r1 := (ringI_mem hu hd).mp r1
    have r2 := (ringI_mem hu hd).mp r2
    have hn := ne p hp
    have ei : mu ns (i : Int) = ns.getD i 0 := by unfold mu; rw [Int.toNat_natCast]
    refine matesAt_iff.mpr ?_
    rcases e with ⟨e1, e2⟩ | ⟨e1, e2⟩
    · rw [← ei, e2]
      exact ⟨r2.1, by omega, fun z => hn (by rw [← e1]; exact z.symm), by show mu ns p.2 = _; rw [w2, ← e1]⟩
    · rw [← ei, e2]
      exact ⟨r1.1, by omega, fun z => hn (by rw [← e1]; exact z), by show mu ns p.1 = _; rw [w1, ← e1]⟩
  have I := inv_of hu hd hl hok
  refine isMat_good hu hd h0 hl hok ((bad_iff I).mpr fun a ha b hb ⟨c1, c2, c3⟩ => ?_)
  obtain ⟨p, hp, ep⟩ := key a ha
  obtain ⟨q, hq, eq⟩ := key b hb
  have hs := M.nc p hp q hq
  unfold Sep SepP Btw at hs
  rcases ep with ⟨e1, e2⟩ | ⟨e1, e2⟩ <;> rcases eq with ⟨e3, e4⟩ | ⟨e3, e4⟩ <;> rw [e2] at c2 c3 <;> rw [e4] at c3 <;> rw [e1] at c1 <;> rw [e3] at c1 c2 <;> omega
end MM
namespace MM
open PySem PP L2
end MM
namespace MM
open PySem PP L2
theorem row_nil {ns : List Int} : Row [] ns := fun p hp => by cases hp
end MM
namespace MM
open PySem PP L2
def strI (ns : List Int) (i : Nat) : List (Int × Int) := ((List.range i).filter fun j : Nat => decide ((j : Int) < ns.getD j 0)).map fun j : Nat => ((j : Int), ns.getD j 0)
theorem strI_yes {ns : List Int} {i : Nat} (h : (i : Int) < ns.getD i 0) : strI ns (i + 1) = strI ns i ++ [((i : Int), ns.getD i 0)] := by
  unfold strI
  rw [List.range_succ, List.filter_append, List.map_append, List.filter_cons, if_pos (decide_eq_true h), List.filter_nil]
  rfl
theorem strI_no {ns : List Int} {i : Nat} (h : ¬ (i : Int) < ns.getD i 0) : strI ns (i + 1) = strI ns i := by
  unfold strI
  rw [List.range_succ, List.filter_append, List.map_append, List.filter_cons, if_neg (fun z => h (of_decide_eq_true z)), List.filter_nil, List.map_nil, List.append_nil]
theorem strI_mem {ns : List Int} {i : Nat} {p : Int × Int} : p ∈ strI ns i ↔ ∃ j < i, (j : Int) < ns.getD j 0 ∧ p = ((j : Int), ns.getD j 0) := by
  unfold strI
  rw [List.mem_map]
  constructor
  · rintro ⟨j, hj, rfl⟩
    rw [List.mem_filter, List.mem_range] at hj
    exact ⟨j, hj.1, of_decide_eq_true hj.2, rfl⟩
  · rintro ⟨j, hj, hl, rfl⟩
    exact ⟨j, by rw [List.mem_filter, List.mem_range]; exact ⟨hj, decide_eq_true hl⟩, rfl⟩
end MM
namespace MM
open PySem PP L2
theorem isMat_parts {u d : Int} {ns : List Int} (h : isMatB u d ns = true) : 0 ≤ u ∧ 0 ≤ d ∧ 0 < u + d ∧ (ns.length : Int) = u + d ∧ (∀ i < ns.length, matesAt ns i = true) ∧ stkR (mu ns) (ringI u d) (ringI u d).length = [] := by
  unfold isMatB at h
  rw [Bool.and_eq_true, Bool.and_eq_true, Bool.not_eq_true', Bool.or_eq_false_iff, Bool.or_eq_false_iff, Bool.or_eq_false_iff] at h
  obtain ⟨⟨h1, h2, h3, h4⟩, h5, h6⟩ := h
  have h1 := of_decide_eq_false h1
  have h2 := of_decide_eq_false h2
  have h3 := of_decide_eq_false h3
  rw [Bool.not_eq_false'] at h4
  have h4 := of_decide_eq_true h4
  exact ⟨by omega, by omega, by omega, h4, matesOk_iff.mp h5, List.isEmpty_iff.mp h6⟩
theorem mu_nat {ns : List Int} {i : Nat} : mu ns (i : Int) = ns.getD i 0 := by unfold mu; rw [Int.toNat_natCast]
theorem str_row {u d : Int} {ns : List Int} (h : isMatB u d ns = true) : Row (strI ns ns.length) ns := fun p hp => by
  obtain ⟨_, _, _, hl, hok, _⟩ := isMat_parts h
  obtain ⟨j, hj, _, rfl⟩ := strI_mem.mp hp
  obtain ⟨a, b, c, e⟩ := matesAt_iff.mp (hok j hj)
  exact ⟨mu_nat, e⟩
theorem str_ends {u d : Int} {ns : List Int} (h : isMatB u d ns = true) : (ends (strI ns ns.length)).Nodup ∧ ∀ x, x ∈ ends (strI ns ns.length) ↔ 0 ≤ x ∧ x < u + d := by
  obtain ⟨hu, hd, h0, hl, hok, _⟩ := isMat_parts h
  constructor
  · have gen : ∀ k ≤ ns.length, (ends (strI ns k)).Nodup := by
      intro k
      induction k with
      | zero => intro _; exact .nil
      | succ k ih =>
        intro hk
        by_cases c : (k : Int) < ns.getD k 0
        · rw [strI_yes c]
          have e : ends (strI ns k ++ [((k : Int), ns.getD k 0)]) = ends (strI ns k) ++ [(k : Int), ns.getD k 0] := by
            unfold ends
            rw [List.flatMap_append]
            rfl
          rw [e, List.nodup_append]
          refine ⟨ih (by omega), ?_, fun a ha b hb z => ?_⟩
          · rw [List.nodup_cons]
            exact ⟨fun z => by have := List.mem_singleton.mp z; omega, List.nodup_cons.mpr ⟨List.not_mem_nil, .nil⟩⟩
          · obtain ⟨p, hp, e2⟩ := mem_ends.mp ha
            obtain ⟨j, hj, hj2, rfl⟩ := strI_mem.mp hp
            obtain ⟨a1, a2, a3, a4⟩ := matesAt_iff.mp (hok j (by omega))
            obtain ⟨b1, b2, b3, b4⟩ := matesAt_iff.mp (hok k (by omega))
            simp only [List.mem_cons, List.not_mem_nil, or_false] at hb
            subst z
            rcases hb with rfl | rfl <;> rcases e2 with e2 | e2
            · have e2 : (k : Int) = (j : Int) := e2
              omega
            · have e2 : (k : Int) = ns.getD j 0 := e2
              rw [← e2, Int.toNat_natCast] at a4
              omega
            · have e2 : ns.getD k 0 = (j : Int) := e2
              omega
            · have e2 : ns.getD k 0 = ns.getD j 0 := e2
              rw [e2] at b4
              omega
        · rw [strI_no c]
          exact ih (by omega)
    exact gen _ (Nat.le_refl _)
  · intro x
    rw [mem_ends]
    constructor
    · rintro ⟨p, hp, e⟩
      obtain ⟨j, hj, hj2, rfl⟩ := strI_mem.mp hp
      obtain ⟨a1, a2, a3, a4⟩ := matesAt_iff.mp (hok j hj)
      rcases e with rfl | rfl
      · show (0 : Int) ≤ (j : Int) ∧ (j : Int) < u + d
        omega
      · show 0 ≤ ns.getD j 0 ∧ ns.getD j 0 < u + d
        omega
    · rintro ⟨x0, x1⟩
      obtain ⟨j, rfl⟩ : ∃ j : Nat, x = (j : Int) := ⟨x.toNat, by omega⟩
      have hj : j < ns.length := by omega
      obtain ⟨a1, a2, a3, a4⟩ := matesAt_iff.mp (hok j hj)
      by_cases c : (j : Int) < ns.getD j 0
      · exact ⟨_, strI_mem.mpr ⟨j, hj, c, rfl⟩, .inl rfl⟩
      · refine ⟨(((ns.getD j 0).toNat : Int), ns.getD (ns.getD j 0).toNat 0), strI_mem.mpr ⟨(ns.getD j 0).toNat, by omega, by rw [a4]; omega, rfl⟩, .inr ?_⟩
        exact a4.symm
theorem rows_same {N : Int} {ns ks : List Int} (hl : (ns.length : Int) = N) (hk : (ks.length : Int) = N) (h : ∀ x, 0 ≤ x → x < N → mu ns x = mu ks x) : ns = ks := by
  refine List.ext_getElem (by omega) fun i h1 h2 => ?_
  have := h (i : Int) (by omega) (by omega)
  rw [mu_nat, mu_nat, List.getD_eq_getElem?_getD, List.getD_eq_getElem?_getD, List.getElem?_eq_getElem h1, List.getElem?_eq_getElem h2] at this
  exact this
theorem two_at {f g : Nat → Int} {a b : Nat} {x : Nat} (h : x < a + b) : (((List.range a).map f) ++ (List.range b).map g).getD x 0 = if x < a then f x else g (x - a) := by
  rw [List.getD_eq_getElem?_getD]
  by_cases c : x < a
  · rw [if_pos c, List.getElem?_append_left (by rw [List.length_map, List.length_range]; exact c), List.getElem?_map, List.getElem?_range c]
    rfl
  · rw [if_neg c, List.getElem?_append_right (by rw [List.length_map, List.length_range]; omega), List.length_map, List.length_range, List.getElem?_map, List.getElem?_range (by omega)]
    rfl
end MM
namespace MM
open PySem PP L2
end MM
namespace MM
open PySem PP L2
end MM
namespace JJ
open PySem PP L2 MM
structure Sg (N : Int) (s : Int → Int) : Prop where
  into : ∀ x, 0 ≤ x → x < N → 0 ≤ s x ∧ s x < N
  ne : ∀ x, 0 ≤ x → x < N → s x ≠ x
  inv : ∀ x, 0 ≤ x → x < N → s (s x) = x
structure Rm (n m N : Int) (l : List Int) (x : Int) : Prop where
  lo : 0 ≤ x
  hi : x < N
  far : ∀ i ∈ l, x ≠ n + i ∧ x ≠ n + m + i
def El (n m : Int) (s : Int → Int) : List Int → Int → Int
  | [] => s
  | i :: l => fun x => if El n m s l (n + i) = n + m + i then El n m s l x else if x = El n m s l (n + i) then El n m s l (n + m + i) else if x = El n m s l (n + m + i) then El n m s l (n + i) else El n m s l x
def tau (n m x : Int) : Int := if n ≤ x ∧ x < n + m then x + m else if n + m ≤ x ∧ x < n + 2 * m then x - m else x
def wlk (n m : Int) (s : Int → Int) (x : Int) : Nat → Int
  | 0 => s x
  | j + 1 => s (tau n m (wlk n m s x j))
structure Ls (m : Int) (l : List Int) : Prop where
  nd : l.Nodup
  r : ∀ i ∈ l, 0 ≤ i ∧ i < m
theorem Ls.tl {m i : Int} {l : List Int} (h : Ls m (i :: l)) : Ls m l := ⟨(List.nodup_cons.mp h.nd).2, fun j hj => h.r j (List.mem_cons_of_mem _ hj)⟩
section
variable {n m N : Int} {s : Int → Int} (hn : 0 ≤ n) (hm : 0 ≤ m) (hN : n + 2 * m ≤ N) (S : Sg N s)
include hn hm hN S
theorem El_inv : ∀ {l : List Int}, Ls m l → ∀ x, Rm n m N l x → Rm n m N l (El n m s l x) ∧ El n m s l x ≠ x ∧ El n m s l (El n m s l x) = x
  | [], _, x, r => by
    have a := S.into x r.lo r.hi
    exact ⟨⟨a.1, a.2, fun i hi => by cases hi⟩, S.ne x r.lo r.hi, S.inv x r.lo r.hi⟩
  | i :: l, h, x, r => by
    have IH := El_inv h.tl
    have hi := h.r i List.mem_cons_self
    have hil := (List.nodup_cons.mp h.nd).1
    have fa : Rm n m N l (n + i) := ⟨by omega, by omega, fun j hj => ⟨fun z => hil (by rw [show i = j by omega]; exact hj), by have := h.r j (List.mem_cons_of_mem _ hj); omega⟩⟩
    have fb : Rm n m N l (n + m + i) := ⟨by omega, by omega, fun j hj => ⟨by have := h.r j (List.mem_cons_of_mem _ hj); omega, fun z => hil (by rw [show i = j by omega]; exact hj)⟩⟩
    have rl : Rm n m N l x := ⟨r.lo, r.hi, fun j hj => r.far j (List.mem_cons_of_mem _ hj)⟩
    have xa := (r.far i List.mem_cons_self).1
    have xb := (r.far i List.mem_cons_self).2
    obtain ⟨ra, na, ia⟩ := IH _ fa
    obtain ⟨rb, nb, ib⟩ := IH _ fb
    obtain ⟨rx, nx, ix⟩ := IH _ rl
    have up : ∀ {y}, Rm n m N l y → y ≠ n + i → y ≠ n + m + i → Rm n m N (i :: l) y := fun {y} q h1 h2 => ⟨q.lo, q.hi, fun j hj => by
      rcases List.mem_cons.mp hj with rfl | hj
      · exact ⟨h1, h2⟩
      · exact q.far j hj⟩
    generalize hE : El n m s l = E at *
    have e : ∀ y, El n m s (i :: l) y = if E (n + i) = n + m + i then E y else if y = E (n + i) then E (n + m + i) else if y = E (n + m + i) then E (n + i) else E y := fun y => by
      show (if El n m s l (n + i) = n + m + i then El n m s l y else if y = El n m s l (n + i) then El n m s l (n + m + i) else if y = El n m s l (n + m + i) then El n m s l (n + i) else El n m s l y) = _
      rw [hE]
    rw [e]
    by_cases c : E (n + i) = n + m + i
    · have eb : E (n + m + i) = n + i := by rw [← c]; exact ia
      rw [if_pos c]
      refine ⟨up rx (fun z => xb ?_) (fun z => xa ?_), nx, ?_⟩
      · rw [← ix, z]; exact c
      · rw [← ix, z]; exact eb
      · rw [e, if_pos c]; exact ix
    · have dc : E (n + m + i) ≠ n + i := fun z => c (by rw [← z]; exact ib)
      have cd : E (n + i) ≠ E (n + m + i) := fun z => by
        have : n + i = n + m + i := by rw [← ia, z]; exact ib
        rw [this] at c
        have hm0 : m = 0 := by omega
        omega
      by_cases c1 : x = E (n + i)
      · rw [if_neg c, if_pos c1]
        refine ⟨up rb dc nb, fun z => cd (by rw [← c1, z]), ?_⟩
        rw [e, if_neg c, if_neg (fun z => cd z.symm), if_pos rfl, c1]
      · by_cases c2 : x = E (n + m + i)
        · rw [if_neg c, if_neg c1, if_pos c2]
          refine ⟨up ra na c, fun z => cd (by rw [z, c2]), ?_⟩
          rw [e, if_neg c, if_pos rfl, c2]
        · rw [if_neg c, if_neg c1, if_neg c2]
          refine ⟨up rx (fun z => c1 ?_) (fun z => c2 ?_), nx, ?_⟩
          · rw [← ix, z]
          · rw [← ix, z]
          · rw [e, if_neg c, if_neg (fun z => xa ?_), if_neg (fun z => xb ?_)]
            · exact ix
            · rw [← ix, z]; exact ib
            · rw [← ix, z]; exact ia
end
def Cn (n m N : Int) (s : Int → Int) (x y : Int) : Prop := ∀ P : Int → Prop, (∀ z, 0 ≤ z → z < N → P z → P (s z) ∧ P (tau n m z)) → P x → P y
section
variable {n m N : Int} {s : Int → Int}
theorem Cn.refl {x : Int} : Cn n m N s x x := fun _ _ h => h
theorem Cn.trans {x y z : Int} (h : Cn n m N s x y) (g : Cn n m N s y z) : Cn n m N s x z := fun P c p => g P c (h P c p)
theorem Cn.s1 {x : Int} (h0 : 0 ≤ x) (h1 : x < N) : Cn n m N s x (s x) := fun P c p => (c x h0 h1 p).1
theorem Cn.t1 {x : Int} (h0 : 0 ≤ x) (h1 : x < N) : Cn n m N s x (tau n m x) := fun P c p => (c x h0 h1 p).2
theorem tau_in {x : Int} (hn : 0 ≤ n) (hm : 0 ≤ m) (hN : n + 2 * m ≤ N) (h0 : 0 ≤ x) (h1 : x < N) : 0 ≤ tau n m x ∧ tau n m x < N := by
  unfold tau
  (repeat' split) <;> omega
theorem tau_tau {x : Int} (hm : 0 ≤ m) : tau n m (tau n m x) = x := by
  unfold tau
  (repeat' split) <;> omega
variable (hn : 0 ≤ n) (hm : 0 ≤ m) (hN : n + 2 * m ≤ N) (S : Sg N s)
include hn hm hN S
theorem Cn.in {x y : Int} (h : Cn n m N s x y) (h0 : 0 ≤ x) (h1 : x < N) : 0 ≤ y ∧ y < N := h (fun z => 0 ≤ z ∧ z < N) (fun z a b _ => ⟨S.into z a b, tau_in hn hm hN a b⟩) ⟨h0, h1⟩
theorem Cn.symm {x y : Int} (h : Cn n m N s x y) (h0 : 0 ≤ x) (h1 : x < N) : Cn n m N s y x := by
  refine (h (fun z => (0 ≤ z ∧ z < N) ∧ Cn n m N s z x) (fun z a b ⟨_, p⟩ => ⟨⟨S.into z a b, ?_⟩, tau_in hn hm hN a b, ?_⟩) ⟨⟨h0, h1⟩, Cn.refl⟩).2
  · have i := S.into z a b
    have q : Cn n m N s (s z) (s (s z)) := Cn.s1 i.1 i.2
    rw [S.inv z a b] at q
    exact q.trans p
  · have i := tau_in (m := m) hn hm hN a b
    have q : Cn n m N s (tau n m z) (tau n m (tau n m z)) := Cn.t1 i.1 i.2
    rw [tau_tau hm] at q
    exact q.trans p
def outer (n m x : Int) : Prop := x < n ∨ n + 2 * m ≤ x
def down : Nat → List Int
  | 0 => []
  | i + 1 => (i : Int) :: down i
omit hn hm hN S in
theorem down_mem : ∀ {i : Nat} {x : Int}, x ∈ down i ↔ 0 ≤ x ∧ x < i
  | 0, x => by
    show x ∈ [] ↔ _
    simp
  | i + 1, x => by
    show x ∈ (i : Int) :: down i ↔ _
    rw [List.mem_cons, down_mem]
    omega
omit hn hm hN S in
theorem down_nd : ∀ i : Nat, (down i).Nodup
  | 0 => .nil
  | i + 1 => List.nodup_cons.mpr ⟨fun z => by have := down_mem.mp z; omega, down_nd i⟩
omit hn hm hN S in
theorem down_ls {i : Nat} (h : (i : Int) ≤ m) : Ls m (down i) := ⟨down_nd i, fun j hj => by have := down_mem.mp hj; omega⟩
omit S in
theorem mid_of {y : Int} (h0 : 0 ≤ y) (h1 : y < N) (h : ¬ outer n m y) : ∃ j, 0 ≤ j ∧ j < m ∧ (y = n + j ∨ y = n + m + j) := by
  unfold outer at h
  by_cases c : y < n + m
  · exact ⟨y - n, by omega, by omega, .inl (by omega)⟩
  · exact ⟨y - n - m, by omega, by omega, .inr (by omega)⟩
end
end JJ
namespace JJ
open PySem PP L2 MM
def ps (n m y : Int) : Int := if y < n + m then y else y - m
section
variable {n m N : Int} {s : Int → Int} (hn : 0 ≤ n) (hm : 0 ≤ m) (hN : n + 2 * m ≤ N) (S : Sg N s)
include hn hm hN S
theorem El_all {x : Int} (h0 : 0 ≤ x) (h1 : x < N) (ho : outer n m x) : Rm n m N (down m.toNat) x := ⟨h0, h1, fun i hi => by
  have := down_mem.mp hi
  unfold outer at ho
  omega⟩
omit S in
theorem rm_outer {x : Int} (h : Rm n m N (down m.toNat) x) : outer n m x := by
  have := h.lo
  have := h.hi
  by_cases c : outer n m x
  · exact c
  · obtain ⟨j, j0, j1, e⟩ := mid_of hn hm hN h.lo h.hi c
    have := h.far j (down_mem.mpr ⟨j0, by omega⟩)
    rcases e with e | e
    · exact absurd e this.1
    · exact absurd e this.2
end
end JJ
namespace MM
open PySem PP L2
structure Is (u d : Int) (prs : List (Int × Int)) (ns : List Int) : Prop where
  hu : 0 ≤ u
  hd : 0 ≤ d
  h0 : 0 < u + d
  len : (ns.length : Int) = u + d
  M : Match (ringI u d) prs
  W : Row prs ns
abbrev mapP (f : Int → Int) (prs : List (Int × Int)) : List (Int × Int) := prs.map fun p => (f p.1, f p.2)
section
variable {u d : Int} {prs : List (Int × Int)} {ns ks : List Int}
theorem Is.mat (h : Is u d prs ns) : isMatB u d ns = true := match_isMat h.hu h.hd h.h0 h.len h.M h.W
theorem Is.in (h : Is u d prs ns) : ∀ x ∈ ends prs, 0 ≤ x ∧ x < u + d := fun x hx => (ringI_mem h.hu h.hd).mp ((h.M.mem x).mp hx)
theorem Is.inP (h : Is u d prs ns) {p : Int × Int} (hp : p ∈ prs) : (0 ≤ p.1 ∧ p.1 < u + d) ∧ 0 ≤ p.2 ∧ p.2 < u + d := ⟨h.in _ (mem_ends.mpr ⟨p, hp, .inl rfl⟩), h.in _ (mem_ends.mpr ⟨p, hp, .inr rfl⟩)⟩
theorem Is.nd (h : Is u d prs ns) : (ends prs).Nodup := h.M.nd
theorem Is.of (h : Is u d prs ns) {qrs : List (Int × Int)} (e : prs = qrs) : Is u d qrs ns := e ▸ h
end
def sg (u d x : Int) : Int := if x < u then x else 2 * u + d - 1 - x
theorem ring_at {u d k : Int} (hu : 0 ≤ u) (hd : 0 ≤ d) (h0 : 0 ≤ k) (h1 : k < u + d) : (ringI u d)[k.toNat]? = some (sg u d k) := by
  have l := ringI_len hu hd
  have := two_at (f := fun i => 0 + ((i : Nat) : Int)) (g := fun i => u + d - 1 + ((i : Nat) : Int) * -1) (a := (u - 0).toNat) (b := (u + d - 1 - (u - 1)).toNat) (x := k.toNat) (by omega)
  have hk : k.toNat < (ringI u d).length := by omega
  rw [List.getElem?_eq_getElem hk]
  have e : (ringI u d).getD k.toNat 0 = (ringI u d)[k.toNat] := by rw [List.getD_eq_getElem?_getD, List.getElem?_eq_getElem hk, Option.getD_some]
  rw [← e]
  refine congrArg some (Eq.trans this ?_)
  unfold sg
  split <;> split <;> omega
theorem ring_idx {u d x : Int} (hu : 0 ≤ u) (hd : 0 ≤ d) (h0 : 0 ≤ x) (h1 : x < u + d) : ((ringI u d).idxOf x : Int) = sg u d x ∧ 0 ≤ sg u d x ∧ sg u d x < u + d := by
  have hs : 0 ≤ sg u d x ∧ sg u d x < u + d := by unfold sg; split <;> omega
  have e := ring_at hu hd hs.1 hs.2
  have e2 : sg u d (sg u d x) = x := by unfold sg; (repeat' split) <;> omega
  rw [e2] at e
  rw [idx_at (ringI_nodup hu hd) e]
  exact ⟨by omega, hs⟩
end MM
namespace MM
open PySem PP L2
theorem Is.same {u d : Int} {P Q : List (Int × Int)} {ns ks : List Int} (h : Is u d P ns) (g : Is u d Q ks) (e : ∀ p ∈ P, p ∈ Q ∨ (p.2, p.1) ∈ Q) : ns = ks := by
  refine rows_same h.len g.len fun x x0 x1 => ?_
  obtain ⟨p, hp, ex⟩ := mem_ends.mp ((h.M.mem x).mpr ((ringI_mem h.hu h.hd).mpr ⟨x0, x1⟩))
  obtain ⟨w1, w2⟩ := h.W p hp
  have v : mu ks p.1 = p.2 ∧ mu ks p.2 = p.1 := by
    rcases e p hp with hq | hq
    · exact g.W p hq
    · exact (g.W _ hq).symm
  rcases ex with rfl | rfl
  · rw [w1, v.1]
  · rw [w2, v.2]
theorem match_sg {u d : Int} {prs : List (Int × Int)} (hu : 0 ≤ u) (hd : 0 ≤ d) (nd : (ends prs).Nodup) (mem : ∀ x, x ∈ ends prs ↔ 0 ≤ x ∧ x < u + d)
    (nc : ∀ p ∈ prs, ∀ q ∈ prs, (min (sg u d p.1) (sg u d p.2) < sg u d q.1 ∧ sg u d q.1 < max (sg u d p.1) (sg u d p.2)) ↔ (min (sg u d p.1) (sg u d p.2) < sg u d q.2 ∧ sg u d q.2 < max (sg u d p.1) (sg u d p.2))) : Match (ringI u d) prs := by
  refine ⟨nd, fun x => by rw [mem, ringI_mem hu hd], fun p hp q hq => ?_⟩
  have i1 := (mem p.1).mp (mem_ends.mpr ⟨p, hp, .inl rfl⟩)
  have i2 := (mem p.2).mp (mem_ends.mpr ⟨p, hp, .inr rfl⟩)
  have i3 := (mem q.1).mp (mem_ends.mpr ⟨q, hq, .inl rfl⟩)
  have i4 := (mem q.2).mp (mem_ends.mpr ⟨q, hq, .inr rfl⟩)
  have e1 := (ring_idx hu hd i1.1 i1.2).1
  have e2 := (ring_idx hu hd i2.1 i2.2).1
  have e3 := (ring_idx hu hd i3.1 i3.2).1
  have e4 := (ring_idx hu hd i4.1 i4.2).1
  have h := nc p hp q hq
  rw [← e1, ← e2, ← e3, ← e4] at h
  unfold Sep SepP Btw
  generalize (ringI u d).idxOf p.1 = a at *
  generalize (ringI u d).idxOf p.2 = b at *
  generalize (ringI u d).idxOf q.1 = c at *
  generalize (ringI u d).idxOf q.2 = d' at *
  omega
theorem Match.sg {u d : Int} {prs : List (Int × Int)} (hu : 0 ≤ u) (hd : 0 ≤ d) (M : Match (ringI u d) prs) {p q : Int × Int} (hp : p ∈ prs) (hq : q ∈ prs) :
    (min (sg u d p.1) (MM.sg u d p.2) < MM.sg u d q.1 ∧ MM.sg u d q.1 < max (MM.sg u d p.1) (MM.sg u d p.2)) ↔ (min (MM.sg u d p.1) (MM.sg u d p.2) < MM.sg u d q.2 ∧ MM.sg u d q.2 < max (MM.sg u d p.1) (MM.sg u d p.2)) := by
  have i1 := (ringI_mem hu hd).mp (M.in hp).1
  have i2 := (ringI_mem hu hd).mp (M.in hp).2
  have i3 := (ringI_mem hu hd).mp (M.in hq).1
  have i4 := (ringI_mem hu hd).mp (M.in hq).2
  have h := M.nc p hp q hq
  unfold Sep SepP Btw at h
  rw [← (ring_idx hu hd i1.1 i1.2).1, ← (ring_idx hu hd i2.1 i2.2).1, ← (ring_idx hu hd i3.1 i3.2).1, ← (ring_idx hu hd i4.1 i4.2).1]
  generalize (ringI u d).idxOf p.1 = a at *
  generalize (ringI u d).idxOf p.2 = b at *
  generalize (ringI u d).idxOf q.1 = c at *
  generalize (ringI u d).idxOf q.2 = d' at *
  omega
theorem match_in {u d : Int} {prs : List (Int × Int)} (hu : 0 ≤ u) (hd : 0 ≤ d) (M : Match (ringI u d) prs) : ∀ x ∈ ends prs, 0 ≤ x ∧ x < u + d := fun x hx => (ringI_mem hu hd).mp ((M.mem x).mp hx)
theorem sep_no {a b c d : Nat} (ab : a ≠ b) (ca : c ≠ a) (cb : c ≠ b) (da : d ≠ a) (db : d ≠ b) (h1 : ¬ (a < c ∧ c < b ∧ b < d)) (h2 : ¬ (a < d ∧ d < b ∧ b < c)) (h3 : ¬ (b < c ∧ c < a ∧ a < d)) (h4 : ¬ (b < d ∧ d < a ∧ a < c))
    (h5 : ¬ (c < a ∧ a < d ∧ d < b)) (h6 : ¬ (c < b ∧ b < d ∧ d < a)) (h7 : ¬ (d < a ∧ a < c ∧ c < b)) (h8 : ¬ (d < b ∧ b < c ∧ c < a)) : ¬ SepP a b c d := by
  unfold SepP Btw
  intro hs
  apply hs
  have mm : ∀ x : Nat, (min a b < x ∧ x < max a b) ↔ (a < x ∧ x < b) ∨ (b < x ∧ x < a) := fun x => by clear h1 h2 h3 h4 h5 h6 h7 h8 hs; omega
  rw [mm, mm]
  constructor
  · rintro (⟨x, y⟩ | ⟨x, y⟩)
    · rcases Nat.lt_or_gt_of_ne da with z | z
      · exact absurd ⟨z, x, y⟩ h7
      · rcases Nat.lt_or_gt_of_ne db with t | t
        · exact .inl ⟨z, t⟩
        · exact absurd ⟨x, y, t⟩ h1
    · rcases Nat.lt_or_gt_of_ne db with z | z
      · exact absurd ⟨z, x, y⟩ h8
      · rcases Nat.lt_or_gt_of_ne da with t | t
        · exact .inr ⟨z, t⟩
        · exact absurd ⟨x, y, t⟩ h3
  · rintro (⟨x, y⟩ | ⟨x, y⟩)
    · rcases Nat.lt_or_gt_of_ne ca with z | z
      · exact absurd ⟨z, x, y⟩ h5
      · rcases Nat.lt_or_gt_of_ne cb with t | t
        · exact .inl ⟨z, t⟩
        · exact absurd ⟨x, y, t⟩ h2
    · rcases Nat.lt_or_gt_of_ne cb with z | z
      · exact absurd ⟨z, x, y⟩ h6
      · rcases Nat.lt_or_gt_of_ne ca with t | t
        · exact .inr ⟨z, t⟩
        · exact absurd ⟨x, y, t⟩ h4
theorem Is.own {u d : Int} {ns : List Int} (h : isMatB u d ns = true) : Is u d (strI ns ns.length) ns := by
  obtain ⟨hu, hd, h0, hl, hok, hs⟩ := isMat_parts h
  have I := inv_of hu hd hl hok
  obtain ⟨e1, e2⟩ := str_ends h
  refine ⟨hu, hd, h0, hl, ⟨e1, fun x => by rw [e2, ringI_mem hu hd], fun p hp q hq hsep => ?_⟩, str_row h⟩
  have nc := (pile_empty I).mp hs
  have ip : p.1 ∈ ringI u d ∧ p.2 ∈ ringI u d := ⟨(ringI_mem hu hd).mpr ((e2 _).mp (mem_ends.mpr ⟨p, hp, .inl rfl⟩)), (ringI_mem hu hd).mpr ((e2 _).mp (mem_ends.mpr ⟨p, hp, .inr rfl⟩))⟩
  have iq : q.1 ∈ ringI u d ∧ q.2 ∈ ringI u d := ⟨(ringI_mem hu hd).mpr ((e2 _).mp (mem_ends.mpr ⟨q, hq, .inl rfl⟩)), (ringI_mem hu hd).mpr ((e2 _).mp (mem_ends.mpr ⟨q, hq, .inr rfl⟩))⟩
  obtain ⟨w1, w2⟩ := str_row h p hp
  obtain ⟨v1, v2⟩ := str_row h q hq
  have ne1 : (ringI u d).idxOf p.1 ≠ (ringI u d).idxOf p.2 := fun z => I.ne p.1 ip.1 (by rw [w1]; exact (idx_inj ip.1 ip.2 z).symm)
  have ne2 : (ringI u d).idxOf q.1 ≠ (ringI u d).idxOf q.2 := fun z => I.ne q.1 iq.1 (by rw [v1]; exact (idx_inj iq.1 iq.2 z).symm)
  have ap := ends_apart e1 hp hq
  rcases ap with rfl | ⟨n1, n2, n3, n4⟩
  · exact sep_self hsep
  have m1 : (ringI u d).idxOf q.1 ≠ (ringI u d).idxOf p.1 := fun z => n1 (idx_inj iq.1 ip.1 z)
  have m2 : (ringI u d).idxOf q.1 ≠ (ringI u d).idxOf p.2 := fun z => n2 (idx_inj iq.1 ip.2 z)
  have m3 : (ringI u d).idxOf q.2 ≠ (ringI u d).idxOf p.1 := fun z => n3 (idx_inj iq.2 ip.1 z)
  have m4 : (ringI u d).idxOf q.2 ≠ (ringI u d).idxOf p.2 := fun z => n4 (idx_inj iq.2 ip.2 z)
  have c1 := nc p.1 ip.1 q.1 iq.1
  have c2 := nc p.1 ip.1 q.2 iq.2
  have c3 := nc p.2 ip.2 q.1 iq.1
  have c4 := nc p.2 ip.2 q.2 iq.2
  have d1 := nc q.1 iq.1 p.1 ip.1
  have d2 := nc q.1 iq.1 p.2 ip.2
  have d3 := nc q.2 iq.2 p.1 ip.1
  have d4 := nc q.2 iq.2 p.2 ip.2
  unfold Crs at c1 c2 c3 c4 d1 d2 d3 d4
  rw [w1] at c1 c2 d1 d3
  rw [w2] at c3 c4 d2 d4
  rw [v1] at c1 c3 d1 d2
  rw [v2] at c2 c4 d3 d4
  exact sep_no ne1 m1 m2 m3 m4 c1 c2 c3 c4 d1 d2 d3 d4 hsep
end MM
namespace MM
open PySem PP L2
def strP (n : Int) : List (Int × Int) := (List.range n.toNat).map fun i : Nat => ((i : Int), n + (i : Int))
def keepP (n i : Int) : List (Int × Int) := (strP n).filter fun p => !decide (p.1 ∈ [i, i + 1])
def hookP (n i : Int) : List (Int × Int) := keepP n i ++ [(i, i + 1), (n + i, n + i + 1)]
structure Mt (u d : Int) (P : List (Int × Int)) : Prop where
  hu : 0 ≤ u
  hd : 0 ≤ d
  h0 : 0 < u + d
  M : Match (ringI u d) P
theorem Mt.in {u d : Int} {P : List (Int × Int)} (h : Mt u d P) : ∀ x ∈ ends P, 0 ≤ x ∧ x < u + d := match_in h.hu h.hd h.M
def spFrom : FSp := fun pvs m q => ∃ a b : Int, pvs = [.d (.int a), .d (.int b)] ∧ m = [] ∧ b ≤ a ∧ q (.d .none) []
end MM
namespace JJ
open PySem PP L2 MM
def cs (n m : Int) (ns ks : List Int) (x : Int) : Int := if x < n + m then mu ns x else n + m + mu ks (x - (n + m))
structure Rw (N : Int) (ns : List Int) : Prop where
  len : (ns.length : Int) = N
  sg : Sg N (mu ns)
theorem cs_sg {n m k : Int} {ns ks : List Int} (hn : 0 ≤ n) (hm : 0 ≤ m) (hk : 0 ≤ k) (A : Rw (n + m) ns) (B : Rw (m + k) ks) : Sg (n + m + (m + k)) (cs n m ns ks) := by
  refine ⟨fun x h0 h1 => ?_, fun x h0 h1 => ?_, fun x h0 h1 => ?_⟩
  · unfold cs
    by_cases c : x < n + m
    · rw [if_pos c]; have := A.sg.into x h0 c; omega
    · rw [if_neg c]; have := B.sg.into (x - (n + m)) (by omega) (by omega); omega
  · unfold cs
    by_cases c : x < n + m
    · rw [if_pos c]; exact A.sg.ne x h0 c
    · rw [if_neg c]; have := B.sg.ne (x - (n + m)) (by omega) (by omega); omega
  · unfold cs
    by_cases c : x < n + m
    · rw [if_pos c, if_pos (A.sg.into x h0 c).2]; exact A.sg.inv x h0 c
    · rw [if_neg c]
      have a := B.sg.into (x - (n + m)) (by omega) (by omega)
      have b := B.sg.inv (x - (n + m)) (by omega) (by omega)
      rw [if_neg (by omega), show n + m + mu ks (x - (n + m)) - (n + m) = mu ks (x - (n + m)) by omega, b]; omega
structure Ends (n m : Int) (s : Int → Int) (x : Int) (J : Nat) : Prop where
  go : ∀ j < J, ¬ outer n m (wlk n m s x j) ∧ ps n m (wlk n m s x j) ≠ ps n m x
  stop : outer n m (wlk n m s x J) ∨ ps n m (wlk n m s x J) = ps n m x
theorem Ends.at {n m : Int} {s : Int → Int} {x : Int} {J j : Nat} (E : Ends n m s x J) (hj : j ≤ J) (h : outer n m (wlk n m s x j) ∨ ps n m (wlk n m s x j) = ps n m x) : j = J := by
  rcases Nat.lt_or_eq_of_le hj with c | c
  · have := E.go j c
    rcases h with z | z
    · exact absurd z this.1
    · exact absurd z this.2
  · exact c
structure Two (n m k : Int) (ns ks : List Int) : Prop where
  n0 : 0 ≤ n
  m0 : 0 ≤ m
  k0 : 0 ≤ k
  n1 : n ≤ 1000
  m1 : m ≤ 16
  k1 : k ≤ 1000
  A : Rw (n + m) ns
  B : Rw (m + k) ks
end JJ
namespace JJ
open PySem PP L2 MM
section
variable {n m k : Int} {ns ks : List Int} (W : Two n m k ns ks)
include W
theorem Two.sg : Sg (n + m + (m + k)) (cs n m ns ks) := cs_sg W.n0 W.m0 W.k0 W.A W.B
end
def outs (n m k : Int) : List Int := ((List.range n.toNat).map fun i => 0 + ((i : Nat) : Int)) ++ (List.range k.toNat).map fun i => n + 2 * m + ((i : Nat) : Int)
theorem outs_len {n m k : Int} (hn : 0 ≤ n) (hk : 0 ≤ k) : ((outs n m k).length : Int) = n + k := by
  unfold outs
  rw [List.length_append, List.length_map, List.length_map, List.length_range, List.length_range]; omega
def bk (n m z : Int) : Int := if z < n then z else z - 2 * m
def jn (n m k : Int) (ns ks : List Int) : List Int := (outs n m k).map fun x => bk n m (El n m (cs n m ns ks) (down m.toNat) x)
theorem map_at {α β : Type} {f : α → β} {l : List α} {i : Nat} {y : β} (h : (l.map f)[i]? = some y) : ∃ x, l[i]? = some x ∧ y = f x := by
  rw [List.getElem?_map] at h
  cases e : l[i]? with
  | none => rw [e] at h; cases h
  | some x => rw [e] at h; cases h; exact ⟨x, rfl, rfl⟩
end JJ
namespace JJ
open PySem PP L2 MM
structure M3 where
  n : Int
  m : Int
  ns : List Int
structure Sm (a : M3) : Prop where
  n0 : 0 ≤ a.n
  m0 : 0 ≤ a.m
  n1 : a.n ≤ 16
  m1 : a.m ≤ 16
  R : Rw (a.n + a.m) a.ns
theorem Sm.two {a b : M3} (A : Sm a) (B : Sm b) (e : a.m = b.n) : Two a.n a.m b.m a.ns b.ns := ⟨A.n0, A.m0, B.m0, by have := A.n1; omega, A.m1, by have := B.m1; omega, A.R, by rw [e]; exact B.R⟩
def jn2 (a b : M3) : M3 := ⟨a.n, b.m, jn a.n a.m b.m a.ns b.ns⟩
theorem bk_in {n m k z : Int} (hn : 0 ≤ n) (hk : 0 ≤ k) (h0 : 0 ≤ z) (h1 : z < n + m + (m + k)) (hm : 0 ≤ m) (ho : outer n m z) : 0 ≤ bk n m z ∧ bk n m z < n + k := by
  unfold outer at ho
  unfold bk
  split <;> omega
theorem outs_at {n m k y : Int} (hn : 0 ≤ n) (hk : 0 ≤ k) (h0 : 0 ≤ y) (h1 : y < n + k) : (outs n m k).getD y.toNat 0 = if y < n then y else y + 2 * m := by
  unfold outs
  rw [List.getD_eq_getElem?_getD]
  by_cases c : y < n
  · rw [if_pos c, List.getElem?_append_left (by rw [List.length_map, List.length_range]; omega), List.getElem?_map, List.getElem?_range (by omega)]
    simp; omega
  · rw [if_neg c, List.getElem?_append_right (by rw [List.length_map, List.length_range]; omega), List.length_map, List.length_range, List.getElem?_map, List.getElem?_range (by omega)]
    simp; omega
theorem jn_at {n m k : Int} {ns ks : List Int} (hn : 0 ≤ n) (hk : 0 ≤ k) {y : Int} (h0 : 0 ≤ y) (h1 : y < n + k) : mu (jn n m k ns ks) y = bk n m (El n m (cs n m ns ks) (down m.toNat) (if y < n then y else y + 2 * m)) := by
  have l := outs_len (n := n) (m := m) (k := k) hn hk
  rw [← outs_at (m := m) hn hk h0 h1]
  unfold mu jn
  rw [List.getD_eq_getElem?_getD, List.getElem?_map, List.getElem?_eq_getElem (by omega), Option.map_some, Option.getD_some, List.getD_eq_getElem?_getD, List.getElem?_eq_getElem (by omega), Option.getD_some]
theorem jn_rw {n m k : Int} {ns ks : List Int} (W : Two n m k ns ks) : Rw (n + k) (jn n m k ns ks) := by
  have n0 := W.n0
  have m0 := W.m0
  have k0 := W.k0
  have l := outs_len (n := n) (m := m) (k := k) n0 k0
  have ll : ((jn n m k ns ks).length : Int) = n + k := by unfold jn; rw [List.length_map]; exact l
  have pt : ∀ y, 0 ≤ y → y < n + k → 0 ≤ (if y < n then y else y + 2 * m) ∧ (if y < n then y else y + 2 * m) < n + m + (m + k) ∧ outer n m (if y < n then y else y + 2 * m) := fun y a b => by
    unfold outer; split <;> omega
  have el : ∀ x, 0 ≤ x → x < n + m + (m + k) → outer n m x → 0 ≤ El n m (cs n m ns ks) (down m.toNat) x ∧ El n m (cs n m ns ks) (down m.toNat) x < n + m + (m + k) ∧ outer n m (El n m (cs n m ns ks) (down m.toNat) x) ∧ El n m (cs n m ns ks) (down m.toNat) x ≠ x ∧ El n m (cs n m ns ks) (down m.toNat) (El n m (cs n m ns ks) (down m.toNat) x) = x := fun x a b c => by
    have r := El_all n0 m0 (by omega) W.sg a b c
    obtain ⟨z1, z2, z3⟩ := El_inv n0 m0 (by omega) W.sg (down_ls (by omega)) x r
    exact ⟨z1.lo, z1.hi, rm_outer n0 m0 (by omega) z1, z2, z3⟩
  have px : ∀ y, (y < n ∧ (if y < n then y else y + 2 * m) = y) ∨ (n ≤ y ∧ (if y < n then y else y + 2 * m) = y + 2 * m) := fun y => by split <;> omega
  refine ⟨ll, ⟨fun y a b => ?_, fun y a b => ?_, fun y a b => ?_⟩⟩
  · rw [jn_at n0 k0 a b]
    obtain ⟨p1, p2, p3⟩ := pt y a b
    obtain ⟨q1, q2, q3, _⟩ := el _ p1 p2 p3
    exact bk_in n0 k0 q1 q2 m0 q3
  · rw [jn_at n0 k0 a b]
    obtain ⟨p1, p2, p3⟩ := pt y a b
    obtain ⟨q1, q2, q3, q4, _⟩ := el _ p1 p2 p3
    have hx := px y
    generalize (if y < n then y else y + 2 * m) = x at *
    generalize El n m (cs n m ns ks) (down m.toNat) x = z at *
    intro e
    apply q4
    unfold bk at e
    unfold outer at q3
    split at e <;> omega
  · obtain ⟨p1, p2, p3⟩ := pt y a b
    obtain ⟨q1, q2, q3, q4, q5⟩ := el _ p1 p2 p3
    have i := bk_in (k := k) n0 k0 q1 q2 m0 q3
    rw [jn_at n0 k0 a b, jn_at n0 k0 i.1 i.2]
    have hx := px y
    have hw := px (bk n m (El n m (cs n m ns ks) (down m.toNat) (if y < n then y else y + 2 * m)))
    generalize (if y < n then y else y + 2 * m) = x at *
    generalize hz : El n m (cs n m ns ks) (down m.toNat) x = z at *
    have e : (if bk n m z < n then bk n m z else bk n m z + 2 * m) = z := by
      generalize (if bk n m z < n then bk n m z else bk n m z + 2 * m) = v at *
      unfold bk at hw
      unfold outer at q3
      split at hw <;> omega
    rw [e, q5]
    unfold bk
    unfold outer at p3
    split <;> omega
theorem Sm.jn {a b : M3} (A : Sm a) (B : Sm b) (e : a.m = b.n) : Sm (jn2 a b) := ⟨A.n0, B.m0, A.n1, B.m1, jn_rw (A.two B e)⟩
structure Chain (l : List M3) : Prop where
  sm : ∀ a ∈ l, Sm a
  go : ∀ (i : Nat) (a b : M3), l[i]? = some a → l[i + 1]? = some b → a.m = b.n
end JJ
namespace JJ
open PySem PP L2 MM
theorem inl_ne {x y : Int} (h : x ≠ y) : (Sum.inl x : Key) ≠ .inl y := fun z => h (by cases z; rfl)
theorem rm_next {n m N : Int} {i : Nat} {x : Int} (h : Rm n m N (down (i + 1)) x) : Rm n m N (down i) x ∧ x ≠ n + i ∧ x ≠ n + m + i :=
  ⟨⟨h.lo, h.hi, fun j hj => h.far j (List.mem_cons_of_mem _ hj)⟩, h.far _ List.mem_cons_self⟩
def Told (n m N : Int) (s : Int → Int) (i : Nat) (kvs : List (Key × PyData)) : Prop := ∀ x, Rm n m N (down i) x → valD kvs (.inl x) = some (.int (El n m s (down i) x))
theorem Told.drop {n m N : Int} {s : Int → Int} {i : Nat} {kvs : List (Key × PyData)} (h : Told n m N s i kvs) {x : Int} (r : Rm n m N (down (i + 1)) x) : valD (dropD (dropD kvs (.inl (n + i))) (.inl (n + m + i))) (.inl x) = some (.int (El n m s (down i) x)) := by
  obtain ⟨r1, r2, r3⟩ := rm_next r
  rw [valD_drop, if_neg (inl_ne (Ne.symm r3)), valD_drop, if_neg (inl_ne (Ne.symm r2))]
  exact h x r1
theorem rm_mid {n m N : Int} (hn : 0 ≤ n) (hm : 0 ≤ m) (hN : n + 2 * m ≤ N) {i : Nat} (h : (i : Int) < m) : Rm n m N (down i) (n + i) ∧ Rm n m N (down i) (n + m + i) :=
  ⟨⟨by omega, by omega, fun j hj => by have := down_mem.mp hj; omega⟩, ⟨by omega, by omega, fun j hj => by have := down_mem.mp hj; omega⟩⟩
end JJ
namespace JJ
open PySem PP L2 MM
structure Dr (u d : Int) (i : Nat) (ws : List Int) (fs : List (Int × Int)) (ns : List Int) : Prop where
  go : ∀ more, Match (ws ++ (ringI u d).drop i) more → Match (ringI u d) (fs ++ more)
  nd : (ws ++ (ringI u d).drop i).Nodup
  rg : ∀ x ∈ ws, 0 ≤ x ∧ x < u + d
  far : ∀ p ∈ fs, 0 ≤ p.1 ∧ 0 ≤ p.2 ∧ p.1 ∉ ws ++ (ringI u d).drop i ∧ p.2 ∉ ws ++ (ringI u d).drop i
  row : Row fs ns
  len : (ns.length : Int) = u + d
  sm : (ws.length : Int) ≤ u + d - i
  par : ((ws.length : Int) + (u + d - i)) % 2 = 0
section
variable {u d : Int} {i : Nat} {ws : List Int} {fs : List (Int × Int)} {ns : List Int} (hu : 0 ≤ u) (hd : 0 ≤ d)
include hu hd
theorem Dr.start (he : (u + d) % 2 = 0) : Dr u d 0 [] [] (List.replicate (u + d).toNat 0) :=
  ⟨fun more h => h, ringI_nodup hu hd, fun x hx => (by cases hx), fun p hp => (by cases hp), row_nil, by rw [List.length_replicate]; omega, by simp; omega, by simpa using he⟩
end
theorem eqv_nil {xs : List PyData} : PyData.eqv (.list xs) (.list []) = xs.isEmpty := by
  cases xs <;> rfl
end JJ
namespace JJ
open PySem PySem.Spec PyProof.Rows PP L2 MM
inductive Dl : Nat → PyData → Prop
  | sc {n : Nat} {d : PyData} : isSc d = true → d.canLay0 = true → d.depth ≤ 64 → Dl n d
  | lst {n : Nat} {xs : List PyData} : xs.length ≤ 100000 → (∀ x ∈ xs, Dl n x) → Dl (n + 1) (.list xs)
  | tup {n : Nat} {xs : List PyData} : xs.length ≤ 100000 → (∀ x ∈ xs, Dl n x) → Dl (n + 1) (.tuple xs)
theorem Dl.dq {n : Nat} {d : PyData} (h : Dl n d) : Dq n d := by
  induction h with
  | sc a b c => exact .sc a b c
  | lst _ _ ih => exact .lst ih
  | tup _ _ ih => exact .tup ih
theorem dl_seq {n : Nat} {d : PyData} (h : Dl n d) (g : (isT "list" d || isT "tuple" d) = true) : ∃ j xs, n = j + 1 ∧ (d = .list xs ∨ d = .tuple xs) ∧ xs.length ≤ 100000 ∧ ∀ x ∈ xs, Dl j x := by
  cases h with
  | sc h _ _ => cases d <;> first | (cases h; done) | (exfalso; simp only [isT, tyD] at g; revert g; decide +kernel)
  | lst l h => exact ⟨_, _, rfl, .inl rfl, l, h⟩
  | tup l h => exact ⟨_, _, rfl, .inr rfl, l, h⟩
theorem dl_int {n : Nat} {i : Int} : Dl n (.int i) := .sc rfl rfl (Nat.zero_le _)
theorem dq_refl {n : Nat} {d : PyData} (h0 : Dl n d) (g : (isT "list" d || isT "tuple" d) = false) : shp d ∧ PyData.eqv d d = true := by
  obtain ⟨h1, h2, h3⟩ := dq_sc h0.dq g
  exact ⟨Sd.shp (n := 64) ⟨h2, h3⟩, SeqAt.eqv_refl d h2⟩
theorem eqvB {b : Bool} : PyData.eqv (.bool b) (.bool b) = true := by cases b <;> rfl
theorem fnok_up {P : Program} {w : World} {K : PySem.W.Frag} {mg : Str → Option Value} {base : Heap} {CX : CXT} {k k' : Nat} {f : Addr} {fd : FuncData} {ps : List Str} {sp : Sp} (A : FnOk P w K mg base CX k f fd ps sp) (h : k ≤ k') : FnOk P w K mg base CX k' f fd ps sp :=
  ⟨A.len, fun Ar outer s H args us vs Q E hr he hb hv hs => A.run Ar outer s H args us vs Q E (hr.mono h) he hb hv hs⟩
theorem Sm.ln {a : M3} (h : Sm a) : a.ns.length ≤ 100000 := by
  have := h.R.len
  have := h.n1
  have := h.m1
  omega
end JJ
namespace JJ
open PySem PySem.Spec PP L2 MM
structure Md (a : M3) : Prop where
  S : Sm a
  B : isMatB a.n a.m a.ns = true
structure Sz (odd : Int) (ss : List Int) : Prop where
  in_ : ∀ s ∈ ss, 0 ≤ s ∧ s ≤ 14 + odd ∧ s % 2 = odd
  go : ∀ (j : Nat) (s t : Int), ss[j]? = some s → ss[j + 1]? = some t → 0 < s + t
theorem Sz.nil {odd : Int} : Sz odd [] := ⟨fun s h => (by cases h), fun j s t h => (by simp at h)⟩
theorem Sz.add {odd z : Int} {ss : List Int} (h : Sz odd ss) (h0 : 0 ≤ z) (h1 : z ≤ 14 + odd) (h2 : z % 2 = odd) (hl : ∀ s, ss[ss.length - 1]? = some s → 0 < s + z) : Sz odd (ss ++ [z]) := by
  refine ⟨fun s hs => ?_, fun j s t a b => ?_⟩
  · rcases List.mem_append.mp hs with c | c
    · exact h.in_ s c
    · rw [List.mem_singleton.mp c]; exact ⟨h0, h1, h2⟩
  · have lt := (List.getElem?_eq_some_iff.mp b).1
    rw [List.length_append, List.length_singleton] at lt
    rw [List.getElem?_append_left (by omega)] at a
    by_cases c : j + 1 < ss.length
    · rw [List.getElem?_append_left c] at b
      exact h.go j s t a b
    · rw [List.getElem?_append_right (by omega)] at b
      have e : j + 1 - ss.length = 0 := by omega
      rw [e] at b
      cases b
      exact hl s (by rw [show ss.length - 1 = j by omega]; exact a)
end JJ
namespace JJ
open PySem PP L2 MM
def E1 (s : Int → Int) (p q x : Int) : Int := if s p = q then s x else if x = s p then s q else if x = s q then s p else s x
def r1 (s : Int → Int) (p q : Int) : Int := if s p = q then 1 else 0
structure Iv (D : Int → Prop) (s : Int → Int) : Prop where
  into : ∀ x, D x → D (s x)
  ne : ∀ x, D x → s x ≠ x
  inv : ∀ x, D x → s (s x) = x
def Off (D : Int → Prop) (l : List (Int × Int)) (x : Int) : Prop := D x ∧ x ∉ ends l
theorem ends_cons {p : Int × Int} {l : List (Int × Int)} : ends (p :: l) = p.1 :: p.2 :: ends l := by
  unfold ends; rw [List.flatMap_cons]; rfl
structure Ap (D : Int → Prop) (l : List (Int × Int)) : Prop where
  nd : (ends l).Nodup
  in_ : ∀ x ∈ ends l, D x
theorem Ap.tl {D : Int → Prop} {p : Int × Int} {l : List (Int × Int)} (h : Ap D (p :: l)) : Ap D l ∧ Off D l p.1 ∧ Off D l p.2 ∧ p.1 ≠ p.2 := by
  obtain ⟨nd, i⟩ := h
  rw [ends_cons, List.nodup_cons, List.nodup_cons] at nd
  rw [ends_cons] at i
  refine ⟨⟨nd.2.2, fun x hx => i x (List.mem_cons_of_mem _ (List.mem_cons_of_mem _ hx))⟩, ⟨i _ List.mem_cons_self, fun z => nd.1 (List.mem_cons_of_mem _ z)⟩, ⟨i _ (List.mem_cons_of_mem _ List.mem_cons_self), nd.2.1⟩, fun z => nd.1 (by rw [z]; exact List.mem_cons_self)⟩
section
variable {n m k : Int} {ns ks : List Int} (n0 : 0 ≤ n) (m0 : 0 ≤ m) (k0 : 0 ≤ k) (A : Rw (n + m) ns) (B : Rw (m + k) ks)
include n0 m0 k0 A B
theorem El_out {x : Int} (a : 0 ≤ x) (b : x < n + m + (m + k)) (c : outer n m x) : 0 ≤ El n m (cs n m ns ks) (down m.toNat) x ∧ El n m (cs n m ns ks) (down m.toNat) x < n + m + (m + k) ∧ El n m (cs n m ns ks) (down m.toNat) x ≠ x ∧ outer n m (El n m (cs n m ns ks) (down m.toNat) x) := by
  have S := cs_sg n0 m0 k0 A B
  have r := El_all n0 m0 (by omega) S a b c
  obtain ⟨z1, z2, z3⟩ := El_inv n0 m0 (by omega) S (down_ls (by omega)) x r
  exact ⟨z1.lo, z1.hi, z2, rm_outer n0 m0 (by omega) z1⟩
end
end JJ
namespace JJ
open PySem PP L2 MM
section
variable {n i : Int} {ns hs : List Int} (i0 : 0 ≤ i) (i1 : i < n - 1) (A : Rw (n + n) ns) (H : Rw (n + n) hs) (Q : Row (hookP n i) hs)
include i0 i1 A H Q
abbrev hN (n : Int) : Int := n + n + (n + n)
end
end JJ
namespace JJ
open PySem PP L2 MM
theorem mu_set {l : List Int} {j v y : Int} (j0 : 0 ≤ j) (j1 : j < l.length) (y0 : 0 ≤ y) : mu (l.set j.toNat v) y = if y = j then v else mu l y := by
  unfold mu
  rw [List.getD_eq_getElem?_getD, List.getD_eq_getElem?_getD]
  by_cases c : y = j
  · subst c; rw [if_pos rfl, List.getElem?_set_self (by omega)]; rfl
  · rw [if_neg c, List.getElem?_set_ne (by omega)]
end JJ
namespace JJ
open PySem PP L2 MM
theorem cut_to {ws : List Int} {k : Int} (h0 : 0 ≤ k) (h1 : k ≤ ws.length) : PP.cutD (ws.map .int) none (some k) = (ws.take k.toNat).map .int := by
  unfold PP.cutD HT.sIx
  dsimp only
  rw [List.length_map, if_neg (by omega), List.drop_zero, Nat.sub_zero, ← List.map_take, Nat.min_eq_left (by omega)]
end JJ
namespace JJ
open PySem PP L2 MM
def Bw (a b y : Int) : Prop := (a < y ∧ y < b) ∨ (b < y ∧ y < a)
def Np (D : Int → Prop) (pos s : Int → Int) : Prop := ∀ x y, D x → D y → (Bw (pos x) (pos (s x)) (pos y) ↔ Bw (pos x) (pos (s x)) (pos (s y)))
theorem e1_np {D : Int → Prop} {pos s : Int → Int} (S : Iv D s) (inj : ∀ x y, D x → D y → pos x = pos y → x = y) (N : Np D pos s) {p q : Int} (dp : D p) (dq : D q) (pq : p ≠ q) (adj : ∀ z, D z → z ≠ p → z ≠ q → (pos z < pos p ↔ pos z < pos q)) : Np (fun x => D x ∧ x ≠ p ∧ x ≠ q) pos (E1 s p q) := by
  rintro x y ⟨dx, xp, xq⟩ ⟨dy, yp, yq⟩
  by_cases c : s p = q
  · have e : ∀ z, E1 s p q z = s z := fun z => by unfold E1; rw [if_pos c]
    rw [e, e]
    exact N x y dx dy
  · have da := S.into p dp
    have db := S.into q dq
    have ia := S.inv p dp
    have ib := S.inv q dq
    have nap := S.ne p dp
    have nbq := S.ne q dq
    have cb : s q ≠ p := fun z => c (by rw [← z, ib])
    have nab : s p ≠ s q := fun z => pq (by rw [← ia, z, ib])
    have val : ∀ z, D z → z ≠ p → z ≠ q → (z = s p ∧ E1 s p q z = s q) ∨ (z = s q ∧ E1 s p q z = s p) ∨ (z ≠ s p ∧ z ≠ s q ∧ E1 s p q z = s z ∧ s z ≠ p ∧ s z ≠ q ∧ s z ≠ s p ∧ s z ≠ s q) := fun z dz zp zq => by
      unfold E1
      rw [if_neg c]
      by_cases h1 : z = s p
      · rw [if_pos h1]; exact .inl ⟨h1, rfl⟩
      · rw [if_neg h1]
        by_cases h2 : z = s q
        · rw [if_pos h2]; exact .inr (.inl ⟨h2, rfl⟩)
        · rw [if_neg h2]
          have iz := S.inv z dz
          exact .inr (.inr ⟨h1, h2, rfl, fun w => h1 (by rw [← iz, w]), fun w => h2 (by rw [← iz, w]), fun w => zp (by rw [← iz, w, ia]), fun w => zq (by rw [← iz, w, ib])⟩)
    have pne : ∀ u v, D u → D v → u ≠ v → pos u ≠ pos v := fun u v du dv h w => h (inj u v du dv w)
    have ada := adj _ da nap c
    have adb := adj _ db cb nbq
    have np := pne p q dp dq pq
    have n1 := pne _ _ da dp nap
    have n2 := pne _ _ da dq c
    have n3 := pne _ _ db dp cb
    have n4 := pne _ _ db dq nbq
    have n5 := pne _ _ da db nab
    rcases val x dx xp xq with ⟨ex, e1⟩ | ⟨ex, e1⟩ | ⟨x1, x2, e1, x3, x4, x5, x6⟩ <;> rcases val y dy yp yq with ⟨ey, e2⟩ | ⟨ey, e2⟩ | ⟨y1, y2, e2, y3, y4, y5, y6⟩ <;> rw [e1, e2]
    · subst ex; subst ey; unfold Bw; omega
    · subst ex; subst ey; unfold Bw; omega
    · subst ex
      have h1 := N p y dp dy
      have h2 := N q y dq dy
      have a1 := adj y dy yp yq
      have a2 := adj (s y) (S.into y dy) y3 y4
      have m1 := pne _ _ dy da y1
      have m2 := pne _ _ dy db y2
      have m3 := pne _ _ (S.into y dy) da y5
      have m4 := pne _ _ (S.into y dy) db y6
      have m5 := pne _ _ dy dp yp
      have m6 := pne _ _ dy dq yq
      have m7 := pne _ _ (S.into y dy) dp y3
      have m8 := pne _ _ (S.into y dy) dq y4
      unfold Bw at *
      omega
    · subst ex; subst ey; unfold Bw; omega
    · subst ex; subst ey; unfold Bw; omega
    · subst ex
      have h1 := N p y dp dy
      have h2 := N q y dq dy
      have a1 := adj y dy yp yq
      have a2 := adj (s y) (S.into y dy) y3 y4
      have m1 := pne _ _ dy da y1
      have m2 := pne _ _ dy db y2
      have m3 := pne _ _ (S.into y dy) da y5
      have m4 := pne _ _ (S.into y dy) db y6
      have m5 := pne _ _ dy dp yp
      have m6 := pne _ _ dy dq yq
      have m7 := pne _ _ (S.into y dy) dp y3
      have m8 := pne _ _ (S.into y dy) dq y4
      unfold Bw at *
      omega
    · subst ey
      have h1 := N x p dx dp
      have h2 := N x q dx dq
      have a1 := adj x dx xp xq
      have a2 := adj (s x) (S.into x dx) x3 x4
      have m1 := pne _ _ dx dp xp
      have m2 := pne _ _ dx dq xq
      have m3 := pne _ _ (S.into x dx) dp x3
      have m4 := pne _ _ (S.into x dx) dq x4
      unfold Bw at *
      omega
    · subst ey
      have h1 := N x p dx dp
      have h2 := N x q dx dq
      have a1 := adj x dx xp xq
      have a2 := adj (s x) (S.into x dx) x3 x4
      have m1 := pne _ _ dx dp xp
      have m2 := pne _ _ dx dq xq
      have m3 := pne _ _ (S.into x dx) dp x3
      have m4 := pne _ _ (S.into x dx) dq x4
      unfold Bw at *
      omega
    · exact N x y dx dy
end JJ
namespace JJ
open PySem PP L2 MM
def Nr (u d : Int) (ns : List Int) : Prop := Np (fun x => 0 ≤ x ∧ x < u + d) (MM.sg u d) (mu ns)
def pos2 (n m k x : Int) : Int := if x < n + m then MM.sg n m x else n + m + MM.sg m k (x - (n + m))
section
variable {n m k : Int} {ns ks : List Int} (n0 : 0 ≤ n) (m0 : 0 ≤ m) (k0 : 0 ≤ k) (A : Rw (n + m) ns) (B : Rw (m + k) ks) (NA : Nr n m ns) (NB : Nr m k ks)
include n0 m0 k0 A B NA NB
theorem np_cs : Np (fun x => 0 ≤ x ∧ x < n + m + (m + k)) (pos2 n m k) (cs n m ns ks) := by
  rintro x y ⟨x0, x1⟩ ⟨y0, y1⟩
  have sgA : ∀ z, 0 ≤ z → z < n + m → 0 ≤ MM.sg n m z ∧ MM.sg n m z < n + m := fun z a b => by unfold MM.sg; split <;> omega
  have sgB : ∀ z, 0 ≤ z → z < m + k → 0 ≤ MM.sg m k z ∧ MM.sg m k z < m + k := fun z a b => by unfold MM.sg; split <;> omega
  have vA : ∀ z, 0 ≤ z → z < n + m → pos2 n m k z = MM.sg n m z ∧ cs n m ns ks z = mu ns z ∧ pos2 n m k (mu ns z) = MM.sg n m (mu ns z) ∧ 0 ≤ mu ns z ∧ mu ns z < n + m := fun z a b => by
    have i := A.sg.into z a b
    unfold pos2 cs
    rw [if_pos b, if_pos b, if_pos i.2]
    exact ⟨rfl, rfl, rfl, i.1, i.2⟩
  have vB : ∀ z, n + m ≤ z → z < n + m + (m + k) → pos2 n m k z = n + m + MM.sg m k (z - (n + m)) ∧ pos2 n m k (cs n m ns ks z) = n + m + MM.sg m k (mu ks (z - (n + m))) ∧ 0 ≤ mu ks (z - (n + m)) ∧ mu ks (z - (n + m)) < m + k := fun z a b => by
    have i := B.sg.into (z - (n + m)) (by omega) (by omega)
    unfold pos2 cs
    rw [if_neg (by omega), if_neg (by omega), if_neg (by omega), show n + m + mu ks (z - (n + m)) - (n + m) = mu ks (z - (n + m)) by omega]
    exact ⟨rfl, rfl, i.1, i.2⟩
  by_cases cx : x < n + m <;> by_cases cy : y < n + m
  · obtain ⟨a1, a2, a3, a4, a5⟩ := vA x x0 cx
    obtain ⟨b1, b2, b3, b4, b5⟩ := vA y y0 cy
    rw [a1, a2, a3, b1, b2, b3]
    exact NA x y ⟨x0, cx⟩ ⟨y0, cy⟩
  · obtain ⟨a1, a2, a3, a4, a5⟩ := vA x x0 cx
    obtain ⟨b1, b2, b3, b4⟩ := vB y (by omega) y1
    have p1 := sgA x x0 cx
    have p2 := sgA _ a4 a5
    have p3 := sgB (y - (n + m)) (by omega) (by omega)
    have p4 := sgB _ b3 b4
    rw [a1, a2, a3, b1, b2]
    unfold Bw
    omega
  · obtain ⟨a1, a2, a3, a4⟩ := vB x (by omega) x1
    obtain ⟨b1, b2, b3, b4, b5⟩ := vA y y0 cy
    have p1 := sgB (x - (n + m)) (by omega) (by omega)
    have p2 := sgB _ a3 a4
    have p3 := sgA y y0 cy
    have p4 := sgA _ b4 b5
    rw [a1, a2, b1, b2, b3]
    unfold Bw
    omega
  · obtain ⟨a1, a2, a3, a4⟩ := vB x (by omega) x1
    obtain ⟨b1, b2, b3, b4⟩ := vB y (by omega) y1
    rw [a1, a2, b1, b2]
    have h := NB (x - (n + m)) (y - (n + m)) ⟨by omega, by omega⟩ ⟨by omega, by omega⟩
    unfold Bw at *
    omega
theorem pos2_inj {x y : Int} (x0 : 0 ≤ x) (x1 : x < n + m + (m + k)) (y0 : 0 ≤ y) (y1 : y < n + m + (m + k)) (h : pos2 n m k x = pos2 n m k y) : x = y := by
  unfold pos2 MM.sg at h
  split at h <;> split at h <;> (repeat' split at h) <;> omega
theorem np_down : ∀ i : Nat, (i : Int) ≤ m → Np (Rm n m (n + m + (m + k)) (down i)) (pos2 n m k) (El n m (cs n m ns ks) (down i))
  | 0, _ => fun x y hx hy => np_cs n0 m0 k0 A B NA NB x y ⟨hx.lo, hx.hi⟩ ⟨hy.lo, hy.hi⟩
  | i + 1, h => by
    have S := cs_sg n0 m0 k0 A B
    have ih := np_down i (by omega)
    have iv : Iv (Rm n m (n + m + (m + k)) (down i)) (El n m (cs n m ns ks) (down i)) := ⟨fun x hx => (El_inv n0 m0 (by omega) S (down_ls (by omega)) x hx).1, fun x hx => (El_inv n0 m0 (by omega) S (down_ls (by omega)) x hx).2.1, fun x hx => (El_inv n0 m0 (by omega) S (down_ls (by omega)) x hx).2.2⟩
    obtain ⟨r1, r2⟩ := rm_mid (n := n) (m := m) (N := n + m + (m + k)) n0 m0 (by omega) (i := i) (by omega)
    have e := e1_np (pos := pos2 n m k) iv (fun x y hx hy z => pos2_inj n0 m0 k0 A B NA NB hx.lo hx.hi hy.lo hy.hi z) ih r1 r2 (by omega) (fun z hz zp zq => by
      have f1 : ¬ (n ≤ z ∧ z < n + i) := fun w => (hz.far (z - n) (down_mem.mpr ⟨by omega, by omega⟩)).1 (by omega)
      have f2 : ¬ (n + m ≤ z ∧ z < n + m + i) := fun w => (hz.far (z - (n + m)) (down_mem.mpr ⟨by omega, by omega⟩)).2 (by omega)
      have lo := hz.lo
      have hi := hz.hi
      unfold pos2 MM.sg
      rw [if_pos (show n + (i : Int) < n + m by omega), if_neg (show ¬ n + (i : Int) < n by omega), if_neg (show ¬ n + m + (i : Int) < n + m by omega), if_pos (show n + m + (i : Int) - (n + m) < m by omega)]
      (repeat' split) <;> omega)
    have ef : El n m (cs n m ns ks) (down (i + 1)) = E1 (El n m (cs n m ns ks) (down i)) (n + i) (n + m + i) := rfl
    rw [ef]
    exact fun x y hx hy => e x y (rm_next hx) (rm_next hy)
theorem jn_nr : Nr n k (jn n m k ns ks) := by
  have S := cs_sg n0 m0 k0 A B
  have nd := np_down n0 m0 k0 A B NA NB m.toNat (by omega)
  rintro x y ⟨x0, x1⟩ ⟨y0, y1⟩
  have pt : ∀ z, 0 ≤ z → z < n + k → Rm n m (n + m + (m + k)) (down m.toNat) (if z < n then z else z + 2 * m) ∧ outer n m (if z < n then z else z + 2 * m) ∧ 0 ≤ (if z < n then z else z + 2 * m) ∧ (if z < n then z else z + 2 * m) < n + m + (m + k) := fun z a b => by
    have o : outer n m (if z < n then z else z + 2 * m) := by unfold outer; split <;> omega
    have c : 0 ≤ (if z < n then z else z + 2 * m) ∧ (if z < n then z else z + 2 * m) < n + m + (m + k) := by split <;> omega
    exact ⟨El_all n0 m0 (by omega) S c.1 c.2 o, o, c.1, c.2⟩
  have ps_ : ∀ z, 0 ≤ z → z < n + k → (MM.sg n k z < n ∧ pos2 n m k (if z < n then z else z + 2 * m) = MM.sg n k z) ∨ (n ≤ MM.sg n k z ∧ pos2 n m k (if z < n then z else z + 2 * m) = MM.sg n k z + 2 * m) := fun z a b => by
    unfold pos2 MM.sg
    by_cases c : z < n
    · rw [if_pos c, if_pos c, if_pos (by omega), if_pos c]; omega
    · rw [if_neg c, if_neg c, if_neg (by omega), if_neg (by omega)]; omega
  have im : ∀ z, 0 ≤ z → z < n + k → 0 ≤ mu (jn n m k ns ks) z ∧ mu (jn n m k ns ks) z < n + k ∧ El n m (cs n m ns ks) (down m.toNat) (if z < n then z else z + 2 * m) = (if mu (jn n m k ns ks) z < n then mu (jn n m k ns ks) z else mu (jn n m k ns ks) z + 2 * m) := fun z a b => by
    obtain ⟨_, o, c1, c2⟩ := pt z a b
    rw [jn_at n0 k0 a b]
    obtain ⟨q1, q2, _, q4⟩ := El_out n0 m0 k0 A B c1 c2 o
    have i := bk_in (k := k) n0 k0 q1 q2 m0 q4
    refine ⟨i.1, i.2, ?_⟩
    generalize El n m (cs n m ns ks) (down m.toNat) (if z < n then z else z + 2 * m) = w at *
    unfold outer at q4
    unfold bk
    (repeat' split) <;> omega
  obtain ⟨px, _⟩ := pt x x0 x1
  obtain ⟨py, _⟩ := pt y y0 y1
  have h := nd _ _ px py
  obtain ⟨ix0, ix1, ex⟩ := im x x0 x1
  obtain ⟨iy0, iy1, ey⟩ := im y y0 y1
  rw [ex, ey] at h
  have a1 := ps_ x x0 x1
  have a2 := ps_ _ ix0 ix1
  have a3 := ps_ y y0 y1
  have a4 := ps_ _ iy0 iy1
  generalize pos2 n m k (if x < n then x else x + 2 * m) = X1 at *
  generalize pos2 n m k (if mu (jn n m k ns ks) x < n then mu (jn n m k ns ks) x else mu (jn n m k ns ks) x + 2 * m) = X2 at *
  generalize pos2 n m k (if y < n then y else y + 2 * m) = Y1 at *
  generalize pos2 n m k (if mu (jn n m k ns ks) y < n then mu (jn n m k ns ks) y else mu (jn n m k ns ks) y + 2 * m) = Y2 at *
  unfold Bw at *
  omega
end
theorem nr_match {u d : Int} {prs : List (Int × Int)} {ns : List Int} (hu : 0 ≤ u) (hd : 0 ≤ d) (M : Match (ringI u d) prs) (W : Row prs ns) : Nr u d ns := by
  rintro x y ⟨x0, x1⟩ ⟨y0, y1⟩
  obtain ⟨p, hp, ep⟩ := mem_ends.mp ((M.mem x).mpr ((ringI_mem hu hd).mpr ⟨x0, x1⟩))
  obtain ⟨q, hq, eq⟩ := mem_ends.mp ((M.mem y).mpr ((ringI_mem hu hd).mpr ⟨y0, y1⟩))
  obtain ⟨w1, w2⟩ := W p hp
  obtain ⟨v1, v2⟩ := W q hq
  have h := M.sg hu hd hp hq
  have g : ∀ a b c : Int, Bw a b c ↔ (min a b < c ∧ c < max a b) := fun a b c => by unfold Bw; omega
  rw [g, g]
  rcases ep with rfl | rfl <;> rcases eq with rfl | rfl
  · rw [w1, v1]; exact h
  · rw [w1, v2]; exact h.symm
  · rw [w2, v1, Int.min_comm, Int.max_comm]; exact h
  · rw [w2, v2, Int.min_comm, Int.max_comm]; exact h.symm
end JJ
namespace JJ
open PySem PP L2 MM
def nrP (ns : List Int) (N : Nat) : List (Int × Int) := ((List.range N).filter fun x : Nat => decide ((x : Int) < mu ns x)).map fun x : Nat => ((x : Int), mu ns x)
theorem nrP_mem {ns : List Int} {N : Nat} {p : Int × Int} : p ∈ nrP ns N ↔ ∃ x : Nat, x < N ∧ (x : Int) < mu ns x ∧ p = ((x : Int), mu ns x) := by
  unfold nrP
  rw [List.mem_map]
  constructor
  · rintro ⟨x, hx, rfl⟩
    obtain ⟨h1, h2⟩ := List.mem_filter.mp hx
    exact ⟨x, List.mem_range.mp h1, of_decide_eq_true h2, rfl⟩
  · rintro ⟨x, h1, h2, rfl⟩
    exact ⟨x, List.mem_filter.mpr ⟨List.mem_range.mpr h1, decide_eq_true h2⟩, rfl⟩
theorem mat_of_nr {u d : Int} {ns : List Int} (hu : 0 ≤ u) (hd : 0 ≤ d) (h0 : 0 < u + d) (R : Rw (u + d) ns) (Nn : Nr u d ns) : isMatB u d ns = true ∧ ∃ prs, Is u d prs ns := by
  have sg := R.sg
  have W : Row (nrP ns (u + d).toNat) ns := fun p hp => by
    obtain ⟨x, hx, h, rfl⟩ := nrP_mem.mp hp
    exact ⟨rfl, sg.inv x (by omega) (by omega)⟩
  have mem : ∀ x, x ∈ ends (nrP ns (u + d).toNat) ↔ 0 ≤ x ∧ x < u + d := fun x => by
    rw [mem_ends]
    constructor
    · rintro ⟨p, hp, e⟩
      obtain ⟨y, hy, h, rfl⟩ := nrP_mem.mp hp
      have i := sg.into y (by omega) (by omega)
      rcases e with rfl | rfl
      · exact ⟨by dsimp only; omega, by dsimp only; omega⟩
      · exact i
    · rintro ⟨a, b⟩
      have i := sg.into x a b
      have ne := sg.ne x a b
      by_cases c : x < mu ns x
      · exact ⟨(x, mu ns x), nrP_mem.mpr ⟨x.toNat, by omega, by rw [show ((x.toNat : Nat) : Int) = x by omega]; exact c, by rw [show ((x.toNat : Nat) : Int) = x by omega]⟩, .inl rfl⟩
      · refine ⟨(mu ns x, x), nrP_mem.mpr ⟨(mu ns x).toNat, by omega, ?_, ?_⟩, .inr rfl⟩
        · rw [show (((mu ns x).toNat : Nat) : Int) = mu ns x by omega, sg.inv x a b]; omega
        · rw [show (((mu ns x).toNat : Nat) : Int) = mu ns x by omega, sg.inv x a b]
  have nd : (ends (nrP ns (u + d).toNat)).Nodup := by
    unfold ends List.Nodup
    rw [List.pairwise_flatMap]
    refine ⟨fun p hp => ?_, ?_⟩
    · obtain ⟨y, hy, h, rfl⟩ := nrP_mem.mp hp
      simp
      omega
    · unfold nrP
      rw [List.pairwise_map]
      have base : ((List.range (u + d).toNat).filter fun x : Nat => decide ((x : Int) < mu ns x)).Nodup := List.nodup_range.filter _
      refine List.Pairwise.imp_of_mem (fun {a b} ha hb hab => ?_) base
      obtain ⟨a1, a2⟩ := List.mem_filter.mp ha
      obtain ⟨b1, b2⟩ := List.mem_filter.mp hb
      have a1 := List.mem_range.mp a1
      have b1 := List.mem_range.mp b1
      have a2 := of_decide_eq_true a2
      have b2 := of_decide_eq_true b2
      have va := sg.inv a (by omega) (by omega)
      have vb := sg.inv b (by omega) (by omega)
      intro z h1 w h2 hzw
      subst hzw
      simp only [List.mem_cons, List.not_mem_nil, or_false] at h1 h2
      rcases h1 with h1 | h1 <;> rcases h2 with h2 | h2
      · omega
      · rw [← h2, h1] at vb; omega
      · rw [← h1, h2] at va; omega
      · rw [← h1, h2] at va; omega
  have M : Match (ringI u d) (nrP ns (u + d).toNat) := match_sg hu hd nd mem fun p hp q hq => by
    obtain ⟨x, hx, h, rfl⟩ := nrP_mem.mp hp
    obtain ⟨y, hy, h', rfl⟩ := nrP_mem.mp hq
    have e := Nn x y ⟨by omega, by omega⟩ ⟨by omega, by omega⟩
    have g : ∀ a b c : Int, Bw a b c ↔ (min a b < c ∧ c < max a b) := fun a b c => by unfold Bw; omega
    rw [g, g] at e
    exact e
  exact ⟨match_isMat hu hd h0 R.len M W, _, ⟨hu, hd, h0, R.len, M, W⟩⟩
theorem is_nr {u d : Int} {prs : List (Int × Int)} {ns : List Int} (h : Is u d prs ns) : Nr u d ns := nr_match h.hu h.hd h.M h.W
end JJ
namespace JJ
open PySem PySem.Spec PP L2 MM
theorem Md.nr {a : M3} (h : Md a) : Nr a.n a.m a.ns := is_nr (Is.own h.B)
theorem md_jn {a b : M3} (A : Md a) (B : Md b) (e : a.m = b.n) (h0 : 0 < a.n + b.m) : Md (jn2 a b) := by
  have S := A.S.jn B.S e
  have RB : Rw (a.m + b.m) b.ns := by rw [e]; exact B.S.R
  have NB : Nr a.m b.m b.ns := by rw [e]; exact B.nr
  exact ⟨S, (mat_of_nr A.S.n0 B.S.m0 h0 S.R (jn_nr A.S.n0 A.S.m0 B.S.m0 A.S.R RB A.nr NB)).1⟩
end JJ
namespace PP
open PySem PySem.Spec PyProof.Rows L2
end PP
namespace PP
open PySem PySem.Spec PyProof.Rows L2
open PySem.W (AllAlike Sortable dataLe dataLt EachIs sorted_data)
end PP
namespace PP
open PySem PySem.Spec PyProof.Rows L2
end PP
namespace JJ
open PySem PySem.Spec PP L2 MM
abbrev sTwo : Str := "two"
abbrev sFar : Str := "far"
abbrev sNb : Str := "neighbours"
def absI (x : Int) : Int := if x < 0 then -x else x
def apt (ws : List Int) (i : Nat) : Int := absI (ws.getD i 0 - ws.getD (i + 1) 0)
structure Stp (ws : List Int) (k : Str) (i : Nat) : Prop where
  lt : i + 1 < ws.length
  h : (k = sTwo ∧ apt ws i = 0) ∨ (k = sFar ∧ 1 < apt ws i) ∨ (k = sNb ∧ apt ws i = 1 ∧ i + 2 < ws.length ∧ ws.getD (i + 2) 0 = ws.getD i 0)
theorem shp_str {k : Str} (h : (PyData.str k).canLay0 = true) : shp (.str k) := Sd.shp (n := 0) ⟨h, by simp [PyData.depth]⟩
theorem okTwo : (PyData.str sTwo).canLay0 = true := by decide +kernel
theorem okFar : (PyData.str sFar).canLay0 = true := by decide +kernel
theorem okNb : (PyData.str sNb).canLay0 = true := by decide +kernel
theorem Stp.ok {ws : List Int} {k : Str} {i : Nat} (S : Stp ws k i) : (PyData.str k).canLay0 = true := by
  rcases S.h with ⟨rfl, _⟩ | ⟨rfl, _⟩ | ⟨rfl, _⟩
  · exact okTwo
  · exact okFar
  · exact okNb
theorem Stp.shp {ws : List Int} {k : Str} {i : Nat} (S : Stp ws k i) : PP.shp (.str k) := shp_str S.ok
end JJ
namespace PP
open PySem PySem.Spec PyProof.Rows L2
section
variable {X : Cx} {L : PP.Loc} {m : Mem} {a : Expr} {pos : Pos} {Q : QE}
theorem we_clear {apos : Pos} (h : WV X a L m fun p m1 => ∃ k xs0, p = .ref k ∧ m1[k]? = some (some (.lst xs0)) ∧ ∃ xs, m1[k]? = some (some (.lst xs)) ∧ Q .none (m1.set k (some (.lst []))))
    (hb : attributeBase a "clear" X.env (eval a X.env) = eval a X.env := by rfl) (hline : (apos.endLine == pos.line) = true := by rfl) : WE X (.Call (.Attribute a "clear" apos) [] [] pos) L m Q :=
  we_lm0 PySem.F.slot_list_clear PySem.F.type_list_clear mt_clear (fun w0 w k m H v l hr d1 ⟨xs, e4, q⟩ => by
    obtain ⟨a1, vs, rfl, ea, eo, dd⟩ := cell_at hr d1 e4
    exact ⟨_, vs, rfl, rfl, eo, w, .none, _, l, cell_upd (vs := vs) hr ea e4 .nil, .non, q⟩) h hb hline
end
end PP
namespace JJ
open PySem PySem.Spec PP L2 MM
open PySem.W (AllAlike Sortable dataLe dataLt alike)
theorem dl_wordT {n : Nat} {ws : List Int} (h : ws.length ≤ 1000) : Dl (n + 1) (.tuple (ws.map .int)) := .tup (by rw [List.length_map]; omega) fun x hx => by
  obtain ⟨i, _, rfl⟩ := List.mem_map.mp hx
  exact dl_int
end JJ
namespace PP
open PySem PySem.Spec PyProof.Rows L2
end PP
namespace JJ
open PySem PySem.Spec PP L2 MM
theorem chain_app {u v : List M3} : Chain (u ++ v) ↔ Chain u ∧ Chain v ∧ ∀ x y, u[u.length - 1]? = some x → v[0]? = some y → x.m = y.n := by
  constructor
  · intro h
    refine ⟨⟨fun a ha => h.sm a (List.mem_append_left _ ha), fun i a b ha hb => h.go i a b ?_ ?_⟩, ⟨fun a ha => h.sm a (List.mem_append_right _ ha), fun i a b ha hb => h.go (u.length + i) a b ?_ ?_⟩, fun x y hx hy => h.go (u.length - 1) x y ?_ ?_⟩
    · rw [List.getElem?_append_left (List.getElem?_eq_some_iff.mp ha).1]; exact ha
    · rw [List.getElem?_append_left (List.getElem?_eq_some_iff.mp hb).1]; exact hb
    · rw [List.getElem?_append_right (by omega), Nat.add_sub_cancel_left]; exact ha
    · rw [Nat.add_assoc, List.getElem?_append_right (by omega), Nat.add_sub_cancel_left]; exact hb
    · rw [List.getElem?_append_left (List.getElem?_eq_some_iff.mp hx).1]; exact hx
    · have := (List.getElem?_eq_some_iff.mp hx).1
      rw [List.getElem?_append_right (by omega), show u.length - 1 + 1 - u.length = 0 by omega]; exact hy
  · rintro ⟨h1, h2, h3⟩
    refine ⟨fun a ha => (List.mem_append.mp ha).elim (h1.sm a) (h2.sm a), fun i a b ha hb => ?_⟩
    by_cases c1 : i + 1 < u.length
    · rw [List.getElem?_append_left (by omega)] at ha hb
      exact h1.go i a b ha hb
    · rw [List.getElem?_append_right (by omega)] at hb
      by_cases c2 : i < u.length
      · rw [List.getElem?_append_left c2] at ha
        rw [show i + 1 - u.length = 0 by omega] at hb
        exact h3 a b (by rw [show u.length - 1 = i by omega]; exact ha) hb
      · rw [List.getElem?_append_right (by omega)] at ha
        rw [show i + 1 - u.length = i - u.length + 1 by omega] at hb
        exact h2.go _ a b ha hb
structure Rg (l : List M3) : Prop where
  md : ∀ x ∈ l, Md x
  ch : Chain l
  ps : l.Pairwise fun x y => 0 < x.n + y.m
theorem Rg.join {u v : List M3} {a b : M3} (h : Rg (u ++ a :: b :: v)) : Md a ∧ Md b ∧ a.m = b.n ∧ Md (jn2 a b) ∧ Rg (u ++ jn2 a b :: v) := by
  obtain ⟨c1, c2, c3⟩ := chain_app.mp h.ch
  have A := h.md a (List.mem_append_right _ List.mem_cons_self)
  have B := h.md b (List.mem_append_right _ (List.mem_cons_of_mem _ List.mem_cons_self))
  have e := c2.go 0 a b rfl rfl
  obtain ⟨p1, p2, p3⟩ := List.pairwise_append.mp h.ps
  obtain ⟨q1, q2⟩ := List.pairwise_cons.mp p2
  obtain ⟨q3, q4⟩ := List.pairwise_cons.mp q2
  have C := md_jn A B e (q1 b List.mem_cons_self)
  refine ⟨A, B, e, C, ⟨fun x hx => ?_, chain_app.mpr ⟨c1, ?_, fun x y hx hy => ?_⟩, List.pairwise_append.mpr ⟨p1, List.pairwise_cons.mpr ⟨fun y hy => q1 y (List.mem_cons_of_mem _ hy), q4⟩, fun x hx y hy => ?_⟩⟩⟩
  · rcases List.mem_append.mp hx with c | c
    · exact h.md x (List.mem_append_left _ c)
    · rcases List.mem_cons.mp c with rfl | c
      · exact C
      · exact h.md x (List.mem_append_right _ (List.mem_cons_of_mem _ (List.mem_cons_of_mem _ c)))
  · have e9 : a :: b :: v = [a, b] ++ v := rfl
    rw [e9] at c2
    obtain ⟨_, d2, d3⟩ := chain_app.mp c2
    have e8 : jn2 a b :: v = [jn2 a b] ++ v := rfl
    rw [e8]
    refine chain_app.mpr ⟨⟨fun x hx => by rw [List.mem_singleton.mp hx]; exact C.S, fun i x y _ hy => by simp at hy⟩, d2, fun x y hx hy => ?_⟩
    have e7 : some (jn2 a b) = some x := hx
    cases e7
    exact d3 b y rfl hy
  · have e7 : some (jn2 a b) = some y := hy
    cases e7
    exact c3 x a hx rfl
  · rcases List.mem_cons.mp hy with rfl | c
    · exact p3 x hx b (List.mem_cons_of_mem _ List.mem_cons_self)
    · exact p3 x hx y (List.mem_cons_of_mem _ (List.mem_cons_of_mem _ c))
structure Sz3 (odd : Int) (ss : List Int) : Prop where
  in_ : ∀ s ∈ ss, 0 ≤ s ∧ s ≤ 9 ∧ s % 2 = odd
  ps : ss.Pairwise fun s t => 0 < s + t
theorem Sz3.nil {odd : Int} : Sz3 odd [] := ⟨fun s h => (by cases h), List.Pairwise.nil⟩
theorem Sz3.add {odd z : Int} {ss : List Int} (h : Sz3 odd ss) (h0 : 0 ≤ z) (h1 : z ≤ 9) (h2 : z % 2 = odd) (hl : ∀ s ∈ ss, 0 < s + z) : Sz3 odd (ss ++ [z]) := by
  refine ⟨fun s hs => ?_, List.pairwise_append.mpr ⟨h.ps, List.pairwise_singleton .., fun x hx y hy => by rw [List.mem_singleton.mp hy]; exact hl x hx⟩⟩
  rcases List.mem_append.mp hs with c | c
  · exact h.in_ s c
  · rw [List.mem_singleton.mp c]; exact ⟨h0, h1, h2⟩
theorem Sz3.go {odd : Int} {ss : List Int} (h : Sz3 odd ss) {i : Nat} {s t : Int} (a : ss[i]? = some s) (b : ss[i + 1]? = some t) : 0 < s + t := by
  obtain ⟨ha, rfl⟩ := List.getElem?_eq_some_iff.mp a
  obtain ⟨hb, rfl⟩ := List.getElem?_eq_some_iff.mp b
  exact List.pairwise_iff_getElem.mp h.ps i (i + 1) ha hb (by omega)
end JJ
namespace PP
open PySem PySem.Spec PyProof.Rows L2
end PP
namespace JJ
open PySem PySem.Spec PP L2 MM
theorem sg_sg {u d x : Int} (h0 : 0 ≤ x) (h1 : x < u + d) : MM.sg u d (MM.sg u d x) = x := by unfold MM.sg; (repeat' split) <;> omega
theorem sg_in {u d x : Int} (hu : 0 ≤ u) (hd : 0 ≤ d) (h0 : 0 ≤ x) (h1 : x < u + d) : 0 ≤ MM.sg u d x ∧ MM.sg u d x < u + d := by unfold MM.sg; split <;> omega
def plc (u d : Int) (ns : List Int) : List Int := (List.range (u + d).toNat).map fun i : Nat => MM.sg u d (mu ns (MM.sg u d i))
def Ptd (u d a : Int) (ns ks : List Int) (i : Nat) : Prop := (ks.length : Int) = u + d ∧ ∀ j : Nat, j < i → mu ks (MM.sg a (u + d - a) j) = MM.sg a (u + d - a) ((plc u d ns).getD j 0)
section
variable {u d a : Int} {ns ks : List Int} (hu : 0 ≤ u) (hd : 0 ≤ d) (ha : 0 ≤ a) (hb : a ≤ u + d)
include hu hd ha hb
theorem Ptd.next {i : Nat} (h : Ptd u d a ns ks i) (hi : (i : Int) < u + d) : Ptd u d a ns (ks.set (MM.sg a (u + d - a) i).toNat (MM.sg a (u + d - a) ((plc u d ns).getD i 0))) (i + 1) := by
  obtain ⟨hl, hp⟩ := h
  have si := sg_in (u := a) (d := u + d - a) ha (by omega) (x := (i : Int)) (by omega) (by omega)
  refine ⟨by rw [List.length_set]; exact hl, fun j hj => ?_⟩
  have sj := sg_in (u := a) (d := u + d - a) ha (by omega) (x := (j : Int)) (by omega) (by omega)
  rw [mu_set si.1 (by omega) sj.1]
  by_cases c : j = i
  · subst c
    rw [if_pos rfl]
  · rw [if_neg (fun z => c ?_), hp j (by omega)]
    have e := congrArg (MM.sg a (u + d - a)) z
    rw [sg_sg (by omega) (by omega), sg_sg (by omega) (by omega)] at e
    omega
end
end JJ
namespace JJ
open PySem PySem.Spec PP L2 MM
def WS (n : Nat) (xs : List PyData) : Prop := ∃ a b c : Int, xs = [.int a, .int b, .int c] ∧ 0 ≤ a ∧ Bd 2000000 a ∧ 0 ≤ b ∧ b < 2 ^ 130 ∧ 0 ≤ c ∧ c ≤ n
theorem WS.mono {n k : Nat} {xs : List PyData} (h : WS n xs) (l : n ≤ k) : WS k xs := by
  obtain ⟨a, b, c, e, h1, h2, h3, h4, h5, h6⟩ := h
  exact ⟨a, b, c, e, h1, h2, h3, h4, h5, by omega⟩
def spSm (n : Nat) : FSp := fun pvs m q => ∃ d : PyData, pvs = [.d d, .d d] ∧ m = [] ∧ Dl n d ∧ q (.d (.bool true)) []
end JJ
namespace PP
open PySem PySem.Spec PyProof.Rows L2
section
variable {K : PySem.W.Frag} {w : Wd} {m : Mem} {H : Hp}
theorem own_at {v : V} {k : Nat} {x y z : Int} (hr : HR K w m H) (r : RV K w v (.ref (k + 1))) (hm : m[k + 1]? = some (some (.own x y z))) : ∃ a q, v = .ref a ∧ w.A[k + 1]? = some a ∧ w.A[k]? = some q ∧ H a = some (.lst [V.ref q, V.int x, V.int y, V.int z]) := by
  obtain ⟨a, o, ea, eo, j, q, e1, e2, rfl⟩ := hr.cell (k + 1) _ hm
  obtain ⟨a', ea', rfl⟩ := r
  rw [ea] at ea'; cases ea'
  have e : j = k := by omega
  subst e
  exact ⟨a, q, rfl, ea, e2, eo⟩
end
theorem wv_of {X : Cx} {L : PP.Loc} {m : Mem} {e : Expr} {t : TE} {Q : PV → Mem → Prop} (h : PE X e t) (k : ∀ (w : Wd) (σ : L2.St) (H : Hp), Rep X.K w L m σ H → t σ H (POV X.K w Q)) : WV X e L m Q := fun w σ H r pins s I => h.run pins s σ H _ I (k w σ H r)
def ownI (x1 x2 x3 i : Int) : Option Int := if i = 1 then some x1 else if i = 2 then some x2 else if i = 3 then some x3 else none
def ownS (x1 x2 x3 i v : Int) : Option Cell := if i = 1 then some (.own v x2 x3) else if i = 2 then some (.own x1 v x3) else if i = 3 then some (.own x1 x2 v) else none
section
variable {X : Cx} {L : PP.Loc} {m : Mem} {a b : Expr} {pos : Pos}
theorem wv_own0 {Q : PV → Mem → Prop} (h : WV X a L m fun p m1 => WE X b L m1 fun y m2 => ∃ k x1 x2 x3, p = .ref (k + 1) ∧ y = .int 0 ∧ m2[k + 1]? = some (some (.own x1 x2 x3)) ∧ Q (.ref k) m2) (hs : PlainIx b := by exact fun _ _ => rfl) : WV X (.Subscript a b pos) L m Q :=
  wv_of (pe_ix ix_seq (peU a) (peU b) hs) fun w σ H r => h.go r fun w1 v p m1 H1 l1 r1 d1 q1 => q1.go r1 fun w2 u y m2 H2 l2 r2 d2 ⟨k, x1, x2, x3, e1, e2, e3, q⟩ => by
    subst e1; subst e2
    obtain ⟨ad, qa, rfl, ea, eq, eo⟩ := own_at r2.toHR (d1.mono l2.toLe0) e3
    exact .inl ⟨ad, _, 0, .ref qa, rfl, dp_int d2, .of eo, rfl, w2, .ref k, m2, l1.trans l2, r2.toHR, ⟨qa, eq, rfl⟩, q⟩
theorem we_ownN {Q : QE} (h : WV X a L m fun p m1 => WE X b L m1 fun y m2 => ∃ k x1 x2 x3 i v, p = .ref (k + 1) ∧ y = .int i ∧ m2[k + 1]? = some (some (.own x1 x2 x3)) ∧ ownI x1 x2 x3 i = some v ∧ Q (.int v) m2) (hs : PlainIx b := by exact fun _ _ => rfl) : WE X (.Subscript a b pos) L m Q :=
  we_of (pe_ix ix_seq (peU a) (peU b) hs) fun w σ H r => h.go r fun w1 v p m1 H1 l1 r1 d1 q1 => q1.go r1 fun w2 u y m2 H2 l2 r2 d2 ⟨k, x1, x2, x3, i, z, e1, e2, e3, e4, q⟩ => by
    subst e1; subst e2
    obtain ⟨ad, qa, rfl, ea, eq, eo⟩ := own_at r2.toHR (d1.mono l2.toLe0) e3
    have hz : atI [V.ref qa, V.int x1, V.int x2, V.int x3] i = some (.int z) := by
      unfold ownI at e4
      split at e4
      · rename_i c; subst c; cases e4; rfl
      · split at e4
        · rename_i c; subst c; cases e4; rfl
        · split at e4
          · rename_i c; subst c; cases e4; rfl
          · cases e4
    exact .inl ⟨ad, _, i, .int z, rfl, dp_int d2, .of eo, hz, w2, .int z, m2, l1.trans l2, r2.toHR, .int z, q⟩
theorem wg_own {x : PyData} {Q : PP.Loc → Mem → Prop} (h : WV X a L m fun p m1 => WE X b L m1 fun y m2 => ∃ k x1 x2 x3 i v c, p = .ref (k + 1) ∧ y = .int i ∧ x = .int v ∧ m2[k + 1]? = some (some (.own x1 x2 x3)) ∧ ownS x1 x2 x3 i v = some c ∧ Q L (m2.set (k + 1) (some c)))
    (ha : ∀ v, assign (.Subscript a b pos) X.env v = (do
      let ov ← holding [v] (eval a X.env)
      let iv ← holding [v, ov] (eval b X.env)
      standAt pos
      holding [v, ov, iv] (setItem ov iv v)
      release [v, ov, iv] []) := by intro _; rfl) : WG X (.Subscript a b pos) x L m Q := by
  refine wg_of (pg_sub (peU a) (peU b) set_list ha) fun w σ H v r d => ?_
  refine h.go r fun w1 ov p m1 H1 l1 r1 d1 q1 => q1.go r1 fun w2 iv y m2 H2 l2 r2 d2 ⟨k, x1, x2, x3, i, z, c, e1, e2, e0, e3, e4, q⟩ => ?_
  subst e1; subst e2; subst e0
  have ev := dp_int d
  subst ev
  obtain ⟨ad, qa, rfl, ea, eq, eo⟩ := own_at r2.toHR (d1.mono l2.toLe0) e3
  have hz : ∃ j y1 y2 y3, c = .own y1 y2 y3 ∧ ixN [V.ref qa, V.int x1, V.int x2, V.int x3].length i = some j ∧ [V.ref qa, V.int x1, V.int x2, V.int x3].set j (.int z) = [V.ref qa, V.int y1, V.int y2, V.int y3] := by
    unfold ownS at e4
    split at e4
    · rename_i c; subst c; cases e4; exact ⟨1, _, _, _, rfl, rfl, rfl⟩
    · split at e4
      · rename_i c; subst c; cases e4; exact ⟨2, _, _, _, rfl, rfl, rfl⟩
      · split at e4
        · rename_i c; subst c; cases e4; exact ⟨3, _, _, _, rfl, rfl, rfl⟩
        · cases e4
  obtain ⟨j, y1, y2, y3, rfl, hj, hs⟩ := hz
  have hr3 := r2.toHR.write (c' := .own y1 y2 y3) (o := .lst ([V.ref qa, V.int x1, V.int x2, V.int x3].set j (.int z))) ea e3 ⟨k, qa, rfl, eq, by rw [hs]⟩
  exact ⟨ad, _, i, j, rfl, dp_int d2, eo, hj, w2, L, _, l1.trans l2, r2.go (.refl w2) hr3, q⟩
end
section
variable {X : Cx} {L : PP.Loc} {m : Mem} {e0 e1 e2 e3 : Expr} {pos lp : Pos} {D : PEnds}
theorem ws_retO (h : WA X [e0, e1, e2, e3] L m fun ps m1 => ∃ k x y z, ps = [.ref k, .d (.int x), .d (.int y), .d (.int z)] ∧ m1.length = k + 1 ∧ D.rt (.ref (k + 1)) (m1 ++ [some (.own x y z)])) : WS X (.Return (some (.List [e0, e1, e2, e3] lp)) pos) L m D :=
  ws_of (ps_ret (pe_lst (paU [e0, e1, e2, e3]))) fun w σ H r => WA.go h r fun w1 vs ps m1 H1 l1 r1 d1 ⟨k, x, y, z, e4, hl, q⟩ => by
    subst e4
    cases d1 with
    | cons c0 t0 => cases t0 with
      | cons c1 t1 => cases t1 with
        | cons c2 t2 => cases t2 with
          | cons c3 t3 =>
            cases t3
            obtain ⟨qa, eq, rfl⟩ := c0
            have h1 := dp_int c1
            have h2 := dp_int c2
            have h3 := dp_int c3
            subst h1; subst h2; subst h3
            refine ⟨szl (by simp), fun p hp => ?_⟩
            obtain ⟨hr2, u⟩ := r1.toHR.un (o := .lst [V.ref qa, V.int x, V.int y, V.int z]) hp
            obtain ⟨l2, hr3⟩ := hr2.adopt (c := .own x y z) u upd_same ⟨k, qa, hl, eq, rfl⟩
            refine ⟨_, .ref (k + 1), _, l1.trans l2, hr3, ⟨p, ?_, rfl⟩, q⟩
            show (w1.A ++ [p])[k + 1]? = some p
            rw [← hl, ← r1.toHR.len, List.getElem?_append_right (Nat.le_refl _)]; simp
end
section
variable {X : Cx} {L : PP.Loc} {m : Mem} {e : Expr} {es : List Expr} {pos p : Pos} {k : Nat} {f : Addr} {fd : FuncData} {ps : List Str} {sp : FSp} {x : Str}
theorem new_un {K : PySem.W.Frag} {w1 w' : Wd} {m1 mc : Mem} {H1 H' : Hp} {ks : List Nat} {j : Nat} {ad : Addr} {c : Cell} (r1 : HR K w1 m1 H1) (hl : ∀ k ∈ ks, k < m1.length) (l : (w1.sub H1 ks).le w') (hr' : HR K w' mc H') (hj : ks.length ≤ j) (ea : w'.A[j]? = some ad) (ec : mc[j]? = some (some c)) : Un1 { w1 with F := w'.F } ad := by
  have hF := hr'.sep _ _ _ ea ec
  obtain ⟨more, em⟩ := l.pre
  have hT : w'.T = w1.T ++ othersOf w1 H1 ks := l.hid
  refine ⟨hF, fun z => ?_, fun z => ?_⟩
  · have z : ad ∈ w1.A := z
    obtain ⟨i, ei⟩ := List.getElem?_of_mem z
    by_cases hin : i ∈ ks
    · obtain ⟨j2, ej⟩ := List.getElem?_of_mem hin
      have hil : i < w1.A.length := (List.getElem?_eq_some_iff.mp ei).1
      have hj2 : j2 < ks.length := (List.getElem?_eq_some_iff.mp ej).1
      have e3 : w'.A[j2]? = some ad := by
        rw [em, List.getElem?_append_left (by show j2 < (ks.map _).length; rw [List.length_map]; exact hj2), sub_at w1 H1 ej hil]; exact ei
      have := nodup_at hr'.nd e3 ea
      omega
    · have hf : w1.F ad = none := l.sub.none hF
      cases q : H1 ad with
      | none => exact r1.occ ad z q
      | some o =>
        have := hr'.tp (ad, o) (by rw [hT]; exact List.mem_append_right _ (mem_others.mpr ⟨i, hin, ei, hf, q⟩))
        exact this.2.2 (List.mem_of_getElem? ea)
  · obtain ⟨t, ht, et⟩ := List.mem_map.mp z
    have := hr'.tp t (by rw [hT]; exact List.mem_append_left _ ht)
    rw [et] at this
    exact this.2.2 (List.mem_of_getElem? ea)
theorem ws_setO {y : Str} {py spos : Pos} {D : PEnds} (i : Nat) (ks : List Nat) (hN : X.N.Nodup) (hi : X.N[i]? = some y) (hx : L2.Loc X.env.scope y) (F : FnOk X.prog X.w X.K X.mg X.base CX0 k f fd ps (toSp X.K sp)) (hr : Room k X.A) (hm : X.mg x = some (.ref f)) (hk : PySem.W.keepIn X.K (.ref f) = true) (hb : Binds X.K fd ps [])
    (h : WA X (e :: es) L m fun pvs m1 => CallAsk sp ks pvs m1 fun p mc => ∃ mc0 g a b c, p = .ref (ks.length + 1) ∧ mc = mc0 ++ [some (.lst g), some (.own a b c)] ∧ backB none ks mc0 = true ∧ D.nx (L.set i (some (.ref (m1.length + 1)))) (setAll m1 ks mc0 ++ [some (.lst g), some (.own a b c)]))
    (hg : Gl X x := by rfl) (hdb : (x == ("__debug__" : Str)) = false := by decide) (he : starEach (e :: es) X.env = (false, eval e X.env) :: starEach es X.env := by rfl) (hpl : (backTo pos (starEach es X.env)).any (·.1) = false := by rfl)
    (hsw : swapsWith (.Call (.Name x p) (e :: es) [] pos) (some (.Name y py)) spos.line X.env = pure false := by rfl) (hf : X.fn y = true ∨ X.env.scope.names.lookup y = some .local := by first | exact .inl rfl | exact .inr rfl | assumption) :
    WS X (.Assign [.Name y py] (.Call (.Name x p) (e :: es) [] pos) spos) L m D :=
  ws_of (ps_set hN hi hx (pe_call F hr hg hm hk hb .nil pass0 (paU (e :: es)) hdb he hpl) hsw hf) fun w σ H r => WA.go h r fun w1 vs pvs m1 H1 l1 r1 d1 ⟨nd, hl, hi2, hs⟩ => by
    show toSp X.K sp (vs ++ []) H1 _ _
    rw [List.append_nil]
    refine ⟨_, _, _, _, r1.toHR.subWorld nd hl, sub_rvs r1.toHR hl d1 hi2, hs, fun w' v q mc H' l hr' d ⟨mc0, g, a, b, c, ey, em, hmc, qq⟩ => ?_⟩
    subst ey; subst em
    have hlen := backB_len hmc
    obtain ⟨l3, hr3⟩ := r1.toHR.back (mo := []) (ex := [some (.lst g), some (.own a b c)]) nd hl l hr' hmc
    have ec1 : (mc0 ++ [some (Cell.lst g), some (Cell.own a b c)])[ks.length]? = some (some (.lst g)) := by rw [← hlen, List.getElem?_append_right (Nat.le_refl _)]; simp
    have ec2 : (mc0 ++ [some (Cell.lst g), some (Cell.own a b c)])[ks.length + 1]? = some (some (.own a b c)) := by rw [← hlen, List.getElem?_append_right (Nat.le_succ _)]; simp
    obtain ⟨a1, o1, ea1, eo1, us, rfl, dg⟩ := hr'.cell _ _ ec1
    obtain ⟨a2, o2, ea2, eo2, j', q', e3, e4, rfl⟩ := hr'.cell _ _ ec2
    obtain ⟨ad', ea', rfl⟩ := d
    rw [ea2] at ea'; cases ea'
    have e5 : j' = ks.length := by omega
    subst e5
    rw [ea1] at e4; cases e4
    have u1 := new_un r1.toHR hl l hr' (Nat.le_refl _) ea1 ec1
    have u2 := new_un r1.toHR hl l hr' (Nat.le_succ _) ea2 ec2
    obtain ⟨l4, hr4⟩ := hr3.adopt (c := .lst g) u1 eo1 ⟨us, rfl, dg⟩
    have u3 : Un1 (Wd.push { w1 with F := w'.F } a1) a2 := ⟨u2.f, fun z => by
      rcases List.mem_append.mp (show a2 ∈ w1.A ++ [a1] from z) with z | z
      · exact u2.a z
      · have e6 : a2 = a1 := by simpa using z
        rw [e6] at ea2
        have := nodup_at hr'.nd ea1 ea2
        omega, u2.t⟩
    have hml : (setAll m1 ks mc0 ++ [some (Cell.lst g)]).length = m1.length + 1 := by rw [List.length_append, setAll_len, List.length_singleton]
    have hA : w1.A.length = m1.length := r1.toHR.len
    obtain ⟨l5, hr5⟩ := hr4.adopt (c := .own a b c) u3 eo2 ⟨m1.length, a1, hml, by
      show (w1.A ++ [a1])[m1.length]? = some a1
      rw [List.getElem?_append_right (by omega), hA]; simp, rfl⟩
    rw [List.append_assoc] at hr5
    have r' := r1.go (l3.trans (l4.trans l5)) hr5
    refine ⟨_, _, _, l1.trans (l3.trans (l4.trans l5)), r'.set (p := .ref (m1.length + 1)) ⟨a2, ?_, rfl⟩, qq⟩
    show ((w1.A ++ [a1]) ++ [a2])[m1.length + 1]? = some a2
    rw [List.getElem?_append_right (by rw [List.length_append, hA]; simp), List.length_append, hA]; simp
end
end PP
namespace JJ
open PySem PySem.Spec PP L2
structure WO (n : Nat) (g : List Int) (a b c : Int) : Prop where
  gl : g.length ≤ 63
  g0 : ∀ z ∈ g, 0 ≤ z ∧ Bd 2000000 z
  a0 : 0 ≤ a
  a1 : Bd 2000000 a
  b0 : 0 ≤ b
  b1 : b < 2 ^ 62
  c0 : 0 ≤ c
  c1 : c ≤ n
theorem WO.mono {n k : Nat} {g : List Int} {a b c : Int} (h : WO n g a b c) (l : n ≤ k) : WO k g a b c := ⟨h.gl, h.g0, h.a0, h.a1, h.b0, h.b1, h.c0, by have := h.c1; omega⟩
def spWelO : FSp := fun pvs m q => ∃ ns : List Int, pvs = [.raw (ns.map .int)] ∧ m = [] ∧ ns.length ≤ 63 ∧ (∀ z ∈ ns, Builtin.Int.intBits z ≤ 1048576) ∧ ∀ g a b c, WO 0 g a b c → q (.ref 1) [some (.lst (g.map .int)), some (.own a b c)]
def spDrO : FSp := fun pvs m q => ∃ (n : Nat) (g : List Int) (a b c lim : Int), pvs = [.ref 1, .d (.int lim)] ∧ m = [some (.lst (g.map .int)), some (.own a b c)] ∧ WO n g a b c ∧ n < 1000000000 ∧ 0 < lim ∧ lim < 2 ^ 140 ∧
  ∀ r g' a' b' c', 0 ≤ r → r < lim → WO (n + 1) g' a' b' c' → q (.d (.int r)) [some (.lst (g'.map .int)), some (.own a' b' c')]
end JJ
namespace PP
open PySem PySem.Spec PyProof.Rows L2
section
variable {X : Cx} {L : PP.Loc} {m : Mem} {a b : Expr} {pos : Pos} {Q : QE} {QT : Bool → Mem → Prop}
def isBoolD (t : Bool) : PyData → Bool
  | .bool b => decide (b = t)
  | _ => false
theorem op_isBx : OpR X (compareOp .Is) (fun x y H Q => ∃ b, y = V.bl b ∧ Q (.bl (decide (x = V.bl b))) H) := by
  intro pins s σ H x y v u Q I rx ry h
  obtain ⟨b, rfl, q⟩ := h
  cases (show u = Value.bool b from ry)
  cases x with
  | bl a =>
    cases (show v = Value.bool a from rx)
    by_cases e : a = b
    · subst e
      exact wpAny_is_self rfl ⟨.bl true, H, I, rfl, by simpa using q⟩
    · exact wpAny_is_other rfl (fun z => e (Value.bool.inj z)) ⟨.bl false, H, I, rfl, by simpa [e] using q⟩
  | _ => first
    | (cases rx; exact wpAny_is_other rfl (fun z => by cases z) ⟨.bl false, H, I, rfl, by simpa using q⟩)
    | (obtain ⟨t, rfl⟩ := rx; exact wpAny_is_other rfl (fun z => by cases z) ⟨.bl false, H, I, rfl, by simpa using q⟩)
theorem op_notBx : OpR X (compareOp .IsNot) (fun x y H Q => ∃ b, y = V.bl b ∧ Q (.bl (!decide (x = V.bl b))) H) := by
  intro pins s σ H x y v u Q I rx ry h
  obtain ⟨b, rfl, q⟩ := h
  cases (show u = Value.bool b from ry)
  cases x with
  | bl a =>
    cases (show v = Value.bool a from rx)
    by_cases e : a = b
    · subst e
      exact wpAny_isNot_self rfl ⟨.bl false, H, I, rfl, by simpa using q⟩
    · exact wpAny_isNot_other rfl (fun z => e (Value.bool.inj z)) ⟨.bl true, H, I, rfl, by simpa [e] using q⟩
  | _ => first
    | (cases rx; exact wpAny_isNot_other rfl (fun z => by cases z) ⟨.bl true, H, I, rfl, by simpa using q⟩)
    | (obtain ⟨t, rfl⟩ := rx; exact wpAny_isNot_other rfl (fun z => by cases z) ⟨.bl true, H, I, rfl, by simpa using q⟩)
theorem isB_ok {K : PySem.W.Frag} {F : Hp} {v : V} {x : PyData} {t : Bool} (d : DP K F v x) : decide (v = .bl t) = isBoolD t x := by
  cases d <;> simp [isBoolD]
theorem we_isX (h : WE X a L m fun x m1 => WE X b L m1 fun y m2 => ∃ t, y = .bool t ∧ Q (.bool (isBoolD t x)) m2) : WE X (.Compare a [.Is] [b] pos) L m Q :=
  we_cmp op_isBx (h.mono fun _ _ h => h.mono fun _ _ ⟨t, e, q⟩ w0 w H v u l hr d1 d2 => by
    subst e
    exact ⟨t, dp_bool d2, by rw [isB_ok d1]; exact po_bool l hr q⟩) (nomark _)
theorem we_isnotX (h : WE X a L m fun x m1 => WE X b L m1 fun y m2 => ∃ t, y = .bool t ∧ Q (.bool (!isBoolD t x)) m2) : WE X (.Compare a [.IsNot] [b] pos) L m Q :=
  we_cmp op_notBx (h.mono fun _ _ h => h.mono fun _ _ ⟨t, e, q⟩ w0 w H v u l hr d1 d2 => by
    subst e
    exact ⟨t, dp_bool d2, by rw [isB_ok d1]; exact po_bool l hr q⟩) (nomark _)
theorem wt_isX (h : WE X a L m fun x m1 => WE X b L m1 fun y m2 => ∃ t, y = .bool t ∧ QT (isBoolD t x) m2) : WT X (.Compare a [.Is] [b] pos) L m QT :=
  wt_cmp op_isBx (h.mono fun _ _ h => h.mono fun _ _ ⟨t, e, q⟩ w0 w H v u l hr d1 d2 => by
    subst e
    exact ⟨t, dp_bool d2, by rw [isB_ok d1]; exact po_bool l hr ⟨_, rfl, q⟩⟩) (nomark _) fun _ _ _ _ _ k ⟨t, e, q⟩ => ⟨t, e, k _ _ q⟩
end
end PP
namespace JJ
open PySem PySem.Spec PP L2
def zN (xs : List Int) : Nat → Nat
  | 0 => 0
  | k + 1 => if xs.getD k 0 = 0 then zN xs k else k + 1
theorem zN_le {xs : List Int} : ∀ k, zN xs k ≤ k
  | 0 => Nat.le_refl _
  | k + 1 => by
    unfold zN
    split
    · exact Nat.le_succ_of_le (zN_le k)
    · exact Nat.le_refl _
theorem zN_top {xs : List Int} : ∀ {k j : Nat}, zN xs k = j + 1 → xs.getD j 0 ≠ 0
  | 0, j, h => by cases h
  | k + 1, j, h => by
    unfold zN at h
    split at h
    · exact zN_top h
    · rename_i c
      have e : k = j := by omega
      subst e
      exact c
def cutZ (xs : List Int) : List Int := xs.take (zN xs xs.length)
def Pol (p : List Int) : Prop := p = [] ∨ p.getD (p.length - 1) 0 ≠ 0
theorem cutZ_len {xs : List Int} : (cutZ xs).length = zN xs xs.length := by
  unfold cutZ
  rw [List.length_take]
  exact Nat.min_eq_left (zN_le _)
theorem cutZ_pol {xs : List Int} : Pol (cutZ xs) := by
  cases e : zN xs xs.length with
  | zero =>
    refine .inl ?_
    unfold cutZ
    rw [e]
    rfl
  | succ j =>
    refine .inr ?_
    have h := zN_top e
    have l := zN_le (xs := xs) xs.length
    rw [cutZ_len, e, Nat.add_sub_cancel]
    unfold cutZ
    rw [e, List.getD_eq_getElem?_getD, List.getElem?_take, if_pos (Nat.lt_succ_self j), ← List.getD_eq_getElem?_getD]
    exact h
def subAt (row : List Int) (f : Int) (p : List Int) (w : Nat) : Nat → List Int
  | 0 => row
  | i + 1 => (subAt row f p w i).set (w + i) ((subAt row f p w i).getD (w + i) 0 - f * p.getD i 0)
theorem subAt_len {row : List Int} {f : Int} {p : List Int} {w : Nat} : ∀ i, (subAt row f p w i).length = row.length
  | 0 => rfl
  | i + 1 => by unfold subAt; rw [List.length_set, subAt_len i]
abbrev takeA (row : List Int) (f : Int) (p : List Int) (w : Nat) : List Int := subAt row f p w p.length
theorem subAt_get {row : List Int} {f : Int} {p : List Int} {w : Nat} : ∀ (i : Nat), w + i ≤ row.length → ∀ j, (subAt row f p w i).getD j 0 = if w ≤ j ∧ j < w + i then row.getD j 0 - f * p.getD (j - w) 0 else row.getD j 0
  | 0, _, j => by
    rw [if_neg (by omega)]
    rfl
  | i + 1, h, j => by
    unfold subAt
    have ih := subAt_get (row := row) (f := f) (p := p) (w := w) i (by omega)
    have hl := subAt_len (row := row) (f := f) (p := p) (w := w) i
    rw [List.getD_eq_getElem?_getD]
    by_cases c : w + i = j
    · subst c
      rw [List.getElem?_set_self (by omega), Option.getD_some, ih, if_neg (by omega), if_pos (by omega), Nat.add_sub_cancel_left]
    · rw [List.getElem?_set_ne c, ← List.getD_eq_getElem?_getD, ih]
      by_cases d : w ≤ j ∧ j < w + i
      · rw [if_pos d, if_pos (by omega)]
      · rw [if_neg d, if_neg (by omega)]
def addR (a b : List Int) : List Int := (List.range (max a.length b.length)).map fun i => a.getD i 0 + b.getD i 0
def mulFr (a b : List Int) : Nat → List Int
  | 0 => List.replicate (a.length + b.length) 0
  | i + 1 => takeA (mulFr a b i) (-(a.getD i 0)) b i
abbrev mulR (a b : List Int) : List Int := mulFr a b a.length
theorem row_eq {a b : List Int} (h : a.length = b.length) (e : ∀ j, a.getD j 0 = b.getD j 0) : a = b := by
  refine List.ext_getElem h fun i h1 h2 => ?_
  have := e i
  rw [List.getD_eq_getElem?_getD, List.getD_eq_getElem?_getD, List.getElem?_eq_getElem h1, List.getElem?_eq_getElem h2] at this
  exact this
theorem getD_app {a b : List Int} {j : Nat} : (a ++ b).getD j 0 = if j < a.length then a.getD j 0 else b.getD (j - a.length) 0 := by
  rw [List.getD_eq_getElem?_getD]
  split
  · rename_i h; rw [List.getElem?_append_left h, ← List.getD_eq_getElem?_getD]
  · rename_i h; rw [List.getElem?_append_right (by omega), ← List.getD_eq_getElem?_getD]
theorem getD_out {a : List Int} {j : Nat} (h : a.length ≤ j) : a.getD j 0 = 0 := by
  rw [List.getD_eq_getElem?_getD, List.getElem?_eq_none h]; rfl
theorem getD_rep {n j : Nat} : (List.replicate n (0 : Int)).getD j 0 = 0 := by
  rw [List.getD_eq_getElem?_getD, List.getElem?_replicate]
  split <;> rfl
theorem plus_row {a b : List Int} : takeA (a ++ List.replicate (b.length - a.length) 0) (-1) b 0 = addR a b := by
  have hl : (a ++ List.replicate (b.length - a.length) (0 : Int)).length = max a.length b.length := by rw [List.length_append, List.length_replicate]; omega
  refine row_eq ?_ fun j => ?_
  · rw [subAt_len, hl]
    unfold addR
    rw [List.length_map, List.length_range]
  · rw [subAt_get _ (by rw [hl]; omega), Nat.sub_zero, getD_app]
    unfold addR
    rw [show ((List.range (max a.length b.length)).map fun i => a.getD i 0 + b.getD i 0).getD j 0 = if j < max a.length b.length then a.getD j 0 + b.getD j 0 else 0 from by
      rw [List.getD_eq_getElem?_getD, List.getElem?_map]
      by_cases c : j < max a.length b.length
      · rw [if_pos c, List.getElem?_range c]; rfl
      · rw [if_neg c, List.getElem?_eq_none (by rw [List.length_range]; omega)]; rfl]
    rw [getD_rep]
    by_cases d : j < a.length
    · by_cases c : j < b.length
      · simp only [d, c, Nat.zero_le, true_and, Nat.zero_add, if_true, show j < max a.length b.length by omega]; omega
      · simp only [d, c, and_false, if_true, if_false, show j < max a.length b.length by omega, getD_out (a := b) (j := j) (by omega)]; omega
    · by_cases c : j < b.length
      · simp only [d, c, Nat.zero_le, true_and, Nat.zero_add, if_true, if_false, show j < max a.length b.length by omega, getD_out (a := a) (j := j) (by omega)]; omega
      · simp only [d, c, and_false, if_false, show ¬ j < max a.length b.length by omega]
        rw [if_neg (by omega)]
end JJ
namespace PP
open PySem PySem.Spec PyProof.Rows L2
end PP
namespace PP
open PySem PySem.Spec PyProof.Rows L2
section
variable {X : Cx} {L : PP.Loc} {m : Mem} {e : Expr} {QT : Bool → Mem → Prop}
theorem wt_tru (h : WE X e L m fun x m' => ∃ i : Int, x = .int i ∧ QT (i != 0) m') (he : ∀ whole, isTrue e X.env whole = (do let v ← whole; standAt e.pos; holding [v] (truthy v)) := by intro _; rfl) : WT X e L m QT :=
  wt_of (pt_truth (peU e) he) fun w σ H r => h.go r fun w1 v p m1 H1 l1 r1 d1 ⟨i, e1, q⟩ => by
    subst e1
    have := dp_int d1
    subst this
    exact ⟨_, rfl, w1, m1, l1, r1.toHR, q⟩
end
theorem pickI {P : Int → Prop} {xs : List Int} {r : Int} (h0 : 0 ≤ r) (h1 : r < xs.length) (h : ∀ x ∈ xs, P x) : ∃ v, atI (xs.map PyData.int) r = some (.int v) ∧ P v := by
  refine ⟨_, atI_ints h0 h1, h _ ?_⟩
  rw [List.getD_eq_getElem?_getD, List.getElem?_eq_getElem (by omega), Option.getD_some]
  exact List.getElem_mem _
end PP
namespace PP
open PySem PySem.Spec PyProof.Rows L2
section
variable {X : Cx} {L : PP.Loc} {m : Mem} {a b e tg : Expr} {pos p : Pos} {Q : QE} {D : PEnds} {QT : Bool → Mem → Prop} {QI : List PyData → (Mem → Prop) → Mem → Prop}
theorem get_listN : PGet X (fun o i H Q => ∃ p xs k v, o = .ref p ∧ i = .int k ∧ SqL X.K H p xs ∧ 0 ≤ k ∧ xs[k.toNat]? = some v ∧ Q v H) := by
  intro pins s σ H o i ov iv Q I ro ri h
  obtain ⟨p, xs, k, v, rfl, rfl, hp, h0, hv, q⟩ := h
  cases ro
  obtain ⟨t, rfl⟩ := ri
  obtain ⟨its, r, pl, hz⟩ := I.list hp
  obtain ⟨w, ew, rw'⟩ := r.get hv
  have hn := line63
  have hl := (List.getElem?_eq_some_iff.mp hv).1
  exact getItem_listL pl.isList h0 (by omega) ew ⟨v, H, I, rw', q⟩
theorem ws_augX {op : Operator} {g : Int → Int → Int} {tpos : Pos} (ho : PIp X op (ipI g)) (h : WV X a L m fun p m1 => WE X b L m1 fun y m2 => ∃ (k j : Nat) (xs : List PyData) (z : Int), p = .ref k ∧ y = .int (j : Nat) ∧ m2[k]? = some (some (.lst xs)) ∧ xs[j]? = some (.int z) ∧
      WE X e L m2 fun u m3 => ∃ i ys, u = .int i ∧ m3[k]? = some (some (.lst ys)) ∧ ys.length = xs.length ∧ D.nx L (m3.set k (some (.lst (ys.set j (.int (g z i)))))))
    (ha : ∀ ov iv new, augStore b ov iv new = (do holding [new, ov, iv] (setItem ov iv new); release [new, ov, iv] []; pure .next) := by intros; rfl) : WS X (.AugAssign (.Subscript a b tpos) op e pos) L m D :=
  ws_of (ps_augS (peU a) (peU b) get_listN (peU e) ho set_list ha) fun w σ H r => h.go r fun w1 ov p m1 H1 l1 r1 d1 q1 => q1.go r1 fun w2 iv y m2 H2 l2 r2 d2 ⟨k, j, xs, z, e1, e2, e3, e4, q2⟩ => by
    subst e1; subst e2
    have := dp_int d2
    subst this
    obtain ⟨ad, o, ea, eo, vs, rfl, dv⟩ := r2.cell k _ e3
    obtain ⟨ad', ea', rfl⟩ := d1.mono l2.toLe0
    have hh := ea'
    rw [ea] at ea'; cases ea'
    obtain ⟨v, hv, dz⟩ := dpa_get dv e4
    have := dp_int dz
    subst this
    refine ⟨ad, vs, j, .int z, rfl, rfl, .of eo, by omega, by rw [Int.toNat_natCast]; exact hv, ?_⟩
    refine q2.go r2 fun w3 u x m3 H3 l3 r3 d3 ⟨i, ys, e5, e6, hl, q⟩ => ?_
    subst e5
    have := dp_int d3
    subst this
    refine ⟨z, i, rfl, rfl, ?_⟩
    obtain ⟨ad2, o2, ea2, eo2, us, rfl, du⟩ := r3.cell k _ e6
    obtain ⟨ad3, ea3, h3⟩ := d1.mono (l2.trans l3).toLe0
    cases h3
    rw [ea2] at ea3; cases ea3
    have hj : j < ys.length := by rw [hl]; exact (List.getElem?_eq_some_iff.mp e4).1
    have hr3 := r3.toHR.write (c' := .lst (ys.set j (.int (g z i)))) (o := .lst (us.set j (.int (g z i)))) ea2 e6 ⟨_, rfl, dpa_set (.int _) j du⟩
    exact ⟨ad, us, j, j, rfl, rfl, eo2, by rw [dpa_len du]; exact ixN_of (by omega) (by omega), w3, L, _, (l1.trans l2).trans l3, r3.go (.refl w3) hr3, q⟩
end
end PP
namespace JJ
open PySem PySem.Spec PP L2
def ev : List Int → Int → Int
  | [], _ => 0
  | c :: cs, x => c + x * ev cs x
theorem ev_app {x : Int} : ∀ (a b : List Int), ev (a ++ b) x = ev a x + x ^ a.length * ev b x
  | [], b => by simp [ev]
  | c :: a, b => by
    show c + x * ev (a ++ b) x = c + x * ev a x + x ^ (a.length + 1) * ev b x
    rw [ev_app a b, Int.mul_add, Int.pow_succ, Int.mul_comm (x ^ a.length) x, Int.mul_assoc]
    omega
theorem ev_one {c x : Int} : ev [c] x = c := by simp [ev]
theorem ev_next {ws : List Int} {i : Nat} {c x : Int} (h : ws[i]? = some c) : ev (ws.take i) x + c * x ^ i = ev (ws.take (i + 1)) x := by
  have hl := (List.getElem?_eq_some_iff.mp h).1
  rw [List.take_succ, h, Option.toList_some, ev_app, ev_one, List.length_take, Nat.min_eq_left (by omega), Int.mul_comm]
theorem Bd.le {j k : Nat} {a b : Int} (h : Bd j a) (g : Bd k b) (B : Nat) (hj : j ≤ B) (hk : k ≤ B) : Bd (B + 1) (a + b) := by
  have := (h.mono hj).add (g.mono hk)
  rwa [Nat.max_self] at this
theorem bd_mem {B : Nat} {ws : List Int} (h : ∀ c ∈ ws, Bd B c) (i : Nat) : Bd B (ws.getD i 0) := by
  rw [List.getD_eq_getElem?_getD]
  cases e : ws[i]? with
  | none => exact Nat.two_pow_pos _
  | some c => exact h c (List.mem_of_getElem? e)
def PB (ws : List Int) : Prop := ws.length ≤ 60 ∧ ∀ c ∈ ws, Bd 600 c
theorem PB.take {ws : List Int} (h : PB ws) (i : Nat) : PB (ws.take i) := ⟨by have := h.1; rw [List.length_take]; omega, fun c hc => h.2 c (List.mem_of_mem_take hc)⟩
theorem PB.drop {ws : List Int} (h : PB ws) (i : Nat) : PB (ws.drop i) := ⟨by have := h.1; rw [List.length_drop]; omega, fun c hc => h.2 c (List.mem_of_mem_drop hc)⟩
theorem ev_set {x v : Int} : ∀ {ws : List Int} {j : Nat}, j < ws.length → ev (ws.set j v) x = ev ws x + (v - ws.getD j 0) * x ^ j
  | [], j, h => absurd h (Nat.not_lt_zero _)
  | c :: cs, 0, h => by
    show v + x * ev cs x = c + x * ev cs x + (v - c) * x ^ 0
    rw [Int.pow_zero, Int.mul_one]; omega
  | c :: cs, j + 1, h => by
    show c + x * ev (cs.set j v) x = c + x * ev cs x + (v - cs.getD j 0) * x ^ (j + 1)
    rw [ev_set (ws := cs) (by simpa using h), Int.mul_add, Int.pow_succ, ← Int.mul_assoc x, Int.mul_comm x (v - cs.getD j 0), Int.mul_assoc, Int.mul_comm x (x ^ j)]
    omega
theorem ev_subAt {row p : List Int} {f x : Int} {w : Nat} : ∀ i, i ≤ p.length → w + i ≤ row.length → ev (subAt row f p w i) x = ev row x - f * (x ^ w * ev (p.take i) x)
  | 0, _, _ => by
    show ev row x = _
    rw [List.take_zero]
    show ev row x = ev row x - f * (x ^ w * 0)
    simp
  | i + 1, h, hw => by
    have ih := ev_subAt (row := row) (p := p) (f := f) (x := x) (w := w) i (by omega) (by omega)
    have hl := subAt_len (row := row) (f := f) (p := p) (w := w) i
    show ev ((subAt row f p w i).set (w + i) ((subAt row f p w i).getD (w + i) 0 - f * p.getD i 0)) x = _
    rw [ev_set (by omega), ih, ← ev_next (ws := p) (i := i) (c := p.getD i 0) (by rw [List.getD_eq_getElem?_getD, List.getElem?_eq_getElem (by omega)]; rfl)]
    rw [show (subAt row f p w i).getD (w + i) 0 - f * p.getD i 0 - (subAt row f p w i).getD (w + i) 0 = -(f * p.getD i 0) by omega]
    rw [Int.mul_add (x ^ w), Int.mul_add f, Int.pow_add, Int.neg_mul, Int.mul_assoc, Int.mul_left_comm (p.getD i 0) (x ^ w) (x ^ i)]
    omega
theorem ev_take_away {row p : List Int} {f x : Int} {w : Nat} (h : w + p.length ≤ row.length) : ev (takeA row f p w) x = ev row x - f * (x ^ w * ev p x) := by
  rw [ev_subAt p.length (Nat.le_refl _) h, List.take_length]
theorem ev_zeros {x : Int} : ∀ n, ev (List.replicate n 0) x = 0
  | 0 => rfl
  | n + 1 => by rw [List.replicate_succ]; show 0 + x * ev _ x = 0; rw [ev_zeros n]; simp
theorem mulFr_len {a b : List Int} : ∀ i, (mulFr a b i).length = a.length + b.length
  | 0 => by unfold mulFr; rw [List.length_replicate]
  | i + 1 => by unfold mulFr; rw [subAt_len, mulFr_len i]
theorem ev_mulFr {a b : List Int} {x : Int} : ∀ i, i ≤ a.length → ev (mulFr a b i) x = ev (a.take i) x * ev b x
  | 0, _ => by
    unfold mulFr
    rw [ev_zeros, List.take_zero]
    show 0 = 0 * _
    simp
  | i + 1, h => by
    unfold mulFr
    rw [ev_take_away (by rw [mulFr_len]; omega), ev_mulFr i (by omega), ← ev_next (ws := a) (i := i) (c := a.getD i 0) (by rw [List.getD_eq_getElem?_getD, List.getElem?_eq_getElem (by omega)]; rfl)]
    rw [Int.add_mul, Int.neg_mul, Int.mul_assoc (a.getD i 0)]
    omega
theorem ev_mul {a b : List Int} {x : Int} : ev (mulR a b) x = ev a x * ev b x := by
  rw [ev_mulFr a.length (Nat.le_refl _), List.take_length]
theorem ev_zN {xs : List Int} {x : Int} : ∀ k, k ≤ xs.length → ev (xs.take (zN xs k)) x = ev (xs.take k) x
  | 0, _ => rfl
  | k + 1, h => by
    unfold zN
    split
    · rename_i c
      rw [ev_zN k (by omega), ← ev_next (ws := xs) (i := k) (c := xs.getD k 0) (by rw [List.getD_eq_getElem?_getD, List.getElem?_eq_getElem (by omega)]; rfl), c]
      omega
    · rfl
theorem ev_cutZ {xs : List Int} {x : Int} : ev (cutZ xs) x = ev xs x := by
  unfold cutZ
  rw [ev_zN xs.length (Nat.le_refl _), List.take_length]
def plusP (a b : List Int) : List Int := cutZ (takeA (a ++ List.replicate (b.length - a.length) 0) (-1) b 0)
def timesP (a b : List Int) : List Int := cutZ (mulR a b)
theorem ev_plusP {a b : List Int} {x : Int} : ev (plusP a b) x = ev a x + ev b x := by
  unfold plusP
  rw [ev_cutZ, ev_take_away (by rw [List.length_append, List.length_replicate]; omega), ev_app, ev_zeros]
  simp
theorem ev_timesP {a b : List Int} {x : Int} : ev (timesP a b) x = ev a x * ev b x := by
  unfold timesP
  rw [ev_cutZ, ev_mul]
def RB (M : Nat) (ws : List Int) : Prop := ∀ j, (ws.getD j 0).natAbs ≤ M
theorem RB.mem {M : Nat} {ws : List Int} (h : RB M ws) {c : Int} (hc : c ∈ ws) : c.natAbs ≤ M := by
  obtain ⟨i, hi, rfl⟩ := List.getElem_of_mem hc
  have := h i
  rwa [List.getD_eq_getElem?_getD, List.getElem?_eq_getElem hi] at this
theorem RB.of {M : Nat} {ws : List Int} (h : ∀ c ∈ ws, c.natAbs ≤ M) : RB M ws := fun j => by
  rw [List.getD_eq_getElem?_getD]
  cases e : ws[j]? with
  | none => exact Nat.zero_le _
  | some c => exact h c (List.mem_of_getElem? e)
theorem RB.mono {M N : Nat} {ws : List Int} (h : RB M ws) (l : M ≤ N) : RB N ws := fun j => Nat.le_trans (h j) l
end JJ
namespace JJ
def ch : Nat → Nat → Nat
  | _, 0 => 1
  | 0, _ + 1 => 0
  | n + 1, k + 1 => ch n k + ch n (k + 1)
def ret : Nat → Nat → Nat → Nat
  | 0, 0, 0 => 1
  | 0, _, _ => 0
  | _ + 1, 0, 0 => 0
  | t + 1, 0, r + 1 => ret t 1 r
  | t + 1, e + 1, r => ret t e r + ret t (e + 2) r
open PySem
end JJ
namespace JJ
open PySem PySem.Spec PP L2 MM
def WkS (ws : List Int) : Prop := ∀ x ∈ ws, x = 1 ∨ x = -1
def Wlk (ws : List Int) : Prop := WkS ws ∧ ∀ i, i ≤ ws.length → 0 ≤ (ws.take i).sum
instance (ws : List Int) : Decidable (WkS ws) := by unfold WkS; infer_instance
structure WkI (n k : Int) (ws : List Int) : Prop where
  wk : Wlk ws
  ln : (ws.length : Int) ≤ n
  b1 : ws.sum - k ≤ n - ws.length
  b2 : k - ws.sum ≤ n - ws.length
  ev : (n - ws.length - (ws.sum - k)) % 2 = 0
theorem sum_one (ws : List Int) (x : Int) : (ws ++ [x]).sum = ws.sum + x := by rw [List.sum_append]; simp
theorem WkI.next {n k x : Int} {ws : List Int} (h : WkI n k ws) (hn : (ws.length : Int) < n) (hx : (x = 1 ∧ (ws.sum + 1 - k ≤ n - ws.length - 1) ∧ (k - (ws.sum + 1) ≤ n - ws.length - 1)) ∨ (x = -1 ∧ 1 ≤ ws.sum ∧ (ws.sum - 1 - k ≤ n - ws.length - 1) ∧ (k - (ws.sum - 1) ≤ n - ws.length - 1))) : WkI n k (ws ++ [x]) := by
  obtain ⟨⟨a1, a2⟩, b, c, d, e⟩ := h
  have hl : (ws ++ [x]).length = ws.length + 1 := by simp
  have hs := sum_one ws x
  refine ⟨⟨fun y hy => ?_, fun i hi => ?_⟩, by omega, by omega, by omega, by omega⟩
  · rcases List.mem_append.mp hy with h | h
    · exact a1 y h
    · rw [List.mem_singleton.mp h]; omega
  · by_cases q : i ≤ ws.length
    · rw [List.take_append_of_le_length q]; exact a2 i q
    · rw [List.take_of_length_le (by omega), hs]
      have := a2 ws.length (Nat.le_refl _)
      rw [List.take_length] at this
      omega
end JJ
namespace JJ
open PySem PySem.Spec PP L2 MM
def spSmC : FSp := fun pvs m q => ∃ xs : List PyData, pvs = [.ref 0, .d (.list xs)] ∧ m = [some (.lst xs)] ∧ xs.length ≤ 100000 ∧ (∀ x ∈ xs, Dl 3 x) ∧ q (.d (.bool true)) [some (.lst xs)]
def spSmE : FSp := fun pvs m q => spSm 4 pvs m q ∨ spSmC pvs m q
end JJ
namespace JJ
open PySem PySem.Spec PP L2
abbrev tI (ws : List Int) : PyData := .tuple (ws.map .int)
theorem pol_last {ws : List Int} (h : Pol ws) (hn : ws ≠ []) : ws.getD (-1 + (ws.length : Int)).toNat 0 ≠ 0 := by
  rcases h with h | h
  · exact absurd h hn
  · rwa [show (-1 + (ws.length : Int)).toNat = ws.length - 1 by have := List.length_pos_iff.mpr hn; omega]
theorem atI_lastP {ws : List Int} (hn : ws ≠ []) : atI (ws.map PyData.int) (-1) = some (.int (ws.getD (-1 + (ws.length : Int)).toNat 0)) := by
  have := List.length_pos_iff.mpr hn
  rw [atI_gdn (by omega) (by rw [List.length_map]; omega), List.length_map]
  congr 1
  rw [List.getD_eq_getElem?_getD, List.getElem?_map, List.getD_eq_getElem?_getD, List.getElem?_eq_getElem (by omega)]
  rfl
theorem zN_step {ws : List Int} {k : Nat} (h : ws.getD k 0 = 0) : zN ws (k + 1) = zN ws k := by
  rw [zN, if_pos h]
theorem zN_stop {ws : List Int} {k : Nat} (h : ws.getD k 0 ≠ 0) : zN ws (k + 1) = k + 1 := by
  rw [zN, if_neg h]
def Wn (g : Int) (ws : List Int) : Prop := ∀ c ∈ ws, -g < c ∧ c < g
theorem Bd.sub {j k : Nat} {a b : Int} (h : Bd j a) (g : Bd k b) : Bd (max j k + 1) (a - b) := by
  rw [Int.sub_eq_add_neg]
  have g2 : Bd k (-b) := by show (-b).natAbs < 2 ^ k; rw [Int.natAbs_neg]; exact g
  exact h.add g2
theorem Wn.set {g v : Int} {a : List Int} {i : Nat} (h : Wn g a) (hv : -g < v ∧ v < g) : Wn g (a.set i v) := fun c hc => by
  rcases List.mem_or_eq_of_mem_set hc with h1 | h1
  · exact h c h1
  · rw [h1]; exact hv
theorem Wn.mono {g k : Int} {a : List Int} (h : Wn g a) (l : g ≤ k) : Wn k a := fun c hc => by have := h c hc; omega
def spPolyOf : FSp := fun pvs m q => ∃ ws : List Int, pvs = [.ref 0] ∧ m = [some (.lst (ws.map .int))] ∧ ws.length ≤ 100000 ∧ q (.d (tI (cutZ ws))) [some (.lst (ws.map .int))]
def spIsPo : FSp := fun pvs m q => ∃ ws : List Int, pvs = [.d (tI ws)] ∧ m = [] ∧ Pol ws ∧ ws.length ≤ 100000 ∧ q (.d (.bool true)) []
def spCkPo : FSp := fun pvs m q => ∃ ws : List Int, pvs = [.d (tI ws)] ∧ m = [] ∧ Pol ws ∧ ws.length ≤ 100000 ∧ q (.d .none) []
def spCkP2 : FSp := fun pvs m q => ∃ a b : List Int, pvs = [.d (tI a), .d (tI b)] ∧ m = [] ∧ Pol a ∧ Pol b ∧ a.length ≤ 100000 ∧ b.length ≤ 100000 ∧ q (.d .none) []
end JJ
namespace PP
open PySem PySem.Spec PyProof.Rows L2
section
variable {X : Cx} {L : PP.Loc} {m : Mem} {a b e tg : Expr} {pos p : Pos} {Q : QE} {QI : List PyData → (Mem → Prop) → Mem → Prop}
theorem call_divmodN : CallR X (.builtin "divmod") (fun xs H Q => ∃ i j : Int, xs = [.int i, .int j] ∧ (j ≠ 0 ∧ j.natAbs.log2 < 9000) ∧ ∀ p, H p = none → Q (.ref p) (upd H p (.tup [.int (i.fdiv j), .int (i.fmod j)]))) := by
  intro pins s σ H xs us Q I r h
  obtain ⟨i, j, rfl, ⟨h1, h2⟩, q⟩ := h
  obtain ⟨u, w', rfl, ⟨t, rfl⟩, ⟨t', rfl⟩⟩ := vals2 r
  refine divmod_int h1 ?_ (.inl (PyProof.noPylong_of_log2 h2))
  have hn : H s.heap.objs.size = none := I.hok.fresh (Nat.le_refl _)
  refine ⟨.ref s.heap.objs.size, _, ?_, rfl, q _ hn⟩
  refine I.laid (fun b o e => Heap.get?_push_of_some _ e) (Nat.le_refl _) ⟨by simp only [List.length_cons, List.length_nil]; rw [sizeLine_eq]; decide, [.int (i.fdiv j) s.toks, .int (i.fmod j) (s.toks + 1)], .cons ⟨_, rfl⟩ (.cons ⟨_, rfl⟩ .nil), ?_⟩
  exact ⟨_, Heap.get?_push_size s.heap rfl, rfl, 0, rfl⟩
theorem we_divmod (hm : X.mg "divmod" = none) (h : WE X a L m fun x m1 => WE X b L m1 fun y m2 => ∃ i j : Int, x = .int i ∧ y = .int j ∧ (j ≠ 0 ∧ j.natAbs.log2 < 9000) ∧ Q (.tuple [.int (i.fdiv j), .int (i.fmod j)]) m2) (hg : Gl X "divmod" := by rfl) (he : starEach [a, b] X.env = (false, eval a X.env) :: starEach [b] X.env := by rfl)
    (he2 : starEach [b] X.env = (false, eval b X.env) :: starEach [] X.env := by rfl) (hpl : (backTo pos (starEach [b] X.env)).any (·.1) = false := by rfl) : WE X (.Call (.Name "divmod" p) [a, b] [] pos) L m Q :=
  we_of (pe_callB call_divmodN hg hm (by decide +kernel) (paU [a, b]) (he := he) (hpl := hpl)) fun w σ H r => WA.go (wd2 h he he2) r fun w1 vs ps m1 H1 l1 r1 d1 ⟨x, y, e1, i, j, e2, e3, hj, q⟩ => by
    subst e1; subst e2; subst e3
    obtain ⟨v, u, rfl, d1, d2⟩ := rvs2 d1
    refine ⟨i, j, by rw [dp_int d1, dp_int d2], hj, fun qa hp => ?_⟩
    obtain ⟨w2, l2, hr2, d3⟩ := r1.toHR.pair hp (.int (i.fdiv j)) (.int (i.fmod j))
    exact ⟨w2, _, m1, l1.trans l2, hr2, d3, q⟩
theorem truth_ints {prog : Program} {w : World} {A : Around} {ns : List Int} {its : List Value} (r : Vals (ns.map V.int) its) :
    TruthOf prog w A (fun i v => its.toArray[i]? = some v) (fun i => (ns.map fun n => n != 0).getD i false) := fun i v s Q E hv hq => by
  have hv' : its[i]? = some v := by simpa using hv
  cases e : ns[i]? with
  | none =>
    have := r.none_of (i := i) (by rw [List.getElem?_map, e]; rfl)
    rw [this] at hv'; cases hv'
  | some n =>
    obtain ⟨u, hu, t, ru⟩ := r.get (i := i) (x := .int n) (by rw [List.getElem?_map, e]; rfl)
    rw [hu] at hv'
    cases hv'
    subst ru
    have hg : (ns.map fun n => n != 0).getD i false = (n != 0) := by rw [List.getD_eq_getElem?_getD, List.getElem?_map, e]; rfl
    have hq' : Q ((ns.map fun n => n != 0).getD i false) s := hq
    rw [hg] at hq'
    exact PyProof.Rows.truthy_int hq'
theorem cr_anyI (hc : X.calm = true) : CallR X (.builtin "any") (fun vs H Q => ∃ (a : Addr) (ns : List Int), vs = [V.ref a] ∧ SqL X.K H a (ns.map V.int) ∧ Q (.bl (ns.any fun n => n != 0)) H) := by
  intro pins s σ H vs us Q I r h
  obtain ⟨a, ns, rfl, hs, q⟩ := h
  obtain ⟨its, rv, hl, _⟩ := I.list hs
  rw [Vals.ref1 r]
  have hln := rv.length
  refine call_any_walk (iter_any hl.isList fun s₂ e2 st hne => ?_)
  subst e2
  refine ⟨_, _, _, _, _, _, _, rfl, Walks.list (A := X.A.in1) (I.ok.hd hc) _ a hne its.toArray, st, truth_ints rv, fun h' tk hk => ?_⟩
  refine ⟨.bl _, H, I.kept fun b o eo => hk b o (fun hmem => ?_) (Heap.get?_push_of_some _ eo), ?_, q⟩
  · rcases List.mem_cons.mp hmem with e1 | hmem
    · exact absurd (e1 ▸ Heap.lt_size eo) (Nat.lt_irrefl _)
    · cases hmem
  · show Value.bool _ = Value.bool _
    have e9 := any_range (ns.map fun n => n != 0)
    rw [List.length_map] at e9
    rw [List.length_map] at hln
    rw [List.size_toArray, ← hln, e9]
    simp
theorem we_anyI (hc : X.calm = true) (hm : X.mg "any" = none) (h : WV X a L m fun p m1 => ∃ ns : List Int, lstP m1 p = some (ns.map .int) ∧ Q (.bool (ns.any fun n => n != 0)) m1) (hg : Gl X "any" := by rfl) (he : starEach [a] X.env = (false, eval a X.env) :: starEach [] X.env := by rfl)
    (hpl : (backTo pos (starEach [] X.env)).any (·.1) = false := by rfl) : WE X (.Call (.Name "any" p) [a] [] pos) L m Q :=
  we_of (pe_callB (cr_anyI hc) hg hm (by decide +kernel) (paU [a]) (he := he) (hpl := hpl)) fun w σ H r => WA.go (wa1 h he) r fun w1 vs ps m1 H1 l1 r1 d1 ⟨p, e1, ns, e2, q⟩ => by
    subst e1
    obtain ⟨v, rfl, d2⟩ := rvs1 d1
    obtain ⟨ad, vs, rfl, hh, d⟩ := lstP_ok r1.toHR d2 e2
    have e3 := dpa_ints_inv d
    subst e3
    exact ⟨ad, ns, rfl, .of hh, w1, _, m1, l1, r1.toHR, .bl _, q⟩
theorem wi_revR {p2 pos2 : Pos} (hm : X.mg "reversed" = none) (hmr : X.mg "range" = none) (h : WE X a L m fun x m1 => ∃ n : Int, x = .int n ∧ -(2 ^ 62) ≤ n ∧ n < 2 ^ 62 ∧ QI (rgD3 (((n.toNat : Nat) : Int) - 1) (-1) n.toNat) (fun _ => True) m1) (hg : Gl X "reversed" := by rfl) (hgr : Gl X "range" := by rfl)
    (hs : starEach [.Call (.Name "range" p2) [a] [] pos2] X.env = (false, eval (.Call (.Name "range" p2) [a] [] pos2) X.env) :: starEach [] X.env := by rfl) (na : starEach [a] X.env = (false, eval a X.env) :: starEach [] X.env := by rfl) : WI X tg (.Call (.Name "reversed" p) [.Call (.Name "range" p2) [a] [] pos2] [] pos) L m QI :=
  wi_of (pi_revR hg hm (prg_1 hgr hmr (peU a) na) hs) fun w σ H r => h.go r fun w1 v x m1 H1 l1 r1 d1 ⟨n, e1, h1, h2, q⟩ => by
    subst e1
    have := dp_int d1
    subst this
    refine ⟨n, rfl, by decide, by decide, h1, h2, w1, m1, _, _, l1, r1.toHR, ?_, q⟩
    have e9 : (0 : Int) + (((n - 0).toNat : Nat) : Int) - 1 = ((n.toNat : Nat) : Int) - 1 := by omega
    rw [e9, show (n - 0).toNat = n.toNat by omega]
    exact jok_rng3
end
end PP
namespace JJ
open PySem PySem.Spec PP L2
theorem mulFr_get {a b : List Int} {i j : Nat} (hi : i < a.length) : (mulFr a b (i + 1)).getD j 0 = (mulFr a b i).getD j 0 + (if i ≤ j ∧ j < i + b.length then a.getD i 0 * b.getD (j - i) 0 else 0) := by
  rw [mulFr, subAt_get b.length (by rw [mulFr_len]; omega)]
  split
  · rw [Int.neg_mul]; omega
  · omega
theorem mulFr_high {a b : List Int} (hb : b ≠ []) : ∀ i j, i ≤ a.length → i + b.length ≤ j + 1 → (mulFr a b i).getD j 0 = 0
  | 0, j, _, _ => by unfold mulFr; rw [getD_rep]
  | i + 1, j, h, hj => by
    rw [mulFr_get (by omega), mulFr_high hb i j (by omega) (by omega), if_neg (by omega)]; rfl
def RowP (R b r : List Int) (n : Nat) (row : List Int) (p : Nat) : Prop := row.length = n ∧ ∀ j, row.getD j 0 = (mulFr R b p).getD j 0 + r.getD j 0
theorem RowP.lead {R b r row : List Int} {n p : Nat} (h : RowP R b r n row (p + 1)) (hp : p < R.length) (hb : b ≠ []) (hr : r.length + 1 ≤ b.length) : row.getD (p + b.length - 1) 0 = R.getD p 0 * b.getD (b.length - 1) 0 := by
  have hl := List.length_pos_iff.mpr hb
  rw [h.2, mulFr_get hp, mulFr_high hb p _ (by omega) (by omega), if_pos (by omega), getD_out (a := r) (by omega), show p + b.length - 1 - p = b.length - 1 by omega]
  omega
theorem sc_get {s : Int} {b : List Int} {j : Nat} : (b.map fun x => s * x).getD j 0 = s * b.getD j 0 := by
  rw [List.getD_eq_getElem?_getD, List.getElem?_map, List.getD_eq_getElem?_getD]
  cases b[j]? with
  | none => simp
  | some x => rfl
theorem RowP.step {R b r row : List Int} {n p : Nat} {s : Int} (h : RowP R b r n row (p + 1)) (hp : p < R.length) (hn : p + b.length ≤ n) (hd : s ∣ R.getD p 0) : RowP R b r n (takeA row (R.getD p 0 / s) (b.map fun x => s * x) p) p := by
  have hl : (b.map fun x => s * x).length = b.length := List.length_map ..
  refine ⟨by rw [subAt_len]; exact h.1, fun j => ?_⟩
  rw [subAt_get _ (by rw [hl, h.1]; exact hn), hl, h.2, mulFr_get hp]
  split
  · rw [sc_get, ← Int.mul_assoc, Int.ediv_mul_cancel hd]; omega
  · omega
def quoP (R : List Int) (s : Int) (p : Nat) : List Int := List.replicate p 0 ++ (R.drop p).map fun x => x / s
theorem quoP_len {R : List Int} {s : Int} {p : Nat} (h : p ≤ R.length) : (quoP R s p).length = R.length := by
  unfold quoP; rw [List.length_append, List.length_replicate, List.length_map, List.length_drop]; omega
theorem quoP_end {R : List Int} {s : Int} : quoP R s R.length = List.replicate R.length 0 := by unfold quoP; simp
theorem quoP_zero {R : List Int} {s : Int} : quoP R s 0 = R.map fun x => x / s := by unfold quoP; simp
theorem quoP_step {R : List Int} {s : Int} {p : Nat} (h : p < R.length) : (quoP R s (p + 1)).set p (R.getD p 0 / s) = quoP R s p := by
  unfold quoP
  have e : R.drop p = R.getD p 0 :: R.drop (p + 1) := by
    rw [List.drop_eq_getElem_cons h, List.getD_eq_getElem?_getD, List.getElem?_eq_getElem h]; rfl
  rw [e, List.map_cons, List.replicate_succ', List.append_assoc]
  rw [List.set_append_right _ _ (by rw [List.length_replicate]; exact Nat.le_refl _), List.length_replicate, Nat.sub_self]
  rfl
theorem fdm {x l s : Int} (hl : l ≠ 0) (hs : s ≠ 0) : (x * l).fmod (s * l) = 0 ↔ s ∣ x := by
  constructor
  · intro h
    have h2 := Int.dvd_of_fmod_eq_zero h
    exact Int.dvd_of_mul_dvd_mul_right hl h2
  · rintro ⟨k, rfl⟩
    rw [Int.mul_assoc, Int.mul_comm k l, ← Int.mul_assoc]
    exact Int.mul_fmod_right ..
theorem fdq {x l s : Int} (hl : l ≠ 0) (hs : s ≠ 0) (h : s ∣ x) : (x * l).fdiv (s * l) = x / s := by
  obtain ⟨k, rfl⟩ := h
  rw [Int.mul_ediv_cancel_left _ hs, Int.mul_assoc, Int.mul_comm k l, ← Int.mul_assoc]
  exact Int.mul_fdiv_cancel_left _ (Int.mul_ne_zero hs hl)
instance (R : List Int) (s : Int) : Decidable (∀ x ∈ R, s ∣ x) := inferInstance
def divRes (R : List Int) (s : Int) (r : List Int) : PyData := if (∀ x ∈ R, s ∣ x) ∧ (∀ c ∈ r, c = 0) then tI (R.map fun x => x / s) else .none
theorem divRes_no {R r : List Int} {s : Int} {p : Nat} (hp : p < R.length) (h : ¬ s ∣ R.getD p 0) : divRes R s r = .none := by
  unfold divRes
  rw [if_neg]
  rintro ⟨a, _⟩
  refine h (a _ ?_)
  rw [List.getD_eq_getElem?_getD, List.getElem?_eq_getElem hp]
  exact List.getElem_mem _
theorem divRes_end {R r : List Int} {s : Int} (h : ∀ j, j < R.length → s ∣ R.getD j 0) : divRes R s r = if (∀ c ∈ r, c = 0) then tI (R.map fun x => x / s) else .none := by
  unfold divRes
  have a : ∀ x ∈ R, s ∣ x := fun x hx => by
    obtain ⟨i, hi, rfl⟩ := List.getElem_of_mem hx
    have := h i hi
    rwa [List.getD_eq_getElem?_getD, List.getElem?_eq_getElem hi] at this
  by_cases c : ∀ c ∈ r, c = 0
  · rw [if_pos ⟨a, c⟩, if_pos c]
  · rw [if_neg (fun z => c z.2), if_neg c]
theorem RowP.any {R b r row : List Int} {n : Nat} (h : RowP R b r n row 0) (hr : r.length ≤ n) : (row.any fun x => x != 0) = !decide (∀ c ∈ r, c = 0) := by
  have g : ∀ j, row.getD j 0 = r.getD j 0 := fun j => by
    rw [h.2]; unfold mulFr; rw [getD_rep]; omega
  rw [Bool.eq_iff_iff, List.any_eq_true, Bool.not_eq_true', decide_eq_false_iff_not]
  constructor
  · rintro ⟨x, hx, hn⟩ z
    obtain ⟨i, hi, rfl⟩ := List.getElem_of_mem hx
    have e := g i
    rw [List.getD_eq_getElem?_getD, List.getElem?_eq_getElem hi, Option.getD_some] at e
    refine bne_iff_ne.mp hn ?_
    rw [e, List.getD_eq_getElem?_getD]
    cases q : r[i]? with
    | none => rfl
    | some c => exact z c (List.mem_of_getElem? q)
  · intro hz
    by_cases c : ∃ x, x ∈ r ∧ x ≠ 0
    · obtain ⟨x, hx, hn⟩ := c
      obtain ⟨i, hi, rfl⟩ := List.getElem_of_mem hx
      have e := g i
      rw [List.getD_eq_getElem?_getD, List.getElem?_eq_getElem (show i < row.length by rw [h.1]; omega), List.getD_eq_getElem?_getD, List.getElem?_eq_getElem hi] at e
      refine ⟨row[i]'(by rw [h.1]; omega), List.getElem_mem _, bne_iff_ne.mpr fun z => hn ?_⟩
      have e2 : row[i]'(by rw [h.1]; omega) = r[i] := e
      rw [← e2, z]
    · refine absurd (fun x hx => ?_) hz
      by_cases d : x = 0
      · exact d
      · exact absurd ⟨x, hx, d⟩ c
def spTakeG : FSp := fun pvs m q => ∃ (ws p : List Int) (f : Int) (w : Nat), pvs = [.ref 0, .d (.int f), .d (tI p), .d (.int (w : Nat))] ∧ m = [some (.lst (ws.map .int))] ∧ w + p.length ≤ ws.length ∧ ws.length ≤ 100000 ∧ Bd 200000 f ∧ (∀ c ∈ p, Bd 200000 c) ∧ q (.d .none) [some (.lst ((takeA ws f p w).map .int))]
def spCkDv : FSp := fun pvs m q => ∃ ws : List Int, pvs = [.d (tI ws)] ∧ m = [] ∧ ws ≠ [] ∧ q (.d .none) []
def spDivG : FSp := fun pvs m q => ∃ (one R b r : List Int) (s : Int), pvs = [.d (tI one), .d (tI (b.map fun x => s * x))] ∧ m = [] ∧ Pol one ∧ Pol (b.map fun x => s * x) ∧ one.length ≤ 1000 ∧ b.length ≤ 1000 ∧ s ≠ 0 ∧ b ≠ [] ∧ b.getD (b.length - 1) 0 ≠ 0 ∧ R.length = one.length + 1 - b.length ∧ r.length + 1 ≤ b.length ∧ r.length ≤ one.length ∧ RowP R b r one.length one R.length ∧ (s * b.getD (b.length - 1) 0).natAbs.log2 < 9000 ∧ (∀ x ∈ R, Bd 200000 x) ∧ (∀ c ∈ b.map (fun x => s * x), Bd 200000 c) ∧ q (.d (divRes R s r)) []
theorem bd_div {B : Nat} {x s : Int} (h : Bd B x) : Bd B (x / s) := by
  show (x / s).natAbs < 2 ^ B
  exact Nat.lt_of_le_of_lt (Int.natAbs_ediv_le_natAbs x s) h
theorem plusP_add {a b : List Int} : plusP a b = cutZ (addR a b) := by unfold plusP; rw [plus_row]
end JJ
namespace JJ
open PySem PySem.Spec PP L2
theorem zN_zero {xs : List Int} : ∀ k j, zN xs k ≤ j → j < k → xs.getD j 0 = 0
  | 0, j, _, h => absurd h (Nat.not_lt_zero _)
  | k + 1, j, h, hj => by
    unfold zN at h
    split at h
    · rename_i c
      by_cases e : j = k
      · rw [e]; exact c
      · exact zN_zero k j h (by omega)
    · omega
theorem cutZ_get {ws : List Int} {j : Nat} : (cutZ ws).getD j 0 = ws.getD j 0 := by
  have hl := zN_le (xs := ws) ws.length
  unfold cutZ
  rw [List.getD_eq_getElem?_getD, List.getElem?_take]
  split
  · rw [← List.getD_eq_getElem?_getD]
  · rename_i c
    by_cases d : j < ws.length
    · rw [zN_zero ws.length j (by omega) d]; rfl
    · rw [getD_out (by omega)]; rfl
theorem cutZ_at {ws : List Int} {k : Nat} (hk : ws.getD k 0 ≠ 0) (h : ∀ j, k < j → ws.getD j 0 = 0) : (cutZ ws).length = k + 1 := by
  have hkl : k < ws.length := by
    by_cases c : k < ws.length
    · exact c
    · exact absurd (getD_out (by omega)) hk
  rw [cutZ_len]
  have h1 : ¬ zN ws ws.length ≤ k := fun z => hk (zN_zero ws.length k z hkl)
  have h2 : ¬ k + 2 ≤ zN ws ws.length := fun z => by
    obtain ⟨j, hj⟩ : ∃ j, zN ws ws.length = j + 1 := ⟨zN ws ws.length - 1, by omega⟩
    exact zN_top hj (h j (by omega))
  omega
theorem pol_eq {a b : List Int} (ha : Pol a) (hb : Pol b) (h : ∀ j, a.getD j 0 = b.getD j 0) : a = b := by
  refine row_eq ?_ h
  have key : ∀ {a b : List Int}, Pol a → (∀ j, a.getD j 0 = b.getD j 0) → a.length ≤ b.length := by
    intro a b ha h
    rcases ha with ha | ha
    · rw [ha]; exact Nat.zero_le _
    · by_cases c : a.length ≤ b.length
      · exact c
      · rw [h, getD_out (by omega)] at ha
        exact absurd rfl ha
  have h1 := key ha h
  have h2 := key hb fun j => (h j).symm
  omega
theorem ev_zero_all : ∀ (d : List Int) (N : Int), (∀ x, N ≤ x → ev d x = 0) → ∀ j, d.getD j 0 = 0
  | [], _, _, j => by rw [getD_out (Nat.zero_le _)]
  | c :: d, N, h, j => by
    have step : ∀ x, max N (c.natAbs + 1) ≤ x → c = 0 ∧ ev d x = 0 := fun x hx => by
      have e : c + x * ev d x = 0 := h x (by omega)
      have hdv : x ∣ c := ⟨-(ev d x), by rw [Int.mul_neg]; omega⟩
      have hc : c = 0 := by
        by_cases z : c = 0
        · exact z
        · have h1 := Int.le_of_dvd (a := x) (b := (c.natAbs : Int)) (by omega) (Int.dvd_natAbs.mpr hdv)
          omega
      refine ⟨hc, ?_⟩
      rw [hc, Int.zero_add] at e
      rcases Int.mul_eq_zero.mp e with z | z
      · omega
      · exact z
    have hc := (step _ (Int.le_refl _)).1
    cases j with
    | zero => exact hc
    | succ j => exact ev_zero_all d _ (fun x hx => (step x hx).2) j
def negR (b : List Int) : List Int := b.map fun x => -x
theorem ev_negR {x : Int} : ∀ b : List Int, ev (negR b) x = -(ev b x)
  | [] => rfl
  | c :: b => by
    show -c + x * ev (negR b) x = -(c + x * ev b x)
    rw [ev_negR b, Int.mul_neg]; omega
theorem negR_get {b : List Int} {j : Nat} : (negR b).getD j 0 = -(b.getD j 0) := by
  unfold negR
  rw [List.getD_eq_getElem?_getD, List.getElem?_map, List.getD_eq_getElem?_getD]
  cases b[j]? <;> rfl
theorem plusP_get {a b : List Int} {j : Nat} : (plusP a b).getD j 0 = a.getD j 0 + b.getD j 0 := by
  rw [plusP_add, cutZ_get]
  unfold addR
  rw [List.getD_eq_getElem?_getD, List.getElem?_map]
  by_cases c : j < max a.length b.length
  · rw [List.getElem?_range c]; rfl
  · rw [List.getElem?_eq_none (by rw [List.length_range]; omega), getD_out (a := a) (by omega), getD_out (a := b) (by omega)]; rfl
theorem pol_ev {a b : List Int} (ha : Pol a) (hb : Pol b) (h : ∀ x, ev a x = ev b x) : a = b := by
  refine pol_eq ha hb fun j => ?_
  have := ev_zero_all (plusP a (negR b)) 0 (fun x _ => by rw [ev_plusP, ev_negR, h]; omega) j
  rw [plusP_get, negR_get] at this
  omega
theorem lastP {a : List Int} (h : Pol a) (hn : a ≠ []) : a.getD (a.length - 1) 0 ≠ 0 := by
  rcases h with h | h
  · exact absurd h hn
  · exact h
theorem mul_last {a b : List Int} (ha : a ≠ []) (hb : b ≠ []) : (mulR a b).getD (a.length + b.length - 2) 0 = a.getD (a.length - 1) 0 * b.getD (b.length - 1) 0 := by
  have h1 := List.length_pos_iff.mpr ha
  have h2 := List.length_pos_iff.mpr hb
  have e : mulR a b = mulFr a b ((a.length - 1) + 1) := by show mulFr a b a.length = _; rw [show a.length - 1 + 1 = a.length by omega]
  rw [e, mulFr_get (by omega), mulFr_high hb _ _ (by omega) (by omega), if_pos (by omega), show a.length + b.length - 2 - (a.length - 1) = b.length - 1 by omega]
  omega
theorem times_nil {b : List Int} : timesP [] b = [] := by
  unfold timesP
  have : (cutZ (mulR [] b)).length = 0 := by
    rcases (cutZ_pol : Pol (cutZ (mulR [] b))) with h | h
    · rw [h]; rfl
    · rw [cutZ_get] at h
      exact absurd (show (mulFr [] b 0).getD _ 0 = 0 by unfold mulFr; rw [getD_rep]) h
  exact List.eq_nil_of_length_eq_zero this
def DivOk (one other : List Int) (due : PyData) : Prop := ∃ (R b r : List Int) (s : Int), other = b.map (fun x => s * x) ∧ due = divRes R s r ∧ Pol one ∧ Pol (b.map fun x => s * x) ∧ s ≠ 0 ∧ b ≠ [] ∧ b.getD (b.length - 1) 0 ≠ 0 ∧ R.length = one.length + 1 - b.length ∧ r.length + 1 ≤ b.length ∧ r.length ≤ one.length ∧ RowP R b r one.length one R.length ∧ (∀ x ∈ R, Bd 100000 x)
theorem one_map {b : List Int} : b.map (fun x => 1 * x) = b := by simp
theorem div_short {w b : List Int} (hw : Pol w) (hb : Pol b) (hn : b ≠ []) (h : w.length + 1 ≤ b.length) : DivOk w b (if w = [] then tI [] else .none) := by
  refine ⟨[], b, w, 1, one_map.symm, ?_, hw, by rw [one_map]; exact hb, by decide, hn, lastP hb hn, by show 0 = _; omega, h, Nat.le_refl _, ⟨rfl, fun j => by show _ = (mulFr [] b 0).getD j 0 + _; unfold mulFr; rw [getD_rep]; omega⟩, fun x hx => (List.not_mem_nil hx).elim⟩
  rw [divRes_end fun j hj => absurd hj (Nat.not_lt_zero _)]
  by_cases c : w = []
  · rw [if_pos c, if_pos (by rw [c]; intro c h; cases h)]; rfl
  · rw [if_neg c, if_neg]
    intro z
    have hl := List.length_pos_iff.mpr c
    refine lastP hw c (z _ ?_)
    rw [List.getD_eq_getElem?_getD, List.getElem?_eq_getElem (by omega)]
    exact List.getElem_mem _
theorem div_mul {a b w : List Int} (ha : Pol a) (hb : Pol b) (hw : Pol w) (hn : b ≠ []) (h : w.length + 1 ≤ b.length) (hB : ∀ x ∈ a, Bd 100000 x) : DivOk (plusP (timesP a b) w) b (if w = [] then tI a else .none) := by
  by_cases c : a = []
  · subst c
    rw [times_nil, show plusP [] w = w from pol_eq cutZ_pol hw fun j => by rw [plusP_get, getD_out (a := []) (Nat.zero_le _)]; omega]
    exact div_short hw hb hn h
  · have h1 := List.length_pos_iff.mpr c
    have h2 := List.length_pos_iff.mpr hn
    have hg : ∀ j, (plusP (timesP a b) w).getD j 0 = (mulR a b).getD j 0 + w.getD j 0 := fun j => by rw [plusP_get]; unfold timesP; rw [cutZ_get]
    have hlen : (plusP (timesP a b) w).length = a.length + b.length - 1 := by
      rw [plusP_add]
      have e : ∀ j, (addR (timesP a b) w).getD j 0 = (mulR a b).getD j 0 + w.getD j 0 := fun j => by rw [← hg, plusP_add, cutZ_get]
      rw [cutZ_at (k := a.length + b.length - 2) (by rw [e, mul_last c hn, getD_out (a := w) (by omega), Int.add_zero]; exact Int.mul_ne_zero (lastP ha c) (lastP hb hn)) fun j hj => by rw [e, mulFr_high hn a.length j (Nat.le_refl _) (by omega), getD_out (a := w) (by omega)]; rfl]
      omega
    refine ⟨a, b, w, 1, one_map.symm, ?_, cutZ_pol, by rw [one_map]; exact hb, by decide, hn, lastP hb hn, by omega, h, by omega, ⟨rfl, hg⟩, hB⟩
    rw [divRes_end fun j _ => Int.one_dvd _]
    by_cases d : w = []
    · rw [if_pos d, if_pos (by rw [d]; intro c h; cases h)]
      simp
    · rw [if_neg d, if_neg]
      intro z
      have hl := List.length_pos_iff.mpr d
      refine lastP hw d (z _ ?_)
      rw [List.getD_eq_getElem?_getD, List.getElem?_eq_getElem (by omega)]
      exact List.getElem_mem _
theorem div_exact {a b : List Int} (ha : Pol a) (hb : Pol b) (hn : b ≠ []) (hB : ∀ x ∈ a, Bd 100000 x) : DivOk (timesP a b) b (tI a) := by
  have h := div_mul (w := []) ha hb (.inl rfl) hn (by have := List.length_pos_iff.mpr hn; show 0 + 1 ≤ _; omega) hB
  rw [if_pos rfl, show plusP (timesP a b) [] = timesP a b from pol_eq cutZ_pol cutZ_pol fun j => by rw [plusP_get, getD_out (a := []) (Nat.zero_le _)]; omega] at h
  exact h
theorem times_one {s : Int} {b : List Int} (hs : s ≠ 0) (hb : Pol b) : timesP [s] b = b.map fun x => s * x := by
  have hp : Pol (b.map fun x => s * x) := by
    by_cases c : b = []
    · subst c; exact .inl rfl
    · refine .inr ?_
      rw [List.length_map, sc_get]
      exact Int.mul_ne_zero hs (lastP hb c)
  refine pol_ev cutZ_pol hp fun x => ?_
  rw [ev_timesP, ev_one]
  induction b with
  | nil => show s * 0 = 0; simp
  | cons c b ih =>
    show s * (c + x * ev b x) = s * c + x * ev (b.map fun x => s * x) x
    by_cases d : b = []
    · subst d; show s * (c + x * 0) = s * c + x * 0; simp
    · have hb2 : Pol b := by
        refine .inr ?_
        have := lastP hb (by simp)
        have hl := List.length_pos_iff.mpr d
        rw [List.length_cons, show b.length + 1 - 1 = (b.length - 1) + 1 by omega] at this
        exact this
      have hp2 : Pol (b.map fun x => s * x) := by
        refine .inr ?_
        rw [List.length_map, sc_get]
        exact Int.mul_ne_zero hs (lastP hb2 d)
      rw [← ih hb2 hp2, Int.mul_add, ← Int.mul_assoc, ← Int.mul_assoc, Int.mul_comm s x]
end JJ
namespace JJ
open PySem PySem.Spec PP L2
theorem dl_tI {ws : List Int} (h : ws.length ≤ 100000) : Dl 3 (tI ws) := .tup (by rw [List.length_map]; exact h) fun x hx => by
  obtain ⟨i, _, rfl⟩ := List.mem_map.mp hx
  exact dl_int
theorem div_call {one other : List Int} {due : PyData} (h : DivOk one other due) (h1 : one.length ≤ 1000) (h2 : other.length ≤ 1000) (hb : ∀ c ∈ other, Bd 8000 c) {q : PV → Mem → Prop} (k : q (.d due) []) : spDivG [.d (tI one), .d (tI other)] [] q := by
  obtain ⟨R, b, r, s, rfl, rfl, hp1, hp2, hs, hn, hbl, hR, hr1, hr2, hRow, hB⟩ := h
  rw [List.length_map] at h2
  have hl := List.length_pos_iff.mpr hn
  refine ⟨one, R, b, r, s, rfl, rfl, hp1, hp2, h1, h2, hs, hn, hbl, hR, hr1, hr2, hRow, ?_, fun x hx => (hB x hx).mono (by decide), fun c hc => (hb c hc).mono (by decide), k⟩
  have : Bd 8000 (s * b.getD (b.length - 1) 0) := by
    refine hb _ (List.mem_map.mpr ⟨_, ?_, rfl⟩)
    rw [List.getD_eq_getElem?_getD, List.getElem?_eq_getElem (by omega)]
    exact List.getElem_mem _
  exact Nat.lt_of_le_of_lt this.log (by decide)
end JJ
namespace PP
open PySem PySem.Spec PyProof.Rows L2
end PP
namespace PP
open PySem PySem.Spec PyProof.Rows L2
structure ExOk (K : PySem.W.Frag) (C : Addr) : Prop where
  T : OexC K C
  F : XfC K C
  nv : PySem.W.findIn K (.ref C) "value" = some none
  cc : PySem.W.findIn K (.ref C) "__class__" = some (some (.builtin "object.__class__"))
  gg : PySem.W.specialIn K (.builtin "object.__class__") "__get__" = some (some (.builtin "getset_descriptor.__get__"))
  tk : PySem.W.takesIn K (.builtin "object.__class__") = some true
  ob : PySem.W.mroIn K C (.type "object") = some true
  me : PySem.W.subIn K (.ref C) (.ref C) = some true
theorem exm_of {K : PySem.W.Frag} {A B : Addr} {k : Bool} (ok : ExOk K B) (h : PySem.W.subIn K (.ref A) (.ref B) = some k) : PySem.W.exmOne K (.ref A) (.ref B) = some k :=
  PySem.W.exm_ref ok.F.exC ok.F.hdC ok.T.tyC h
theorem kit_of {K : PySem.W.Frag} {A B : Addr} {k : Bool} (oa : ExOk K A) (ok : ExOk K B) (h : PySem.W.subIn K (.ref A) (.ref B) = some k) : PySem.W.kitOne K (.ref A) (.ref B) = some k := by
  unfold PySem.W.kitOne
  by_cases e : A = B
  · subst e
    rw [oa.me] at h
    cases h
    rw [if_pos (beq_self_eq_true _)]
  · have e1 : (Value.ref A == Value.ref B) = false := Bool.eq_false_iff.mpr fun q => e (Value.ref.inj (beq_iff_eq.mp q))
    rw [e1, if_neg Bool.false_ne_true]
    obtain ⟨cd, hc, _⟩ := PySem.W.any_some ok.F.hdC
    have e2 : ((PySem.W.clsIn K B).isSome && PySem.W.typeIn K (.ref B) == some (.type "type")) = true := by rw [hc, ok.T.tyC] <;> rfl
    unfold PySem.W.kitCls
    dsimp only
    rw [if_pos e2]
    exact h
structure EOk (P : Program) (w : World) (K : PySem.W.Frag) (mg : Str → Option Value) (base : Heap) (nm : Str) (C : Addr) (spI : Sp) : Prop extends ExOk K C where
  m : mg nm = some (.ref C)
  ini : ∃ (fI : Addr) (fd : FuncData), PySem.W.findIn K (.ref C) "__init__" = some (some (.ref fI)) ∧ PySem.W.typeIn K (.ref fI) = some (.type "function") ∧ FnOk P w K mg base CX0 1 fI fd ["self", "value"] spI ∧ Binds K fd ["self", "value"] []
def spIn (K : PySem.W.Frag) : Sp := fun vs H Q _ => ∃ (a C : Addr) (y : V), vs = [.ref a, y] ∧ H a = some (exo a C none) ∧ OexC K C ∧ PySem.W.findIn K (.ref C) "value" = some none ∧
  ∀ dx, H dx = none → dx ≠ a → Q .non (upd (upd H dx (exd dx [("value", y)])) a (exo a C (some dx)))
theorem exH_at {P : Program} {w : World} {H : Hp} {h : Heap} {a C d : Addr} (hok : HOk P w H h) (e : H a = some (exH a C d)) : ∃ (oe : Obj) (vs : Array Value), h.get? a = some oe ∧ oe.cls = .ref C ∧ oe.dict = some d ∧ oe.data = .fields vs := by
  have x : ObjOk P w H h a (.ext fun h => ∃ (oe : Obj) (vs : Array Value), h.get? a = some oe ∧ oe.cls = .ref C ∧ oe.dict = some d ∧ oe.data = .fields vs) := hok a _ e
  exact x.1
theorem exH_ok {P : Program} {w : World} {H : Hp} {h : Heap} {a C d : Addr} {oe : Obj} {vs : Array Value} (e : h.get? a = some oe) (c : oe.cls = .ref C) (hd : oe.dict = some d) (hv : oe.data = .fields vs) : ObjOk P w H h a (exH a C d) :=
  ⟨⟨oe, vs, e, c, hd, hv⟩, ⟨oe, e⟩, fun h1 h2 ⟨o, us, z, r⟩ k => ⟨o, us, k _ z, r⟩⟩
section
variable {X : Cx} {L : PP.Loc} {m : Mem} {a b : Expr} {pos p : Pos} {Q : QE} {QT : Bool → Mem → Prop}
theorem exc_inst {pins : List (Addr × Obj)} {σ : L2.St} {H : Hp} {s : Shared} {a0 C d : Addr} {fs : List (Str × V)} (I : Inv X pins σ H s) (e : H a0 = some (exH a0 C d)) (e2 : H d = some (.xd fs)) :
    ∃ (oe od : Obj) (mA : Str → Option Value), PySem.W.InstAt s.heap a0 oe C (some od) ∧ s.heap.Ns1 d mA ∧ (∀ f, RelO (fs.lookup f) (mA f)) ∧ s.heap.get? d = some od := by
  obtain ⟨oe, vs, h1, h2, h3, h4⟩ := exH_at I.hok e
  have hx : ObjOk X.prog X.w H s.heap d (.xd fs) := I.hok d _ e2
  obtain ⟨mA, hns, hr⟩ := hx
  obtain ⟨od, ho, hl⟩ := lookIn_ns hns
  refine ⟨oe, od, mA, ⟨h1, h2, ?_, ?_⟩, hns, hr, ho⟩
  · unfold PySem.W.notCls
    rw [h4]
  · rw [h3]; exact ho
theorem we_exv (h : WV X a L m fun p m1 => ∃ C y, p = .exc C y ∧ ExOk X.K C ∧ Q y m1) (hb : attributeBase a "value" X.env (eval a X.env) = eval a X.env := by rfl) : WE X (.Attribute a "value" pos) L m Q := fun w σ H r pins s I => by
  refine attr_of hb (thn (h.go r (R := fun v H1 => ∃ (a0 C d : Addr) (vv : V), v = .ref a0 ∧ H1 a0 = some (exH a0 C d) ∧ H1 d = some (.xd [("value", vv)]) ∧ ExOk X.K C ∧ POE X.K w Q vv H1) (fun w1 v p m1 H1 l1 r1 d1 ⟨C, y, e1, ok, q⟩ => ?_) pins s I) fun u s1 ⟨v, H1, I1, r1, a0, C, d, vv, e1, e2, e3, ok, q⟩ => ?_)
  · subst e1
    obtain ⟨a0, d, vv, e2, e3, e4, e5⟩ := d1
    exact ⟨a0, C, d, vv, e2, r1.toHR.fz _ _ e3, r1.toHR.fz _ _ e4, ok, w1, y, m1, l1, r1.toHR, e5, q⟩
  · subst e1
    obtain rfl : u = Value.ref a0 := r1
    obtain ⟨oe, od, mA, J, hns, hr, ho⟩ := exc_inst I1 e2 e3
    obtain ⟨od2, ho2, hl⟩ := lookIn_ns hns
    rw [ho] at ho2; cases ho2
    have hl2 : List.lookup ("value" : Str) [(("value" : Str), vv)] = some vv := by simp [List.lookup]
    obtain ⟨u, hu, ru⟩ := RelO.some_of (v := vv) (o := mA "value") (by rw [← hl2]; exact hr "value")
    exact HandSPX.exc_get I1.kIn J ok.F.ga ok.F.gg ok.F.exC (PySem.W.findObj_own ok.F.hdC ok.nv rfl (by rw [hl, hu])) (handed_of ru) ⟨vv, H1, I1.tok _, ru, q⟩
def rIsX (K : PySem.W.Frag) : List V → Hp → VK → Prop := fun xs H Q => ∃ (a0 C d B : Addr) (fs : List (Str × V)) (k : Bool), xs = [.ref a0, .ref B] ∧ H a0 = some (exH a0 C d) ∧ H d = some (.xd fs) ∧ ExOk K C ∧ PySem.W.kitOne K (.ref C) (.ref B) = some k ∧ Q (.bl k) H
theorem call_isX : CallR X (.builtin "isinstance") (rIsX X.K) := by
  intro pins s σ H xs us Q I r ⟨a0, C, d, B, fs, k, ex, e1, e2, ok, ek, q⟩
  subst ex
  cases r with
  | cons r1 r2 =>
    cases r2 with
    | cons r3 r4 =>
      cases r4
      cases r1
      cases r3
      obtain ⟨oe, od, mA, J, _, _, _⟩ := exc_inst I e1 e2
      have hcl : (PySem.W.clsIn X.K C).isSome = true := by
        obtain ⟨cd, hc, _⟩ := PySem.W.any_some ok.F.hdC
        rw [hc]; rfl
      exact PySem.W.kia_one (PySem.W.kitx_exc hcl ok.F.ga ok.F.gg ok.F.exC ok.cc ok.gg ok.tk ok.ob) I.kIn J ek (fun z => nomatch z) fun t => ⟨.bl k, H, I.kept (t' := t) fun _ _ z => z, rfl, q⟩
theorem we_isK {x : Str} {p2 : Pos} {B : Addr} (hm : X.mg "isinstance" = none) (hB : X.mg x = some (.ref B)) (h : WV X a L m fun y m1 => ∃ C z k, y = .exc C z ∧ ExOk X.K C ∧ PySem.W.kitOne X.K (.ref C) (.ref B) = some k ∧ Q (.bool k) m1) (hg : Gl X "isinstance" := by rfl) (hgB : Gl X x := by rfl)
    (hd : (x == ("__debug__" : Str)) = false := by decide)
    (he : starEach [a, .Name x p2] X.env = (false, eval a X.env) :: starEach [.Name x p2] X.env := by rfl) (he2 : starEach [.Name x p2] X.env = (false, eval (.Name x p2) X.env) :: starEach [] X.env := by rfl) (hpl : (backTo pos (starEach [.Name x p2] X.env)).any (·.1) = false := by rfl) : WE X (.Call (.Name "isinstance" p) [a, .Name x p2] [] pos) L m Q :=
  we_of (pe_callB call_isX hg hm (by decide +kernel) (pa_cons (peU a) (pa_cons (pe_glob (v := .ref B) hgB hB rfl hd) pa_nil he2) he) (he := he) (hpl := hpl)) fun w σ H r => h.go r fun w1 v y m1 H1 l1 r1 d1 ⟨C, z, k, e1, ok, ek, q⟩ => by
    subst e1
    obtain ⟨a0, d, vv, e2, e3, e4, e5⟩ := d1
    subst e2
    exact ⟨a0, C, d, B, _, k, rfl, r1.toHR.fz _ _ e3, r1.toHR.fz _ _ e4, ok, ek, w1, _, m1, l1, r1.toHR, .bl k, q⟩
end
abbrev XQ := Addr → PyData → PP.Loc → Mem → Prop
def XW (K : PySem.W.Frag) (w : Wd) (e : XQ) : WX := fun cls d σ H => ∃ (C dd : Addr) (w' : Wd) (L' : PP.Loc) (m' : Mem) (vv : V) (y : PyData), cls = .ref C ∧ d = some dd ∧ w.le w' ∧ Rep K w' L' m' σ H ∧ w'.F dd = some (.xd [("value", vv)]) ∧ DP K w'.F vv y ∧ e C y L' m'
theorem takes_le {X : Cx} {w w1 : Wd} {e : XQ} (l : w.le w1) (t : Takes X (XW X.K w e)) : Takes X (XW X.K w1 e) :=
  t.imp fun _ _ _ _ ⟨C, dd, w', L', m', vv, y, h1, h2, l', r⟩ => ⟨C, dd, w', L', m', vv, y, h1, h2, l.trans l', r⟩
section
variable (X : Cx)
def WSX (st : Stmt) (L : PP.Loc) (m : Mem) (D : PEnds) (e : XQ) : Prop := ∀ (w : Wd) (σ : L2.St) (H : Hp), Rep X.K w L m σ H → Takes X (XW X.K w e) → tUS X st (toE X.K w D) σ H
def WSsX (st : List Stmt) (L : PP.Loc) (m : Mem) (D : PEnds) (e : XQ) : Prop := ∀ (w : Wd) (σ : L2.St) (H : Hp), Rep X.K w L m σ H → Takes X (XW X.K w e) → tUSs X st (toE X.K w D) σ H
def WEX (a : Expr) (L : PP.Loc) (m : Mem) (e : XQ) : Prop := ∀ (w : Wd) (σ : L2.St) (H : Hp), Rep X.K w L m σ H → Takes X (XW X.K w e) → tU X a σ H (fun _ _ => False)
end
section
variable {X : Cx} {L : PP.Loc} {m : Mem} {a b c tg : Expr} {es : List Expr} {st : Stmt} {rest body : List Stmt} {pos p pos' : Pos} {D : PEnds} {e : XQ}
theorem wssx_cons (h : WSX X st L m { D with nx := fun L1 m1 => WSsX X rest L1 m1 D e } e) : WSsX X (st :: rest) L m D e := fun w σ H r t pins s I =>
  (pss_cons (psU st) (pssU rest)).run pins s σ H _ I (tUS_mono (h w σ H r t) (fun σ' H' ⟨w', L', m', l, r', q⟩ => tUSs_back l (q w' σ' H' r' (takes_le l t))) (fun _ _ h => h) (fun _ _ h => h) (fun _ _ h => h))
theorem wssx_one (h : WSX X st L m D e) : WSsX X [st] L m D e := fun w σ H r t pins s I => (pss_one (psU st)).run pins s σ H _ I (h w σ H r t)
theorem wsx_if {t f : List Stmt} (h : WT X.nox c L m fun k m1 => (k = true → WSsX X t L m1 D e) ∧ (k = false → WSsX X f L m1 D e)) : WSX X (.If c t f pos) L m D e := fun w σ H r tk pins s I =>
  (ps_if (PT.nox (ptU (X := X.nox) c)) (pssU t) (pssU f)).run pins s σ H _ I (h.go (X := X.nox) r fun w1 k m1 H1 l1 r1 ⟨q1, q2⟩ => by
    cases k with
    | true => rw [if_pos rfl]; exact tUSs_back l1 (q1 rfl _ _ _ r1 (takes_le l1 tk))
    | false => rw [if_neg Bool.false_ne_true]; exact tUSs_back l1 (q2 rfl _ _ _ r1 (takes_le l1 tk)))
theorem wsx_expr (h : WEX X a L m e) (hs : swapsWith a none pos.line X.env = pure false := by rfl) : WSX X (.Expr a pos) L m D e := fun w σ H r t pins s I =>
  (ps_expr (peU a) hs).run pins s σ H _ I (tU_mono (h w σ H r t) fun _ _ z => False.elim z)
theorem wsx_set {x : Str} (i : Nat) (hN : X.N.Nodup) (hi : X.N[i]? = some x) (hx : L2.Loc X.env.scope x) (h : WEX X a L m e) (hs : swapsWith a (some (.Name x pos')) pos.line X.env = pure false := by rfl) (hf : X.fn x = true ∨ X.env.scope.names.lookup x = some .local := by first | exact .inl rfl | exact .inr rfl | assumption) : WSX X (.Assign [.Name x pos'] a pos) L m D e := fun w σ H r t pins s I =>
  (ps_set hN hi hx (peU a) hs hf).run pins s σ H _ I (tU_mono (h w σ H r t) fun _ _ z => False.elim z)
theorem upd_del {H : Hp} {a dx : Addr} {u o1 o2 o3 : HO} (na : H a = none) (hne : dx ≠ a) : upd (L2.del (upd (upd (upd H a o1) dx o2) a o3) a) dx u = upd H dx u := by
  funext b
  by_cases h1 : b = dx
  · subst h1; rw [upd_same, upd_same]
  · rw [upd_ne h1, upd_ne h1]
    by_cases h2 : b = a
    · subst h2; rw [L2.del_same, na]
    · rw [L2.del_ne h2, upd_ne h2, upd_ne h1, upd_ne h2]
theorem wsx_raise {x : Str} {C : Addr} (hc : X.calm = true) (B : EOk X.prog X.w X.K X.mg X.base x C (spIn X.K)) (hr : Room 2 X.A) (h : WE X.nox a L m fun y m1 => e C y L m1) (hg : Gl X x := by rfl) (hdb : (x == ("__debug__" : Str)) = false := by decide)
    (he : starEach [a] X.env = (false, eval a X.env) :: starEach [] X.env := by rfl) (hpl : (backTo pos' (starEach [] X.env)).any (·.1) = false := by rfl) : WSX X (.Raise (some (.Call (.Name x p) [a] [] pos')) none pos) L m D e := fun w σ H r t pins s I => by
  obtain ⟨fI, fd, i1, i2, i3, i4⟩ := B.ini
  refine (ps_raise hc t (pmk_oex (ds := []) (dvs := []) B.T i1 i2 i3 (hr.mono (by decide)) i4 .nil pass0 hg B.m (pa_cons (PE.nox (peU (X := X.nox) a)) pa_nil he) hdb he hpl)).run pins s σ H _ I ?_
  refine h.go (X := X.nox) r fun w1 v y m1 H1 l1 r1 d1 q => ?_
  refine ⟨by show 1 ≤ 1000; decide, fun a0 na => ?_⟩
  refine ⟨a0, C, v, rfl, upd_same, B.T, B.nv, fun dx hdx hne => ⟨rfl, dx, [("value", v)], upd_same, ?_, ?_, ?_⟩⟩
  · rw [upd_ne hne, upd_same]
  · rwa [upd_ne hne] at hdx
  · rw [upd_ne hne] at hdx
    rw [upd_del na hne]
    obtain ⟨l2, hr2⟩ := r1.toHR.fnew (o := .xd [("value", v)]) hdx
    exact ⟨C, dx, _, L, m1, v, y, rfl, rfl, l1.trans l2, r1.go l2 hr2, upd_same, dp_mono l2.sub _ _ d1, q⟩
abbrev FSpX := List PV → Mem → (Addr → PyData → Mem → Prop) → Prop
def toSpX (K : PySem.W.Frag) (f : FSpX) : Sp := fun vs H _ E => ∃ (w : Wd) (pvs : List PV) (m : Mem) (q : Addr → PyData → Mem → Prop), HR K w m H ∧ RVs K w vs pvs ∧ f pvs m q ∧
  ∀ (w' : Wd) (C d : Addr) (vv : V) (y : PyData) (m' : Mem) (H' : Hp), w.le w' → HR K w' m' H' → w'.F d = some (.xd [("value", vv)]) → DP K w'.F vv y → q C y m' → E (.ref C) (some d) H'
def CallAskX (sp : FSpX) (ks : List Nat) (pvs : List PV) (m : Mem) (q : Addr → PyData → Mem → Prop) : Prop := ks.Nodup ∧ (∀ k ∈ ks, k < m.length) ∧ (∀ p ∈ pvs, refsIn ks p) ∧ sp (pvs.map (ren ks)) (cellsAt m ks) q
theorem callX_read {sp : FSpX} {ks : List Nat} {w w1 : Wd} {σ : L2.St} {H1 : Hp} {vs : List V} {pvs : List PV} {m1 : Mem} {Q : VK} (l1 : w.le w1) (r1 : Rep X.K w1 L m1 σ H1) (d1 : RVs X.K w1 vs pvs) (h : CallAskX sp ks pvs m1 fun C y mc => backB none ks mc = true ∧ e C y L (setAll m1 ks mc)) : toSpX X.K sp vs H1 Q (L2.WE (XW X.K w e) σ) := by
  obtain ⟨nd, hl, hi, hs⟩ := h
  refine ⟨_, _, _, _, r1.toHR.subWorld nd hl, sub_rvs r1.toHR hl d1 hi, hs, fun w' C d vv y mc H' l hr' hd dy ⟨hmc, qq⟩ => ?_⟩
  obtain ⟨l3, hr3⟩ := r1.toHR.back (mo := []) (ex := []) nd hl l (by rw [List.append_nil]; exact hr') hmc
  exact ⟨C, d, _, L, _, vv, y, rfl, rfl, l1.trans l3, r1.go l3 hr3, hd, dy, qq⟩
theorem tUA_nox {σ : L2.St} {H : Hp} {Q : List V → Hp → Prop} (h : tUA X.nox es σ H Q) : tUA X es σ H Q := fun pos pins s I =>
  wpAny_mono (h pos pins s (I.wish _)) (fun _ _ ⟨v, H', I', r, q⟩ => ⟨v, H', I'.unwish, r, q⟩) fun _ _ z => False.elim z
theorem wex_call {x : Str} {k : Nat} {f : Addr} {fd : FuncData} {ps : List Str} {sp : FSpX} {a0 : Expr} (ks : List Nat) (F : FnOk X.prog X.w X.K X.mg X.base (L2.CX X.prog X.w) k f fd ps (toSpX X.K sp)) (hr : Room k X.A) (hm : X.mg x = some (.ref f)) (hk : PySem.W.keepIn X.K (.ref f) = true) (hb : Binds X.K fd ps [])
    (h : WA X.nox (a0 :: es) L m fun pvs m1 => CallAskX sp ks pvs m1 fun C y mc => backB none ks mc = true ∧ e C y L (setAll m1 ks mc))
    (hg : Gl X x := by rfl) (hdb : (x == ("__debug__" : Str)) = false := by decide) (he : starEach (a0 :: es) X.env = (false, eval a0 X.env) :: starEach es X.env := by rfl) (hpl : (backTo pos (starEach es X.env)).any (·.1) = false := by rfl) : WEX X (.Call (.Name x p) (a0 :: es) [] pos) L m e := fun w σ H r t pins s I => by
  refine (pe_callS (E := L2.WE (XW X.K w e)) F hr hg hm hk hb (fun σ => passAt t σ) (paU (a0 :: es)) hdb he hpl).run pins s σ H _ I (tUA_nox (WA.go (X := X.nox) h r fun w1 vs pvs m1 H1 l1 r1 d1 q => ?_))
  exact callX_read l1 r1 d1 q
theorem inv_suite {pins : List (Addr × Obj)} {σ : L2.St} {H : Hp} {s : Shared} (I : Inv X pins σ H s) (a : Addr) : Inv (X.suite a (X.pn ++ pins)) [] σ H s :=
  ⟨I.ok.suite _ _, I.os, I.bare, I.base, I.loc, I.cell, I.free, I.freeC, fun q hq => I.pin q (by rw [List.append_nil] at hq; exact hq), I.hok, I.len⟩
theorem inv_unsuite {pins pn' : List (Addr × Obj)} {σ : L2.St} {H : Hp} {s : Shared} {a : Addr} (I : Inv (X.suite a (X.pn ++ pins)) pn' σ H s) (ok : X.Ok) : Inv X pins σ H s :=
  ⟨ok, I.os, I.bare, I.base, I.loc, I.cell, I.free, I.freeC, fun q hq => I.pin q (List.mem_append_left _ hq), I.hok, I.len⟩
theorem inv_note {pins : List (Addr × Obj)} {σ : L2.St} {H : Hp} {s : Shared} {a : Addr} {o : HO} (I : Inv X pins σ H s) (na : H a = none) (h0 : X.s_0.heap.get? a = none) (nL : a ≠ X.env.locals) (nc : ∀ x c, X.env.cells.lookup x = some c → c ≠ a) (np : ∀ q ∈ X.pn ++ pins, q.1 ≠ a) (new : ObjOk X.prog X.w (upd H a o) s.heap a o) : Inv X pins σ (upd H a o) s := by
  have ne : ∀ {b : Addr} {u : HO}, H b = some u → b ≠ a := fun {b u} e => ne_of_none e na
  refine ⟨I.ok, I.os, I.bare, ⟨I.base.keep, I.base.slot, fun b u e n hx => ?_, I.base.there, fun b xs e => ?_, fun b ob u e => ?_, fun b ts e => ?_⟩, I.loc, I.cell, ?_, fun x c e => ?_, fun q hq => ?_, fun b u e => ?_, I.len⟩
  · rw [upd_ne (fun z => by rw [z, h0] at e; cases e)]
    exact I.base.free b u e n hx
  · have z := I.base.tups b xs e
    rw [upd_ne (ne z)]; exact z
  · have z := I.base.frzs b ob u e
    rw [upd_ne (ne z)]; exact z
  · obtain ⟨more, z⟩ := I.base.tbls b ts e
    exact ⟨more, by rw [upd_ne (ne z)]; exact z⟩
  · rw [upd_ne (Ne.symm nL)]; exact I.free
  · rw [upd_ne (nc x c e)]; exact I.freeC x c e
  · obtain ⟨e1, e2, e3⟩ := I.pin q hq
    exact ⟨e1, by rw [upd_ne (np q hq)]; exact e2, e3⟩
  · by_cases hb : b = a
    · subst hb
      rw [upd_same] at e; cases e
      exact new
    · rw [upd_ne hb] at e
      exact (I.hok b u e).stay (fun _ _ _ z => z) (fun c hc => by rw [upd_ne (ne hc)]; exact hc) fun c xs hc => by rw [upd_ne (ne hc)]; exact hc
def HQ (X : Cx) (D : PEnds) : List ExceptHandler → Addr → PyData → PP.Loc → Mem → Prop
  | .ExceptHandler (some (.Name x _)) (some n) (b₀ :: su) _ :: hs, C, y, L, m => ∃ (i : Nat) (c : Value) (k : Bool), X.N[i]? = some n ∧ X.env.kindOf n = some .local ∧ Names X x c ∧ PySem.W.exmOne X.K (.ref C) c = some k ∧
      (k = true → ∀ (a : Addr) (pn : List (Addr × Obj)), WSs (X.suite a pn) (b₀ :: su) (L.set i (some (.exc C y))) m { nx := fun L m => D.nx (L.set i none) m, rt := D.rt, bk := fun L m => D.bk (L.set i none) m, ct := fun L m => D.ct (L.set i none) m }) ∧ (k = false → HQ X D hs C y L m)
  | _, _, _, _, _ => False
theorem hq_as {x n : Str} {np pos2 : Pos} {b₀ : Stmt} {su : List Stmt} {hs : List ExceptHandler} {C : Addr} {y : PyData} {c : Value} (i : Nat) (hi : X.N[i]? = some n) (hl : X.env.kindOf n = some .local) (hn : Names X x c) (hm : PySem.W.exmOne X.K (.ref C) c = some true)
    (h : ∀ (a : Addr) (pn : List (Addr × Obj)), WSs (X.suite a pn) (b₀ :: su) (L.set i (some (.exc C y))) m { nx := fun L m => D.nx (L.set i none) m, rt := D.rt, bk := fun L m => D.bk (L.set i none) m, ct := fun L m => D.ct (L.set i none) m }) : HQ X D (.ExceptHandler (some (.Name x np)) (some n) (b₀ :: su) pos2 :: hs) C y L m :=
  ⟨i, c, true, hi, hl, hn, hm, fun _ => h, fun z => nomatch z⟩
theorem rep_wipe {K : PySem.W.Frag} {w : Wd} {σ : L2.St} {H : Hp} (r : Rep K w L m σ H) (i : Nat) : Rep K w (L.set i none) m (σ.set i none) H :=
  ⟨r.toHR, by rw [List.length_set, List.length_set]; exact r.sl, fun j q e => by
    by_cases hj : i = j
    · subst hj
      by_cases hi : i < L.length
      · rw [List.getElem?_set_self hi] at e; cases e
      · rw [List.getElem?_eq_none (by rw [List.length_set]; omega)] at e; cases e
    · rw [List.getElem?_set_ne hj] at e
      obtain ⟨v, h1, h2⟩ := r.loc j q e
      exact ⟨v, by rw [List.getElem?_set_ne hj]; exact h1, h2⟩⟩
theorem ws_tryX {h₀ : ExceptHandler} {hds : List ExceptHandler} (hs : X.stack = X.env :: X.outer) (hf : X.env.frame = some X.env.locals) (hN : X.N.Nodup) (hex : X.ex = [])
    (h : ∀ (pn : List (Addr × Obj)) (xe : Value → Shared → Prop), PassesOwn (model X.prog X.w) X.A X.env xe → WSsX (X.tr pn xe) body L m D (HQ X D (h₀ :: hds))) : WS X (.Try body (h₀ :: hds) [] [] pos) L m D := fun w σ H r pins s I => by
  have ok := I.ok
  have hfr : X.A.frames = some (X.env :: X.outer) := ok.frames.trans (congrArg some hs)
  refine wpAny_Try_except ?_
  refine wpAny_mono (h (X.pn ++ pins) (fun e s₁ => wpAny (model X.prog X.w) X.A (noteFrame e X.env) (fun _ s₂ => wpAny (model X.prog X.w) X.A (setFlight e none)
    (fun _ s₃ => wpAny (model X.prog X.w) X.A (handleBy e X.env (h₀ :: hds)) (SP X pins (toE X.K w D)) X.xe s₃) X.xe s₂) X.xe s₁) PassesOwn.looking w σ H r (fun u s' xx => ?_) [] s (I.toTry _)) (fun f s1 hsp => ?_) (fun e s1 he => he)
  · obtain ⟨a, B, sI, pins', σ', H', cls, d, rfl, J', nb, up, sky, na, os, ag, C, dd, w', L', m', vv, y, rfl, rfl, l, r', hF, hd, hq⟩ := xx
    have J : Inv X pins σ' H' sI := J'.ofTry ok
    have sky' : Sky B (X.env :: X.outer) a (Zc (.ref C) (some dd)) X.env.locals s'.heap := hs ▸ sky
    refine Sky.land Zc.steady hfr hf sky' fun h3 fl3 up3 => ?_
    have J3 : Inv X pins σ' H' { s' with heap := h3 } := J.landed nb fl3.1 (up.trans up3) os ag
    obtain ⟨oe3, vs3, he3, hz3, hd3⟩ := fl3.there
    have nfr : a ∉ frs (X.env :: X.outer) := fun hm => by
      obtain ⟨_, o', e', hnf⟩ := fl3.2.2.1.mem hm
      rw [he3] at e'; cases e'
      exact hnf _ hd3
    have nL : a ≠ X.env.locals := fun z => nfr (List.mem_filterMap.mpr ⟨X.env, List.mem_cons_self, z ▸ hf⟩)
    have nI : sI.heap.get? a = none := by
      cases q : sI.heap.get? a with
      | none => rfl
      | some o =>
        have z := nb a o q (hs ▸ nfr)
        rw [fl3.2.1] at z; cases z
    have n0 : X.s_0.heap.get? a = none := by
      cases q : X.s_0.heap.get? a with
      | none => rfl
      | some o =>
        obtain ⟨o', z⟩ := J.base.there a o q (by rw [hex]; simp)
        rw [nI] at z; cases z
    have nC : ∀ x c, X.env.cells.lookup x = some c → c ≠ a := fun x c e z => by
      obtain ⟨v, hc⟩ := J.cell x c e
      obtain ⟨o, q, _⟩ := hc
      rw [z, nI] at q; cases q
    have nP : ∀ q ∈ X.pn ++ pins, q.1 ≠ a := fun q hq z => by
      have e := (J.pin q hq).1
      rw [z, nI] at e; cases e
    have S3 := inv_suite J3 a
    have go : ∀ hds' : List ExceptHandler, HQ X D hds' C y L' m' → wpAny (model X.prog X.w) X.A (handleBy (.ref a) X.env hds') (SP X pins (toE X.K w D)) X.xe { s' with heap := h3 } := by
      intro hds'
      induction hds' with
      | nil => intro z; exact z.elim
      | cons hh rest ih =>
        intro z
        match hh, z with
        | .ExceptHandler (some (.Name x np)) (some n) (b₀ :: su) pos2, ⟨i, c, k, hi, hln, hc, hx, hyes, hno⟩ =>
        refine wpAny_handleBy_cons (codeAny_handlers_test ?_) (by intro q; cases q)
        have LM := PySem.W.exm_one (M := model X.prog X.w) (h := h3) J3.kIn (fun A Q E s k q => wpAny_typeOf_ref (k _ _ he3) (by rw [hz3.1]; exact q)) hx
        have test : ∀ {Q : Value → Shared → Prop} {E : Value → Shared → Prop}, Q c { s' with heap := h3 } → wpAny (model X.prog X.w) (X.A.mark (some (.ref a))) (eval (.Name x np) X.env) Q E { s' with heap := h3 } := fun {Q E} q => by
          obtain ⟨hg, hdbg, hm | ⟨hm, hv, hnn⟩⟩ := hc
          · exact ld_glob (X := X.suite a (X.pn ++ pins)) S3 hg hm q hdbg
          · exact ld_blt (X := X.suite a (X.pn ++ pins)) S3 hg hm hv q hnn hdbg
        refine test (LM.here ?_)
        cases k with
        | false => exact ih (hno rfl)
        | true =>
          refine codeAny_handlers_suite_as (HandSPX.lands_againZ fl3 fun h4 fl4 up4 => ?_)
          have J4 : Inv X pins σ' H' { s' with heap := h4 } := J.landed nb fl4.1 ((up.trans up3).trans up4) os ag
          obtain ⟨oe4, vs4, he4, hz4, hd4⟩ := fl4.there
          have K4 := inv_note J4 na n0 nL nC nP (exH_ok (C := C) (d := dd) he4 hz4.1 hz4.2 hd4)
          have S4 := inv_suite K4 a
          obtain ⟨l2, hr2⟩ := r'.toHR.fnew (o := exH a C dd) na
          refine store_ok (X := X.suite a (X.pn ++ pins)) (v := .ref a) S4 hN hi (.inl hln) rfl (fun s5 S5 => ?_) (.inr hln)
          have rv : RV X.K (w'.fz a (exH a C dd)) (.ref a) (.exc C y) := ⟨a, dd, vv, rfl, upd_same, l2.sub _ _ hF, dp_mono l2.sub _ _ hd⟩
          have r5 := (r'.go l2 hr2).set (i := i) rv
          refine wpAny_mono (hyes rfl a (X.pn ++ pins) _ _ _ r5 [] s5 S5) (fun f s6 hsp => ?_) (fun _ _ z => False.elim z)
          have fin : ∀ {σ6 : L2.St} {H6 : Hp} {Q : Shared → Prop}, Inv (X.suite a (X.pn ++ pins)) [] σ6 H6 s6 → (∀ s7, Inv X pins (σ6.set i none) H6 s7 → Q s7) →
              wpAny (model X.prog X.w) X.A (do bindName X.env n .none; unbindBehindTheSuite X.env n pos2) (fun _ s7 => Q s7) X.xe s6 := fun {σ6 H6 Q} S6 hq => gone_ok (inv_unsuite S6 ok) hN hi hln hq
          have wp : ∀ {N : PP.Loc → Mem → Prop} {σ6 : L2.St} {H6 : Hp}, POS X.K (w'.fz a (exH a C dd)) (fun L m => N (L.set i none) m) σ6 H6 → POS X.K w N (σ6.set i none) H6 := fun {N σ6 H6} ⟨w6, L6, m6, l6, r6, q6⟩ => ⟨w6, _, m6, (l.trans l2).trans l6, rep_wipe r6 i, q6⟩
          match f, hsp with
          | .next, ⟨σ6, H6, S6, q6⟩ => exact fin S6 fun s7 J7 => ⟨_, _, J7, wp q6⟩
          | .brk, ⟨σ6, H6, S6, q6⟩ => exact fin S6 fun s7 J7 => ⟨_, _, J7, wp q6⟩
          | .cont, ⟨σ6, H6, S6, q6⟩ => exact fin S6 fun s7 J7 => ⟨_, _, J7, wp q6⟩
          | .ret u, ⟨v6, σ6, H6, S6, r6, q6⟩ => exact fin S6 fun s7 J7 => ⟨_, _, _, J7, r6, POV.back (l.trans l2) q6⟩
    exact go _ hq
  · match f, hsp with
    | .next, ⟨σ', H', J', q⟩ => exact wpAny_execs_nil ⟨σ', H', J'.ofTry ok, q⟩
    | .brk, ⟨σ', H', J', q⟩ => exact ⟨σ', H', J'.ofTry ok, q⟩
    | .cont, ⟨σ', H', J', q⟩ => exact ⟨σ', H', J'.ofTry ok, q⟩
    | .ret u, ⟨v, σ', H', J', rr, q⟩ => exact ⟨v, σ', H', J'.ofTry ok, rr, q⟩
end
section
variable {P : Program} {w : World} {K : PySem.W.Frag} {mg : Str → Option Value} {base : Heap}
abbrev DXx (P : Program) (w : World) (K : PySem.W.Frag) (mg : Str → Option Value) (base : Heap) (N : List Str) (qual : Str) (st : Stmt) (f : Addr) (cdv : Value) (A : Around) (outer : List Env) (s : Shared) (H : Hp) (E : XK) : Cx := cxOf (L2.CX P w) P w K mg base N qual (defScope st) f cdv A outer s H E
abbrev fnN : PEnds := { nx := fun _ _ => False, rt := fun _ _ => False }
theorem fnx_pp {x qual : Str} {st : Stmt} {f : Addr} {fd : FuncData} {N ps : List Str} {k : Nat} {sp : FSpX} (F : Fun K x qual st f fd) (S : FnScope N ps (defScope st)) (len : ∀ pvs m q, sp pvs m q → pvs.length = ps.length)
    (body : ∀ (cdv : Value) (A : Around) (outer : List Env) (s : Shared) (H : Hp) (E : XK), Room k (DXx P w K mg base N qual st f cdv A outer s H E).A → PassesOwn (model P w) (DXx P w K mg base N qual st f cdv A outer s H E).A (DXx P w K mg base N qual st f cdv A outer s H E).env (DXx P w K mg base N qual st f cdv A outer s H E).xe → ∀ pvs m q, sp pvs m q →
      WSsX (DXx P w K mg base N qual st f cdv A outer s H E) (defBody st) (startL N pvs) m fnN (fun C y _ m' => m.length ≤ m'.length ∧ q C y (m'.take m.length))) :
    FnOk P w K mg base (L2.CX P w) (k + 1) f fd ps (toSpX K sp) := by
  refine F.okX S (fun vs H Q E ⟨w, pvs, m, q, hr, r, h, k⟩ => by rw [r.length]; exact len _ _ _ h) fun cdv A outer s H vs Q E hrm h => ?_
  refine ⟨_, pssU _, ?_⟩
  obtain ⟨wd, pvs, m, q, hr, r, h, kk⟩ := h
  have tk : Takes (DXx P w K mg base N qual st f cdv A outer s H E) (fun cls d _ H => E cls d H) := takes_of rfl rfl rfl rfl
  refine tUSs_mono (body cdv A outer s H E hrm (passes_of rfl) pvs m q h wd _ H (rep_start N hr r) (tk.imp ?_)) ?_ ?_ ?_ ?_
  · rintro cls d σ H' ⟨C, dd, w', L', m', vv, y, rfl, rfl, l, r', hF, hd, hn, qq⟩
    exact kk (w'.cut m.length) C dd vv y _ H' (l.cut (by rw [hr.len]; exact Nat.le_refl _)) (r'.toHR.cut m.length) hF hd qq
  · rintro σ' H' ⟨_, _, _, _, _, z⟩; exact z.elim
  · rintro v H' ⟨_, _, _, _, _, _, z⟩; exact z.elim
  · rintro σ' H' ⟨_, _, _, _, _, z⟩; exact z.elim
  · rintro σ' H' ⟨_, _, _, _, _, z⟩; exact z.elim
end
end PP
namespace PP
open PySem PySem.Spec PyProof.Rows L2
end PP
namespace PySem.W
open PySem PySem.Calls PyProof.Rows
end PySem.W
namespace PP
open PySem PySem.Spec PyProof.Rows L2
open PySem.W (AllAlike Sortable dataLe dataLt EachIs sorted_data)
end PP
namespace PP
open PySem PySem.Spec PyProof.Rows L2
section
variable {X : Cx}
def mkJ (s : Shared) (s' : Shared) : Prop := ∃ (h' : Heap) (t' : Nat), s' = { s with heap := h', toks := t' } ∧ ∀ b o, s.heap.get? b = some o → h'.get? b = some o
theorem mkJ.keep {s s1 s' : Shared} {wr : List Addr} (j : mkJ s s1) (m : Moved wr (fun a b : Array GenState => b = a) s1 s') (hw : ∀ b ∈ wr, s.heap.objs.size ≤ b) : mkJ s s' := by
  obtain ⟨h1, t1, rfl, k⟩ := j
  obtain ⟨mh, mg, md, mo, mt⟩ := m
  refine ⟨s'.heap, s'.toks, ?_, fun b o e => mh b o (fun z => ?_) (k b o e)⟩
  · cases s' with
    | mk h g d t o =>
      simp only at mg md mo
      subst mg; subst md; subst mo
      rfl
  · have z1 := hw b z
    exact absurd (Heap.lt_size e) (Nat.not_lt.mpr z1)
end
end PP
namespace PP
open PySem PySem.Spec PyProof.Rows L2
end PP
namespace PP
open PySem PySem.Spec PyProof.Rows L2
end PP
namespace PP
open PySem PySem.Spec PyProof.Rows L2
section
variable {X : Cx} {L : PP.Loc} {m : Mem} {a b : Expr} {pos p : Pos} {Q : QE}
theorem we_gcd (hm : X.mg "gcd" = some (.builtin "math.gcd")) (h : WE X a L m fun x m1 => WE X b L m1 fun y m2 => ∃ i j : Int, x = .int i ∧ y = .int j ∧ Q (.int ((Nat.gcd i.natAbs j.natAbs : Nat) : Int)) m2) (hg : Gl X "gcd" := by rfl) (he : starEach [a, b] X.env = (false, eval a X.env) :: starEach [b] X.env := by rfl)
    (he2 : starEach [b] X.env = (false, eval b X.env) :: starEach [] X.env := by rfl) (hpl : (backTo pos (starEach [b] X.env)).any (·.1) = false := by rfl) : WE X (.Call (.Name "gcd" p) [a, b] [] pos) L m Q :=
  we_of (pe_callMB cr_gcd hg hm (paU [a, b]) (by decide) he hpl) fun w σ H r => WA.go (wd2 h he he2) r fun w1 vs ps m1 H1 l1 r1 d1 ⟨x, y, e1, i, j, e2, e3, q⟩ => by
    subst e1; subst e2; subst e3
    obtain ⟨v, u, rfl, d1, d2⟩ := rvs2 d1
    exact ⟨i, j, by rw [dp_int d1, dp_int d2], w1, _, m1, l1, r1.toHR, .int _, q⟩
def rIsXT (K : PySem.W.Frag) : List V → Hp → VK → Prop := fun xs H Q => ∃ (a0 C d : Addr) (T : String) (fs : List (Str × V)) (k : Bool), xs = [.ref a0, .ty T] ∧ H a0 = some (exH a0 C d) ∧ H d = some (.xd fs) ∧ ExOk K C ∧ PySem.W.kitOne K (.ref C) (.type T) = some k ∧ Q (.bl k) H
theorem exc_kitx {pins : List (Addr × Obj)} {σ : L2.St} {H : Hp} {s : Shared} {a0 C d : Addr} {fs : List (Str × V)} (I : Inv X pins σ H s) (e1 : H a0 = some (exH a0 C d)) (e2 : H d = some (.xd fs)) (ok : ExOk X.K C) :
    ∃ P : Heap → Prop, PySem.W.KitX X.K (.ref a0) (.ref C) P ∧ P s.heap := by
  obtain ⟨oe, od, mA, J, _, _, _⟩ := exc_inst I e1 e2
  have hcl : (PySem.W.clsIn X.K C).isSome = true := by
    obtain ⟨cd, hc, _⟩ := PySem.W.any_some ok.F.hdC
    rw [hc]; rfl
  exact ⟨_, PySem.W.kitx_exc hcl ok.F.ga ok.F.gg ok.F.exC ok.cc ok.gg ok.tk ok.ob, J⟩
theorem call_isXT : CallR X (.builtin "isinstance") (rIsXT X.K) := by
  intro pins s σ H xs us Q I r ⟨a0, C, d, T, fs, k, ex, e1, e2, ok, ek, q⟩
  subst ex
  obtain ⟨u1, u2, rfl, r1, r2⟩ := vals2 r
  cases (show u1 = Value.ref a0 from r1)
  cases (show u2 = Value.type T from r2)
  obtain ⟨P, Z, J⟩ := exc_kitx I e1 e2 ok
  exact PySem.W.kia_one Z I.kIn J ek (fun z => nomatch z) fun t => ⟨.bl k, H, I.kept (t' := t) fun _ _ z => z, rfl, q⟩
theorem kit_ve {K : PySem.W.Frag} {C : Addr} (h : PySem.W.subIn K (.ref C) (.type "ValueError") = some true) : PySem.W.kitOne K (.ref C) (.type "ValueError") = some true := by
  unfold PySem.W.kitOne
  rw [show (Value.ref C == Value.type "ValueError") = false from Bool.eq_false_iff.mpr fun q => (nomatch beq_iff_eq.mp q), if_neg Bool.false_ne_true]
  unfold PySem.W.kitCls
  dsimp only
  rw [if_pos (by decide +kernel : PySem.W.kitMeta "ValueError" = true)]
  exact h
theorem we_isKB {T : String} {x : Str} {p2 : Pos} (hm : X.mg "isinstance" = none) (hmT : X.mg x = none) (hb : bootBuiltins x = some (.type T)) (h : WV X a L m fun y m1 => ∃ C z k, y = .exc C z ∧ ExOk X.K C ∧ PySem.W.kitOne X.K (.ref C) (.type T) = some k ∧ Q (.bool k) m1) (hg : Gl X "isinstance" := by rfl) (hgB : Gl X x := by rfl)
    (hn : x ≠ "__name__" := by decide) (hd : (x == ("__debug__" : Str)) = false := by decide)
    (he : starEach [a, .Name x p2] X.env = (false, eval a X.env) :: starEach [.Name x p2] X.env := by rfl) (he2 : starEach [.Name x p2] X.env = (false, eval (.Name x p2) X.env) :: starEach [] X.env := by rfl) (hpl : (backTo pos (starEach [.Name x p2] X.env)).any (·.1) = false := by rfl) : WE X (.Call (.Name "isinstance" p) [a, .Name x p2] [] pos) L m Q :=
  we_of (pe_callB call_isXT hg hm (by decide +kernel) (pa_cons (peU a) (pa_cons (pe_bltn (v := .ty T) hgB hmT hb rfl hn hd) pa_nil he2) he) (he := he) (hpl := hpl)) fun w σ H r => h.go r fun w1 v y m1 H1 l1 r1 d1 ⟨C, z, k, e1, ok, ek, q⟩ => by
    subst e1
    obtain ⟨a0, d, vv, e2, e3, e4, e5⟩ := d1
    subst e2
    exact ⟨a0, C, d, T, _, k, rfl, r1.toHR.fz _ _ e3, r1.toHR.fz _ _ e4, ok, ek, w1, _, m1, l1, r1.toHR, .bl k, q⟩
def rIsXS (K : PySem.W.Frag) : List V → Hp → VK → Prop := fun xs H Q => ∃ (a0 C d tp : Addr) (cs : List V) (us : List Value) (fs : List (Str × V)) (k : Bool), xs = [.ref a0, .ref tp] ∧ H tp = some (.tup cs) ∧ Paired ClsV cs us ∧ H a0 = some (exH a0 C d) ∧ H d = some (.xd fs) ∧ ExOk K C ∧ PySem.W.kitAny K (.ref C) us = some k ∧ Q (.bl k) H
theorem call_isXS : CallR X (.builtin "isinstance") (rIsXS X.K) := by
  intro pins s σ H xs us Q I r ⟨a0, C, d, tp, cs, ws, fs, k, ex, hT, pk, e1, e2, ok, ek, q⟩
  subst ex
  obtain ⟨u1, u2, rfl, r1, r2⟩ := vals2 r
  cases (show u1 = Value.ref a0 from r1)
  cases (show u2 = Value.ref tp from r2)
  obtain ⟨P, Z, J⟩ := exc_kitx I e1 e2 ok
  obtain ⟨_, its, rv, o, h1, h2, n, h3⟩ := (show ObjOk X.prog X.w H s.heap tp (.tup cs) from I.hok tp _ hT)
  have e3 := ClsV.all pk rv
  subst e3
  obtain ⟨oc, od, dt, sl⟩ := o
  simp only at h2 h3
  subst h2 h3
  exact PySem.W.kia_tup Z I.kIn J h1 ek (fun z => nomatch z) fun t => ⟨.bl k, H, I.kept (t' := t) fun _ _ z => z, rfl, q⟩
theorem we_isK3 {x y z : Str} {n1 : Nat} {p2 p3 p4 p5 : Pos} {A B D : Addr} (hm : X.mg "isinstance" = none) (hA : X.mg x = some (.ref A)) (hB : X.mg y = some (.ref B)) (hD : X.mg z = some (.ref D))
    (h : WV X a L m fun v m1 => ∃ C u i j k, v = .exc C u ∧ ExOk X.K C ∧ PySem.W.kitOne X.K (.ref C) (.ref A) = some i ∧ PySem.W.kitOne X.K (.ref C) (.ref B) = some j ∧ PySem.W.kitOne X.K (.ref C) (.ref D) = some k ∧ Q (.bool (i || (j || k))) m1) (hg : Gl X "isinstance" := by rfl) (hgA : Gl X x := by rfl) (hgB : Gl X y := by rfl) (hgD : Gl X z := by rfl)
    (hd1 : (x == ("__debug__" : Str)) = false := by decide) (hd2 : (y == ("__debug__" : Str)) = false := by decide) (hd3 : (z == ("__debug__" : Str)) = false := by decide)
    (he : starEach [a, .Tuple [.Name x p2, .Name y p3, .Name z p4] n1 p5] X.env = (false, eval a X.env) :: starEach [.Tuple [.Name x p2, .Name y p3, .Name z p4] n1 p5] X.env := by rfl) (he2 : starEach [.Tuple [.Name x p2, .Name y p3, .Name z p4] n1 p5] X.env = (false, eval (.Tuple [.Name x p2, .Name y p3, .Name z p4] n1 p5) X.env) :: starEach [] X.env := by rfl)
    (he3 : starEach [.Name x p2, .Name y p3, .Name z p4] X.env = (false, eval (.Name x p2) X.env) :: starEach [.Name y p3, .Name z p4] X.env := by rfl) (he4 : starEach [.Name y p3, .Name z p4] X.env = (false, eval (.Name y p3) X.env) :: starEach [.Name z p4] X.env := by rfl) (he5 : starEach [.Name z p4] X.env = (false, eval (.Name z p4) X.env) :: starEach [] X.env := by rfl)
    (hpl : (backTo pos (starEach [.Tuple [.Name x p2, .Name y p3, .Name z p4] n1 p5] X.env)).any (·.1) = false := by rfl) : WE X (.Call (.Name "isinstance" p) [a, .Tuple [.Name x p2, .Name y p3, .Name z p4] n1 p5] [] pos) L m Q :=
  we_of (pe_callB call_isXS hg hm (by decide +kernel) (pa_cons (peU a) (pa_cons (pe_tup (pa_cons (pe_glob (v := .ref A) hgA hA rfl hd1) (pa_cons (pe_glob (v := .ref B) hgB hB rfl hd2) (pa_cons (pe_glob (v := .ref D) hgD hD rfl hd3) pa_nil he5) he4) he3)) pa_nil he2) he) (he := he) (hpl := hpl)) fun w σ H r => h.go r fun w1 v y m1 H1 l1 r1 d1 ⟨C, u, i, j, k, e1, ok, ei, ej, ek, q⟩ => by
    subst e1
    obtain ⟨a0, d, vv, e2, e3, e4, e5⟩ := d1
    subst e2
    refine ⟨szl (by simp), fun t ht => ?_⟩
    obtain ⟨l2, hr2⟩ := r1.toHR.fnew (o := .tup [.ref A, .ref B, .ref D]) ht
    refine ⟨a0, C, d, t, _, [.ref A, .ref B, .ref D], _, i || (j || k), rfl, upd_same, .cons (.own A) (.cons (.own B) (.cons (.own D) .nil)), hr2.fz _ _ (l2.sub _ _ e3), hr2.fz _ _ (l2.sub _ _ e4), ok, ?_, _, _, m1, l1.trans l2, hr2, .bl _, q⟩
    exact kitAny_cons ei (fun hi => kitAny_cons ej (fun hj => kitAny_cons ek (fun hk => by rw [hi, hj, hk]; rfl) fun hk => by rw [hi, hj, hk]; rfl) fun hj => by rw [hi, hj]; rfl) fun hi => by rw [hi]; rfl
theorem we_fdivN (h : WE X a L m fun x m1 => WE X b L m1 fun y m2 => AskI x y fun i j => CDivN i j ∧ Q (.int (i.fdiv j)) m2) : WE X (.BinOp a .FloorDiv b pos) L m Q := we_op op_fdivN (h.mono fun _ _ h => h.mono fun _ _ q => opw_I q)
theorem ws_whileW {c : Expr} {body : List Stmt} {D : PEnds} (hp : PassesOwn (model X.prog X.w) X.A X.env X.xe) (I : Nat → PP.Loc → Mem → Prop) (n0 : Nat) (h0 : I n0 L m)
    (hs : ∀ n L1 m1, m.length = m1.length → I n L1 m1 → WT X c L1 m1 fun k m2 => (k = true → WSs X body L1 m2 { D with nx := fun L3 m3 => ∃ L4 m4, Wk m1.length L3 m3 L4 m4 ∧ m4.length = m1.length ∧ ∃ n', n' < n ∧ I n' L4 m4, ct := fun L3 m3 => ∃ L4 m4, Wk m1.length L3 m3 L4 m4 ∧ m4.length = m1.length ∧ ∃ n', n' < n ∧ I n' L4 m4, bk := D.nx }) ∧ (k = false → D.nx L1 m2)) : WS X (.While c body [] pos) L m D := by
  refine ws_of (ps_while hp (ptU c) (pssU body)) fun w σ H r => ?_
  refine ⟨fun n σ' H' => ∃ w' L' m', w.le w' ∧ Rep X.K w' L' m' σ' H' ∧ m.length = m'.length ∧ I n L' m', ⟨n0, w, L, m, .refl w, r, rfl, h0⟩, fun n σ1 H1 ⟨w1, L1, m1, l1, r1, hl, q1⟩ => ?_⟩
  refine (hs n L1 m1 hl q1).go r1 fun w2 k m2 H2 l2 r2 ⟨qt, qf⟩ => ?_
  have nxt : ∀ (σ' : L2.St) (H' : Hp), POS X.K w2 (fun L3 m3 => ∃ L4 m4, Wk m1.length L3 m3 L4 m4 ∧ m4.length = m1.length ∧ ∃ n', n' < n ∧ I n' L4 m4) σ' H' → ∃ w' L' m', w.le w' ∧ Rep X.K w' L' m' σ' H' ∧ m.length = m'.length ∧ ∃ n', n' < n ∧ I n' L' m' := fun σ' H' ⟨w', L3, m3, l, r', L4, m4, k, hl4, q⟩ => by
    obtain ⟨w5, r5, h5⟩ := k.rep r'
    exact ⟨w5, L4, m4, h5 w (by rw [r.toHR.len, hl]; exact Nat.le_refl _) ((l1.trans l2).trans l), r5, hl.trans hl4.symm, q⟩
  cases k with
  | true =>
    rw [if_pos rfl]
    refine ⟨fun σ' H' => ∃ w' L' m', w.le w' ∧ Rep X.K w' L' m' σ' H' ∧ m.length = m'.length ∧ ∃ n', n' < n ∧ I n' L' m', fun σ' H' ⟨w', L', m', l, r', hl', n', hn, q⟩ => ⟨n', hn, w', L', m', l, r', hl', q⟩, ?_⟩
    refine tUSs_mono (qt rfl w2 σ1 H2 r2) ?_ ?_ ?_ ?_
    · exact nxt
    · exact fun v H' q => POV.back (l1.trans l2) q
    · exact fun σ' H' q => POS.back (l1.trans l2) q
    · exact nxt
  | false =>
    rw [if_neg Bool.false_ne_true]
    exact ⟨w2, L1, m2, l1.trans l2, r2, qf rfl⟩
end
end PP
namespace JJ
open PySem PySem.Spec PP L2
def PH (ws : List Int) : Prop := ws.length ≤ 100 ∧ ∀ c ∈ ws, Bd 100000 c
def spPlusH : FSp := fun pvs m q => ∃ a b : List Int, pvs = [.d (tI a), .d (tI b)] ∧ m = [] ∧ Pol a ∧ Pol b ∧ PH a ∧ PH b ∧ q (.d (tI (plusP a b))) []
def spTimesH : FSp := fun pvs m q => ∃ a b : List Int, pvs = [.d (tI a), .d (tI b)] ∧ m = [] ∧ Pol a ∧ Pol b ∧ PH a ∧ PH b ∧ q (.d (tI (timesP a b))) []
def ovF (h : Int) : Nat → Int
  | 0 => 1
  | k + 1 => ovF h k * (h - (k : Int)) / ((k : Int) + 1)
theorem ovF_bd {h : Int} (h0 : 0 ≤ h) (h1 : h ≤ 64) : ∀ k : Nat, k ≤ 64 → Bd (8 * k + 8) (ovF h k)
  | 0, _ => by show Bd 8 (1 : Int); exact Bd.lit
  | k + 1, hk => by
    have := (ovF_bd h0 h1 k (by omega)).mul (show Bd 8 (h - (k : Int)) by show (h - (k : Int)).natAbs < 2 ^ 8; omega)
    exact bd_div this
def uF (n : Nat) : Nat → List Int
  | 0 => List.replicate (n + 1) 0
  | j + 1 => (uF n j).set (n - 2 * j) (ovF ((n : Int) - (j : Int)) j * (1 - 2 * ((j : Int) % 2)))
theorem uF_len {n : Nat} : ∀ j, (uF n j).length = n + 1
  | 0 => List.length_replicate
  | j + 1 => by unfold uF; rw [List.length_set, uF_len j]
def uL (n : Nat) : List Int := uF n (n / 2 + 1)
def uT : List (List Int) := [[1], [0, 1], [-1, 0, 1], [0, -2, 0, 1], [1, 0, -3, 0, 1], [0, 3, 0, -4, 0, 1], [-1, 0, 6, 0, -5, 0, 1], [0, -4, 0, 10, 0, -6, 0, 1], [1, 0, -10, 0, 15, 0, -7, 0, 1], [0, 5, 0, -20, 0, 21, 0, -8, 0, 1], [-1, 0, 15, 0, -35, 0, 28, 0, -9, 0, 1], [0, -6, 0, 35, 0, -56, 0, 36, 0, -10, 0, 1], [1, 0, -21, 0, 70, 0, -84, 0, 45, 0, -11, 0, 1], [0, 7, 0, -56, 0, 126, 0, -120, 0, 55, 0, -12, 0, 1], [-1, 0, 28, 0, -126, 0, 210, 0, -165, 0, 66, 0, -13, 0, 1], [0, -8, 0, 84, 0, -252, 0, 330, 0, -220, 0, 78, 0, -14, 0, 1], [1, 0, -36, 0, 210, 0, -462, 0, 495, 0, -286, 0, 91, 0, -15, 0, 1], [0, 9, 0, -120, 0, 462, 0, -792, 0, 715, 0, -364, 0, 105, 0, -16, 0, 1], [-1, 0, 45, 0, -330, 0, 924, 0, -1287, 0, 1001, 0, -455, 0, 120, 0, -17, 0, 1], [0, -10, 0, 165, 0, -792, 0, 1716, 0, -2002, 0, 1365, 0, -560, 0, 136, 0, -18, 0, 1], [1, 0, -55, 0, 495, 0, -1716, 0, 3003, 0, -3003, 0, 1820, 0, -680, 0, 153, 0, -19, 0, 1], [0, 11, 0, -220, 0, 1287, 0, -3432, 0, 5005, 0, -4368, 0, 2380, 0, -816, 0, 171, 0, -20, 0, 1], [-1, 0, 66, 0, -715, 0, 3003, 0, -6435, 0, 8008, 0, -6188, 0, 3060, 0, -969, 0, 190, 0, -21, 0, 1], [0, -12, 0, 286, 0, -2002, 0, 6435, 0, -11440, 0, 12376, 0, -8568, 0, 3876, 0, -1140, 0, 210, 0, -22, 0, 1], [1, 0, -78, 0, 1001, 0, -5005, 0, 12870, 0, -19448, 0, 18564, 0, -11628, 0, 4845, 0, -1330, 0, 231, 0, -23, 0, 1], [0, 13, 0, -364, 0, 3003, 0, -11440, 0, 24310, 0, -31824, 0, 27132, 0, -15504, 0, 5985, 0, -1540, 0, 253, 0, -24, 0, 1], [-1, 0, 91, 0, -1365, 0, 8008, 0, -24310, 0, 43758, 0, -50388, 0, 38760, 0, -20349, 0, 7315, 0, -1771, 0, 276, 0, -25, 0, 1], [0, -14, 0, 455, 0, -4368, 0, 19448, 0, -48620, 0, 75582, 0, -77520, 0, 54264, 0, -26334, 0, 8855, 0, -2024, 0, 300, 0, -26, 0, 1], [1, 0, -105, 0, 1820, 0, -12376, 0, 43758, 0, -92378, 0, 125970, 0, -116280, 0, 74613, 0, -33649, 0, 10626, 0, -2300, 0, 325, 0, -27, 0, 1], [0, 15, 0, -560, 0, 6188, 0, -31824, 0, 92378, 0, -167960, 0, 203490, 0, -170544, 0, 100947, 0, -42504, 0, 12650, 0, -2600, 0, 351, 0, -28, 0, 1], [-1, 0, 120, 0, -2380, 0, 18564, 0, -75582, 0, 184756, 0, -293930, 0, 319770, 0, -245157, 0, 134596, 0, -53130, 0, 14950, 0, -2925, 0, 378, 0, -29, 0, 1], [0, -16, 0, 680, 0, -8568, 0, 50388, 0, -167960, 0, 352716, 0, -497420, 0, 490314, 0, -346104, 0, 177100, 0, -65780, 0, 17550, 0, -3276, 0, 406, 0, -30, 0, 1], [1, 0, -136, 0, 3060, 0, -27132, 0, 125970, 0, -352716, 0, 646646, 0, -817190, 0, 735471, 0, -480700, 0, 230230, 0, -80730, 0, 20475, 0, -3654, 0, 435, 0, -31, 0, 1], [0, 17, 0, -816, 0, 11628, 0, -77520, 0, 293930, 0, -705432, 0, 1144066, 0, -1307504, 0, 1081575, 0, -657800, 0, 296010, 0, -98280, 0, 23751, 0, -4060, 0, 465, 0, -32, 0, 1], [-1, 0, 153, 0, -3876, 0, 38760, 0, -203490, 0, 646646, 0, -1352078, 0, 1961256, 0, -2042975, 0, 1562275, 0, -888030, 0, 376740, 0, -118755, 0, 27405, 0, -4495, 0, 496, 0, -33, 0, 1], [0, -18, 0, 969, 0, -15504, 0, 116280, 0, -497420, 0, 1352078, 0, -2496144, 0, 3268760, 0, -3124550, 0, 2220075, 0, -1184040, 0, 475020, 0, -142506, 0, 31465, 0, -4960, 0, 528, 0, -34, 0, 1], [1, 0, -171, 0, 4845, 0, -54264, 0, 319770, 0, -1144066, 0, 2704156, 0, -4457400, 0, 5311735, 0, -4686825, 0, 3108105, 0, -1560780, 0, 593775, 0, -169911, 0, 35960, 0, -5456, 0, 561, 0, -35, 0, 1], [0, 19, 0, -1140, 0, 20349, 0, -170544, 0, 817190, 0, -2496144, 0, 5200300, 0, -7726160, 0, 8436285, 0, -6906900, 0, 4292145, 0, -2035800, 0, 736281, 0, -201376, 0, 40920, 0, -5984, 0, 595, 0, -36, 0, 1], [-1, 0, 190, 0, -5985, 0, 74613, 0, -490314, 0, 1961256, 0, -5200300, 0, 9657700, 0, -13037895, 0, 13123110, 0, -10015005, 0, 5852925, 0, -2629575, 0, 906192, 0, -237336, 0, 46376, 0, -6545, 0, 630, 0, -37, 0, 1], [0, -20, 0, 1330, 0, -26334, 0, 245157, 0, -1307504, 0, 4457400, 0, -10400600, 0, 17383860, 0, -21474180, 0, 20030010, 0, -14307150, 0, 7888725, 0, -3365856, 0, 1107568, 0, -278256, 0, 52360, 0, -7140, 0, 666, 0, -38, 0, 1], [1, 0, -210, 0, 7315, 0, -100947, 0, 735471, 0, -3268760, 0, 9657700, 0, -20058300, 0, 30421755, 0, -34597290, 0, 30045015, 0, -20160075, 0, 10518300, 0, -4272048, 0, 1344904, 0, -324632, 0, 58905, 0, -7770, 0, 703, 0, -39, 0, 1], [0, 21, 0, -1540, 0, 33649, 0, -346104, 0, 2042975, 0, -7726160, 0, 20058300, 0, -37442160, 0, 51895935, 0, -54627300, 0, 44352165, 0, -28048800, 0, 13884156, 0, -5379616, 0, 1623160, 0, -376992, 0, 66045, 0, -8436, 0, 741, 0, -40, 0, 1], [-1, 0, 231, 0, -8855, 0, 134596, 0, -1081575, 0, 5311735, 0, -17383860, 0, 40116600, 0, -67863915, 0, 86493225, 0, -84672315, 0, 64512240, 0, -38567100, 0, 18156204, 0, -6724520, 0, 1947792, 0, -435897, 0, 73815, 0, -9139, 0, 780, 0, -41, 0, 1], [0, -22, 0, 1771, 0, -42504, 0, 480700, 0, -3124550, 0, 13037895, 0, -37442160, 0, 77558760, 0, -119759850, 0, 141120525, 0, -129024480, 0, 92561040, 0, -52451256, 0, 23535820, 0, -8347680, 0, 2324784, 0, -501942, 0, 82251, 0, -9880, 0, 820, 0, -42, 0, 1], [1, 0, -253, 0, 10626, 0, -177100, 0, 1562275, 0, -8436285, 0, 30421755, 0, -77558760, 0, 145422675, 0, -206253075, 0, 225792840, 0, -193536720, 0, 131128140, 0, -70607460, 0, 30260340, 0, -10295472, 0, 2760681, 0, -575757, 0, 91390, 0, -10660, 0, 861, 0, -43, 0, 1], [0, 23, 0, -2024, 0, 53130, 0, -657800, 0, 4686825, 0, -21474180, 0, 67863915, 0, -155117520, 0, 265182525, 0, -347373600, 0, 354817320, 0, -286097760, 0, 183579396, 0, -94143280, 0, 38608020, 0, -12620256, 0, 3262623, 0, -658008, 0, 101270, 0, -11480, 0, 903, 0, -44, 0, 1], [-1, 0, 276, 0, -12650, 0, 230230, 0, -2220075, 0, 13123110, 0, -51895935, 0, 145422675, 0, -300540195, 0, 471435600, 0, -573166440, 0, 548354040, 0, -417225900, 0, 254186856, 0, -124403620, 0, 48903492, 0, -15380937, 0, 3838380, 0, -749398, 0, 111930, 0, -12341, 0, 946, 0, -45, 0, 1], [0, -24, 0, 2300, 0, -65780, 0, 888030, 0, -6906900, 0, 34597290, 0, -119759850, 0, 300540195, 0, -565722720, 0, 818809200, 0, -927983760, 0, 834451800, 0, -600805296, 0, 348330136, 0, -163011640, 0, 61523748, 0, -18643560, 0, 4496388, 0, -850668, 0, 123410, 0, -13244, 0, 990, 0, -46, 0, 1], [1, 0, -300, 0, 14950, 0, -296010, 0, 3108105, 0, -20030010, 0, 86493225, 0, -265182525, 0, 601080390, 0, -1037158320, 0, 1391975640, 0, -1476337800, 0, 1251677700, 0, -854992152, 0, 472733756, 0, -211915132, 0, 76904685, 0, -22481940, 0, 5245786, 0, -962598, 0, 135751, 0, -14190, 0, 1035, 0, -47, 0, 1], [0, 25, 0, -2600, 0, 80730, 0, -1184040, 0, 10015005, 0, -54627300, 0, 206253075, 0, -565722720, 0, 1166803110, 0, -1855967520, 0, 2319959400, 0, -2310789600, 0, 1852482996, 0, -1203322288, 0, 635745396, 0, -273438880, 0, 95548245, 0, -26978328, 0, 6096454, 0, -1086008, 0, 148995, 0, -15180, 0, 1081, 0, -48, 0, 1], [-1, 0, 325, 0, -17550, 0, 376740, 0, -4292145, 0, 30045015, 0, -141120525, 0, 471435600, 0, -1166803110, 0, 2203961430, 0, -3247943160, 0, 3796297200, 0, -3562467300, 0, 2707475148, 0, -1676056044, 0, 847660528, 0, -350343565, 0, 118030185, 0, -32224114, 0, 7059052, 0, -1221759, 0, 163185, 0, -16215, 0, 1128, 0, -49, 0, 1], [0, -26, 0, 2925, 0, -98280, 0, 1560780, 0, -14307150, 0, 84672315, 0, -347373600, 0, 1037158320, 0, -2333606220, 0, 4059928950, 0, -5567902560, 0, 6107086800, 0, -5414950296, 0, 3910797436, 0, -2311801440, 0, 1121099408, 0, -445891810, 0, 145008513, 0, -38320568, 0, 8145060, 0, -1370754, 0, 178365, 0, -17296, 0, 1176, 0, -50, 0, 1], [1, 0, -351, 0, 20475, 0, -475020, 0, 5852925, 0, -44352165, 0, 225792840, 0, -818809200, 0, 2203961430, 0, -4537567650, 0, 7307872110, 0, -9364199760, 0, 9669554100, 0, -8122425444, 0, 5586853480, 0, -3159461968, 0, 1471442973, 0, -563921995, 0, 177232627, 0, -45379620, 0, 9366819, 0, -1533939, 0, 194580, 0, -18424, 0, 1225, 0, -51, 0, 1], [0, 27, 0, -3276, 0, 118755, 0, -2035800, 0, 20160075, 0, -129024480, 0, 573166440, 0, -1855967520, 0, 4537567650, 0, -8597496600, 0, 12875774670, 0, -15471286560, 0, 15084504396, 0, -12033222880, 0, 7898654920, 0, -4280561376, 0, 1917334783, 0, -708930508, 0, 215553195, 0, -53524680, 0, 10737573, 0, -1712304, 0, 211876, 0, -19600, 0, 1275, 0, -52, 0, 1], [-1, 0, 378, 0, -23751, 0, 593775, 0, -7888725, 0, 64512240, 0, -354817320, 0, 1391975640, 0, -4059928950, 0, 9075135300, 0, -15905368710, 0, 22239974430, 0, -25140840660, 0, 23206929840, 0, -17620076360, 0, 11058116888, 0, -5752004349, 0, 2481256778, 0, -886163135, 0, 260932815, 0, -62891499, 0, 12271512, 0, -1906884, 0, 230300, 0, -20825, 0, 1326, 0, -53, 0, 1], [0, -28, 0, 3654, 0, -142506, 0, 2629575, 0, -28048800, 0, 193536720, 0, -927983760, 0, 3247943160, 0, -8597496600, 0, 17672631900, 0, -28781143380, 0, 37711260990, 0, -40225345056, 0, 35240152720, 0, -25518731280, 0, 15338678264, 0, -7669339132, 0, 3190187286, 0, -1101716330, 0, 314457495, 0, -73629072, 0, 13983816, 0, -2118760, 0, 249900, 0, -22100, 0, 1378, 0, -54, 0, 1], [1, 0, -406, 0, 27405, 0, -736281, 0, 10518300, 0, -92561040, 0, 548354040, 0, -2319959400, 0, 7307872110, 0, -17672631900, 0, 33578000610, 0, -51021117810, 0, 62852101650, 0, -63432274896, 0, 52860229080, 0, -36576848168, 0, 21090682613, 0, -10150595910, 0, 4076350421, 0, -1362649145, 0, 377348994, 0, -85900584, 0, 15890700, 0, -2349060, 0, 270725, 0, -23426, 0, 1431, 0, -55, 0, 1], [0, 29, 0, -4060, 0, 169911, 0, -3365856, 0, 38567100, 0, -286097760, 0, 1476337800, 0, -5567902560, 0, 15905368710, 0, -35345263800, 0, 62359143990, 0, -88732378800, 0, 103077446706, 0, -98672427616, 0, 78378960360, 0, -51915526432, 0, 28760021745, 0, -13340783196, 0, 5178066751, 0, -1677106640, 0, 450978066, 0, -99884400, 0, 18009460, 0, -2598960, 0, 292825, 0, -24804, 0, 1485, 0, -56, 0, 1], [-1, 0, 435, 0, -31465, 0, 906192, 0, -13884156, 0, 131128140, 0, -834451800, 0, 3796297200, 0, -12875774670, 0, 33578000610, 0, -68923264410, 0, 113380261800, 0, -151584480450, 0, 166509721602, 0, -151532656696, 0, 114955808528, 0, -73006209045, 0, 38910617655, 0, -17417133617, 0, 6540715896, 0, -2054455634, 0, 536878650, 0, -115775100, 0, 20358520, 0, -2869685, 0, 316251, 0, -26235, 0, 1540, 0, -57, 0, 1], [0, -30, 0, 4495, 0, -201376, 0, 4272048, 0, -52451256, 0, 417225900, 0, -2310789600, 0, 9364199760, 0, -28781143380, 0, 68923264410, 0, -131282408400, 0, 202112640600, 0, -254661927156, 0, 265182149218, 0, -229911617056, 0, 166871334960, 0, -101766230790, 0, 52251400851, 0, -22595200368, 0, 8217822536, 0, -2505433700, 0, 636763050, 0, -133784560, 0, 22957480, 0, -3162510, 0, 341055, 0, -27720, 0, 1596, 0, -58, 0, 1], [1, 0, -465, 0, 35960, 0, -1107568, 0, 18156204, 0, -183579396, 0, 1251677700, 0, -6107086800, 0, 22239974430, 0, -62359143990, 0, 137846528820, 0, -244662670200, 0, 353697121050, 0, -421171648758, 0, 416714805914, 0, -344867425584, 0, 239877544005, 0, -140676848445, 0, 69668534468, 0, -29135916264, 0, 10272278170, 0, -3042312350, 0, 752538150, 0, -154143080, 0, 25827165, 0, -3478761, 0, 367290, 0, -29260, 0, 1653, 0, -59, 0, 1], [0, 31, 0, -4960, 0, 237336, 0, -5379616, 0, 70607460, 0, -600805296, 0, 3562467300, 0, -15471286560, 0, 51021117810, 0, -131282408400, 0, 269128937220, 0, -446775310800, 0, 608359048206, 0, -686353797976, 0, 646626422970, 0, -511738760544, 0, 341643774795, 0, -192928249296, 0, 92263734836, 0, -37353738800, 0, 12777711870, 0, -3679075400, 0, 886322710, 0, -177100560, 0, 28989675, 0, -3819816, 0, 395010, 0, -30856, 0, 1711, 0, -60, 0, 1]]
def vU (k : Nat) : List Int := match k with
  | 0 => []
  | k + 1 => uT.getD k []
def okB (ws : List Int) : Bool := decide (ws.length ≤ 62) && (ws.isEmpty || !decide (ws.getD (ws.length - 1) 0 = 0)) && ws.all fun c => decide (c.natAbs < 2 ^ 80)
theorem okB_of {ws : List Int} (h : okB ws = true) : Pol ws ∧ ws.length ≤ 62 ∧ ∀ c ∈ ws, Bd 80 c := by
  unfold okB at h
  simp only [Bool.and_eq_true, decide_eq_true_eq, Bool.or_eq_true, List.isEmpty_iff, Bool.not_eq_true', decide_eq_false_iff_not, List.all_eq_true] at h
  exact ⟨h.1.2, h.1.1, h.2⟩
theorem okB_PH {ws : List Int} (h : okB ws = true) : PH ws := ⟨by have := (okB_of h).2.1; omega, fun c hc => ((okB_of h).2.2 c hc).mono (by decide)⟩
theorem uL_tab : ∀ n < 62, uL n = uT.getD n [] := by decide +kernel
theorem vU_uL {n : Nat} (h : n < 62) : vU (n + 1) = uL n := (uL_tab n h).symm
theorem vU_ok : ∀ k < 63, okB (vU k) = true := by decide +kernel
theorem vU_len : ∀ k < 63, (vU k).length = k := by decide +kernel
def addQ : List Int → List Int → List Int
  | [], b => b
  | x :: a, [] => x :: a
  | x :: a, y :: b => (x + y) :: addQ a b
theorem ev_addQ {x : Int} : ∀ a b : List Int, ev (addQ a b) x = ev a x + ev b x
  | [], b => by rw [addQ]; show _ = 0 + _; omega
  | y :: a, [] => by rw [addQ]; show _ = _ + 0; omega
  | y :: a, z :: b => by
    rw [addQ]
    show (y + z) + x * ev (addQ a b) x = (y + x * ev a x) + (z + x * ev b x)
    rw [ev_addQ a b, Int.mul_add]; omega
def scQ (f : Int) (b : List Int) : List Int := b.map fun c => f * c
theorem ev_scQ {f x : Int} : ∀ b : List Int, ev (scQ f b) x = f * ev b x
  | [] => by show 0 = f * 0; simp
  | y :: b => by
    show f * y + x * ev (scQ f b) x = f * (y + x * ev b x)
    rw [ev_scQ b, Int.mul_add, Int.mul_left_comm]
def mulQ : List Int → List Int → List Int
  | [], _ => []
  | x :: a, b => addQ (scQ x b) (0 :: mulQ a b)
theorem ev_mulQ {x : Int} : ∀ a b : List Int, ev (mulQ a b) x = ev a x * ev b x
  | [], b => by show (0 : Int) = 0 * _; simp
  | y :: a, b => by
    rw [mulQ, ev_addQ, ev_scQ]
    show y * ev b x + (0 + x * ev (mulQ a b) x) = (y + x * ev a x) * ev b x
    rw [ev_mulQ a b, Int.add_mul, Int.mul_assoc]; omega
def padQ : Nat → List Int → List Int
  | 0, p => p
  | w + 1, p => 0 :: padQ w p
theorem ev_padQ {x : Int} {p : List Int} : ∀ w, ev (padQ w p) x = x ^ w * ev p x
  | 0 => by rw [padQ]; simp
  | w + 1 => by
    rw [padQ]
    show 0 + x * ev (padQ w p) x = _
    rw [ev_padQ w, Int.pow_succ, Int.mul_comm (x ^ w) x, Int.mul_assoc]; omega
theorem plus_quick {a b : List Int} : plusP a b = cutZ (addQ a b) := pol_ev cutZ_pol cutZ_pol fun x => by rw [ev_plusP, ev_cutZ, ev_addQ]
theorem times_quick {a b : List Int} : timesP a b = cutZ (mulQ a b) := pol_ev cutZ_pol cutZ_pol fun x => by rw [ev_timesP, ev_cutZ, ev_mulQ]
theorem take_quick {row p : List Int} {f : Int} {w : Nat} (h : w + p.length ≤ row.length) : cutZ (takeA row f p w) = cutZ (addQ row (padQ w (scQ (-f) p))) := pol_ev cutZ_pol cutZ_pol fun x => by
  rw [ev_cutZ, ev_cutZ, ev_take_away h, ev_addQ, ev_padQ, ev_scQ, Int.neg_mul, Int.mul_neg, Int.mul_left_comm]; omega
theorem row_step : ∀ i < 61, i = 0 ∨ cutZ (addQ (0 :: vU i) (cutZ (mulQ [-1] (vU (i - 1))))) = vU (i + 1) := by decide +kernel
theorem rowU_next {i : Nat} (h : i < 60) : plusP (0 :: vU (i + 1)) (timesP [-1] (vU i)) = vU (i + 2) := by
  rw [plus_quick, times_quick]
  rcases row_step (i + 1) (by omega) with e | e
  · omega
  · exact e
theorem row_ok : ∀ i < 61, okB (0 :: vU (i + 1)) = true ∧ okB (cutZ (mulQ [-1] (vU i))) = true := by decide +kernel
def totQ (low high : Nat) : Nat → List Int
  | 0 => []
  | k + 1 => cutZ (addQ (totQ low high k) (vU (high - low + 2 * k + 1)))
def accQ : List Int → List Int → List Int
  | [], _ => []
  | x :: a, [] => x :: a
  | x :: a, y :: b => (x + y) :: accQ a b
def sumQ (low high : Nat) : Nat → List Int
  | 0 => List.replicate (low + high + 1) 0
  | k + 1 => accQ (sumQ low high k) (vU (high - low + 2 * k + 1))
theorem prod_ok : ∀ low < 15, ∀ high < 30, low ≤ high → ((List.range (low + 2)).all fun k => okB (totQ low high k)) = true ∧ cutZ (mulQ (vU (low + 1)) (vU (high + 1))) = totQ low high (low + 1) ∧ sumQ low high (low + 1) = totQ low high (low + 1) := by decide +kernel
def lstZ (ws : List Int) : Int := ws.getD (ws.length - 1) 0
def gN (a b : Int) : Nat := Nat.gcd a.natAbs b.natAbs
def mapR (r o : List Int) : List Int := r.map fun c => lstZ o / (gN (lstZ r) (lstZ o) : Nat) * c
def restS (r o : List Int) : List Int := cutZ (takeA (mapR r o) (lstZ r / (gN (lstZ r) (lstZ o) : Nat)) o (r.length - o.length))
def restQ (r o : List Int) : List Int := cutZ (addQ (mapR r o) (padQ (r.length - o.length) (scQ (-(lstZ r / (gN (lstZ r) (lstZ o) : Nat))) o)))
theorem rest_quick {r o : List Int} (h : o.length ≤ r.length) : restS r o = restQ r o := take_quick (by unfold mapR; rw [List.length_map]; omega)
def restF : Nat → List Int → List Int → Option (List Int)
  | 0, r, o => if r.length < o.length then some r else none
  | k + 1, r, o => if r.length < o.length then some r else if okB (restQ r o) then restF k (restQ r o) o else none
def contN (ws : List Int) : Nat := ws.foldl (fun g c => Nat.gcd g c.natAbs) 0
def primF (ws : List Int) : List Int := if ws = [] then [] else ws.map fun c => c.fdiv (if lstZ ws > 0 then (contN ws : Int) else -(contN ws : Int))
def nxI (a b : Nat) : Nat := if a < b then a else if a % b = 0 then 0 else if a % (2 * b) < b then a % (2 * b) else 2 * b - a % (2 * b)
def chkR (r : List Int) : Bool := okB r && (r.isEmpty || decide (0 < contN r ∧ contN r < 1000000000))
theorem rest_tab : ∀ a < 31, ∀ b < 31, b = 0 ∨ ∃ r, restF 40 (vU a) (vU b) = some r ∧ chkR r = true ∧ primF r = vU (nxI a b) := by
  have h : ∀ a < 31, ∀ b < 31, b = 0 ∨ ((restF 40 (vU a) (vU b)).isSome = true ∧ chkR ((restF 40 (vU a) (vU b)).getD []) = true ∧ primF ((restF 40 (vU a) (vU b)).getD []) = vU (nxI a b)) := by decide +kernel
  intro a ha b hb
  rcases h a ha b hb with e | ⟨e1, e2, e3⟩
  · exact .inl e
  · obtain ⟨r, hr⟩ := Option.isSome_iff_exists.mp e1
    rw [hr] at e2 e3
    exact .inr ⟨r, hr, e2, e3⟩
theorem cont_tab : ∀ a < 31, a = 0 ∨ (contN (vU a) = 1 ∧ primF (vU a) = vU a ∧ lstZ (vU a) = 1) := by decide +kernel
def cmF : Nat → Nat → Nat → Option Nat
  | 0, a, b => if b = 0 then some a else none
  | k + 1, a, b => if b = 0 then some a else cmF k b (nxI a b)
theorem nx_le : ∀ a < 31, ∀ b < 31, b = 0 ∨ nxI a b < 31 := by decide +kernel
theorem cm_tab : ∀ a < 31, ∀ b < 31, a = 0 ∨ b = 0 ∨ cmF 40 a b = some (Nat.gcd a b) := by decide +kernel
def dvF : Nat → List Int → List Int → List Int × List Int
  | 0, r, _ => ([], r)
  | k + 1, r, b => if r.length < b.length then ([], r) else
      let f := lstZ r
      let x := dvF k (cutZ (addQ r (padQ (r.length - b.length) (scQ (-f) b)))) b
      (addQ (padQ (r.length - b.length) [f]) x.1, x.2)
theorem dv_tab : ∀ l < 31, ∀ r < 31, l = 0 ∨ r = 0 ∨ (okB (dvF 40 (vU r) (vU l)).1 = true ∧ okB (dvF 40 (vU r) (vU l)).2 = true ∧ (dvF 40 (vU r) (vU l)).2.length + 1 ≤ (vU l).length ∧ cutZ (addQ (cutZ (mulQ (dvF 40 (vU r) (vU l)).1 (vU l))) (dvF 40 (vU r) (vU l)).2) = vU r ∧ (((dvF 40 (vU r) (vU l)).2 = []) ↔ Nat.gcd l r = l) ∧ (dvF 40 (vU r) (vU l)).1.length ≤ 31) := by decide +kernel
end JJ
namespace PP
open PySem PySem.Spec PyProof.Rows L2
section
variable {X : Cx} {L : PP.Loc} {m : Mem} {a b : Expr} {pos p : Pos} {Q : QE} {QT : Bool → Mem → Prop}
theorem wt_isnotNone (h : WE X a L m fun x m1 => WE X b L m1 fun y m2 => y = .none ∧ QT (!isNoneD x) m2) : WT X (.Compare a [.IsNot] [b] pos) L m QT :=
  wt_cmp op_notN (h.mono fun _ _ h => h.mono fun _ _ ⟨e, q⟩ w0 w H v u l hr d1 d2 => by
    subst e
    exact ⟨dp_none d2, by rw [isNone_ok d1]; exact po_bool l hr ⟨_, rfl, q⟩⟩) (nomark _) fun _ _ _ _ _ k ⟨e, q⟩ => ⟨e, k _ _ q⟩
end
end PP
namespace MM
open PySem PP L2
abbrev Asc (l : List Int) : Prop := l.Pairwise (· < ·)
theorem Asc.nd {l : List Int} (h : Asc l) : l.Nodup := List.Pairwise.imp (fun h => by omega) h
theorem Is.at {u d x : Int} {P : List (Int × Int)} {ns : List Int} (h : Is u d P ns) (h0 : 0 ≤ x) (h1 : x < u + d) : ((x, mu ns x) ∈ P ∨ (mu ns x, x) ∈ P) ∧ 0 ≤ mu ns x ∧ mu ns x < u + d ∧ mu ns x ≠ x ∧ mu ns (mu ns x) = x := by
  obtain ⟨p, hp, e⟩ := mem_ends.mp ((h.M.mem x).mpr ((ringI_mem h.hu h.hd).mpr ⟨h0, h1⟩))
  obtain ⟨w1, w2⟩ := h.W p hp
  obtain ⟨i1, i2⟩ := h.inP hp
  have ne : p.1 ≠ p.2 := fun z => by
    obtain ⟨hu, hd, _, hl, hok, _⟩ := isMat_parts h.mat
    have := (matesAt_iff.mp (hok p.1.toNat (by omega))).2.2.1
    have e2 : ns.getD p.1.toNat 0 = mu ns p.1 := rfl
    rw [e2, w1, ← z] at this
    omega
  rcases e with rfl | rfl
  · rw [w1]; exact ⟨.inl hp, i2.1, i2.2, fun z => ne z.symm, w2⟩
  · rw [w2]; exact ⟨.inr hp, i1.1, i1.2, ne, w1⟩
end MM
namespace JJ
open PySem PP L2 MM
open PySem.W (AllAlike Sortable dataLe dataLt)
def spxFrom (c : Addr) : FSpX := fun pvs m q => ∃ a b : Int, pvs = [.d (.int a), .d (.int b)] ∧ m = [] ∧ a < b ∧ q c (.int a) []
end JJ
namespace JJ
open PySem PySem.Spec PP L2
def rowU (n : Nat) : List PyData := (List.range n).map fun k => tI (vU (k + 1))
theorem rowU_len {n : Nat} : (rowU n).length = n := by unfold rowU; simp
theorem rowU_app {n : Nat} : rowU n ++ [tI (vU (n + 1))] = rowU (n + 1) := by unfold rowU; rw [List.range_succ, List.map_append]; rfl
theorem rowU_at {n k : Nat} (h : k < n) : atI (rowU n) (k : Int) = some (tI (vU (k + 1))) := atI_nat (by unfold rowU; rw [List.getElem?_map, List.getElem?_range h]; rfl)
def spURow : FSp := fun pvs m q => ∃ n : Nat, pvs = [.d (.int (n : Nat))] ∧ m = [] ∧ n ≤ 60 ∧ q (.ref 0) [some (.lst (rowU n))]
def spxURow (C : Addr) : FSpX := fun pvs m q => ∃ n : Int, pvs = [.d (.int n)] ∧ m = [] ∧ n < 0 ∧ q C (.int n) []
def spCont : FSp := fun pvs m q => ∃ ws : List Int, pvs = [.d (tI ws)] ∧ m = [] ∧ ws.length ≤ 1000 ∧ q (.d (.int (contN ws : Nat))) []
def spPrim : FSp := fun pvs m q => ∃ ws : List Int, pvs = [.d (tI ws)] ∧ m = [] ∧ chkR ws = true ∧ q (.d (tI (primF ws))) []
def spRest : FSp := fun pvs m q => ∃ a b r : List Int, pvs = [.d (tI a), .d (tI b)] ∧ m = [] ∧ okB a = true ∧ okB b = true ∧ b ≠ [] ∧ restF 40 a b = some r ∧ q (.d (tI r)) []
def spCommU : FSp := fun pvs m q => ∃ a b : Nat, pvs = [.d (tI (vU a)), .d (tI (vU b))] ∧ m = [] ∧ 0 < a ∧ a < 31 ∧ 0 < b ∧ b < 31 ∧ q (.d (tI (vU (Nat.gcd a b)))) []
def spOver : FSp := fun pvs m q => ∃ (n : Int) (k : Nat), pvs = [.d (.int n), .d (.int (k : Nat))] ∧ m = [] ∧ 0 ≤ n ∧ n ≤ 64 ∧ k ≤ 64 ∧ q (.d (.int (ovF n k))) []
def spU : FSp := fun pvs m q => ∃ n : Nat, pvs = [.d (.int (n : Nat))] ∧ m = [] ∧ n < 62 ∧ q (.d (tI (vU (n + 1)))) []
def spGcd : FSp := fun pvs m q => ∃ a b : Nat, pvs = [.d (.int (a : Nat)), .d (.int (b : Nat))] ∧ m = [] ∧ q (.d (.int (Nat.gcd a b : Nat))) []
def spRowR : FSp := fun pvs m q => ∃ (n : Nat) (g : List Int) (a b c : Int) (k : Nat), pvs = [.ref 1, .d (.int (k : Nat))] ∧ m = [some (.lst (g.map .int)), some (.own a b c)] ∧ WO n g a b c ∧ n < 900000000 ∧ k ≤ 60 ∧
  ∀ g' a' b' c', WO (n + 4) g' a' b' c' → q (.d (.bool true)) [some (.lst (g'.map .int)), some (.own a' b' c')]
def spProdR : FSp := fun pvs m q => ∃ low high : Nat, pvs = [.d (.int (low : Nat)), .d (.int (high : Nat))] ∧ m = [] ∧ low < 15 ∧ low + high < 30 ∧ low ≤ high ∧ q (.d (.bool true)) []
def spDivR : FSp := fun pvs m q => ∃ l r : Nat, pvs = [.d (.int (l : Nat)), .d (.int (r : Nat))] ∧ m = [] ∧ 0 < l ∧ l < 31 ∧ 0 < r ∧ r < 31 ∧ q (.d (.bool true)) []
def spRfU : FSp := fun pvs m q => ∃ n : Int, pvs = [.d (.int n)] ∧ m = [] ∧ n < 0 ∧ q (.d (.bool true)) []
theorem cont_next {ws : List Int} {i : Nat} {c : Int} (h : ws[i]? = some c) : Nat.gcd (contN (ws.take i)) c.natAbs = contN (ws.take (i + 1)) := by
  have e : ws.take (i + 1) = ws.take i ++ [c] := by rw [List.take_add_one, h]; rfl
  unfold contN
  rw [e, List.foldl_append]
  rfl
theorem lst_at {ws : List Int} : ws.getD (-1 + (ws.length : Int)).toNat 0 = lstZ ws := by
  unfold lstZ
  by_cases h : ws = []
  · subst h; rfl
  · have := List.length_pos_iff.mpr h
    rw [show (-1 + (ws.length : Int)).toNat = ws.length - 1 by omega]
theorem lst_ne {ws : List Int} (h : okB ws = true) (hn : ws ≠ []) : lstZ ws ≠ 0 := lastP (okB_of h).1 hn
theorem lst_bd {ws : List Int} (h : okB ws = true) (hn : ws ≠ []) : Bd 80 (lstZ ws) := by
  have := List.length_pos_iff.mpr hn
  refine (okB_of h).2.2 _ ?_
  unfold lstZ
  rw [List.getD_eq_getElem?_getD, List.getElem?_eq_getElem (by omega)]
  exact List.getElem_mem _
theorem gN_pos {a b : Int} (h : b ≠ 0) : (0 : Int) < (gN a b : Nat) := by
  have : 0 < gN a b := Nat.gcd_pos_of_pos_right _ (by omega)
  omega
theorem gN_bd {a b : Int} (h : b ≠ 0) (hb : Bd 80 b) : Bd 80 ((gN a b : Nat) : Int) := by
  have h1 : gN a b ≤ b.natAbs := Nat.gcd_le_right _ (by omega)
  show ((gN a b : Nat) : Int).natAbs < 2 ^ 80
  rw [Int.natAbs_natCast]
  exact Nat.lt_of_le_of_lt h1 hb
theorem restF_go {v : Nat} {r b res : List Int} (h : restF v r b = some res) (hl : b.length ≤ r.length) : ∃ k, v = k + 1 ∧ okB (restQ r b) = true ∧ restF k (restQ r b) b = some res := by
  cases v with
  | zero => unfold restF at h; rw [if_neg (by omega)] at h; cases h
  | succ k =>
    unfold restF at h
    rw [if_neg (by omega)] at h
    by_cases c : okB (restQ r b) = true
    · rw [if_pos c] at h; exact ⟨k, rfl, c, h⟩
    · rw [if_neg c] at h; cases h
theorem restF_end {v : Nat} {r b res : List Int} (h : restF v r b = some res) (hl : r.length < b.length) : res = r := by
  cases v with
  | zero => unfold restF at h; rw [if_pos hl] at h; exact (Option.some.inj h).symm
  | succ k => unfold restF at h; rw [if_pos hl] at h; exact (Option.some.inj h).symm
theorem cm_go {v a b g : Nat} (h : cmF v a b = some g) (hb : b ≠ 0) : ∃ k, v = k + 1 ∧ cmF k b (nxI a b) = some g := by
  cases v with
  | zero => unfold cmF at h; rw [if_neg hb] at h; cases h
  | succ k => unfold cmF at h; rw [if_neg hb] at h; exact ⟨k, rfl, h⟩
theorem cm_end {v a g : Nat} (h : cmF v a 0 = some g) : g = a := by
  cases v with
  | zero => exact (Option.some.inj h).symm
  | succ k => exact (Option.some.inj h).symm
theorem vU_nil {k : Nat} (h : k < 63) : (vU k).isEmpty = decide (k = 0) := by
  have := vU_len k h
  cases e : vU k with
  | nil => rw [e] at this; simp at this; simp [← this]
  | cons x t => rw [e] at this; simp at this; simp; omega
theorem ok_m1 : okB [-1] = true := by decide +kernel
theorem ok_1 : okB [1] = true := by decide +kernel
theorem chk_of {ws : List Int} (h : chkR ws = true) : ws.length ≤ 62 ∧ (ws ≠ [] → 0 < contN ws ∧ contN ws < 1000000000) := by
  unfold chkR at h
  rw [Bool.and_eq_true] at h
  refine ⟨(okB_of h.1).2.1, fun hn => ?_⟩
  have h2 := h.2
  rw [Bool.or_eq_true, decide_eq_true_eq, List.isEmpty_iff] at h2
  exact h2.resolve_left hn
theorem prim_map {ws : List Int} (h : ws ≠ []) : primF ws = (List.range ws.length).map fun i => (ws.getD i 0).fdiv (if lstZ ws > 0 then (contN ws : Int) else -(contN ws : Int)) := by
  unfold primF
  rw [if_neg h]
  refine List.ext_getElem (by simp) fun i h1 h2 => ?_
  rw [List.length_map] at h1
  simp only [List.getElem_map, List.getElem_range]
  rw [List.getD_eq_getElem?_getD, List.getElem?_eq_getElem h1, Option.getD_some]
theorem mapR_data {r b : List Int} : ((List.range r.length).map fun i : Nat => PyData.int (lstZ b / (gN (lstZ r) (lstZ b) : Nat) * r.getD i 0)) = (mapR r b).map .int := by
  unfold mapR
  rw [List.map_map]
  refine List.ext_getElem (by simp) fun i h1 h2 => ?_
  rw [List.length_map, List.length_range] at h1
  simp only [List.getElem_map, List.getElem_range, Function.comp]
  rw [List.getD_eq_getElem?_getD, List.getElem?_eq_getElem h1, Option.getD_some]
theorem cont_ok {a : Nat} (h0 : 0 < a) (h : a < 31) : contN (vU a) = 1 ∧ primF (vU a) = vU a := by
  rcases cont_tab a h with e | e
  · omega
  · exact ⟨e.1, e.2.1⟩
theorem chk_vU {a : Nat} (h : a < 31) : chkR (vU a) = true := by
  unfold chkR
  rw [vU_ok a (by omega), Bool.true_and]
  by_cases z : a = 0
  · subst z; rfl
  · rw [(cont_ok (by omega) h).1]; simp
theorem cm_ok {a b : Nat} (ha0 : 0 < a) (ha : a < 31) (hb0 : 0 < b) (hb : b < 31) : cmF 40 a b = some (Nat.gcd a b) := by
  rcases cm_tab a ha b hb with e | e | e
  · omega
  · omega
  · exact e
theorem rest_ok {a b : Nat} (ha : a < 31) (hb : b < 31) (h : b ≠ 0) : ∃ r, restF 40 (vU a) (vU b) = some r ∧ chkR r = true ∧ primF r = vU (nxI a b) := (rest_tab a ha b hb).resolve_left h
theorem nx_lt {a b : Nat} (ha : a < 31) (hb : b < 31) (h : b ≠ 0) : nxI a b < 31 := (nx_le a ha b hb).resolve_left h
theorem acc_len : ∀ (s p : List Int), (accQ s p).length = s.length
  | [], _ => by rw [accQ]
  | x :: s, [] => by rw [accQ]
  | x :: s, y :: p => by rw [accQ, List.length_cons, List.length_cons, acc_len s p]
theorem acc_nil : ∀ s : List Int, accQ s [] = s
  | [] => by rw [accQ]
  | x :: s => by rw [accQ]
theorem acc_next : ∀ (s p : List Int) (j : Nat) (c : Int), p[j]? = some c → j < s.length → (accQ s (p.take j)).set j ((accQ s (p.take j)).getD j 0 + c) = accQ s (p.take (j + 1))
  | x :: s, y :: p, 0, c, h, _ => by
    rw [List.getElem?_cons_zero] at h
    cases h
    rw [List.take_zero, List.take_succ_cons, List.take_zero, acc_nil, accQ, acc_nil]
    rfl
  | x :: s, y :: p, j + 1, c, h, hl => by
    rw [List.take_succ_cons, List.take_succ_cons, accQ, accQ]
    rw [List.getElem?_cons_succ] at h
    have := acc_next s p j c h (by simpa using hl)
    rw [List.set_cons_succ, List.getD_cons_succ, this]
  | [], _, j, _, _, h => absurd h (Nat.not_lt_zero _)
  | x :: s, [], j, c, h, _ => by simp at h
theorem sumQ_len {low high : Nat} : ∀ k, (sumQ low high k).length = low + high + 1
  | 0 => List.length_replicate
  | k + 1 => by rw [sumQ, acc_len, sumQ_len k]
theorem tot_ok {low high : Nat} (h1 : low < 15) (h2 : high < 30) (h : low ≤ high) {k : Nat} (hk : k < low + 2) : okB (totQ low high k) = true := by
  have := (prod_ok low h1 high h2 h).1
  rw [List.all_eq_true] at this
  exact this k (List.mem_range.mpr hk)
theorem timesU_comm {a b : List Int} : timesP a b = timesP b a := pol_ev cutZ_pol cutZ_pol fun x => by rw [ev_timesP, ev_timesP, Int.mul_comm]
theorem prod_div {low high : Nat} (h1 : low < 15) (h2 : high < 30) (h : low ≤ high) : DivOk (totQ low high (low + 1)) (vU (low + 1)) (tI (vU (high + 1))) := by
  have e := (prod_ok low h1 high h2 h).2.1
  rw [← e, ← times_quick, timesU_comm]
  have o1 := vU_ok (low + 1) (by omega)
  have o2 := vU_ok (high + 1) (by omega)
  have hl := vU_len (low + 1) (by omega)
  exact div_exact (okB_of o2).1 (okB_of o1).1 (fun z => by rw [z] at hl; simp at hl) fun x hx => ((okB_of o2).2.2 x hx).mono (by decide)
theorem row_div {l r : Nat} (hl0 : 0 < l) (hl : l < 31) (hr0 : 0 < r) (hr : r < 31) : ∃ due, DivOk (vU r) (vU l) due ∧ ((Nat.gcd l r < l ∧ due = .none) ∨ (Nat.gcd l r = l ∧ ∃ a, due = tI a ∧ Pol a ∧ PH a ∧ timesP a (vU l) = vU r)) := by
  rcases dv_tab l hl r hr with e | e | ⟨oa, ow, hw, he, hg, hal⟩
  · omega
  · omega
  · rw [← times_quick, ← plus_quick] at he
    generalize (dvF 40 (vU r) (vU l)).1 = a at *
    generalize (dvF 40 (vU r) (vU l)).2 = w at *
    have o1 := vU_ok l (by omega)
    have hll := vU_len l (by omega)
    have hD := div_mul (a := a) (b := vU l) (w := w) (okB_of oa).1 (okB_of o1).1 (okB_of ow).1 (fun z => by rw [z] at hll; simp at hll; omega) hw fun x hx => ((okB_of oa).2.2 x hx).mono (by decide)
    rw [he] at hD
    refine ⟨_, hD, ?_⟩
    by_cases c : w = []
    · refine .inr ⟨hg.mp c, a, by rw [if_pos c], (okB_of oa).1, okB_PH oa, ?_⟩
      rw [c] at he
      rw [← he]
      exact pol_ev cutZ_pol cutZ_pol fun x => by rw [ev_plusP]; show _ = _ + 0; omega
    · refine .inl ⟨?_, by rw [if_neg c]⟩
      have h1 : Nat.gcd l r ≤ l := Nat.gcd_le_left _ hl0
      have h2 : Nat.gcd l r ≠ l := fun z => c (hg.mpr z)
      omega
theorem dl_row {n : Nat} (h : n ≤ 60) : ∀ x ∈ rowU n, Dl 3 x := fun x hx => by
  obtain ⟨k, hk, rfl⟩ := List.mem_map.mp hx
  have := List.mem_range.mp hk
  exact dl_tI (by rw [vU_len _ (by omega)]; omega)
theorem shp_row {n : Nat} : shp (.list (rowU n)) := (sd_list (n := 2) fun x hx => by
  obtain ⟨k, hk, rfl⟩ := List.mem_map.mp hx
  exact sd_tuple (n := 1) sd_ints).shp
theorem div30 {a : Int} (h0 : 1 ≤ a) (h1 : a ≤ 30) : 0 < (30 : Int) / a := by
  have := (Int.le_ediv_iff_mul_le (a := 1) (b := 30) (show 0 < a by omega)).mpr (by omega)
  omega
theorem law_right {a b : Int} (h0 : 1 ≤ a) (h1 : a ≤ 30) : ∃ n : Nat, a * (1 + b % (30 / a)) = n ∧ 0 < n ∧ n < 31 := by
  have hq := div30 h0 h1
  have m0 := Int.emod_nonneg b (show (30 : Int) / a ≠ 0 by omega)
  have m1 := Int.emod_lt_of_pos b hq
  have e1 : a * (1 + b % (30 / a)) ≤ a * (30 / a) := Int.mul_le_mul_of_nonneg_left (by omega) (by omega)
  have e2 : a * (30 / a) ≤ 30 := Int.mul_ediv_self_le (by omega)
  have e3 : a * 1 ≤ a * (1 + b % (30 / a)) := Int.mul_le_mul_of_nonneg_left (by omega) (by omega)
  exact ⟨(a * (1 + b % (30 / a))).toNat, by omega, by omega, by omega⟩
theorem rowU_at2 {n k : Nat} {z : Int} (e : z = (k : Nat)) (h : k < n) : atI (rowU n) z = some (tI (vU (k + 1))) := by rw [e]; exact rowU_at h
theorem rowU_at3 {n k : Nat} {z : Int} (e : z = (k : Nat) - 1) (h0 : 0 < k) (h : k ≤ n) : atI (rowU n) z = some (tI (vU k)) := by
  rw [rowU_at2 (k := k - 1) (by omega) (by omega), show k - 1 + 1 = k by omega]
theorem pv1 {a b : Int} (h : a = b) : [PV.d (.int a)] = [PV.d (.int b)] := by rw [h]
theorem tI_range {n : Nat} {f : Nat → Int} : tI ((List.range n).map f) = .tuple ((List.range n).map fun i => .int (f i)) := by
  unfold tI
  rw [List.map_map]
  rfl
theorem dl_tI4 {ws : List Int} (h : ws.length ≤ 1000) : Dl 4 (tI ws) := dl_wordT (n := 3) h
end JJ
namespace K31
open PySem PySem.Spec PyProof.Rows L2 PP
def topS (i : Nat) : Stmt := PySem.Challenge.pw_hookmats_k31_whole_the_row_u.main.body.getD i (.Pass ⟨0, 0, 0, 0⟩)
def s_init : Stmt := match topS 2 with
  | .ClassDef _ _ _ (b :: _) _ _ _ _ _ _ _ => b
  | x => x
theorem sc_init : FnScope ["self", "value"] ["self", "value"] (defScope s_init) := ⟨rfl, rfl, rfl, by decide +kernel, rfl, by decide +kernel, by decide +kernel⟩
theorem ok_init {P : Program} {w : World} {K : PySem.W.Frag} {mg : Str → Option Value} {base : Heap} {f : Addr} {fd : FuncData} (F : Fun K "__init__" "MatError.__init__" s_init f fd) : FnOk P w K mg base CX0 1 f fd ["self", "value"] (spIn K) := by
  refine F.ok sc_init (fun vs H Q E ⟨_, _, _, e, _⟩ => by subst e; rfl) (fun cdv A outer s H vs Q E hr h => ?_)
  refine ⟨_, pss_one (ps_ost (pe_var (i := 0) rfl (.inl rfl)) (pe_var (i := 1) rfl (.inl rfl))), ?_⟩
  obtain ⟨a, C, y, rfl, e, T, nv, k⟩ := h
  exact ⟨_, rfl, _, rfl, a, C, rfl, T, nv, .inl ⟨e, fun dx h1 h2 => k dx h1 h2⟩⟩
abbrev s_check_from : Stmt := topS 8
theorem sc_check_from : FnScope ["number", "least"] ["number", "least"] (defScope s_check_from) := ⟨rfl, rfl, rfl, by decide +kernel, rfl, by decide +kernel, by decide +kernel⟩
abbrev s_is_poly : Stmt := topS 10
theorem sc_is_poly : FnScope ["told"] ["told"] (defScope s_is_poly) := ⟨rfl, rfl, rfl, by decide +kernel, rfl, by decide +kernel, by decide +kernel⟩
abbrev s_check_poly : Stmt := topS 11
theorem sc_check_poly : FnScope ["told"] ["told"] (defScope s_check_poly) := ⟨rfl, rfl, rfl, by decide +kernel, rfl, by decide +kernel, by decide +kernel⟩
abbrev s_p_check_two : Stmt := topS 12
theorem sc_p_check_two : FnScope ["one", "other"] ["one", "other"] (defScope s_p_check_two) := ⟨rfl, rfl, rfl, by decide +kernel, rfl, by decide +kernel, by decide +kernel⟩
abbrev s_p_check_divisor : Stmt := topS 13
theorem sc_p_check_divisor : FnScope ["poly"] ["poly"] (defScope s_p_check_divisor) := ⟨rfl, rfl, rfl, by decide +kernel, rfl, by decide +kernel, by decide +kernel⟩
abbrev s_p_poly_of : Stmt := topS 14
theorem sc_p_poly_of : FnScope ["row", "many"] ["row"] (defScope s_p_poly_of) := ⟨rfl, rfl, rfl, by decide +kernel, rfl, by decide +kernel, by decide +kernel⟩
abbrev s_p_take_away : Stmt := topS 15
theorem sc_p_take_away : FnScope ["row", "factor", "poly", "power", "place", "coefficient"] ["row", "factor", "poly", "power"] (defScope s_p_take_away) := ⟨rfl, rfl, rfl, by decide +kernel, rfl, by decide +kernel, by decide +kernel⟩
abbrev s_plus : Stmt := topS 16
theorem sc_plus : FnScope ["one", "other", "row"] ["one", "other"] (defScope s_plus) := ⟨rfl, rfl, rfl, by decide +kernel, rfl, by decide +kernel, by decide +kernel⟩
abbrev s_times : Stmt := topS 17
theorem sc_times : FnScope ["one", "other", "row", "power", "coefficient"] ["one", "other"] (defScope s_times) := ⟨rfl, rfl, rfl, by decide +kernel, rfl, by decide +kernel, by decide +kernel⟩
abbrev s_divided : Stmt := topS 18
theorem sc_divided : FnScope ["one", "other", "row", "quotient", "power", "factor", "left"] ["one", "other"] (defScope s_divided) := ⟨rfl, rfl, rfl, by decide +kernel, rfl, by decide +kernel, by decide +kernel⟩
abbrev s_u_row : Stmt := topS 19
theorem sc_u_row : FnScope ["many", "row", "ahead", "poly", "_"] ["many"] (defScope s_u_row) := ⟨rfl, rfl, rfl, by decide +kernel, rfl, by decide +kernel, by decide +kernel⟩
abbrev s_p_content : Stmt := topS 20
theorem sc_p_content : FnScope ["poly", "greatest", "coefficient"] ["poly"] (defScope s_p_content) := ⟨rfl, rfl, rfl, by decide +kernel, rfl, by decide +kernel, by decide +kernel⟩
abbrev s_p_primitive : Stmt := topS 21
theorem sc_p_primitive : FnScope ["poly", "divisor", "coefficient"] ["poly"] (defScope s_p_primitive) := ⟨rfl, rfl, rfl, by decide +kernel, rfl, by decide +kernel, by decide +kernel⟩
abbrev s_p_rest : Stmt := topS 22
theorem sc_p_rest : FnScope ["one", "other", "rest", "shared", "row", "coefficient"] ["one", "other"] (defScope s_p_rest) := ⟨rfl, rfl, rfl, by decide +kernel, rfl, by decide +kernel, by decide +kernel⟩
abbrev s_common : Stmt := topS 23
theorem sc_common : FnScope ["one", "other", "shared", "ahead", "behind"] ["one", "other"] (defScope s_common) := ⟨rfl, rfl, rfl, by decide +kernel, rfl, by decide +kernel, by decide +kernel⟩
abbrev s_l_well : Stmt := topS 25
theorem sc_l_well : FnScope ["_law_script", "_law_great", "_law_mark", "_law_place", "_law_cell"] ["_law_script"] (defScope s_l_well) := ⟨rfl, rfl, rfl, by decide +kernel, rfl, by decide +kernel, by decide +kernel⟩
abbrev s_l_draw : Stmt := topS 26
theorem sc_l_draw : FnScope ["_law_well_here", "_law_limit", "_law_found", "_law_mixed"] ["_law_well_here", "_law_limit"] (defScope s_l_draw) := ⟨rfl, rfl, rfl, by decide +kernel, rfl, by decide +kernel, by decide +kernel⟩
abbrev s_l_same : Stmt := topS 27
theorem sc_l_same : FnScope ["_law_found", "_law_due", "_law_k"] ["_law_found", "_law_due"] (defScope s_l_same) := ⟨rfl, rfl, rfl, by decide +kernel, rfl, by decide +kernel, by decide +kernel⟩
abbrev s_l_over : Stmt := topS 28
theorem sc_l_over : FnScope ["_law_high", "_law_low", "_law_found", "_law_k"] ["_law_high", "_law_low"] (defScope s_l_over) := ⟨rfl, rfl, rfl, by decide +kernel, rfl, by decide +kernel, by decide +kernel⟩
abbrev s_l_u : Stmt := topS 29
theorem sc_l_u : FnScope ["_law_index", "_law_row", "_law_j"] ["_law_index"] (defScope s_l_u) := ⟨rfl, rfl, rfl, by decide +kernel, rfl, by decide +kernel, by decide +kernel⟩
abbrev s_l_gcd : Stmt := topS 30
theorem sc_l_gcd : FnScope ["_law_left", "_law_right"] ["_law_left", "_law_right"] (defScope s_l_gcd) := ⟨rfl, rfl, rfl, by decide +kernel, rfl, by decide +kernel, by decide +kernel⟩
abbrev s_l_row_right : Stmt := topS 31
theorem sc_l_row_right : FnScope ["_law_well_here", "_law_size", "_law_due", "_law_told", "_law_kind", "_law_k"] ["_law_well_here", "_law_size"] (defScope s_l_row_right) := ⟨rfl, rfl, rfl, by decide +kernel, rfl, by decide +kernel, by decide +kernel⟩
abbrev s_l_products_right : Stmt := topS 32
theorem sc_l_products_right : FnScope ["_law_low", "_law_high", "_law_row", "_law_total", "_law_k", "_law_made", "_law_due", "_law_power", "_law_coefficient"] ["_law_low", "_law_high"] (defScope s_l_products_right) := ⟨rfl, rfl, rfl, by decide +kernel, rfl, by decide +kernel, by decide +kernel⟩
abbrev s_l_divisors_right : Stmt := topS 33
theorem sc_l_divisors_right : FnScope ["_law_left", "_law_right", "_law_row", "_law_share", "_law_found"] ["_law_left", "_law_right"] (defScope s_l_divisors_right) := ⟨rfl, rfl, rfl, by decide +kernel, rfl, by decide +kernel, by decide +kernel⟩
abbrev s_l_refused : Stmt := topS 34
theorem sc_l_refused : FnScope ["_law_number", "_law_caught", "_law_found", "e"] ["_law_number"] (defScope s_l_refused) := ⟨rfl, rfl, rfl, by decide +kernel, rfl, by decide +kernel, by decide +kernel⟩
abbrev s_law : Stmt := topS 35
theorem sc_law : FnScope ["_law_script", "_law_well_here", "_law_turn", "_law_size", "_law_low", "_law_high", "_law_left", "_law_right"] ["_law_script"] (defScope s_law) := ⟨rfl, rfl, rfl, by decide +kernel, rfl, by decide +kernel, by decide +kernel⟩
section
variable {P : Program} {w : World} {K : PySem.W.Frag} {mg : Str → Option Value} {base : Heap}
theorem ok_check_from {f : Addr} {fd : FuncData} (F : Fun K "check_from" "check_from" s_check_from f fd) : FnOk P w K mg base CX0 1 f fd ["number", "least"] (toSp K MM.spFrom) := by
  have sc := sc_check_from
  refine fn_pp F sc (fun pvs m q h => ?_) (fun cdv A outer s H E hr pvs m q h => ?_)
  · obtain ⟨_, _, rfl, _⟩ := h
    rfl
  obtain ⟨a, b, rfl, rfl, hab, kq⟩ := h
  change WSs _ _ [_, _] [] _
  refine wss_one ?_
  refine ws_if ?_
  refine wt_lt ?_
  refine we_name 0 rfl (.inl rfl) rfl ?_
  refine we_name 1 rfl (.inl rfl) rfl ?_
  refine ⟨_, _, rfl, rfl, ?_⟩
  refine ⟨fun hif1 => ?_, fun hif1 => ?_⟩
  ·
    exfalso
    have := of_decide_eq_true hif1
    omega --done
  ·
    refine wss_nil ?_
    exact ⟨Nat.zero_le _, .inl ⟨_, rfl, kq⟩⟩
end
section
variable {P : Program} {w : World} {K : PySem.W.Frag} {mg : Str → Option Value} {base : Heap}
theorem okx_check_from {f : Addr} {fd : FuncData} (F : Fun K "check_from" "check_from" s_check_from f fd) {c_InvalidNumber : Addr} (E_InvalidNumber : EOk P w K mg base "InvalidNumber" c_InvalidNumber (spIn K)) : FnOk P w K mg base (L2.CX P w) 3 f fd ["number", "least"] (toSpX K (JJ.spxFrom c_InvalidNumber)) := by
  have sc := sc_check_from
  refine fnx_pp F sc (fun pvs m q h => ?_) (fun cdv A outer s H E hr hpo pvs m q h => ?_)
  · obtain ⟨_, _, rfl, _⟩ := h
    rfl
  obtain ⟨a, b, rfl, rfl, hab, kq⟩ := h
  change WSsX _ _ [_, _] [] _ _
  refine wssx_one ?_
  refine wsx_if ?_
  refine wt_lt ?_
  refine we_name 0 rfl (.inl rfl) rfl ?_
  refine we_name 1 rfl (.inl rfl) rfl ?_
  refine ⟨_, _, rfl, rfl, ?_⟩
  refine ⟨fun hif1 => ?_, fun hif1 => ?_⟩
  ·
    change WSsX _ _ [_, _] [] _ _
    refine wssx_one ?_
    refine wsx_raise rfl E_InvalidNumber (hr.mono (by omega)) ?_
    refine we_name 0 rfl (.inl rfl) rfl ?_
    exact ⟨Nat.zero_le _, kq⟩
  ·
    exfalso
    have := of_decide_eq_false hif1
    omega --done
end
section
variable {P : Program} {w : World} {K : PySem.W.Frag} {mg : Str → Option Value} {base : Heap}
theorem ok_is_poly {f : Addr} {fd : FuncData} (F : Fun K "is_poly" "is_poly" s_is_poly f fd) : FnOk P w K mg base CX0 1 f fd ["told"] (toSp K JJ.spIsPo) := by
  have sc := sc_is_poly
  refine fn_pp F sc (fun pvs m q h => ?_) (fun cdv A outer s H E hr pvs m q h => ?_)
  · obtain ⟨_, rfl, _⟩ := h
    rfl
  obtain ⟨ws, rfl, rfl, hp, hl, kq⟩ := h
  have hlm_ws : (ws.map PyData.int).length = ws.length := List.length_map ..
  change WSs _ _ [_] [] _
  refine wss_one ?_
  refine ws_ret ?_
  apply VE.use
  ·
    apply ve_or
    ·
      intro Q hQ
      refine we_notL ?_
      refine wv_name 0 rfl (.inl rfl) rfl ?_
      refine ⟨_, rfl, ?_⟩
      exact hQ
    intro hg1
    have hne : ws ≠ [] := fun z => by subst z; simp at hg1
    apply ve_one
    intro Q hQ
    refine we_neI ?_
    refine we_ix ?_
    refine wv_name 0 rfl (.inl rfl) rfl ?_
    refine we_neg ?_
    refine we_int ?_
    refine ⟨_, rfl, ?_⟩
    refine ⟨_, _, _, rfl, rfl, JJ.atI_lastP hne, ?_⟩
    refine we_int ?_
    refine ⟨_, _, rfl, rfl, ?_⟩
    exact hQ
  have hv : ((ws.map PyData.int).isEmpty || !decide (ws.getD (-1 + (ws.length : Int)).toNat 0 = 0)) = true := by
    by_cases hne : ws = []
    · subst hne; rfl
    · rw [decide_eq_false (JJ.pol_last hp hne)]; simp
  rw [hv]
  exact ⟨Nat.zero_le _, .inl ⟨_, rfl, kq⟩⟩
end
section
variable {P : Program} {w : World} {K : PySem.W.Frag} {mg : Str → Option Value} {base : Heap}
theorem ok_check_poly {f : Addr} {fd : FuncData} (F : Fun K "check_poly" "check_poly" s_check_poly f fd) {f_is_poly : Addr} {fd_is_poly : FuncData} (F_is_poly : FnOk P w K mg base CX0 1 f_is_poly fd_is_poly ["told"] (toSp K JJ.spIsPo)) (m_is_poly : mg "is_poly" = some (.ref f_is_poly)) (k_is_poly : PySem.W.keepIn K (.ref f_is_poly) = true) (b_is_poly : Binds K fd_is_poly ["told"] []) : FnOk P w K mg base CX0 2 f fd ["told"] (toSp K JJ.spCkPo) := by
  have sc := sc_check_poly
  refine fn_pp F sc (fun pvs m q h => ?_) (fun cdv A outer s H E hr pvs m q h => ?_)
  · obtain ⟨_, rfl, _⟩ := h
    rfl
  obtain ⟨ws, rfl, rfl, hp, hl, kq⟩ := h
  change WSs _ _ [_] [] _
  refine wss_one ?_
  refine ws_if ?_
  refine wt_not ?_
  refine wt_val ?_
  refine we_call [] F_is_poly (hr.mono (by omega)) m_is_poly k_is_poly b_is_poly ?_
  refine wa_d ?_
  refine we_name 0 rfl (.inl rfl) rfl ?_
  refine wa_nil ?_
  refine ⟨by decide, by (simp [setAll_len, setAll_nil]), by (simp [refsIn, setAll_len, setAll_nil, permL]), ws, rfl, rfl, hp, hl, _, rfl, rfl, ?_⟩
  refine ⟨_, rfl, ?_⟩
  refine ⟨fun hif1 => ?_, fun hif1 => ?_⟩
  ·
    exfalso
    simp at hif1 --done
  ·
    refine wss_nil ?_
    exact ⟨Nat.zero_le _, .inl ⟨_, rfl, kq⟩⟩
end
section
variable {P : Program} {w : World} {K : PySem.W.Frag} {mg : Str → Option Value} {base : Heap}
theorem ok_p_check_two {f : Addr} {fd : FuncData} (F : Fun K "_check_two" "_check_two" s_p_check_two f fd) {f_check_poly : Addr} {fd_check_poly : FuncData} (F_check_poly : FnOk P w K mg base CX0 2 f_check_poly fd_check_poly ["told"] (toSp K JJ.spCkPo)) (m_check_poly : mg "check_poly" = some (.ref f_check_poly)) (k_check_poly : PySem.W.keepIn K (.ref f_check_poly) = true) (b_check_poly : Binds K fd_check_poly ["told"] []) : FnOk P w K mg base CX0 3 f fd ["one", "other"] (toSp K JJ.spCkP2) := by
  have sc := sc_p_check_two
  refine fn_pp F sc (fun pvs m q h => ?_) (fun cdv A outer s H E hr pvs m q h => ?_)
  · obtain ⟨_, _, rfl, _⟩ := h
    rfl
  obtain ⟨a, b, rfl, rfl, ha, hb, hla, hlb, kq⟩ := h
  change WSs _ _ [_, _] [] _
  refine wss_cons ?_
  refine ws_expr ?_
  refine we_call [] F_check_poly (hr.mono (by omega)) m_check_poly k_check_poly b_check_poly ?_
  refine wa_d ?_
  refine we_name 0 rfl (.inl rfl) rfl ?_
  refine wa_nil ?_
  refine ⟨by decide, by (simp [setAll_len, setAll_nil]), by (simp [refsIn, setAll_len, setAll_nil, permL]), a, rfl, rfl, ha, hla, _, rfl, rfl, ?_⟩
  change WSs _ _ [_, _] [] _
  refine wss_one ?_
  refine ws_expr ?_
  refine we_call [] F_check_poly (hr.mono (by omega)) m_check_poly k_check_poly b_check_poly ?_
  refine wa_d ?_
  refine we_name 1 rfl (.inl rfl) rfl ?_
  refine wa_nil ?_
  refine ⟨by decide, by (simp [setAll_len, setAll_nil]), by (simp [refsIn, setAll_len, setAll_nil, permL]), b, rfl, rfl, hb, hlb, _, rfl, rfl, ?_⟩
  exact ⟨Nat.zero_le _, .inl ⟨_, rfl, kq⟩⟩
end
section
variable {P : Program} {w : World} {K : PySem.W.Frag} {mg : Str → Option Value} {base : Heap}
theorem ok_p_poly_of {f : Addr} {fd : FuncData} (F : Fun K "_poly_of" "_poly_of" s_p_poly_of f fd) (m_len : mg "len" = none) (m_tuple : mg "tuple" = none) : FnOk P w K mg base CX0 1 f fd ["row"] (toSp K JJ.spPolyOf) := by
  have sc := sc_p_poly_of
  refine fn_pp F sc (fun pvs m q h => ?_) (fun cdv A outer s H E hr pvs m q h => ?_)
  · obtain ⟨_, rfl, _⟩ := h
    rfl
  obtain ⟨ws, rfl, rfl, hl, kq⟩ := h
  have hlm_ws : (ws.map PyData.int).length = ws.length := List.length_map ..
  change WSs _ _ [_, _] [_] _
  refine wss_cons ?_
  refine ws_set 1 sc.nd rfl (.inl rfl) ?_
  refine we_len m_len ?_
  refine wv_name 0 rfl (.inl rfl) rfl ?_
  refine ⟨_, rfl, ?_⟩
  rw [hlm_ws]
  change WSs _ _ [_, _] [_] _
  refine wss_cons ?_
  refine ws_while PassesOwn.never (fun v L m => L = [some (.ref 0), some (.d (.int (v : Nat)))] ∧ m = [some (.lst (ws.map .int))] ∧ v ≤ ws.length ∧ JJ.zN ws v = JJ.zN ws ws.length) ws.length ?_ (fun v L m hl2 hI => ?_)
  ·
    exact ⟨rfl, rfl, Nat.le_refl _, rfl⟩
  obtain ⟨rfl, rfl, hv, hz⟩ := hI
  apply VT.use
  ·
    apply VW.vt
    apply vw_and
    ·
      intro Q hQ
      refine wt_tru ?_
      refine we_name 1 rfl (.inl rfl) rfl ?_
      refine ⟨_, rfl, ?_⟩
      exact hQ
    intro hg1
    have hv0 : v ≠ 0 := fun z => by subst z; exact absurd hg1 (by decide)
    apply vw_and1
    intro Q hQ
    refine wt_eqI ?_
    refine we_ix ?_
    refine wv_name 0 rfl (.inl rfl) rfl ?_
    refine we_sub ?_
    refine we_name 1 rfl (.inl rfl) rfl ?_
    refine we_int ?_
    refine ⟨_, _, rfl, rfl, ?_⟩
    refine ⟨_, _, _, rfl, rfl, atI_ints (by omega) (by omega), ?_⟩
    refine we_int ?_
    refine ⟨_, _, rfl, rfl, ?_⟩
    exact hQ
  refine ⟨fun hwhile1 => ?_, fun hwhile1 => ?_⟩
  ·
    simp only [Bool.and_eq_true, bne_iff_ne, decide_eq_true_eq] at hwhile1
    obtain ⟨k, rfl⟩ : ∃ k, v = k + 1 := ⟨v - 1, by omega⟩
    rw [show (((k + 1 : Nat) : Int) - 1).toNat = k by omega] at hwhile1
    rw [JJ.zN_step hwhile1.2] at hz
    change WSs _ _ [_, _] [_] _
    refine wss_one ?_
    refine ws_augI 1 ip_sub sc.nd rfl (.inl rfl) _ rfl ?_
    refine we_int ?_
    refine ⟨_, rfl, ?_⟩
    exact ⟨by simp, k, by omega, by rw [show ((k + 1 : Nat) : Int) - 1 = (k : Nat) by omega]; rfl, rfl, by omega, hz⟩
  have hz2 : JJ.zN ws v = v := by
    cases v with
    | zero => rfl
    | succ k =>
      refine JJ.zN_stop fun z => ?_
      rw [show (((k + 1 : Nat) : Int) - 1).toNat = k by omega, z] at hwhile1
      simp at hwhile1
      omega
  have hcz : JJ.cutZ ws = ws.take v := by unfold JJ.cutZ; rw [← hz, hz2]
  rw [hcz] at kq
  change WSs _ _ [_, _] [_] _
  refine wss_one ?_
  refine ws_ret ?_
  refine we_tuple1 m_tuple ?_
  refine wv_we ?_
  refine we_wf ?_
  refine wf_slice ?_
  refine wv_name 0 rfl (.inl rfl) rfl ?_
  refine wo_none ?_
  refine wo_some ?_
  refine we_name 1 rfl (.inl rfl) rfl ?_
  refine ⟨_, rfl, ?_⟩
  refine ⟨_, rfl, ?_⟩
  rw [JJ.cut_to (by omega) (by omega), Int.toNat_natCast]
  refine ⟨_, rfl, ?_⟩
  exact ⟨by simp, .inl ⟨_, rfl, kq⟩⟩
end
section
variable {P : Program} {w : World} {K : PySem.W.Frag} {mg : Str → Option Value} {base : Heap}
theorem ok_p_take_away {f : Addr} {fd : FuncData} (F : Fun K "_take_away" "_take_away" s_p_take_away f fd) (m_enumerate : mg "enumerate" = none) : FnOk P w K mg base CX0 1 f fd ["row", "factor", "poly", "power"] (toSp K JJ.spTakeG) := by
  have sc := sc_p_take_away
  refine fn_pp F sc (fun pvs m q h => ?_) (fun cdv A outer s H E hr pvs m q h => ?_)
  · obtain ⟨_, _, _, _, rfl, _⟩ := h
    rfl
  obtain ⟨ws, p, f, w, rfl, rfl, hw, hl, hf, hp, kq⟩ := h
  have hlm_ws : (ws.map PyData.int).length = ws.length := List.length_map ..
  have hlm_p : (p.map PyData.int).length = p.length := List.length_map ..
  change WSs _ _ [_, _, _, _, _, _] [_] _
  refine wss_one ?_
  refine ws_for PassesOwn.never rfl ?_
  refine wi_enumT m_enumerate ?_
  refine we_name 2 rfl (.inl rfl) rfl ?_
  refine ⟨_, rfl, ?_⟩
  refine ⟨fun i L m => ∃ y4 y5, L = [some (.ref 0), some (.d (.int f)), some (.d (JJ.tI p)), some (.d (.int (w : Nat))), y4, y5] ∧ m = [some (.lst ((JJ.subAt ws f p w i).map .int))], ?_, fun i x L m hx hI => ?_, fun L m hI => ?_⟩
  ·
    exact ⟨_, _, rfl, rfl⟩
  ·
    obtain ⟨y4, y5, rfl, rfl⟩ := hI
    obtain ⟨y, hy, rfl⟩ := enD_get hx
    obtain ⟨c, hc, rfl⟩ := JJ.map_at hy
    have hip := (List.getElem?_eq_some_iff.mp hc).1
    have hsl := JJ.subAt_len (row := ws) (f := f) (p := p) (w := w) i
    have hcg : p.getD i 0 = c := by rw [List.getD_eq_getElem?_getD, hc]; rfl
    subst hcg
    refine ⟨trivial, ?_⟩
    refine wg_tup rfl ?_
    refine ⟨_, rfl, rfl, ?_⟩
    refine wgn_cons ?_
    refine wg_name 4 sc.nd rfl (.inl rfl) ?_
    refine wgn_cons ?_
    refine wg_name 5 sc.nd rfl (.inl rfl) ?_
    refine wgn_nil ?_
    change WSs _ _ [_, _, _, _, _, _] [_] _
    refine wss_one ?_
    refine ws_augX ip_sub ?_
    refine wv_name 0 rfl (.inl rfl) rfl ?_
    refine we_add ?_
    refine we_name 3 rfl (.inl rfl) rfl ?_
    refine we_name 4 rfl (.inl rfl) rfl ?_
    refine ⟨_, _, rfl, rfl, ?_⟩
    refine ⟨0, w + i, _, (JJ.subAt ws f p w i).getD (w + i) 0, rfl, rfl, rfl, ?_, ?_⟩
    · rw [List.getElem?_map, List.getElem?_eq_getElem (by omega), List.getD_eq_getElem?_getD, List.getElem?_eq_getElem (by omega)]; rfl
    refine we_mul ?_
    refine we_name 1 rfl (.inl rfl) rfl ?_
    refine we_name 5 rfl (.inl rfl) rfl ?_
    refine ⟨_, _, rfl, rfl, cmul_of hf (hp _ (List.mem_of_getElem? hc)), ?_⟩
    refine ⟨_, _, rfl, rfl, rfl, ?_⟩
    exact ⟨_, _, .same (by (repeat (first | exact WkL.nil | refine WkL.kd ?_ | (refine WkL.kr ?_ ?_; focus (simp [setAll_len, setAll_nil]; done)) | refine WkL.kw ?_ | refine WkL.drop ?_))) (by simp [setAll_len]), _, _, rfl, by simp [JJ.subAt, List.map_set]⟩
  rw [enD_len, hlm_p] at hI
  obtain ⟨y4, y5, rfl, rfl⟩ := hI
  refine ⟨trivial, ?_⟩
  exact ⟨by simp, .inl ⟨_, rfl, kq⟩⟩
end
section
variable {P : Program} {w : World} {K : PySem.W.Frag} {mg : Str → Option Value} {base : Heap}
theorem ok_plus {f : Addr} {fd : FuncData} (F : Fun K "plus" "plus" s_plus f fd) {f__check_two : Addr} {fd__check_two : FuncData} (F__check_two : FnOk P w K mg base CX0 3 f__check_two fd__check_two ["one", "other"] (toSp K JJ.spCkP2)) (m__check_two : mg "_check_two" = some (.ref f__check_two)) (k__check_two : PySem.W.keepIn K (.ref f__check_two) = true) (b__check_two : Binds K fd__check_two ["one", "other"] []) {f__take_away : Addr} {fd__take_away : FuncData} (F__take_away : FnOk P w K mg base CX0 1 f__take_away fd__take_away ["row", "factor", "poly", "power"] (toSp K JJ.spTakeG)) (m__take_away : mg "_take_away" = some (.ref f__take_away)) (k__take_away : PySem.W.keepIn K (.ref f__take_away) = true) (b__take_away : Binds K fd__take_away ["row", "factor", "poly", "power"] []) {f__poly_of : Addr} {fd__poly_of : FuncData} (F__poly_of : FnOk P w K mg base CX0 1 f__poly_of fd__poly_of ["row"] (toSp K JJ.spPolyOf)) (m__poly_of : mg "_poly_of" = some (.ref f__poly_of)) (k__poly_of : PySem.W.keepIn K (.ref f__poly_of) = true) (b__poly_of : Binds K fd__poly_of ["row"] []) (m_list : mg "list" = none) (m_len : mg "len" = none) : FnOk P w K mg base CX0 4 f fd ["one", "other"] (toSp K JJ.spPlusH) := by
  have sc := sc_plus
  refine fn_pp F sc (fun pvs m q h => ?_) (fun cdv A outer s H E hr pvs m q h => ?_)
  · obtain ⟨_, _, rfl, _⟩ := h
    rfl
  obtain ⟨a, b, rfl, rfl, ha, hb, Pa, Pb, kq⟩ := h
  have hla := Pa.1
  have hlb := Pb.1
  have hlm_a : (a.map PyData.int).length = a.length := List.length_map ..
  have hlm_b : (b.map PyData.int).length = b.length := List.length_map ..
  change WSs _ _ [_, _, _] [] _
  refine wss_cons ?_
  refine ws_expr ?_
  refine we_call [] F__check_two (hr.mono (by omega)) m__check_two k__check_two b__check_two ?_
  refine wa_d ?_
  refine we_name 0 rfl (.inl rfl) rfl ?_
  refine wa_d ?_
  refine we_name 1 rfl (.inl rfl) rfl ?_
  refine wa_nil ?_
  refine ⟨by decide, by (simp [setAll_len, setAll_nil]), by (simp [refsIn, setAll_len, setAll_nil, permL]), a, b, rfl, rfl, ha, hb, by omega, by omega, _, rfl, rfl, ?_⟩
  change WSs _ _ [_, _, _] [] _
  refine wss_cons ?_
  refine ws_setF 2 sc.nd rfl (.inl rfl) ?_
  refine wf_cat ?_
  refine wv_we ?_
  refine we_wf ?_
  refine wf_list1 m_list ?_
  refine wv_name 0 rfl (.inl rfl) rfl ?_
  refine ⟨_, rfl, ?_⟩
  refine wv_we ?_
  refine we_wf ?_
  refine wf_rep ?_
  refine wv_we ?_
  refine we_wf ?_
  refine wf_lst ?_
  refine wd_cons ?_
  refine we_int ?_
  refine wd_nil ?_
  refine ⟨szl (by simp), ?_⟩
  refine we_sub ?_
  refine we_len m_len ?_
  refine wv_name 1 rfl (.inl rfl) rfl ?_
  refine ⟨_, rfl, ?_⟩
  simp only [List.length_map]
  refine we_len m_len ?_
  refine wv_name 0 rfl (.inl rfl) rfl ?_
  refine ⟨_, rfl, ?_⟩
  simp only [List.length_map]
  refine ⟨_, _, rfl, rfl, ?_⟩
  refine ⟨_, _, rfl, rfl, by omega, by omega, szl (by simp; omega), ?_⟩
  rw [show ((b.length : Int) - (a.length : Int)).toNat = b.length - a.length by omega, ← PP.rep_ints]
  refine ⟨_, _, rfl, rfl, szl (by simp only [List.length_map, List.length_replicate]; omega), ?_⟩
  rw [← List.map_append]
  change WSs _ _ [_, _, _] [_] _
  refine wss_cons ?_
  refine ws_expr ?_
  refine we_call [0] F__take_away (hr.mono (by omega)) m__take_away k__take_away b__take_away ?_
  refine wa_cons ?_
  refine wv_name 2 rfl (.inl rfl) rfl ?_
  refine wa_d ?_
  refine we_neg ?_
  refine we_int ?_
  refine ⟨_, rfl, ?_⟩
  refine wa_d ?_
  refine we_name 1 rfl (.inl rfl) rfl ?_
  refine wa_d ?_
  refine we_int ?_
  refine wa_nil ?_
  refine ⟨by decide, by (simp [setAll_len, setAll_nil]), by (simp [refsIn, setAll_len, setAll_nil, permL]), a ++ List.replicate (b.length - a.length) 0, b, -1, 0, rfl, rfl, by rw [List.length_append, List.length_replicate]; omega, by rw [List.length_append, List.length_replicate]; omega, Bd.lit (by decide +kernel), fun c hc => (Pb.2 c hc).mono (by decide), _, rfl, rfl, ?_⟩
  change WSs _ _ [_, _, _] [_] _
  refine wss_one ?_
  refine ws_ret ?_
  refine we_call [0] F__poly_of (hr.mono (by omega)) m__poly_of k__poly_of b__poly_of ?_
  refine wa_cons ?_
  refine wv_name 2 rfl (.inl rfl) rfl ?_
  refine wa_nil ?_
  refine ⟨by decide, by (simp [setAll_len, setAll_nil]), by (simp [refsIn, setAll_len, setAll_nil, permL]), _, rfl, rfl, by rw [JJ.subAt_len, List.length_append, List.length_replicate]; omega, _, rfl, rfl, ?_⟩
  exact ⟨by simp [setAll_len], .inl ⟨_, rfl, kq⟩⟩
end
section
variable {P : Program} {w : World} {K : PySem.W.Frag} {mg : Str → Option Value} {base : Heap}
theorem ok_times {f : Addr} {fd : FuncData} (F : Fun K "times" "times" s_times f fd) {f__check_two : Addr} {fd__check_two : FuncData} (F__check_two : FnOk P w K mg base CX0 3 f__check_two fd__check_two ["one", "other"] (toSp K JJ.spCkP2)) (m__check_two : mg "_check_two" = some (.ref f__check_two)) (k__check_two : PySem.W.keepIn K (.ref f__check_two) = true) (b__check_two : Binds K fd__check_two ["one", "other"] []) {f__poly_of : Addr} {fd__poly_of : FuncData} (F__poly_of : FnOk P w K mg base CX0 1 f__poly_of fd__poly_of ["row"] (toSp K JJ.spPolyOf)) (m__poly_of : mg "_poly_of" = some (.ref f__poly_of)) (k__poly_of : PySem.W.keepIn K (.ref f__poly_of) = true) (b__poly_of : Binds K fd__poly_of ["row"] []) {f__take_away : Addr} {fd__take_away : FuncData} (F__take_away : FnOk P w K mg base CX0 1 f__take_away fd__take_away ["row", "factor", "poly", "power"] (toSp K JJ.spTakeG)) (m__take_away : mg "_take_away" = some (.ref f__take_away)) (k__take_away : PySem.W.keepIn K (.ref f__take_away) = true) (b__take_away : Binds K fd__take_away ["row", "factor", "poly", "power"] []) (m_enumerate : mg "enumerate" = none) (m_len : mg "len" = none) : FnOk P w K mg base CX0 4 f fd ["one", "other"] (toSp K JJ.spTimesH) := by
  have sc := sc_times
  refine fn_pp F sc (fun pvs m q h => ?_) (fun cdv A outer s H E hr pvs m q h => ?_)
  · obtain ⟨_, _, rfl, _⟩ := h
    rfl
  obtain ⟨a, b, rfl, rfl, ha, hb, Pa, Pb, kq⟩ := h
  have hla := Pa.1
  have hlb := Pb.1
  have hlm_a : (a.map PyData.int).length = a.length := List.length_map ..
  have hlm_b : (b.map PyData.int).length = b.length := List.length_map ..
  change WSs _ _ [_, _, _, _, _] [] _
  refine wss_cons ?_
  refine ws_expr ?_
  refine we_call [] F__check_two (hr.mono (by omega)) m__check_two k__check_two b__check_two ?_
  refine wa_d ?_
  refine we_name 0 rfl (.inl rfl) rfl ?_
  refine wa_d ?_
  refine we_name 1 rfl (.inl rfl) rfl ?_
  refine wa_nil ?_
  refine ⟨by decide, by (simp [setAll_len, setAll_nil]), by (simp [refsIn, setAll_len, setAll_nil, permL]), a, b, rfl, rfl, ha, hb, by omega, by omega, _, rfl, rfl, ?_⟩
  change WSs _ _ [_, _, _, _, _] [] _
  refine wss_cons ?_
  refine ws_setF 2 sc.nd rfl (.inl rfl) ?_
  refine wf_rep ?_
  refine wv_we ?_
  refine we_wf ?_
  refine wf_lst ?_
  refine wd_cons ?_
  refine we_int ?_
  refine wd_nil ?_
  refine ⟨szl (by simp), ?_⟩
  refine we_add ?_
  refine we_len m_len ?_
  refine wv_name 0 rfl (.inl rfl) rfl ?_
  refine ⟨_, rfl, ?_⟩
  simp only [List.length_map]
  refine we_len m_len ?_
  refine wv_name 1 rfl (.inl rfl) rfl ?_
  refine ⟨_, rfl, ?_⟩
  simp only [List.length_map]
  refine ⟨_, _, rfl, rfl, ?_⟩
  refine ⟨_, _, rfl, rfl, by omega, by omega, szl (by simp; omega), ?_⟩
  rw [show ((a.length : Int) + (b.length : Int)).toNat = a.length + b.length by omega, ← PP.rep_ints]
  change WSs _ _ [_, _, _, _, _] [_] _
  refine wss_cons ?_
  refine ws_for PassesOwn.never rfl ?_
  refine wi_enumT m_enumerate ?_
  refine we_name 0 rfl (.inl rfl) rfl ?_
  refine ⟨_, rfl, ?_⟩
  refine ⟨fun i L m => ∃ y3 y4, L = [some (.d (JJ.tI a)), some (.d (JJ.tI b)), some (.ref 0), y3, y4] ∧ m = [some (.lst ((JJ.mulFr a b i).map .int))], ?_, fun i x L m hx hI => ?_, fun L m hI => ?_⟩
  ·
    exact ⟨_, _, rfl, rfl⟩
  ·
    obtain ⟨y3, y4, rfl, rfl⟩ := hI
    obtain ⟨y, hy, rfl⟩ := enD_get hx
    obtain ⟨c, hc, rfl⟩ := JJ.map_at hy
    have hip := (List.getElem?_eq_some_iff.mp hc).1
    have hsl := JJ.mulFr_len (a := a) (b := b) i
    have hcg : a.getD i 0 = c := by rw [List.getD_eq_getElem?_getD, hc]; rfl
    have hBc : Bd 200000 (-c) := by
      have h9 : Bd 100000 c := Pa.2 c (List.mem_of_getElem? hc)
      have h8 : Bd 100000 (-c) := by show (-c).natAbs < 2 ^ 100000; rw [Int.natAbs_neg]; exact h9
      exact h8.mono (by decide)
    refine ⟨trivial, ?_⟩
    refine wg_tup rfl ?_
    refine ⟨_, rfl, rfl, ?_⟩
    refine wgn_cons ?_
    refine wg_name 3 sc.nd rfl (.inl rfl) ?_
    refine wgn_cons ?_
    refine wg_name 4 sc.nd rfl (.inl rfl) ?_
    refine wgn_nil ?_
    change WSs _ _ [_, _, _, _, _] [_] _
    refine wss_one ?_
    refine ws_expr ?_
    refine we_call [0] F__take_away (hr.mono (by omega)) m__take_away k__take_away b__take_away ?_
    refine wa_cons ?_
    refine wv_name 2 rfl (.inl rfl) rfl ?_
    refine wa_d ?_
    refine we_neg ?_
    refine we_name 4 rfl (.inl rfl) rfl ?_
    refine ⟨_, rfl, ?_⟩
    refine wa_d ?_
    refine we_name 1 rfl (.inl rfl) rfl ?_
    refine wa_d ?_
    refine we_name 3 rfl (.inl rfl) rfl ?_
    refine wa_nil ?_
    refine ⟨by decide, by (simp [setAll_len, setAll_nil]), by (simp [refsIn, setAll_len, setAll_nil, permL]), JJ.mulFr a b i, b, -c, i, rfl, rfl, by omega, by omega, hBc, fun c hc => (Pb.2 c hc).mono (by decide), _, rfl, rfl, ?_⟩
    rw [show JJ.takeA (JJ.mulFr a b i) (-c) b i = JJ.mulFr a b (i + 1) from by rw [← hcg]; rfl]
    exact ⟨_, _, .same (by (repeat (first | exact WkL.nil | refine WkL.kd ?_ | (refine WkL.kr ?_ ?_; focus (simp [setAll_len, setAll_nil]; done)) | refine WkL.kw ?_ | refine WkL.drop ?_))) (by simp [setAll_len]), _, _, rfl, rfl⟩
  rw [enD_len, hlm_a] at hI
  obtain ⟨y3, y4, rfl, rfl⟩ := hI
  refine ⟨trivial, ?_⟩
  change WSs _ _ [_, _, _, _, _] [_] _
  refine wss_one ?_
  refine ws_ret ?_
  refine we_call [0] F__poly_of (hr.mono (by omega)) m__poly_of k__poly_of b__poly_of ?_
  refine wa_cons ?_
  refine wv_name 2 rfl (.inl rfl) rfl ?_
  refine wa_nil ?_
  refine ⟨by decide, by (simp [setAll_len, setAll_nil]), by (simp [refsIn, setAll_len, setAll_nil, permL]), JJ.mulR a b, rfl, rfl, by rw [JJ.mulFr_len]; omega, _, rfl, rfl, ?_⟩
  exact ⟨by simp [setAll_len], .inl ⟨_, rfl, kq⟩⟩
end
section
variable {P : Program} {w : World} {K : PySem.W.Frag} {mg : Str → Option Value} {base : Heap}
theorem ok_p_check_divisor {f : Addr} {fd : FuncData} (F : Fun K "_check_divisor" "_check_divisor" s_p_check_divisor f fd) : FnOk P w K mg base CX0 1 f fd ["poly"] (toSp K JJ.spCkDv) := by
  have sc := sc_p_check_divisor
  refine fn_pp F sc (fun pvs m q h => ?_) (fun cdv A outer s H E hr pvs m q h => ?_)
  · obtain ⟨_, rfl, _⟩ := h
    rfl
  obtain ⟨ws, rfl, rfl, hne, kq⟩ := h
  change WSs _ _ [_] [] _
  refine wss_one ?_
  refine ws_if ?_
  refine wt_not ?_
  refine wt_truth ?_
  refine wv_name 0 rfl (.inl rfl) rfl ?_
  refine ⟨_, rfl, ?_⟩
  refine ⟨fun hif1 => ?_, fun hif1 => ?_⟩
  ·
    exfalso
    cases ws with
    | nil => exact hne rfl
    | cons x ws => simp at hif1 --done
  ·
    refine wss_nil ?_
    exact ⟨Nat.zero_le _, .inl ⟨_, rfl, kq⟩⟩
end
section
variable {P : Program} {w : World} {K : PySem.W.Frag} {mg : Str → Option Value} {base : Heap}
theorem ok_divided {f : Addr} {fd : FuncData} (F : Fun K "divided" "divided" s_divided f fd) {f__check_two : Addr} {fd__check_two : FuncData} (F__check_two : FnOk P w K mg base CX0 3 f__check_two fd__check_two ["one", "other"] (toSp K JJ.spCkP2)) (m__check_two : mg "_check_two" = some (.ref f__check_two)) (k__check_two : PySem.W.keepIn K (.ref f__check_two) = true) (b__check_two : Binds K fd__check_two ["one", "other"] []) {f__check_divisor : Addr} {fd__check_divisor : FuncData} (F__check_divisor : FnOk P w K mg base CX0 1 f__check_divisor fd__check_divisor ["poly"] (toSp K JJ.spCkDv)) (m__check_divisor : mg "_check_divisor" = some (.ref f__check_divisor)) (k__check_divisor : PySem.W.keepIn K (.ref f__check_divisor) = true) (b__check_divisor : Binds K fd__check_divisor ["poly"] []) {f__take_away : Addr} {fd__take_away : FuncData} (F__take_away : FnOk P w K mg base CX0 1 f__take_away fd__take_away ["row", "factor", "poly", "power"] (toSp K JJ.spTakeG)) (m__take_away : mg "_take_away" = some (.ref f__take_away)) (k__take_away : PySem.W.keepIn K (.ref f__take_away) = true) (b__take_away : Binds K fd__take_away ["row", "factor", "poly", "power"] []) (m_list : mg "list" = none) (m_reversed : mg "reversed" = none) (m_range : mg "range" = none) (m_divmod : mg "divmod" = none) (m_any : mg "any" = none) (m_tuple : mg "tuple" = none) (m_len : mg "len" = none) : FnOk P w K mg base CX0 4 f fd ["one", "other"] (toSp K JJ.spDivG) := by
  have sc := sc_divided
  refine fn_pp F sc (fun pvs m q h => ?_) (fun cdv A outer s H E hr pvs m q h => ?_)
  · obtain ⟨_, _, _, _, _, rfl, _⟩ := h
    rfl
  obtain ⟨one, R, b, r, s, rfl, rfl, hpo, hpd, hlo, hlb, hs, hb, hbl, hR, hr1, hr2, hRow, hlog, hBR, hBD, kq⟩ := h
  have hb0 := List.length_pos_iff.mpr hb
  have hD : (b.map fun x => s * x).length = b.length := List.length_map ..
  have hlm_one : (one.map PyData.int).length = one.length := List.length_map ..
  change WSs _ _ [_, _, _, _, _, _, _] [] _
  refine wss_cons ?_
  refine ws_expr ?_
  refine we_call [] F__check_two (hr.mono (by omega)) m__check_two k__check_two b__check_two ?_
  refine wa_d ?_
  refine we_name 0 rfl (.inl rfl) rfl ?_
  refine wa_d ?_
  refine we_name 1 rfl (.inl rfl) rfl ?_
  refine wa_nil ?_
  refine ⟨by decide, by (simp [setAll_len, setAll_nil]), by (simp [refsIn, setAll_len, setAll_nil, permL]), one, b.map fun x => s * x, rfl, rfl, hpo, hpd, by omega, by omega, _, rfl, rfl, ?_⟩
  change WSs _ _ [_, _, _, _, _, _, _] [] _
  refine wss_cons ?_
  refine ws_expr ?_
  refine we_call [] F__check_divisor (hr.mono (by omega)) m__check_divisor k__check_divisor b__check_divisor ?_
  refine wa_d ?_
  refine we_name 1 rfl (.inl rfl) rfl ?_
  refine wa_nil ?_
  refine ⟨by decide, by (simp [setAll_len, setAll_nil]), by (simp [refsIn, setAll_len, setAll_nil, permL]), b.map fun x => s * x, rfl, rfl, fun z => by rw [z] at hD; simp at hD; omega, _, rfl, rfl, ?_⟩
  change WSs _ _ [_, _, _, _, _, _, _] [] _
  refine wss_cons ?_
  refine ws_setF 2 sc.nd rfl (.inl rfl) ?_
  refine wf_list1 m_list ?_
  refine wv_name 0 rfl (.inl rfl) rfl ?_
  refine ⟨_, rfl, ?_⟩
  change WSs _ _ [_, _, _, _, _, _, _] [_] _
  refine wss_cons ?_
  refine ws_setF 3 sc.nd rfl (.inl rfl) ?_
  refine wf_rep ?_
  refine wv_we ?_
  refine we_wf ?_
  refine wf_lst ?_
  refine wd_cons ?_
  refine we_int ?_
  refine wd_nil ?_
  refine ⟨szl (by simp), ?_⟩
  refine we_add ?_
  refine we_sub ?_
  refine we_len m_len ?_
  refine wv_name 0 rfl (.inl rfl) rfl ?_
  refine ⟨_, rfl, ?_⟩
  simp only [List.length_map]
  refine we_len m_len ?_
  refine wv_name 1 rfl (.inl rfl) rfl ?_
  refine ⟨_, rfl, ?_⟩
  simp only [List.length_map]
  refine ⟨_, _, rfl, rfl, ?_⟩
  refine we_int ?_
  refine ⟨_, _, rfl, rfl, ?_⟩
  refine ⟨_, _, rfl, rfl, by omega, by omega, szl (by simp; omega), ?_⟩
  rw [show ((one.length : Int) - (b.length : Int) + 1).toNat = R.length by omega, ← PP.rep_ints, ← JJ.quoP_end (R := R) (s := s)]
  change WSs _ _ [_, _, _, _, _, _, _] [_, _] _
  refine wss_cons ?_
  refine ws_for PassesOwn.never rfl ?_
  refine wi_revR m_reversed m_range ?_
  refine we_len m_len ?_
  refine wv_name 3 rfl (.inl rfl) rfl ?_
  refine ⟨_, rfl, ?_⟩
  simp only [List.length_map]
  have hq0 := JJ.quoP_len (R := R) (s := s) (Nat.le_refl _)
  refine ⟨_, rfl, by omega, by omega, ?_⟩
  rw [hq0, Int.toNat_natCast]
  refine ⟨fun i L m => ∃ (row : List Int) (y5 y6 y7 : Option PV), L = [some (.d (JJ.tI one)), some (.d (JJ.tI (b.map fun x => s * x))), some (.ref 0), some (.ref 1), y5, y6, y7] ∧ m = [some (.lst (row.map .int)), some (.lst ((JJ.quoP R s (R.length - i)).map .int))] ∧ JJ.RowP R b r one.length row (R.length - i) ∧ (∀ j, R.length - i ≤ j → j < R.length → s ∣ R.getD j 0), ?_, fun i x L m hx hI => ?_, fun L m hI => ?_⟩
  ·
    exact ⟨one, _, _, _, rfl, rfl, hRow, fun j h1 h2 => by omega⟩
  ·
    obtain ⟨row, y5, y6, y7, rfl, rfl, hRp, hdv⟩ := hI
    obtain ⟨hi, rfl⟩ := rgD3_get hx
    obtain ⟨p, hp⟩ : ∃ p, R.length - i = p + 1 := ⟨R.length - i - 1, by omega⟩
    rw [hp] at hRp hdv ⊢
    rw [show ((R.length : Nat) : Int) - 1 + (i : Int) * -1 = (p : Nat) by omega]
    have hpR : p < R.length := by omega
    have hrl := hRp.1
    have hql := JJ.quoP_len (R := R) (s := s) (p := p + 1) (by omega)
    have hle := hRp.lead hpR hb hr1
    refine ⟨trivial, ?_⟩
    refine wg_name 4 sc.nd rfl (.inl rfl) ?_
    change WSs _ _ [_, _, _, _, _, _, _] [_, _] _
    refine wss_cons ?_
    refine ws_asg ?_
    refine we_divmod m_divmod ?_
    refine we_ix ?_
    refine wv_name 2 rfl (.inl rfl) rfl ?_
    refine we_sub ?_
    refine we_add ?_
    refine we_name 4 rfl (.inl rfl) rfl ?_
    refine we_len m_len ?_
    refine wv_name 1 rfl (.inl rfl) rfl ?_
    refine ⟨_, rfl, ?_⟩
    simp only [List.length_map]
    refine ⟨_, _, rfl, rfl, ?_⟩
    refine we_int ?_
    refine ⟨_, _, rfl, rfl, ?_⟩
    refine ⟨_, _, _, rfl, rfl, atI_ints (by omega) (by omega), ?_⟩
    rw [show ((p : Int) + (b.length : Int) - 1).toNat = p + b.length - 1 by omega, hle]
    refine we_ix ?_
    refine wv_name 1 rfl (.inl rfl) rfl ?_
    refine we_neg ?_
    refine we_int ?_
    refine ⟨_, rfl, ?_⟩
    refine ⟨_, _, _, rfl, rfl, JJ.atI_lastP (fun z => by rw [z] at hD; simp at hD; omega), ?_⟩
    rw [hD, show (-1 + (b.length : Int)).toNat = b.length - 1 by omega, JJ.sc_get]
    refine ⟨_, _, rfl, rfl, ⟨Int.mul_ne_zero hs hbl, hlog⟩, ?_⟩
    refine wg_tup rfl ?_
    refine ⟨_, rfl, rfl, ?_⟩
    refine wgn_cons ?_
    refine wg_name 5 sc.nd rfl (.inl rfl) ?_
    refine wgn_cons ?_
    refine wg_name 6 sc.nd rfl (.inl rfl) ?_
    refine wgn_nil ?_
    change WSs _ _ [_, _, _, _, _, _, _] [_, _] _
    refine wss_cons ?_
    refine ws_if ?_
    refine wt_tru ?_
    refine we_name 6 rfl (.inl rfl) rfl ?_
    refine ⟨_, rfl, ?_⟩
    refine ⟨fun hif1 => ?_, fun hif1 => ?_⟩
    ·
      have hnd : ¬ s ∣ R.getD p 0 := fun z => by rw [(JJ.fdm hbl hs).mpr z] at hif1; exact absurd hif1 (by decide)
      rw [JJ.divRes_no hpR hnd] at kq
      change WSs _ _ [_, _, _, _, _, _, _] [_, _] _
      refine wss_one ?_
      refine ws_ret ?_
      refine we_none ?_
      exact ⟨by simp, .inl ⟨_, rfl, kq⟩⟩
    ·
      have hds : s ∣ R.getD p 0 := (JJ.fdm hbl hs).mp (bne_eq_false_iff_eq.mp hif1)
      rw [JJ.fdq hbl hs hds]
      refine wss_nil ?_
      change WSs _ _ [_, _, _, _, _, _, _] [_, _] _
      refine wss_cons ?_
      refine ws_asg ?_
      refine we_name 5 rfl (.inl rfl) rfl ?_
      refine wg_sub ?_
      refine wv_name 3 rfl (.inl rfl) rfl ?_
      refine we_name 4 rfl (.inl rfl) rfl ?_
      refine ⟨_, _, _, _, rfl, rfl, rfl, ixN_of (by omega) (by rw [List.length_map]; omega), ?_⟩
      rw [Int.toNat_natCast, show ((JJ.quoP R s (p + 1)).map PyData.int).set p (.int (R.getD p 0 / s)) = (JJ.quoP R s p).map .int from by rw [← JJ.quoP_step hpR, List.map_set]]
      change WSs _ _ [_, _, _, _, _, _, _] [_, _] _
      refine wss_one ?_
      refine ws_expr ?_
      refine we_call [0] F__take_away (hr.mono (by omega)) m__take_away k__take_away b__take_away ?_
      refine wa_cons ?_
      refine wv_name 2 rfl (.inl rfl) rfl ?_
      refine wa_d ?_
      refine we_name 5 rfl (.inl rfl) rfl ?_
      refine wa_d ?_
      refine we_name 1 rfl (.inl rfl) rfl ?_
      refine wa_d ?_
      refine we_name 4 rfl (.inl rfl) rfl ?_
      refine wa_nil ?_
      refine ⟨by decide, by (simp [setAll_len, setAll_nil]), by (simp [refsIn, setAll_len, setAll_nil, permL]), row, b.map fun x => s * x, R.getD p 0 / s, p, rfl, rfl, by omega, by omega, JJ.bd_div (JJ.bd_mem hBR p), hBD, _, rfl, rfl, ?_⟩
      exact ⟨_, _, .same (by (repeat (first | exact WkL.nil | refine WkL.kd ?_ | (refine WkL.kr ?_ ?_; focus (simp [setAll_len, setAll_nil]; done)) | refine WkL.kw ?_ | refine WkL.drop ?_))) (by simp [setAll_len]), JJ.takeA row (R.getD p 0 / s) (b.map fun x => s * x) p, _, _, _, rfl, by simp [setAll, show R.length - (i + 1) = p from by omega], by rw [show R.length - (i + 1) = p from by omega]; exact hRp.step hpR (by omega) hds, fun j h1 h2 => by
        by_cases c : j = p
        · rw [c]; exact hds
        · exact hdv j (by omega) h2⟩
  rw [rgD3_len] at hI
  obtain ⟨row, y5, y6, y7, rfl, rfl, hRp, hdv⟩ := hI
  rw [Nat.sub_self] at hRp hdv ⊢
  rw [JJ.divRes_end fun j hj => hdv j (Nat.zero_le _) hj] at kq
  have hany := hRp.any hr2
  rw [JJ.quoP_zero]
  refine ⟨trivial, ?_⟩
  change WSs _ _ [_, _, _, _, _, _, _] [_, _] _
  refine wss_one ?_
  refine ws_ret ?_
  refine we_if ?_
  refine wt_val ?_
  refine we_anyI rfl m_any ?_
  refine wv_name 2 rfl (.inl rfl) rfl ?_
  refine ⟨_, rfl, ?_⟩
  rw [hany]
  refine ⟨_, rfl, ?_⟩
  refine ⟨fun hif2 => ?_, fun hif2 => ?_⟩
  ·
    rw [if_neg (by simpa using hif2)] at kq
    refine we_none ?_
    exact ⟨by simp, .inl ⟨_, rfl, kq⟩⟩
  ·
    rw [if_pos (by simpa using hif2)] at kq
    refine we_tuple1 m_tuple ?_
    refine wv_name 3 rfl (.inl rfl) rfl ?_
    refine ⟨_, rfl, ?_⟩
    exact ⟨by simp, .inl ⟨_, rfl, kq⟩⟩
end
section
variable {P : Program} {w : World} {K : PySem.W.Frag} {mg : Str → Option Value} {base : Heap}
theorem ok_l_well {f : Addr} {fd : FuncData} (F : Fun K "_law_well" "_law_well" s_l_well f fd) (m_range : mg "range" = none) (m_len : mg "len" = none) (m_int : mg "int" = none) : FnOk P w K mg base CX0 1 f fd ["_law_script"] (toSp K JJ.spWelO) := by
  have sc := sc_l_well
  refine fn_pp F sc (fun pvs m q h => ?_) (fun cdv A outer s H E hr pvs m q h => ?_)
  · obtain ⟨_, rfl, _⟩ := h
    rfl
  obtain ⟨ns, rfl, rfl, hl, hns, kq⟩ := h
  have hlm : (ns.map PyData.int).length = ns.length := List.length_map ..
  have hp1 : (10 : Int) ^ (18 : Int).toNat = 10 ^ 18 := rfl
  change WSs _ _ [_, _, _, _, _] [] _
  refine wss_cons ?_
  refine ws_par 1 2 rfl sc.nd rfl rfl (by decide) rfl rfl ?_
  refine wa_cons ?_
  refine wv_wf ?_
  refine wf_lst ?_
  refine wd_nil ?_
  refine ⟨szl (by simp), ?_⟩
  refine wa_d ?_
  refine we_int ?_
  refine wa_nil ?_
  refine ⟨_, _, rfl, ?_⟩
  change WSs _ _ [_, _, _, _, _] [_] _
  refine wss_cons ?_
  refine ws_for PassesOwn.never rfl ?_
  refine wi_rng1 m_range ?_
  refine we_len m_len ?_
  refine wv_name 0 rfl (.inl rfl) rfl ?_
  refine ⟨_, rfl, ?_⟩
  rw [hlm]
  refine ⟨_, rfl, by omega, by omega, ?_⟩
  refine ⟨fun i L m => ∃ (g : List Int) (b : Int) (y3 y4 : Option PV), L = [some (.raw (ns.map .int)), some (.ref 0), some (.d (.int b)), y3, y4] ∧ m = [some (.lst (g.map .int))] ∧ g.length ≤ i ∧ (∀ z ∈ g, 0 ≤ z ∧ Bd 2000000 z) ∧ 0 ≤ b ∧ b < 2 ^ 62, ?_, fun i x L m hx hI => ?_, fun L m hI => ?_⟩
  ·
    exact ⟨[], _, _, _, rfl, rfl, Nat.le_refl _, fun z h => (by cases h), by omega, by omega⟩
  ·
    obtain ⟨g, b, y3, y4, rfl, rfl, hgl, hg, hb0, hb1⟩ := hI
    obtain ⟨hi, rfl⟩ := rgD_get hx
    have hlt : i < ns.length := by omega
    have hbd : Bd 1048577 (ns[i]) := bits_bd (hns _ (List.getElem_mem _))
    rw [show (0 : Int) + (i : Int) = i by omega]
    refine ⟨trivial, ?_⟩
    refine wg_name 3 sc.nd rfl (.inl rfl) ?_
    change WSs _ _ [_, _, _, _, _] [_] _
    refine wss_cons ?_
    refine ws_set 4 sc.nd rfl (.inl rfl) ?_
    refine we_ix ?_
    refine wv_name 0 rfl (.inl rfl) rfl ?_
    refine we_name 3 rfl (.inl rfl) rfl ?_
    refine ⟨_, _, .int ns[i], rfl, rfl, atI_nat (by rw [List.getElem?_map, List.getElem?_eq_getElem hlt]; rfl), ?_⟩
    change WSs _ _ [_, _, _, _, _] [_] _
    refine wss_one ?_
    refine ws_if ?_
    refine wt_ge ?_
    refine we_name 4 rfl (.inl rfl) rfl ?_
    refine we_pow ?_
    refine we_int ?_
    refine we_int ?_
    refine ⟨_, _, rfl, rfl, ⟨by decide, by decide⟩, ?_⟩
    refine ⟨_, _, rfl, rfl, ?_⟩
    refine ⟨fun hif1 => ?_, fun hif1 => ?_⟩
    ·
      have hge := of_decide_eq_true hif1
      change WSs _ _ [_, _, _, _, _] [_] _
      refine wss_one ?_
      refine ws_expr ?_
      refine we_insert ?_
      refine wv_name 1 rfl (.inl rfl) rfl ?_
      refine ⟨_, _, rfl, rfl, ?_⟩
      refine we_int ?_
      refine we_sub ?_
      refine we_name 4 rfl (.inl rfl) rfl ?_
      refine we_pow ?_
      refine we_int ?_
      refine we_int ?_
      refine ⟨_, _, rfl, rfl, ⟨by decide, by decide⟩, ?_⟩
      refine ⟨_, _, rfl, rfl, ?_⟩
      refine ⟨_, _, rfl, rfl, szlt (by rw [List.length_map]; omega), by omega, by omega, ?_⟩
      first
      | exact ⟨_, _, .same (by (repeat (first | exact WkL.nil | refine WkL.kd ?_ | (refine WkL.kr ?_ ?_; focus (simp [setAll_len, setAll_nil]; done)) | refine WkL.kw ?_ | refine WkL.drop ?_))) (by simp [setAll_len]), (ns[i] - 10 ^ (18 : Int).toNat) :: g, b, _, _, rfl, rfl, by rw [List.length_cons]; omega, fun z hz => (List.mem_cons.mp hz).elim (fun e => by rw [e]; exact ⟨by omega, (hbd.add (Bd.lit (k := 60) (i := -1000000000000000000))).mono (by decide)⟩) (hg z), hb0, hb1⟩
      | exact ⟨_, _, .same (by (repeat (first | exact WkL.nil | refine WkL.kd ?_ | (refine WkL.kr ?_ ?_; focus (simp [setAll_len, setAll_nil]; done)) | refine WkL.kw ?_ | refine WkL.drop ?_))) (by simp [setAll_len]), g, _, _, _, rfl, rfl, by omega, hg, (by have h1 := Int.emod_nonneg ((b + ((i : Int) + 3) * (ns[i] % 1000000000061)) ^ (3 : Int).toNat) (b := 2305843009213693951) (by decide); omega), (by have h1 := Int.emod_lt_of_pos ((b + ((i : Int) + 3) * (ns[i] % 1000000000061)) ^ (3 : Int).toNat) (b := 2305843009213693951) (by decide); omega)⟩
    ·
      change WSs _ _ [_, _, _, _, _] [_] _
      refine wss_one ?_
      refine ws_set 2 sc.nd rfl (.inl rfl) ?_
      refine we_add ?_
      refine we_mod ?_
      refine we_int1 m_int ?_
      refine we_pow ?_
      refine we_add ?_
      refine we_name 2 rfl (.inl rfl) rfl ?_
      refine we_mul ?_
      refine we_add ?_
      refine we_name 3 rfl (.inl rfl) rfl ?_
      refine we_int ?_
      refine ⟨_, _, rfl, rfl, ?_⟩
      refine we_mod ?_
      refine we_int1 m_int ?_
      refine we_name 4 rfl (.inl rfl) rfl ?_
      refine .inl ⟨_, rfl, ?_⟩
      refine we_int ?_
      refine ⟨_, _, rfl, rfl, by decide +kernel, ?_⟩
      refine ⟨_, _, rfl, rfl, cmul_of (j := 20) (k := 40) (Bd.of (by omega) (by omega)) (Bd.mod (by decide +kernel) (by decide +kernel)), ?_⟩
      refine ⟨_, _, rfl, rfl, ?_⟩
      refine we_int ?_
      refine ⟨_, _, rfl, rfl, cpow_of ((Bd.of (k := 62) hb0 hb1).add ((Bd.of (k := 20) (i := (i : Int) + 3) (by omega) (by omega)).mul (Bd.mod (k := 40) (by decide +kernel) (by decide +kernel)))) (by decide) (by decide), ?_⟩
      refine .inl ⟨_, rfl, ?_⟩
      refine we_int ?_
      refine ⟨_, _, rfl, rfl, by decide +kernel, ?_⟩
      refine we_int ?_
      refine ⟨_, _, rfl, rfl, ?_⟩
      first
      | exact ⟨_, _, .same (by (repeat (first | exact WkL.nil | refine WkL.kd ?_ | (refine WkL.kr ?_ ?_; focus (simp [setAll_len, setAll_nil]; done)) | refine WkL.kw ?_ | refine WkL.drop ?_))) (by simp [setAll_len]), (ns[i] - 10 ^ (18 : Int).toNat) :: g, b, _, _, rfl, rfl, by rw [List.length_cons]; omega, fun z hz => (List.mem_cons.mp hz).elim (fun e => by rw [e]; exact ⟨by omega, (hbd.add (Bd.lit (k := 60) (i := -1000000000000000000))).mono (by decide)⟩) (hg z), hb0, hb1⟩
      | exact ⟨_, _, .same (by (repeat (first | exact WkL.nil | refine WkL.kd ?_ | (refine WkL.kr ?_ ?_; focus (simp [setAll_len, setAll_nil]; done)) | refine WkL.kw ?_ | refine WkL.drop ?_))) (by simp [setAll_len]), g, _, _, _, rfl, rfl, by omega, hg, (by have h1 := Int.emod_nonneg ((b + ((i : Int) + 3) * (ns[i] % 1000000000061)) ^ (3 : Int).toNat) (b := 2305843009213693951) (by decide); omega), (by have h1 := Int.emod_lt_of_pos ((b + ((i : Int) + 3) * (ns[i] % 1000000000061)) ^ (3 : Int).toNat) (b := 2305843009213693951) (by decide); omega)⟩
  rw [rgD_len] at hI
  obtain ⟨g, b, y3, y4, rfl, rfl, hgl, hg, hb0, hb1⟩ := hI
  refine ⟨trivial, ?_⟩
  change WSs _ _ [_, _, _, _, _] [_] _
  refine wss_one ?_
  refine ws_retO ?_
  refine wa_cons ?_
  refine wv_name 1 rfl (.inl rfl) rfl ?_
  refine wa_d ?_
  refine we_int ?_
  refine wa_d ?_
  refine we_name 2 rfl (.inl rfl) rfl ?_
  refine wa_d ?_
  refine we_int ?_
  refine wa_nil ?_
  refine ⟨_, _, _, _, rfl, rfl, ?_⟩
  exact ⟨Nat.zero_le _, .inr (.inl (.inr ⟨0, _, _, _, _, rfl, Nat.zero_le _, rfl, rfl, kq g 0 b 0 ⟨by omega, hg, by omega, Bd.lit, hb0, hb1, by omega, by omega⟩⟩))⟩
end
section
variable {P : Program} {w : World} {K : PySem.W.Frag} {mg : Str → Option Value} {base : Heap}
theorem ok_l_draw {f : Addr} {fd : FuncData} (F : Fun K "_law_draw" "_law_draw" s_l_draw f fd) (m_int : mg "int" = none) : FnOk P w K mg base CX0 1 f fd ["_law_well_here", "_law_limit"] (toSp K JJ.spDrO) := by
  have sc := sc_l_draw
  refine fn_pp F sc (fun pvs m q h => ?_) (fun cdv A outer s H E hr pvs m q h => ?_)
  · obtain ⟨_, _, _, _, _, _, rfl, _⟩ := h
    rfl
  obtain ⟨n, g, a, b, c, lim, rfl, rfl, W, hn, hl0, hl1, kq⟩ := h
  change WSs _ _ [_, _, _, _] [_, _] _
  refine wss_cons ?_
  refine ws_join (fun L m => ∃ g a, L = [some (.ref 1), some (.d (.int lim)), none, none] ∧ m = [some (.lst (g.map .int)), some (.own a b c)] ∧ JJ.WO n g a b c) ?_ ?_
  ·
    refine ws_if ?_
    apply VT.use
    ·
      apply VW.vt
      apply vw_and
      ·
        intro Q hQ
        refine wt_eqI ?_
        refine we_ownN ?_
        refine wv_name 0 rfl (.inl rfl) rfl ?_
        refine we_int ?_
        refine ⟨_, _, _, _, _, _, rfl, rfl, rfl, rfl, ?_⟩
        refine we_int ?_
        refine ⟨_, _, rfl, rfl, ?_⟩
        exact hQ
      intro hg1
      apply vw_and1
      intro Q hQ
      refine wt_neV (by (first | exact hr.units | exact units65 hr | exact units1 hr)) ?_
      refine wv_own0 ?_
      refine wv_name 0 rfl (.inl rfl) rfl ?_
      refine we_int ?_
      refine ⟨_, _, _, _, rfl, rfl, rfl, ?_⟩
      refine wv_we ?_
      refine we_wf ?_
      refine wf_lst ?_
      refine wd_nil ?_
      refine ⟨szl (by simp), ?_⟩
      refine ⟨_, _, rfl, rfl, shp_ints, by (first | rfl | assumption), ?_⟩
      rw [JJ.eqv_nil]
      exact hQ
    refine ⟨fun hif1 => ?_, fun hif1 => ?_⟩
    ·
      obtain ⟨g1, z, rfl⟩ : ∃ g1 z, g = g1 ++ [z] := by
        rcases List.eq_nil_or_concat g with h | ⟨t, z, h⟩
        · subst h
          exact absurd (Bool.and_eq_true_iff.mp hif1).2 (by simp)
        · exact ⟨t, z, by simpa using h⟩
      have hz := W.g0 z (List.mem_append_right _ List.mem_cons_self)
      have hgl := W.gl
      rw [List.length_append, List.length_singleton] at hgl
      change WSs _ _ [_, _, _, _] [_, _] _
      refine wss_one ?_
      refine ws_asg ?_
      refine we_pop ?_
      refine wv_own0 ?_
      refine wv_name 0 rfl (.inl rfl) rfl ?_
      refine we_int ?_
      refine ⟨_, _, _, _, rfl, rfl, rfl, ?_⟩
      refine ⟨_, _, rfl, rfl, ?_⟩
      refine ⟨_, .int z, rfl, ?_, ?_⟩
      · rw [List.map_append]; simp
      rw [List.map_append, show (g1.map PyData.int ++ [z].map PyData.int).dropLast = g1.map .int from by simp]
      refine wg_own ?_
      refine wv_name 0 rfl (.inl rfl) rfl ?_
      refine we_int ?_
      refine ⟨_, _, _, _, _, _, _, rfl, rfl, rfl, rfl, rfl, ?_⟩
      exact ⟨g1, z, rfl, rfl, ⟨by omega, fun y hy => W.g0 y (List.mem_append_left _ hy), hz.1, hz.2, W.b0, W.b1, W.c0, W.c1⟩⟩
    ·
      refine wss_nil ?_
      exact ⟨g, a, rfl, rfl, W⟩
  rintro L m ⟨g2, a2, rfl, rfl, W2⟩
  have hc0 := W2.c0
  have hc1 := W2.c1
  change WSs _ _ [_, _, _, _] [_, _] _
  refine wss_cons ?_
  refine ws_if ?_
  refine wt_gt ?_
  refine we_ownN ?_
  refine wv_name 0 rfl (.inl rfl) rfl ?_
  refine we_int ?_
  refine ⟨_, _, _, _, _, _, rfl, rfl, rfl, rfl, ?_⟩
  refine we_int ?_
  refine ⟨_, _, rfl, rfl, ?_⟩
  refine ⟨fun hif2 => ?_, fun hif2 => ?_⟩
  ·
    change WSs _ _ [_, _, _, _] [_, _] _
    refine wss_cons ?_
    refine ws_set 2 sc.nd rfl (.inl rfl) ?_
    refine we_mod ?_
    refine we_int1 m_int ?_
    refine we_ownN ?_
    refine wv_name 0 rfl (.inl rfl) rfl ?_
    refine we_int ?_
    refine ⟨_, _, _, _, _, _, rfl, rfl, rfl, rfl, ?_⟩
    refine .inl ⟨_, rfl, ?_⟩
    refine we_name 1 rfl (.inl rfl) rfl ?_
    refine ⟨_, _, rfl, rfl, by omega, ?_⟩
    change WSs _ _ [_, _, _, _] [_, _] _
    refine wss_cons ?_
    refine ws_asg ?_
    refine we_fdiv ?_
    refine we_ownN ?_
    refine wv_name 0 rfl (.inl rfl) rfl ?_
    refine we_int ?_
    refine ⟨_, _, _, _, _, _, rfl, rfl, rfl, rfl, ?_⟩
    refine we_name 1 rfl (.inl rfl) rfl ?_
    refine ⟨_, _, rfl, rfl, cdiv_of hl0 (Bd.of (Int.le_of_lt hl0) hl1), ?_⟩
    refine wg_own ?_
    refine wv_name 0 rfl (.inl rfl) rfl ?_
    refine we_int ?_
    refine ⟨_, _, _, _, _, _, _, rfl, rfl, rfl, rfl, rfl, ?_⟩
    change WSs _ _ [_, _, _, _] [_, _] _
    refine wss_one ?_
    refine ws_ret ?_
    refine we_name 2 rfl (.inl rfl) rfl ?_
    exact ⟨Nat.le_refl _, .inl ⟨_, rfl, kq _ _ _ _ _ (Int.emod_nonneg _ (by omega)) (Int.emod_lt_of_pos _ hl0) ⟨W2.gl, W2.g0, Int.ediv_nonneg W2.a0 (by omega), W2.a1.div W2.a0 hl0, W2.b0, W2.b1, hc0, by omega⟩⟩⟩
  ·
    have hcc : Bd 31 (c + 1) := Bd.of (by omega) (by omega)
    have hbb : Bd 62 b := Bd.of W2.b0 W2.b1
    refine wss_nil ?_
    change WSs _ _ [_, _, _, _] [_, _] _
    refine wss_cons ?_
    refine ws_asg ?_
    refine we_add ?_
    refine we_ownN ?_
    refine wv_name 0 rfl (.inl rfl) rfl ?_
    refine we_int ?_
    refine ⟨_, _, _, _, _, _, rfl, rfl, rfl, rfl, ?_⟩
    refine we_int ?_
    refine ⟨_, _, rfl, rfl, ?_⟩
    refine wg_own ?_
    refine wv_name 0 rfl (.inl rfl) rfl ?_
    refine we_int ?_
    refine ⟨_, _, _, _, _, _, _, rfl, rfl, rfl, rfl, rfl, ?_⟩
    change WSs _ _ [_, _, _, _] [_, _] _
    refine wss_cons ?_
    refine ws_set 3 sc.nd rfl (.inl rfl) ?_
    refine we_mod ?_
    refine we_int1 m_int ?_
    refine we_pow ?_
    refine we_add ?_
    refine we_add ?_
    refine we_ownN ?_
    refine wv_name 0 rfl (.inl rfl) rfl ?_
    refine we_int ?_
    refine ⟨_, _, _, _, _, _, rfl, rfl, rfl, rfl, ?_⟩
    refine we_mul ?_
    refine we_mul ?_
    refine we_int ?_
    refine we_ownN ?_
    refine wv_name 0 rfl (.inl rfl) rfl ?_
    refine we_int ?_
    refine ⟨_, _, _, _, _, _, rfl, rfl, rfl, rfl, ?_⟩
    refine ⟨_, _, rfl, rfl, cmul_of (j := 17) Bd.lit hcc, ?_⟩
    refine we_ownN ?_
    refine wv_name 0 rfl (.inl rfl) rfl ?_
    refine we_int ?_
    refine ⟨_, _, _, _, _, _, rfl, rfl, rfl, rfl, ?_⟩
    refine ⟨_, _, rfl, rfl, cmul_of ((Bd.lit (k := 17)).mul hcc) hcc, ?_⟩
    refine ⟨_, _, rfl, rfl, ?_⟩
    refine we_ownN ?_
    refine wv_name 0 rfl (.inl rfl) rfl ?_
    refine we_int ?_
    refine ⟨_, _, _, _, _, _, rfl, rfl, rfl, rfl, ?_⟩
    refine ⟨_, _, rfl, rfl, ?_⟩
    refine we_int ?_
    refine ⟨_, _, rfl, rfl, cpow_of ((hbb.add (((Bd.lit (k := 17)).mul hcc).mul hcc)).add hcc) (by decide) (by decide), ?_⟩
    refine .inl ⟨_, rfl, ?_⟩
    refine we_int ?_
    refine ⟨_, _, rfl, rfl, by decide +kernel, ?_⟩
    change WSs _ _ [_, _, _, _] [_, _] _
    refine wss_one ?_
    refine ws_ret ?_
    refine we_mod ?_
    refine we_fdiv ?_
    refine we_mod ?_
    refine we_int1 m_int ?_
    refine we_mul ?_
    refine we_name 3 rfl (.inl rfl) rfl ?_
    refine we_add ?_
    refine we_name 3 rfl (.inl rfl) rfl ?_
    refine we_int ?_
    refine ⟨_, _, rfl, rfl, ?_⟩
    refine ⟨_, _, rfl, rfl, cmul_of (Bd.mod (k := 110) (by decide +kernel) (by decide +kernel)) ((Bd.mod (k := 110) (by decide +kernel) (by decide +kernel)).add (Bd.lit (k := 6))), ?_⟩
    refine .inl ⟨_, rfl, ?_⟩
    refine we_int ?_
    refine ⟨_, _, rfl, rfl, by decide +kernel, ?_⟩
    refine we_int ?_
    refine ⟨_, _, rfl, rfl, cdiv_of (k := 14) (by decide +kernel) Bd.lit, ?_⟩
    refine we_name 1 rfl (.inl rfl) rfl ?_
    refine ⟨_, _, rfl, rfl, by omega, ?_⟩
    exact ⟨Nat.le_refl _, .inl ⟨_, rfl, kq _ _ _ _ _ (Int.emod_nonneg _ (by omega)) (Int.emod_lt_of_pos _ hl0) ⟨W2.gl, W2.g0, W2.a0, W2.a1, W2.b0, W2.b1, by omega, by omega⟩⟩⟩
end
section
variable {P : Program} {w : World} {K : PySem.W.Frag} {mg : Str → Option Value} {base : Heap}
theorem ok_l_same {f : Addr} {fd : FuncData} (F : Fun K "_law_same" "_law_same" s_l_same f fd) (m__law_same : mg "_law_same" = some (.ref f)) (k__law_same : PySem.W.keepIn K (.ref f) = true) (b__law_same : Binds K fd ["_law_found", "_law_due"] []) (m_isinstance : mg "isinstance" = none) (m_str : mg "str" = none) (m_tuple : mg "tuple" = none) (m_list : mg "list" = none) (m_all : mg "all" = none) (m_int : mg "int" = none) (m_len : mg "len" = none) (m_range : mg "range" = none) : ∀ n : Nat, FnOk P w K mg base CX0 (n + 1) f fd ["_law_found", "_law_due"] (toSp K (JJ.spSm n)) := by
  intro n
  induction n using Nat.strongRecOn with
  | _ n ih =>
  have sc := sc_l_same
  refine fn_pp F sc (fun pvs m q h => ?_) (fun cdv A outer s H E hr pvs m q h => ?_)
  · obtain ⟨_, rfl, _⟩ := h
    rfl
  obtain ⟨d, rfl, rfl, hD, kq⟩ := h
  change WSs _ _ [_, _, _] [] _
  refine wss_cons ?_
  refine ws_if ?_
  refine wt_val ?_
  refine we_isinst2 (S := "tuple") (T := "list") m_isinstance m_tuple m_list (by decide +kernel) (by decide +kernel) ?_
  refine we_name 1 rfl (.inr (.inl rfl)) rfl ?_
  refine ⟨_, _, kit_tuple, kit_list, ?_⟩
  refine ⟨_, rfl, ?_⟩
  refine ⟨fun hif1 => ?_, fun hif1 => ?_⟩
  ·
    have hg90 : (isT "list" d || isT "tuple" d) = true := by rw [Bool.or_comm]; exact hif1
    obtain ⟨j, xs, hnj, hseq, hxl, hxs⟩ := JJ.dl_seq hD hg90
    have F__law_same := ih j (by omega)
    change WSs _ _ [_, _, _] [] _
    refine wss_cons ?_
    refine ws_if ?_
    apply VT.use
    ·
      apply VW.vt
      apply vw_or
      ·
        intro Q hQ
        refine wt_ne (by (first | exact hr.units | exact units65 hr | exact units1 hr)) ?_
        refine we_isinst (T := "tuple") m_isinstance m_tuple (by decide +kernel) ?_
        refine we_name 0 rfl (.inr (.inl rfl)) rfl ?_
        refine ⟨_, kit_tuple, ?_⟩
        refine we_isinst (T := "tuple") m_isinstance m_tuple (by decide +kernel) ?_
        refine we_name 1 rfl (.inr (.inl rfl)) rfl ?_
        refine ⟨_, kit_tuple, ?_⟩
        refine ⟨by (first | rfl | assumption), by (first | rfl | assumption), ?_⟩
        exact hQ
      intro hg1
      apply vw_or1
      intro Q hQ
      refine wt_ne (by (first | exact hr.units | exact units65 hr | exact units1 hr)) ?_
      refine we_isinst (T := "list") m_isinstance m_list (by decide +kernel) ?_
      refine we_name 0 rfl (.inr (.inl rfl)) rfl ?_
      refine ⟨_, kit_list, ?_⟩
      refine we_isinst (T := "list") m_isinstance m_list (by decide +kernel) ?_
      refine we_name 1 rfl (.inr (.inl rfl)) rfl ?_
      refine ⟨_, kit_list, ?_⟩
      refine ⟨by (first | rfl | assumption), by (first | rfl | assumption), ?_⟩
      exact hQ
    refine ⟨fun hif2 => ?_, fun hif2 => ?_⟩
    ·
      exfalso
      simp [JJ.eqvB] at hif2 --done
    ·
      refine wss_nil ?_
      change WSs _ _ [_, _, _] [] _
      refine wss_cons ?_
      refine ws_if ?_
      refine wt_neI ?_
      refine we_len m_len ?_
      refine wv_name 0 rfl (.inr (.inl rfl)) rfl ?_
      refine ⟨_, seq_of hseq _, ?_⟩
      refine we_len m_len ?_
      refine wv_name 1 rfl (.inr (.inl rfl)) rfl ?_
      refine ⟨_, seq_of hseq _, ?_⟩
      refine ⟨_, _, rfl, rfl, ?_⟩
      refine ⟨fun hif3 => ?_, fun hif3 => ?_⟩
      ·
        exfalso
        simp at hif3 --done
      ·
        refine wss_nil ?_
        change WSs _ _ [_, _, _] [] _
        refine wss_one ?_
        refine ws_ret ?_
        refine we_all rfl m_all ?_
        refine wv_we ?_
        refine we_wf ?_
        refine wf_lc [("_law_k", 2)] (.nm 2) rfl sc.nd (blkOk_by (own := [("_law_k", 2)]) (N := ["_law_found", "_law_due", "_law_k"]) (by rfl)) (fun _ _ _ _ _ => pg_nm sc.nd rfl (.inl rfl) (.inr rfl)) (by decide) ?_
        refine wi_rng1 m_range ?_
        refine we_len m_len ?_
        refine wv_name 1 rfl (.inr (.inl rfl)) rfl ?_
        refine ⟨_, seq_of hseq _, ?_⟩
        refine ⟨_, rfl, by omega, by omega, ?_⟩
        refine lcP (szl (by (first | omega | (rw [rgD_len]; omega) | (rw [rgD3_len]; omega) | (simp only [List.length_append, List.length_cons, List.length_nil, List.length_set, List.length_map, List.length_range, rgD_len, rgD3_len, enD_len]; omega) | omega | decide))) trivial (fun _ => .bool true) (fun i x hx => ?_) ?_
        ·
          obtain ⟨hi, rfl⟩ := rgD_get hx
          have hzi : xs.getD (0 + (i : Int)).toNat .none ∈ xs := by
            rw [List.getD_eq_getElem?_getD, List.getElem?_eq_getElem (by omega), Option.getD_some]
            exact List.getElem_mem _
          refine ⟨_, rfl, ?_⟩
          intro sb Hb Cb clb fpb
          refine we_call [] F__law_same (hr.mono (by omega)) m__law_same k__law_same b__law_same ?_
          refine wa_d ?_
          refine we_ix ?_
          refine wv_name 0 rfl (by first | exact .inr (.inl rfl) | exact .inr (.inr rfl)) rfl ?_
          refine we_name 2 rfl (.inl rfl) rfl ?_
          refine ⟨_, _, _, rfl, seq_of hseq _, atI_gd (by omega) (by omega), ?_⟩
          refine wa_d ?_
          refine we_ix ?_
          refine wv_name 1 rfl (by first | exact .inr (.inl rfl) | exact .inr (.inr rfl)) rfl ?_
          refine we_name 2 rfl (.inl rfl) rfl ?_
          refine ⟨_, _, _, rfl, seq_of hseq _, atI_gd (by omega) (by omega), ?_⟩
          refine wa_nil ?_
          refine ⟨by decide, by (simp [setAll_len, setAll_nil]), by (simp [refsIn, setAll_len, setAll_nil, permL]), _, rfl, rfl, hxs _ hzi, _, rfl, rfl, ?_⟩
          exact ⟨rfl, rfl⟩
        refine ⟨List.replicate (rgD 0 (xs.length : Int)).length true, by rw [List.map_replicate, List.map_const', List.length_range]; rfl, ?_⟩
        rw [show (List.replicate (rgD 0 (xs.length : Int)).length true).all id = true from by simp]
        exact ⟨Nat.zero_le _, .inl ⟨_, rfl, kq⟩⟩
  ·
    have hsq : (isT "list" d || isT "tuple" d) = false := by rw [Bool.or_comm]; exact hif1
    obtain ⟨hs, he⟩ := JJ.dq_refl hD hsq
    obtain ⟨h1, _, _⟩ := dq_sc hD.dq hsq
    refine wss_nil ?_
    change WSs _ _ [_, _, _] [] _
    refine wss_cons ?_
    refine ws_if ?_
    apply VT.use
    ·
      apply VW.vt
      apply vw_or
      ·
        intro Q hQ
        refine wt_isNone ?_
        refine we_name 1 rfl (.inr (.inl rfl)) rfl ?_
        refine we_none ?_
        refine ⟨rfl, ?_⟩
        exact hQ
      intro hg2
      apply vw_or
      ·
        intro Q hQ
        refine wt_isX ?_
        refine we_name 1 rfl (.inr (.inl rfl)) rfl ?_
        refine we_bool ?_
        refine ⟨_, rfl, ?_⟩
        exact hQ
      intro hg3
      apply vw_or1
      intro Q hQ
      refine wt_isX ?_
      refine we_name 1 rfl (.inr (.inl rfl)) rfl ?_
      refine we_bool ?_
      refine ⟨_, rfl, ?_⟩
      exact hQ
    refine ⟨fun hif4 => ?_, fun hif4 => ?_⟩
    ·
      change WSs _ _ [_, _, _] [] _
      refine wss_one ?_
      refine ws_ret ?_
      apply VE.use
      ·
        apply ve_or
        ·
          apply ve_and
          ·
            intro Q hQ
            refine we_isNone ?_
            refine we_name 1 rfl (.inr (.inl rfl)) rfl ?_
            refine we_none ?_
            refine ⟨rfl, ?_⟩
            exact hQ
          intro hg5
          apply ve_one
          intro Q hQ
          refine we_isNone ?_
          refine we_name 0 rfl (.inr (.inl rfl)) rfl ?_
          refine we_none ?_
          refine ⟨rfl, ?_⟩
          exact hQ
        intro hg4
        apply ve_or
        ·
          apply ve_and
          ·
            intro Q hQ
            refine we_isX ?_
            refine we_name 1 rfl (.inr (.inl rfl)) rfl ?_
            refine we_bool ?_
            refine ⟨_, rfl, ?_⟩
            exact hQ
          intro hg7
          apply ve_one
          intro Q hQ
          refine we_isX ?_
          refine we_name 0 rfl (.inr (.inl rfl)) rfl ?_
          refine we_bool ?_
          refine ⟨_, rfl, ?_⟩
          exact hQ
        intro hg6
        apply ve_one
        apply ve_and
        ·
          intro Q hQ
          refine we_isX ?_
          refine we_name 1 rfl (.inr (.inl rfl)) rfl ?_
          refine we_bool ?_
          refine ⟨_, rfl, ?_⟩
          exact hQ
        intro hg8
        apply ve_one
        intro Q hQ
        refine we_isX ?_
        refine we_name 0 rfl (.inr (.inl rfl)) rfl ?_
        refine we_bool ?_
        refine ⟨_, rfl, ?_⟩
        exact hQ
      have e4 : ((isNoneD d && isNoneD d) || ((isBoolD true d && isBoolD true d) || (isBoolD false d && isBoolD false d))) = true := by simp only [Bool.and_self]; exact hif4
      rw [e4]
      exact ⟨Nat.zero_le _, .inl ⟨_, rfl, kq⟩⟩
    ·
      refine wss_nil ?_
      change WSs _ _ [_, _, _] [] _
      refine wss_cons ?_
      refine ws_if ?_
      refine wt_val ?_
      refine we_isinst (T := "str") m_isinstance m_str (by decide +kernel) ?_
      refine we_name 1 rfl (.inr (.inl rfl)) rfl ?_
      refine ⟨_, kit_str, ?_⟩
      refine ⟨_, rfl, ?_⟩
      refine ⟨fun hif5 => ?_, fun hif5 => ?_⟩
      ·
        have hst : isT "str" d = true := hif5
        change WSs _ _ [_, _, _] [] _
        refine wss_one ?_
        refine ws_ret ?_
        apply VE.use
        ·
          apply ve_and
          ·
            intro Q hQ
            refine we_isinst (T := "str") m_isinstance m_str (by decide +kernel) ?_
            refine we_name 0 rfl (.inr (.inl rfl)) rfl ?_
            refine ⟨_, kit_str, ?_⟩
            exact hQ
          intro hg9
          apply ve_one
          intro Q hQ
          refine we_eq (by (first | exact hr.units | exact units65 hr | exact units1 hr)) ?_
          refine we_name 0 rfl (.inr (.inl rfl)) rfl ?_
          refine we_name 1 rfl (.inr (.inl rfl)) rfl ?_
          refine ⟨hs, hs, ?_⟩
          exact hQ
        rw [hst, he]
        exact ⟨Nat.zero_le _, .inl ⟨_, rfl, kq⟩⟩
      ·
        have h9 : (isT "int" d || isT "bool" d) = true := by
          cases d <;> first | (simp only [isT, tyD]; decide +kernel) | (exfalso; revert hif4; simp [isNoneD]; done) | (exfalso; revert hif5; simp only [isT, tyD]; decide +kernel) | (exfalso; simp only [isSc] at h1; cases h1; done)
        obtain ⟨_, e67⟩ := Bool.or_eq_false_iff.mp hif4
        obtain ⟨e6, e7⟩ := Bool.or_eq_false_iff.mp e67
        refine wss_nil ?_
        change WSs _ _ [_, _, _] [] _
        refine wss_one ?_
        refine ws_ret ?_
        apply VE.use
        ·
          apply ve_and
          ·
            intro Q hQ
            refine we_isinst (T := "int") m_isinstance m_int (by decide +kernel) ?_
            refine we_name 0 rfl (.inr (.inl rfl)) rfl ?_
            refine ⟨_, kit_int, ?_⟩
            exact hQ
          intro hg10
          apply ve_and
          ·
            intro Q hQ
            refine we_isnotX ?_
            refine we_name 0 rfl (.inr (.inl rfl)) rfl ?_
            refine we_bool ?_
            refine ⟨_, rfl, ?_⟩
            exact hQ
          intro hg11
          apply ve_and
          ·
            intro Q hQ
            refine we_isnotX ?_
            refine we_name 0 rfl (.inr (.inl rfl)) rfl ?_
            refine we_bool ?_
            refine ⟨_, rfl, ?_⟩
            exact hQ
          intro hg12
          apply ve_one
          intro Q hQ
          refine we_eq (by (first | exact hr.units | exact units65 hr | exact units1 hr)) ?_
          refine we_name 0 rfl (.inr (.inl rfl)) rfl ?_
          refine we_name 1 rfl (.inr (.inl rfl)) rfl ?_
          refine ⟨hs, hs, ?_⟩
          exact hQ
        rw [h9, e6, e7, he]
        exact ⟨Nat.zero_le _, .inl ⟨_, rfl, kq⟩⟩
end
section
variable {P : Program} {w : World} {K : PySem.W.Frag} {mg : Str → Option Value} {base : Heap}
theorem ok_l_same_C {f : Addr} {fd : FuncData} (F : Fun K "_law_same" "_law_same" s_l_same f fd) (F__law_same : FnOk P w K mg base CX0 4 f fd ["_law_found", "_law_due"] (toSp K (JJ.spSm 3))) (m__law_same : mg "_law_same" = some (.ref f)) (k__law_same : PySem.W.keepIn K (.ref f) = true) (b__law_same : Binds K fd ["_law_found", "_law_due"] []) (m_isinstance : mg "isinstance" = none) (m_str : mg "str" = none) (m_tuple : mg "tuple" = none) (m_list : mg "list" = none) (m_all : mg "all" = none) (m_int : mg "int" = none) (m_len : mg "len" = none) (m_range : mg "range" = none) : FnOk P w K mg base CX0 5 f fd ["_law_found", "_law_due"] (toSp K JJ.spSmC) := by
  have sc := sc_l_same
  refine fn_pp F sc (fun pvs m q h => ?_) (fun cdv A outer s H E hr pvs m q h => ?_)
  · obtain ⟨_, rfl, _⟩ := h
    rfl
  obtain ⟨xs, rfl, rfl, hxl, hxs, kq⟩ := h
  change WSs _ _ [_, _, _] [_] _
  refine wss_cons ?_
  refine ws_if ?_
  refine wt_val ?_
  refine we_isinst2 (S := "tuple") (T := "list") m_isinstance m_tuple m_list (by decide +kernel) (by decide +kernel) ?_
  refine we_name 1 rfl (.inr (.inl rfl)) rfl ?_
  refine ⟨_, _, kit_tuple, kit_list, ?_⟩
  refine ⟨_, rfl, ?_⟩
  refine ⟨fun hif1 => ?_, fun hif1 => ?_⟩
  ·
    change WSs _ _ [_, _, _] [_] _
    refine wss_cons ?_
    refine ws_if ?_
    apply VT.use
    ·
      apply VW.vt
      apply vw_or
      ·
        intro Q hQ
        refine wt_ne (by (first | exact hr.units | exact units65 hr | exact units1 hr)) ?_
        refine we_isinstV (T := "tuple") m_isinstance m_tuple (by decide +kernel) ?_
        refine wv_name 0 rfl (.inr (.inl rfl)) rfl ?_
        refine ⟨⟨_, rfl⟩, _, kit_tuple (d := .list []), ?_⟩
        refine we_isinst (T := "tuple") m_isinstance m_tuple (by decide +kernel) ?_
        refine we_name 1 rfl (.inr (.inl rfl)) rfl ?_
        refine ⟨_, kit_tuple, ?_⟩
        refine ⟨by (first | rfl | assumption), by (first | rfl | assumption), ?_⟩
        exact hQ
      intro hg1
      apply vw_or1
      intro Q hQ
      refine wt_ne (by (first | exact hr.units | exact units65 hr | exact units1 hr)) ?_
      refine we_isinstV (T := "list") m_isinstance m_list (by decide +kernel) ?_
      refine wv_name 0 rfl (.inr (.inl rfl)) rfl ?_
      refine ⟨⟨_, rfl⟩, _, kit_list (d := .list []), ?_⟩
      refine we_isinst (T := "list") m_isinstance m_list (by decide +kernel) ?_
      refine we_name 1 rfl (.inr (.inl rfl)) rfl ?_
      refine ⟨_, kit_list, ?_⟩
      refine ⟨by (first | rfl | assumption), by (first | rfl | assumption), ?_⟩
      exact hQ
    refine ⟨fun hif2 => ?_, fun hif2 => ?_⟩
    ·
      exfalso
      simp [isT, tyD, JJ.eqvB] at hif2 --done
    ·
      refine wss_nil ?_
      change WSs _ _ [_, _, _] [_] _
      refine wss_cons ?_
      refine ws_if ?_
      refine wt_neI ?_
      refine we_len m_len ?_
      refine wv_name 0 rfl (.inr (.inl rfl)) rfl ?_
      refine ⟨_, rfl, ?_⟩
      refine we_len m_len ?_
      refine wv_name 1 rfl (.inr (.inl rfl)) rfl ?_
      refine ⟨_, rfl, ?_⟩
      refine ⟨_, _, rfl, rfl, ?_⟩
      refine ⟨fun hif3 => ?_, fun hif3 => ?_⟩
      ·
        exfalso
        simp at hif3 --done
      ·
        refine wss_nil ?_
        change WSs _ _ [_, _, _] [_] _
        refine wss_one ?_
        refine ws_ret ?_
        refine we_all rfl m_all ?_
        refine wv_we ?_
        refine we_wf ?_
        refine wf_lc [("_law_k", 2)] (.nm 2) rfl sc.nd (blkOk_by (own := [("_law_k", 2)]) (N := ["_law_found", "_law_due", "_law_k"]) (by rfl)) (fun _ _ _ _ _ => pg_nm sc.nd rfl (.inl rfl) (.inr rfl)) (by decide) ?_
        refine wi_rng1 m_range ?_
        refine we_len m_len ?_
        refine wv_name 1 rfl (.inr (.inl rfl)) rfl ?_
        refine ⟨_, rfl, ?_⟩
        refine ⟨_, rfl, by omega, by omega, ?_⟩
        refine lcP (szl (by (first | omega | (rw [rgD_len]; omega) | (rw [rgD3_len]; omega) | (simp only [List.length_append, List.length_cons, List.length_nil, List.length_set, List.length_map, List.length_range, rgD_len, rgD3_len, enD_len]; omega) | omega | decide))) trivial (fun _ => .bool true) (fun i x hx => ?_) ?_
        ·
          obtain ⟨hi, rfl⟩ := rgD_get hx
          have hzi : xs.getD (0 + (i : Int)).toNat .none ∈ xs := by
            rw [List.getD_eq_getElem?_getD, List.getElem?_eq_getElem (by omega), Option.getD_some]
            exact List.getElem_mem _
          refine ⟨_, rfl, ?_⟩
          intro sb Hb Cb clb fpb
          refine we_call [] F__law_same (hr.mono (by omega)) m__law_same k__law_same b__law_same ?_
          refine wa_d ?_
          refine we_ix ?_
          refine wv_name 0 rfl (by first | exact .inr (.inl rfl) | exact .inr (.inr rfl)) rfl ?_
          refine we_name 2 rfl (.inl rfl) rfl ?_
          refine ⟨_, _, _, rfl, rfl, atI_gd (by omega) (by omega), ?_⟩
          refine wa_d ?_
          refine we_ix ?_
          refine wv_name 1 rfl (by first | exact .inr (.inl rfl) | exact .inr (.inr rfl)) rfl ?_
          refine we_name 2 rfl (.inl rfl) rfl ?_
          refine ⟨_, _, _, rfl, rfl, atI_gd (by omega) (by omega), ?_⟩
          refine wa_nil ?_
          refine ⟨by decide, by (simp [setAll_len, setAll_nil]), by (simp [refsIn, setAll_len, setAll_nil, permL]), _, rfl, rfl, hxs _ hzi, _, rfl, rfl, ?_⟩
          exact ⟨rfl, rfl⟩
        refine ⟨List.replicate (rgD 0 (xs.length : Int)).length true, by rw [List.map_replicate, List.map_const', List.length_range]; rfl, ?_⟩
        rw [show (List.replicate (rgD 0 (xs.length : Int)).length true).all id = true from by simp]
        exact ⟨by simp, .inl ⟨_, rfl, kq⟩⟩
  ·
    exfalso
    revert hif1
    simp only [isT, tyD]
    decide +kernel --done
end
section
variable {P : Program} {w : World} {K : PySem.W.Frag} {mg : Str → Option Value} {base : Heap}
theorem ok_l_sameE {f : Addr} {fd : FuncData} (F : Fun K "_law_same" "_law_same" s_l_same f fd) (m__law_same : mg "_law_same" = some (.ref f)) (k__law_same : PySem.W.keepIn K (.ref f) = true) (b__law_same : Binds K fd ["_law_found", "_law_due"] []) (m_isinstance : mg "isinstance" = none) (m_str : mg "str" = none) (m_tuple : mg "tuple" = none) (m_list : mg "list" = none) (m_all : mg "all" = none) (m_int : mg "int" = none) (m_len : mg "len" = none) (m_range : mg "range" = none) : FnOk P w K mg base CX0 6 f fd ["_law_found", "_law_due"] (toSp K JJ.spSmE) :=
  have A := ok_l_same (P := P) (w := w) (base := base) F m__law_same k__law_same b__law_same m_isinstance m_str m_tuple m_list m_all m_int m_len m_range
  fnok_or (JJ.fnok_up (A 4) (by omega)) (JJ.fnok_up (ok_l_same_C F (A 3) m__law_same k__law_same b__law_same m_isinstance m_str m_tuple m_list m_all m_int m_len m_range) (by omega))
end
section
variable {P : Program} {w : World} {K : PySem.W.Frag} {mg : Str → Option Value} {base : Heap}
theorem ok_u_row {f : Addr} {fd : FuncData} (F : Fun K "u_row" "u_row" s_u_row f fd) {f_check_from : Addr} {fd_check_from : FuncData} (F_check_from : FnOk P w K mg base CX0 1 f_check_from fd_check_from ["number", "least"] (toSp K MM.spFrom)) (m_check_from : mg "check_from" = some (.ref f_check_from)) (k_check_from : PySem.W.keepIn K (.ref f_check_from) = true) (b_check_from : Binds K fd_check_from ["number", "least"] []) {f_plus : Addr} {fd_plus : FuncData} (F_plus : FnOk P w K mg base CX0 4 f_plus fd_plus ["one", "other"] (toSp K JJ.spPlusH)) (m_plus : mg "plus" = some (.ref f_plus)) (k_plus : PySem.W.keepIn K (.ref f_plus) = true) (b_plus : Binds K fd_plus ["one", "other"] []) {f_times : Addr} {fd_times : FuncData} (F_times : FnOk P w K mg base CX0 4 f_times fd_times ["one", "other"] (toSp K JJ.spTimesH)) (m_times : mg "times" = some (.ref f_times)) (k_times : PySem.W.keepIn K (.ref f_times) = true) (b_times : Binds K fd_times ["one", "other"] []) (m_range : mg "range" = none) : FnOk P w K mg base CX0 5 f fd ["many"] (toSp K JJ.spURow) := by
  have sc := sc_u_row
  refine fn_pp F sc (fun pvs m q h => ?_) (fun cdv A outer s H E hr pvs m q h => ?_)
  · obtain ⟨_, rfl, _⟩ := h
    rfl
  obtain ⟨n, rfl, rfl, hn, kq⟩ := h
  change WSs _ _ [_, _, _, _, _] [] _
  refine wss_cons ?_
  refine ws_expr ?_
  refine we_call [] F_check_from (hr.mono (by omega)) m_check_from k_check_from b_check_from ?_
  refine wa_d ?_
  refine we_name 0 rfl (.inl rfl) rfl ?_
  refine wa_d ?_
  refine we_int ?_
  refine wa_nil ?_
  refine ⟨by decide, by (simp [setAll_len, setAll_nil]), by (simp [refsIn, setAll_len, setAll_nil, permL]), _, _, rfl, rfl, by omega, _, rfl, rfl, ?_⟩
  change WSs _ _ [_, _, _, _, _] [] _
  refine wss_cons ?_
  refine ws_setF 1 sc.nd rfl (.inl rfl) ?_
  refine wf_lst ?_
  refine wd_nil ?_
  refine ⟨szl (by simp), ?_⟩
  change WSs _ _ [_, _, _, _, _] [_] _
  refine wss_cons ?_
  refine ws_asg ?_
  refine we_tup ?_
  refine wd_cons ?_
  refine we_tup ?_
  refine wd_nil ?_
  refine ⟨szl (by simp), ?_⟩
  refine wd_cons ?_
  refine we_tup ?_
  refine wd_cons ?_
  refine we_int ?_
  refine wd_nil ?_
  refine ⟨szl (by simp), ?_⟩
  refine wd_nil ?_
  refine ⟨szl (by simp), ?_⟩
  refine wg_tup rfl ?_
  refine ⟨_, rfl, rfl, ?_⟩
  refine wgn_cons ?_
  refine wg_name 2 sc.nd rfl (.inl rfl) ?_
  refine wgn_cons ?_
  refine wg_name 3 sc.nd rfl (.inl rfl) ?_
  refine wgn_nil ?_
  change WSs _ _ [_, _, _, _, _] [_] _
  refine wss_cons ?_
  refine ws_for PassesOwn.never rfl ?_
  refine wi_rng1 m_range ?_
  refine we_name 0 rfl (.inl rfl) rfl ?_
  refine ⟨_, rfl, by omega, by omega, ?_⟩
  refine ⟨fun i L m => ∃ y4, L = [some (.d (.int (n : Nat))), some (.ref 0), some (.d (JJ.tI (JJ.vU i))), some (.d (JJ.tI (JJ.vU (i + 1)))), y4] ∧ m = [some (.lst (JJ.rowU i))], ?_, fun i x L m hx hI => ?_, fun L m hI => ?_⟩
  ·
    exact ⟨_, rfl, rfl⟩
  ·
    obtain ⟨y4, rfl, rfl⟩ := hI
    obtain ⟨hi, rfl⟩ := rgD_get hx
    have hi2 : i < 60 := by omega
    have hrl : (JJ.rowU i).length = i := JJ.rowU_len
    have o1 := JJ.vU_ok i (by omega)
    have o2 := JJ.vU_ok (i + 1) (by omega)
    obtain ⟨o3, o4⟩ := JJ.row_ok i (by omega)
    have hl1 := JJ.vU_len (i + 1) (by omega)
    refine ⟨trivial, ?_⟩
    refine wg_name 4 sc.nd rfl (.inl rfl) ?_
    change WSs _ _ [_, _, _, _, _] [_] _
    refine wss_cons ?_
    refine ws_expr ?_
    refine we_append ?_
    refine wv_name 1 rfl (.inl rfl) rfl ?_
    refine ⟨_, _, rfl, rfl, ?_⟩
    refine we_name 3 rfl (.inl rfl) rfl ?_
    refine ⟨_, rfl, szlt (by omega), ?_⟩
    rw [JJ.rowU_app]
    change WSs _ _ [_, _, _, _, _] [_] _
    refine wss_one ?_
    refine ws_par 2 3 rfl sc.nd rfl rfl (by decide) rfl rfl ?_
    refine wa_d ?_
    refine we_name 3 rfl (.inl rfl) rfl ?_
    refine wa_d ?_
    refine we_call [] F_plus (hr.mono (by omega)) m_plus k_plus b_plus ?_
    refine wa_d ?_
    refine we_catT ?_
    refine we_tup ?_
    refine wd_cons ?_
    refine we_int ?_
    refine wd_nil ?_
    refine ⟨szl (by simp), ?_⟩
    refine we_name 3 rfl (.inl rfl) rfl ?_
    refine ⟨_, _, rfl, rfl, szl (by simp; omega), ?_⟩
    refine wa_d ?_
    refine we_call [] F_times (hr.mono (by omega)) m_times k_times b_times ?_
    refine wa_d ?_
    refine we_tup ?_
    refine wd_cons ?_
    refine we_neg ?_
    refine we_int ?_
    refine ⟨_, rfl, ?_⟩
    refine wd_nil ?_
    refine ⟨szl (by simp), ?_⟩
    refine wa_d ?_
    refine we_name 2 rfl (.inl rfl) rfl ?_
    refine wa_nil ?_
    refine ⟨by decide, by (simp [setAll_len, setAll_nil]), by (simp [refsIn, setAll_len, setAll_nil, permL]), [-1], JJ.vU i, rfl, rfl, .inr (by decide), (JJ.okB_of o1).1, JJ.okB_PH JJ.ok_m1, JJ.okB_PH o1, _, rfl, rfl, ?_⟩
    rw [← JJ.times_quick] at o4
    refine wa_nil ?_
    refine ⟨by decide, by (simp [setAll_len, setAll_nil]), by (simp [refsIn, setAll_len, setAll_nil, permL]), 0 :: JJ.vU (i + 1), JJ.timesP [-1] (JJ.vU i), rfl, rfl, (JJ.okB_of o3).1, (JJ.okB_of o4).1, JJ.okB_PH o3, JJ.okB_PH o4, _, rfl, rfl, ?_⟩
    rw [JJ.rowU_next hi2]
    refine wa_nil ?_
    refine ⟨_, _, rfl, ?_⟩
    exact ⟨_, _, .same (by (repeat (first | exact WkL.nil | refine WkL.kd ?_ | (refine WkL.kr ?_ ?_; focus (simp [setAll_len, setAll_nil]; done)) | refine WkL.kw ?_ | refine WkL.drop ?_))) (by simp [setAll_len]), _, rfl, rfl⟩
  rw [rgD_len, show ((n : Int) - 0).toNat = n by omega] at hI
  obtain ⟨y4, rfl, rfl⟩ := hI
  refine ⟨trivial, ?_⟩
  change WSs _ _ [_, _, _, _, _] [_] _
  refine wss_one ?_
  refine ws_retV ?_
  refine wv_name 1 rfl (.inl rfl) rfl ?_
  exact ⟨Nat.zero_le _, .inr (.inr ⟨0, _, rfl, Nat.le_refl _, rfl, kq⟩)⟩
end
section
variable {P : Program} {w : World} {K : PySem.W.Frag} {mg : Str → Option Value} {base : Heap}
theorem okx_u_row {f : Addr} {fd : FuncData} (F : Fun K "u_row" "u_row" s_u_row f fd) {c_InvalidNumber : Addr} (E_InvalidNumber : EOk P w K mg base "InvalidNumber" c_InvalidNumber (spIn K)) {f_check_from : Addr} {fd_check_from : FuncData} (F_check_from : FnOk P w K mg base CX0 1 f_check_from fd_check_from ["number", "least"] (toSp K MM.spFrom)) (FX_check_from : FnOk P w K mg base (L2.CX P w) 3 f_check_from fd_check_from ["number", "least"] (toSpX K (JJ.spxFrom c_InvalidNumber))) (m_check_from : mg "check_from" = some (.ref f_check_from)) (k_check_from : PySem.W.keepIn K (.ref f_check_from) = true) (b_check_from : Binds K fd_check_from ["number", "least"] []) {f_plus : Addr} {fd_plus : FuncData} (F_plus : FnOk P w K mg base CX0 4 f_plus fd_plus ["one", "other"] (toSp K JJ.spPlusH)) (m_plus : mg "plus" = some (.ref f_plus)) (k_plus : PySem.W.keepIn K (.ref f_plus) = true) (b_plus : Binds K fd_plus ["one", "other"] []) {f_times : Addr} {fd_times : FuncData} (F_times : FnOk P w K mg base CX0 4 f_times fd_times ["one", "other"] (toSp K JJ.spTimesH)) (m_times : mg "times" = some (.ref f_times)) (k_times : PySem.W.keepIn K (.ref f_times) = true) (b_times : Binds K fd_times ["one", "other"] []) (m_range : mg "range" = none) : FnOk P w K mg base (L2.CX P w) 5 f fd ["many"] (toSpX K (JJ.spxURow c_InvalidNumber)) := by
  have sc := sc_u_row
  refine fnx_pp F sc (fun pvs m q h => ?_) (fun cdv A outer s H E hr hpo pvs m q h => ?_)
  · obtain ⟨_, rfl, _⟩ := h
    rfl
  obtain ⟨n, rfl, rfl, hn, kq⟩ := h
  change WSsX _ _ [_, _, _, _, _] [] _ _
  refine wssx_cons ?_
  refine wsx_expr ?_
  refine wex_call [] FX_check_from (hr.mono (by omega)) m_check_from k_check_from b_check_from ?_
  refine wa_d ?_
  refine we_name 0 rfl (.inl rfl) rfl ?_
  refine wa_d ?_
  refine we_int ?_
  refine wa_nil ?_
  refine ⟨by decide, by (simp [setAll_len, setAll_nil]), by (simp [refsIn, setAll_len, setAll_nil, permL]), n, 0, rfl, rfl, hn, rfl, ?_⟩
  exact ⟨Nat.zero_le _, kq⟩
end
section
variable {P : Program} {w : World} {K : PySem.W.Frag} {mg : Str → Option Value} {base : Heap}
theorem ok_p_content {f : Addr} {fd : FuncData} (F : Fun K "_content" "_content" s_p_content f fd) (m_gcd : mg "gcd" = some (.builtin "math.gcd")) : FnOk P w K mg base CX0 1 f fd ["poly"] (toSp K JJ.spCont) := by
  have sc := sc_p_content
  refine fn_pp F sc (fun pvs m q h => ?_) (fun cdv A outer s H E hr pvs m q h => ?_)
  · obtain ⟨_, rfl, _⟩ := h
    rfl
  obtain ⟨ws, rfl, rfl, hl, kq⟩ := h
  have hlm_ws : (ws.map PyData.int).length = ws.length := List.length_map ..
  change WSs _ _ [_, _, _] [] _
  refine wss_cons ?_
  refine ws_set 1 sc.nd rfl (.inl rfl) ?_
  refine we_int ?_
  change WSs _ _ [_, _, _] [] _
  refine wss_cons ?_
  refine ws_for PassesOwn.never rfl ?_
  refine wi_tup ?_
  refine we_name 0 rfl (.inl rfl) rfl ?_
  refine ⟨_, rfl, ?_⟩
  refine ⟨fun i L m => ∃ y2, L = [some (.d (JJ.tI ws)), some (.d (.int (JJ.contN (ws.take i) : Nat))), y2] ∧ m = [], ?_, fun i x L m hx hI => ?_, fun L m hI => ?_⟩
  ·
    exact ⟨_, rfl, rfl⟩
  ·
    obtain ⟨y2, rfl, rfl⟩ := hI
    obtain ⟨c, hc, rfl⟩ := JJ.map_at hx
    refine ⟨trivial, ?_⟩
    refine wg_name 2 sc.nd rfl (.inl rfl) ?_
    change WSs _ _ [_, _, _] [] _
    refine wss_one ?_
    refine ws_set 1 sc.nd rfl (.inl rfl) ?_
    refine we_gcd m_gcd ?_
    refine we_name 1 rfl (.inl rfl) rfl ?_
    refine we_name 2 rfl (.inl rfl) rfl ?_
    refine ⟨_, _, rfl, rfl, ?_⟩
    rw [Int.natAbs_natCast, JJ.cont_next hc]
    exact ⟨_, _, .same (by (repeat (first | exact WkL.nil | refine WkL.kd ?_ | (refine WkL.kr ?_ ?_; focus (simp [setAll_len, setAll_nil]; done)) | refine WkL.kw ?_ | refine WkL.drop ?_))) (by simp [setAll_len]), _, rfl, rfl⟩
  rw [hlm_ws] at hI
  obtain ⟨y2, rfl, rfl⟩ := hI
  rw [List.take_length]
  refine ⟨trivial, ?_⟩
  change WSs _ _ [_, _, _] [] _
  refine wss_one ?_
  refine ws_ret ?_
  refine we_name 1 rfl (.inl rfl) rfl ?_
  exact ⟨Nat.zero_le _, .inl ⟨_, rfl, kq⟩⟩
end
section
variable {P : Program} {w : World} {K : PySem.W.Frag} {mg : Str → Option Value} {base : Heap}
theorem ok_p_primitive {f : Addr} {fd : FuncData} (F : Fun K "_primitive" "_primitive" s_p_primitive f fd) {f__content : Addr} {fd__content : FuncData} (F__content : FnOk P w K mg base CX0 1 f__content fd__content ["poly"] (toSp K JJ.spCont)) (m__content : mg "_content" = some (.ref f__content)) (k__content : PySem.W.keepIn K (.ref f__content) = true) (b__content : Binds K fd__content ["poly"] []) (m_tuple : mg "tuple" = none) : FnOk P w K mg base CX0 2 f fd ["poly"] (toSp K JJ.spPrim) := by
  have sc := sc_p_primitive
  refine fn_pp F sc (fun pvs m q h => ?_) (fun cdv A outer s H E hr pvs m q h => ?_)
  · obtain ⟨_, rfl, _⟩ := h
    rfl
  obtain ⟨ws, rfl, rfl, hk, kq⟩ := h
  have hlm_ws : (ws.map PyData.int).length = ws.length := List.length_map ..
  have hl := (JJ.chk_of hk).1
  change WSs _ _ [_, _, _] [] _
  refine wss_cons ?_
  refine ws_if ?_
  refine wt_not ?_
  refine wt_truth ?_
  refine wv_name 0 rfl (.inl rfl) rfl ?_
  refine ⟨_, rfl, ?_⟩
  refine ⟨fun hif1 => ?_, fun hif1 => ?_⟩
  ·
    have hn : ws = [] := by
      cases ws with
      | nil => rfl
      | cons x t => simp at hif1
    subst hn
    change WSs _ _ [_, _, _] [] _
    refine wss_one ?_
    refine ws_ret ?_
    refine we_tup ?_
    refine wd_nil ?_
    refine ⟨szl (by simp), ?_⟩
    exact ⟨Nat.zero_le _, .inl ⟨_, rfl, kq⟩⟩
  ·
    have hne : ws ≠ [] := fun z => by subst z; simp at hif1
    have hc := (JJ.chk_of hk).2 hne
    refine wss_nil ?_
    change WSs _ _ [_, _, _] [] _
    refine wss_cons ?_
    refine ws_set 1 sc.nd rfl (.inr rfl) ?_
    refine we_if ?_
    refine wt_gt ?_
    refine we_ix ?_
    refine wv_name 0 rfl (.inl rfl) rfl ?_
    refine we_neg ?_
    refine we_int ?_
    refine ⟨_, rfl, ?_⟩
    refine ⟨_, _, _, rfl, rfl, JJ.atI_lastP hne, ?_⟩
    rw [JJ.lst_at]
    refine we_int ?_
    refine ⟨_, _, rfl, rfl, ?_⟩
    refine ⟨fun hif2 => ?_, fun hif2 => ?_⟩
    ·
      refine we_call [] F__content (hr.mono (by omega)) m__content k__content b__content ?_
      refine wa_d ?_
      refine we_name 0 rfl (.inl rfl) rfl ?_
      refine wa_nil ?_
      refine ⟨by decide, by (simp [setAll_len, setAll_nil]), by (simp [refsIn, setAll_len, setAll_nil, permL]), ws, rfl, rfl, by omega, _, rfl, rfl, ?_⟩
      change WSs _ _ [_, _, _] [] _
      refine wss_one ?_
      refine ws_ret ?_
      refine we_tuple1 m_tuple ?_
      refine wv_we ?_
      refine we_wf ?_
      refine wf_lc [("coefficient", 2)] (.nm 2) rfl sc.nd (blkOk_by (own := [("coefficient", 2)]) (N := ["poly", "divisor", "coefficient"]) (by rfl)) (fun _ _ _ _ _ => pg_nm sc.nd rfl (.inl rfl) (.inr rfl)) (by decide) ?_
      refine wi_tup ?_
      refine we_name 0 rfl (.inl rfl) rfl ?_
      refine ⟨_, rfl, ?_⟩
      refine lcP (szl (by (first | omega | (rw [rgD_len]; omega) | (rw [rgD3_len]; omega) | (simp only [List.length_append, List.length_cons, List.length_nil, List.length_set, List.length_map, List.length_range, rgD_len, rgD3_len, enD_len]; omega) | omega | decide))) trivial (fun i => .int ((ws.getD i 0).fdiv ((JJ.contN ws : Nat)))) (fun i x hx => ?_) ?_
      ·
        obtain ⟨c, hc, rfl⟩ := JJ.map_at hx
        have hcg : ws.getD i 0 = c := by rw [List.getD_eq_getElem?_getD, hc]; rfl
        refine ⟨_, rfl, ?_⟩
        intro sb Hb Cb clb fpb
        refine we_fdivN ?_
        refine we_name 2 rfl (.inl rfl) rfl ?_
        refine we_name 1 rfl (by first | exact .inr (.inl rfl) | exact .inr (.inr rfl)) rfl ?_
        refine ⟨_, _, rfl, rfl, ⟨by omega, by omega⟩, ?_⟩
        rw [← hcg]
        exact ⟨rfl, rfl⟩
      refine ⟨_, rfl, ?_⟩
      rw [hlm_ws]
      rw [JJ.prim_map hne] at kq
      rw [if_pos (of_decide_eq_true hif2), JJ.tI_range] at kq
      exact ⟨by simp [setAll_len], .inl ⟨_, rfl, kq⟩⟩
    ·
      refine we_neg ?_
      refine we_call [] F__content (hr.mono (by omega)) m__content k__content b__content ?_
      refine wa_d ?_
      refine we_name 0 rfl (.inl rfl) rfl ?_
      refine wa_nil ?_
      refine ⟨by decide, by (simp [setAll_len, setAll_nil]), by (simp [refsIn, setAll_len, setAll_nil, permL]), ws, rfl, rfl, by omega, _, rfl, rfl, ?_⟩
      refine ⟨_, rfl, ?_⟩
      change WSs _ _ [_, _, _] [] _
      refine wss_one ?_
      refine ws_ret ?_
      refine we_tuple1 m_tuple ?_
      refine wv_we ?_
      refine we_wf ?_
      refine wf_lc [("coefficient", 2)] (.nm 2) rfl sc.nd (blkOk_by (own := [("coefficient", 2)]) (N := ["poly", "divisor", "coefficient"]) (by rfl)) (fun _ _ _ _ _ => pg_nm sc.nd rfl (.inl rfl) (.inr rfl)) (by decide) ?_
      refine wi_tup ?_
      refine we_name 0 rfl (.inl rfl) rfl ?_
      refine ⟨_, rfl, ?_⟩
      refine lcP (szl (by (first | omega | (rw [rgD_len]; omega) | (rw [rgD3_len]; omega) | (simp only [List.length_append, List.length_cons, List.length_nil, List.length_set, List.length_map, List.length_range, rgD_len, rgD3_len, enD_len]; omega) | omega | decide))) trivial (fun i => .int ((ws.getD i 0).fdiv (-((JJ.contN ws : Nat) : Int)))) (fun i x hx => ?_) ?_
      ·
        obtain ⟨c, hc, rfl⟩ := JJ.map_at hx
        have hcg : ws.getD i 0 = c := by rw [List.getD_eq_getElem?_getD, hc]; rfl
        refine ⟨_, rfl, ?_⟩
        intro sb Hb Cb clb fpb
        refine we_fdivN ?_
        refine we_name 2 rfl (.inl rfl) rfl ?_
        refine we_name 1 rfl (by first | exact .inr (.inl rfl) | exact .inr (.inr rfl)) rfl ?_
        refine ⟨_, _, rfl, rfl, ⟨by omega, by omega⟩, ?_⟩
        rw [← hcg]
        exact ⟨rfl, rfl⟩
      refine ⟨_, rfl, ?_⟩
      rw [hlm_ws]
      rw [JJ.prim_map hne] at kq
      rw [if_neg (of_decide_eq_false hif2), JJ.tI_range] at kq
      exact ⟨by simp [setAll_len], .inl ⟨_, rfl, kq⟩⟩
end
section
variable {P : Program} {w : World} {K : PySem.W.Frag} {mg : Str → Option Value} {base : Heap}
theorem ok_p_rest {f : Addr} {fd : FuncData} (F : Fun K "_rest" "_rest" s_p_rest f fd) {f__take_away : Addr} {fd__take_away : FuncData} (F__take_away : FnOk P w K mg base CX0 1 f__take_away fd__take_away ["row", "factor", "poly", "power"] (toSp K JJ.spTakeG)) (m__take_away : mg "_take_away" = some (.ref f__take_away)) (k__take_away : PySem.W.keepIn K (.ref f__take_away) = true) (b__take_away : Binds K fd__take_away ["row", "factor", "poly", "power"] []) {f__poly_of : Addr} {fd__poly_of : FuncData} (F__poly_of : FnOk P w K mg base CX0 1 f__poly_of fd__poly_of ["row"] (toSp K JJ.spPolyOf)) (m__poly_of : mg "_poly_of" = some (.ref f__poly_of)) (k__poly_of : PySem.W.keepIn K (.ref f__poly_of) = true) (b__poly_of : Binds K fd__poly_of ["row"] []) (m_len : mg "len" = none) (m_gcd : mg "gcd" = some (.builtin "math.gcd")) : FnOk P w K mg base CX0 2 f fd ["one", "other"] (toSp K JJ.spRest) := by
  have sc := sc_p_rest
  refine fn_pp F sc (fun pvs m q h => ?_) (fun cdv A outer s H E hr pvs m q h => ?_)
  · obtain ⟨_, _, _, rfl, _⟩ := h
    rfl
  obtain ⟨a, b, res, rfl, rfl, ha, hb, hne, hres, kq⟩ := h
  have hlm_a : (a.map PyData.int).length = a.length := List.length_map ..
  have hlm_b : (b.map PyData.int).length = b.length := List.length_map ..
  have hlb := (JJ.okB_of hb).2.1
  have hb0 := JJ.lst_ne hb hne
  have hbb := JJ.lst_bd hb hne
  change WSs _ _ [_, _, _, _, _, _] [] _
  refine wss_cons ?_
  refine ws_set 2 sc.nd rfl (.inl rfl) ?_
  refine we_name 0 rfl (.inl rfl) rfl ?_
  change WSs _ _ [_, _, _, _, _, _] [] _
  refine wss_cons ?_
  refine ws_whileW PassesOwn.never (fun v L m => ∃ (r : List Int) (y3 : Option PV), L = [some (.d (JJ.tI a)), some (.d (JJ.tI b)), some (.d (JJ.tI r)), y3, none, none] ∧ m = [] ∧ JJ.okB r = true ∧ JJ.restF v r b = some res) 40 ?_ (fun v L m hl2 hI => ?_)
  ·
    exact ⟨a, _, rfl, rfl, ha, hres⟩
  obtain ⟨r, y3, rfl, rfl, hok, hrf⟩ := hI
  have hlm_r : (r.map PyData.int).length = r.length := List.length_map ..
  have hlr := (JJ.okB_of hok).2.1
  refine wt_ge ?_
  refine we_len m_len ?_
  refine wv_name 2 rfl (.inl rfl) rfl ?_
  refine ⟨_, rfl, ?_⟩
  simp only [List.length_map]
  refine we_len m_len ?_
  refine wv_name 1 rfl (.inr (.inl rfl)) rfl ?_
  refine ⟨_, rfl, ?_⟩
  simp only [List.length_map]
  refine ⟨_, _, rfl, rfl, ?_⟩
  refine ⟨fun hwhile1 => ?_, fun hwhile1 => ?_⟩
  ·
    have hge := of_decide_eq_true hwhile1
    obtain ⟨k, rfl, ho2, hrs2⟩ := JJ.restF_go hrf (by omega)
    have hb1 := List.length_pos_iff.mpr hne
    have hrn : r ≠ [] := List.length_pos_iff.mp (by omega)
    have hg0 := JJ.gN_pos (a := JJ.lstZ r) hb0
    have hgb := JJ.gN_bd (a := JJ.lstZ r) hb0 hbb
    have hml : (JJ.mapR r b).length = r.length := by unfold JJ.mapR; exact List.length_map ..
    change WSs _ _ [_, _, _, _, _, _] [] _
    refine wss_cons ?_
    refine ws_set 3 sc.nd rfl (.inr rfl) ?_
    refine we_gcd m_gcd ?_
    refine we_ix ?_
    refine wv_name 2 rfl (.inl rfl) rfl ?_
    refine we_neg ?_
    refine we_int ?_
    refine ⟨_, rfl, ?_⟩
    refine ⟨_, _, _, rfl, rfl, JJ.atI_lastP hrn, ?_⟩
    rw [JJ.lst_at]
    refine we_ix ?_
    refine wv_name 1 rfl (.inr (.inl rfl)) rfl ?_
    refine we_neg ?_
    refine we_int ?_
    refine ⟨_, rfl, ?_⟩
    refine ⟨_, _, _, rfl, rfl, JJ.atI_lastP hne, ?_⟩
    rw [JJ.lst_at]
    refine ⟨_, _, rfl, rfl, ?_⟩
    rw [show Nat.gcd (JJ.lstZ r).natAbs (JJ.lstZ b).natAbs = JJ.gN (JJ.lstZ r) (JJ.lstZ b) from rfl]
    change WSs _ _ [_, _, _, _, _, _] [] _
    refine wss_cons ?_
    refine ws_setLc 4 [("coefficient", 5)] (.nm 5) rfl sc.nd rfl rfl (sw_true rfl rfl rfl (by decide +kernel)) (blkOk_by (own := [("coefficient", 5)]) (N := ["one", "other", "rest", "shared", "row", "coefficient"]) (by rfl)) (fun _ _ _ _ _ => pg_nm sc.nd rfl (.inl rfl) (.inr rfl)) (by decide) ?_
    refine wi_tup ?_
    refine we_name 2 rfl (.inl rfl) rfl ?_
    refine ⟨_, rfl, ?_⟩
    refine lcP (szl (by (first | omega | (rw [rgD_len]; omega) | (rw [rgD3_len]; omega) | (simp only [List.length_append, List.length_cons, List.length_nil, List.length_set, List.length_map, List.length_range, rgD_len, rgD3_len, enD_len]; omega) | omega | decide))) trivial (fun i => .int (JJ.lstZ b / (JJ.gN (JJ.lstZ r) (JJ.lstZ b) : Nat) * r.getD i 0)) (fun i x hx => ?_) ?_
    ·
      obtain ⟨c, hc, rfl⟩ := JJ.map_at hx
      have hcg : r.getD i 0 = c := by rw [List.getD_eq_getElem?_getD, hc]; rfl
      refine ⟨_, rfl, ?_⟩
      intro sb Hb Cb clb fpb
      refine we_mul ?_
      refine we_fdiv ?_
      refine we_ix ?_
      refine wv_name 1 rfl (by first | exact .inr (.inl rfl) | exact .inr (.inr rfl)) rfl ?_
      refine we_neg ?_
      refine we_int ?_
      refine ⟨_, rfl, ?_⟩
      refine ⟨_, _, _, rfl, rfl, JJ.atI_lastP hne, ?_⟩
      rw [JJ.lst_at]
      refine we_name 3 rfl (by first | exact .inr (.inl rfl) | exact .inr (.inr rfl)) rfl ?_
      refine ⟨_, _, rfl, rfl, cdiv_of hg0 hgb, ?_⟩
      refine we_name 5 rfl (.inl rfl) rfl ?_
      refine ⟨_, _, rfl, rfl, cmul_of (JJ.bd_div hbb) ((JJ.okB_of hok).2.2 _ (List.mem_of_getElem? hc)), ?_⟩
      rw [← hcg]
      exact ⟨rfl, rfl⟩
    refine .inr ?_
    rw [hlm_r, show ((List.range r.length).map fun i : Nat => PyData.int (JJ.lstZ b / (JJ.gN (JJ.lstZ r) (JJ.lstZ b) : Nat) * r.getD i 0)) = (JJ.mapR r b).map .int from JJ.mapR_data]
    change WSs _ _ [_, _, _, _, _, _] [_] _
    refine wss_cons ?_
    refine ws_expr ?_
    refine we_call [0] F__take_away (hr.mono (by omega)) m__take_away k__take_away b__take_away ?_
    refine wa_cons ?_
    refine wv_name 4 rfl (.inl rfl) rfl ?_
    refine wa_d ?_
    refine we_fdiv ?_
    refine we_ix ?_
    refine wv_name 2 rfl (.inl rfl) rfl ?_
    refine we_neg ?_
    refine we_int ?_
    refine ⟨_, rfl, ?_⟩
    refine ⟨_, _, _, rfl, rfl, JJ.atI_lastP hrn, ?_⟩
    rw [JJ.lst_at]
    refine we_name 3 rfl (.inr (.inl rfl)) rfl ?_
    refine ⟨_, _, rfl, rfl, cdiv_of hg0 hgb, ?_⟩
    refine wa_d ?_
    refine we_name 1 rfl (.inr (.inl rfl)) rfl ?_
    refine wa_d ?_
    refine we_sub ?_
    refine we_len m_len ?_
    refine wv_name 2 rfl (.inl rfl) rfl ?_
    refine ⟨_, rfl, ?_⟩
    simp only [List.length_map]
    refine we_len m_len ?_
    refine wv_name 1 rfl (.inr (.inl rfl)) rfl ?_
    refine ⟨_, rfl, ?_⟩
    simp only [List.length_map]
    refine ⟨_, _, rfl, rfl, ?_⟩
    refine wa_nil ?_
    rw [show ((r.length : Int) - (b.length : Int)) = ((r.length - b.length : Nat) : Int) by omega]
    refine ⟨by decide, by (simp [setAll_len, setAll_nil]), by (simp [refsIn, setAll_len, setAll_nil, permL]), JJ.mapR r b, b, _, r.length - b.length, rfl, rfl, by omega, by omega, (JJ.bd_div (JJ.lst_bd hok hrn)).mono (by decide), fun c hc => ((JJ.okB_of hb).2.2 c hc).mono (by decide), _, rfl, rfl, ?_⟩
    change WSs _ _ [_, _, _, _, _, _] [_] _
    refine wss_one ?_
    refine ws_set 2 sc.nd rfl (.inl rfl) ?_
    refine we_call [0] F__poly_of (hr.mono (by omega)) m__poly_of k__poly_of b__poly_of ?_
    refine wa_cons ?_
    refine wv_name 4 rfl (.inl rfl) rfl ?_
    refine wa_nil ?_
    refine ⟨by decide, by (simp [setAll_len, setAll_nil]), by (simp [refsIn, setAll_len, setAll_nil, permL]), _, rfl, rfl, by rw [JJ.subAt_len]; omega, _, rfl, rfl, ?_⟩
    rw [show JJ.cutZ (JJ.takeA (JJ.mapR r b) (JJ.lstZ r / (JJ.gN (JJ.lstZ r) (JJ.lstZ b) : Nat)) b (r.length - b.length)) = JJ.restQ r b from JJ.rest_quick (by omega)]
    exact ⟨_, _, .cut (by (repeat (first | exact WkL.nil | refine WkL.kd ?_ | (refine WkL.kr ?_ ?_; focus (simp [setAll_len, setAll_nil]; done)) | refine WkL.kw ?_ | refine WkL.drop ?_))), by simp, k, by omega, JJ.restQ r b, _, rfl, rfl, ho2, hrs2⟩
  have hlt := of_decide_eq_false hwhile1
  have e9 := JJ.restF_end hrf (by omega)
  subst e9
  change WSs _ _ [_, _, _, _, _, _] [] _
  refine wss_one ?_
  refine ws_ret ?_
  refine we_name 2 rfl (.inl rfl) rfl ?_
  exact ⟨Nat.zero_le _, .inl ⟨_, rfl, kq⟩⟩
end
section
variable {P : Program} {w : World} {K : PySem.W.Frag} {mg : Str → Option Value} {base : Heap}
theorem ok_common {f : Addr} {fd : FuncData} (F : Fun K "common" "common" s_common f fd) {f__check_two : Addr} {fd__check_two : FuncData} (F__check_two : FnOk P w K mg base CX0 3 f__check_two fd__check_two ["one", "other"] (toSp K JJ.spCkP2)) (m__check_two : mg "_check_two" = some (.ref f__check_two)) (k__check_two : PySem.W.keepIn K (.ref f__check_two) = true) (b__check_two : Binds K fd__check_two ["one", "other"] []) {f_times : Addr} {fd_times : FuncData} (F_times : FnOk P w K mg base CX0 4 f_times fd_times ["one", "other"] (toSp K JJ.spTimesH)) (m_times : mg "times" = some (.ref f_times)) (k_times : PySem.W.keepIn K (.ref f_times) = true) (b_times : Binds K fd_times ["one", "other"] []) {f__content : Addr} {fd__content : FuncData} (F__content : FnOk P w K mg base CX0 1 f__content fd__content ["poly"] (toSp K JJ.spCont)) (m__content : mg "_content" = some (.ref f__content)) (k__content : PySem.W.keepIn K (.ref f__content) = true) (b__content : Binds K fd__content ["poly"] []) {f__primitive : Addr} {fd__primitive : FuncData} (F__primitive : FnOk P w K mg base CX0 2 f__primitive fd__primitive ["poly"] (toSp K JJ.spPrim)) (m__primitive : mg "_primitive" = some (.ref f__primitive)) (k__primitive : PySem.W.keepIn K (.ref f__primitive) = true) (b__primitive : Binds K fd__primitive ["poly"] []) {f__rest : Addr} {fd__rest : FuncData} (F__rest : FnOk P w K mg base CX0 2 f__rest fd__rest ["one", "other"] (toSp K JJ.spRest)) (m__rest : mg "_rest" = some (.ref f__rest)) (k__rest : PySem.W.keepIn K (.ref f__rest) = true) (b__rest : Binds K fd__rest ["one", "other"] []) (m_gcd : mg "gcd" = some (.builtin "math.gcd")) : FnOk P w K mg base CX0 5 f fd ["one", "other"] (toSp K JJ.spCommU) := by
  have sc := sc_common
  refine fn_pp F sc (fun pvs m q h => ?_) (fun cdv A outer s H E hr pvs m q h => ?_)
  · obtain ⟨_, _, rfl, _⟩ := h
    rfl
  obtain ⟨a, b, rfl, rfl, ha0, ha, hb0, hb, kq⟩ := h
  have oa := JJ.vU_ok a (by omega)
  have ob := JJ.vU_ok b (by omega)
  have hla := JJ.vU_len a (by omega)
  have hlb := JJ.vU_len b (by omega)
  change WSs _ _ [_, _, _, _, _] [] _
  refine wss_cons ?_
  refine ws_expr ?_
  refine we_call [] F__check_two (hr.mono (by omega)) m__check_two k__check_two b__check_two ?_
  refine wa_d ?_
  refine we_name 0 rfl (.inl rfl) rfl ?_
  refine wa_d ?_
  refine we_name 1 rfl (.inl rfl) rfl ?_
  refine wa_nil ?_
  refine ⟨by decide, by (simp [setAll_len, setAll_nil]), by (simp [refsIn, setAll_len, setAll_nil, permL]), JJ.vU a, JJ.vU b, rfl, rfl, (JJ.okB_of oa).1, (JJ.okB_of ob).1, by omega, by omega, _, rfl, rfl, ?_⟩
  change WSs _ _ [_, _, _, _, _] [] _
  refine wss_cons ?_
  refine ws_set 2 sc.nd rfl (.inl rfl) ?_
  refine we_gcd m_gcd ?_
  refine we_call [] F__content (hr.mono (by omega)) m__content k__content b__content ?_
  refine wa_d ?_
  refine we_name 0 rfl (.inl rfl) rfl ?_
  refine wa_nil ?_
  refine ⟨by decide, by (simp [setAll_len, setAll_nil]), by (simp [refsIn, setAll_len, setAll_nil, permL]), JJ.vU a, rfl, rfl, by rw [JJ.vU_len _ (by omega)]; omega, _, rfl, rfl, ?_⟩
  rw [(JJ.cont_ok ha0 ha).1]
  refine we_call [] F__content (hr.mono (by omega)) m__content k__content b__content ?_
  refine wa_d ?_
  refine we_name 1 rfl (.inl rfl) rfl ?_
  refine wa_nil ?_
  refine ⟨by decide, by (simp [setAll_len, setAll_nil]), by (simp [refsIn, setAll_len, setAll_nil, permL]), JJ.vU b, rfl, rfl, by rw [JJ.vU_len _ (by omega)]; omega, _, rfl, rfl, ?_⟩
  rw [(JJ.cont_ok hb0 hb).1]
  refine ⟨_, _, rfl, rfl, ?_⟩
  change WSs _ _ [_, _, _, _, _] [] _
  refine wss_cons ?_
  refine ws_par 3 4 rfl sc.nd rfl rfl (by decide) rfl rfl ?_
  refine wa_d ?_
  refine we_call [] F__primitive (hr.mono (by omega)) m__primitive k__primitive b__primitive ?_
  refine wa_d ?_
  refine we_name 0 rfl (.inl rfl) rfl ?_
  refine wa_nil ?_
  refine ⟨by decide, by (simp [setAll_len, setAll_nil]), by (simp [refsIn, setAll_len, setAll_nil, permL]), JJ.vU a, rfl, rfl, JJ.chk_vU (by omega), _, rfl, rfl, ?_⟩
  rw [(JJ.cont_ok ha0 ha).2]
  refine wa_d ?_
  refine we_call [] F__primitive (hr.mono (by omega)) m__primitive k__primitive b__primitive ?_
  refine wa_d ?_
  refine we_name 1 rfl (.inl rfl) rfl ?_
  refine wa_nil ?_
  refine ⟨by decide, by (simp [setAll_len, setAll_nil]), by (simp [refsIn, setAll_len, setAll_nil, permL]), JJ.vU b, rfl, rfl, JJ.chk_vU (by omega), _, rfl, rfl, ?_⟩
  rw [(JJ.cont_ok hb0 hb).2]
  refine wa_nil ?_
  refine ⟨_, _, rfl, ?_⟩
  change WSs _ _ [_, _, _, _, _] [] _
  refine wss_cons ?_
  refine ws_while PassesOwn.never (fun v L m => ∃ c d : Nat, L = [some (.d (JJ.tI (JJ.vU a))), some (.d (JJ.tI (JJ.vU b))), some (.d (.int 1)), some (.d (JJ.tI (JJ.vU c))), some (.d (JJ.tI (JJ.vU d)))] ∧ m = [] ∧ 0 < c ∧ c < 31 ∧ d < 31 ∧ JJ.cmF v c d = some (Nat.gcd a b)) 40 ?_ (fun v L m hl2 hI => ?_)
  ·
    exact ⟨a, b, rfl, rfl, ha0, ha, hb, JJ.cm_ok ha0 ha hb0 hb⟩
  obtain ⟨c, d, rfl, rfl, hc0, hc, hd, hcm⟩ := hI
  refine wt_truth ?_
  refine wv_name 4 rfl (.inl rfl) rfl ?_
  refine ⟨_, rfl, ?_⟩
  rw [show ((JJ.vU d).map PyData.int).isEmpty = decide (d = 0) from by rw [← JJ.vU_nil (by omega)]; cases JJ.vU d <;> rfl]
  refine ⟨fun hwhile1 => ?_, fun hwhile1 => ?_⟩
  ·
    have hd0 : d ≠ 0 := by simpa using hwhile1
    obtain ⟨k, rfl, hk⟩ := JJ.cm_go hcm hd0
    obtain ⟨r, hrs, hch, hpr⟩ := JJ.rest_ok hc hd hd0
    have hnx := JJ.nx_lt hc hd hd0
    have hdl := JJ.vU_len d (by omega)
    change WSs _ _ [_, _, _, _, _] [] _
    refine wss_one ?_
    refine ws_par 3 4 rfl sc.nd rfl rfl (by decide) rfl rfl ?_
    refine wa_d ?_
    refine we_name 4 rfl (.inl rfl) rfl ?_
    refine wa_d ?_
    refine we_call [] F__primitive (hr.mono (by omega)) m__primitive k__primitive b__primitive ?_
    refine wa_d ?_
    refine we_call [] F__rest (hr.mono (by omega)) m__rest k__rest b__rest ?_
    refine wa_d ?_
    refine we_name 3 rfl (.inl rfl) rfl ?_
    refine wa_d ?_
    refine we_name 4 rfl (.inl rfl) rfl ?_
    refine wa_nil ?_
    refine ⟨by decide, by (simp [setAll_len, setAll_nil]), by (simp [refsIn, setAll_len, setAll_nil, permL]), JJ.vU c, JJ.vU d, r, rfl, rfl, JJ.vU_ok c (by omega), JJ.vU_ok d (by omega), fun z => by rw [z] at hdl; simp at hdl; omega, hrs, _, rfl, rfl, ?_⟩
    refine wa_nil ?_
    refine ⟨by decide, by (simp [setAll_len, setAll_nil]), by (simp [refsIn, setAll_len, setAll_nil, permL]), r, rfl, rfl, hch, _, rfl, rfl, ?_⟩
    rw [hpr]
    refine wa_nil ?_
    refine ⟨_, _, rfl, ?_⟩
    exact ⟨by simp [setAll_len], k, by omega, d, JJ.nxI c d, rfl, rfl, by omega, hd, hnx, hk⟩
  have hd0 : d = 0 := by simpa using hwhile1
  subst hd0
  have e9 := JJ.cm_end hcm
  rw [e9] at kq
  change WSs _ _ [_, _, _, _, _] [] _
  refine wss_one ?_
  refine ws_ret ?_
  refine we_call [] F_times (hr.mono (by omega)) m_times k_times b_times ?_
  refine wa_d ?_
  refine we_if ?_
  refine wt_tru ?_
  refine we_name 2 rfl (.inl rfl) rfl ?_
  refine ⟨_, rfl, ?_⟩
  refine ⟨fun hif1 => ?_, fun hif1 => ?_⟩
  ·
    refine we_tup ?_
    refine wd_cons ?_
    refine we_name 2 rfl (.inl rfl) rfl ?_
    refine wd_nil ?_
    refine ⟨szl (by simp), ?_⟩
    refine wa_d ?_
    refine we_name 3 rfl (.inl rfl) rfl ?_
    refine wa_nil ?_
    refine ⟨by decide, by (simp [setAll_len, setAll_nil]), by (simp [refsIn, setAll_len, setAll_nil, permL]), [1], JJ.vU c, rfl, rfl, .inr (by decide), (JJ.okB_of (JJ.vU_ok c (by omega))).1, JJ.okB_PH JJ.ok_1, JJ.okB_PH (JJ.vU_ok c (by omega)), _, rfl, rfl, ?_⟩
    rw [JJ.times_one (by decide) (JJ.okB_of (JJ.vU_ok c (by omega))).1, JJ.one_map]
    exact ⟨Nat.zero_le _, .inl ⟨_, rfl, kq⟩⟩
  ·
    exfalso
    simp at hif1 --done
end
section
variable {P : Program} {w : World} {K : PySem.W.Frag} {mg : Str → Option Value} {base : Heap}
theorem ok_l_over {f : Addr} {fd : FuncData} (F : Fun K "_law_over" "_law_over" s_l_over f fd) (m_range : mg "range" = none) : FnOk P w K mg base CX0 1 f fd ["_law_high", "_law_low"] (toSp K JJ.spOver) := by
  have sc := sc_l_over
  refine fn_pp F sc (fun pvs m q h => ?_) (fun cdv A outer s H E hr pvs m q h => ?_)
  · obtain ⟨_, _, rfl, _⟩ := h
    rfl
  obtain ⟨n, k, rfl, rfl, h0, h1, hk, kq⟩ := h
  change WSs _ _ [_, _, _, _] [] _
  refine wss_cons ?_
  refine ws_set 2 sc.nd rfl (.inl rfl) ?_
  refine we_int ?_
  change WSs _ _ [_, _, _, _] [] _
  refine wss_cons ?_
  refine ws_for PassesOwn.never rfl ?_
  refine wi_rng1 m_range ?_
  refine we_name 1 rfl (.inl rfl) rfl ?_
  refine ⟨_, rfl, by omega, by omega, ?_⟩
  refine ⟨fun i L m => ∃ y3, L = [some (.d (.int n)), some (.d (.int (k : Nat))), some (.d (.int (JJ.ovF n i))), y3] ∧ m = [], ?_, fun i x L m hx hI => ?_, fun L m hI => ?_⟩
  ·
    exact ⟨_, rfl, rfl⟩
  ·
    obtain ⟨y3, rfl, rfl⟩ := hI
    obtain ⟨hi, rfl⟩ := rgD_get hx
    rw [show (0 : Int) + (i : Int) = (i : Nat) by omega]
    have hob := (JJ.ovF_bd h0 h1 i (by omega)).mono (show 8 * i + 8 ≤ 600 by omega)
    refine ⟨trivial, ?_⟩
    refine wg_name 3 sc.nd rfl (.inl rfl) ?_
    change WSs _ _ [_, _, _, _] [] _
    refine wss_one ?_
    refine ws_set 2 sc.nd rfl (.inl rfl) ?_
    refine we_fdiv ?_
    refine we_mul ?_
    refine we_name 2 rfl (.inl rfl) rfl ?_
    refine we_sub ?_
    refine we_name 0 rfl (.inl rfl) rfl ?_
    refine we_name 3 rfl (.inl rfl) rfl ?_
    refine ⟨_, _, rfl, rfl, ?_⟩
    refine ⟨_, _, rfl, rfl, cmul_of (j := 600) (k := 8) hob (show Bd 8 (n - (i : Int)) from (by show (n - (i : Int)).natAbs < 2 ^ 8; omega)), ?_⟩
    refine we_add ?_
    refine we_name 3 rfl (.inl rfl) rfl ?_
    refine we_int ?_
    refine ⟨_, _, rfl, rfl, ?_⟩
    refine ⟨_, _, rfl, rfl, cdiv_of (k := 8) (by omega) (Bd.of (by omega) (by omega)), ?_⟩
    exact ⟨_, _, .same (by (repeat (first | exact WkL.nil | refine WkL.kd ?_ | (refine WkL.kr ?_ ?_; focus (simp [setAll_len, setAll_nil]; done)) | refine WkL.kw ?_ | refine WkL.drop ?_))) (by simp [setAll_len]), _, rfl, rfl⟩
  rw [rgD_len, show ((k : Int) - 0).toNat = k by omega] at hI
  obtain ⟨y3, rfl, rfl⟩ := hI
  refine ⟨trivial, ?_⟩
  change WSs _ _ [_, _, _, _] [] _
  refine wss_one ?_
  refine ws_ret ?_
  refine we_name 2 rfl (.inl rfl) rfl ?_
  exact ⟨Nat.zero_le _, .inl ⟨_, rfl, kq⟩⟩
end
section
variable {P : Program} {w : World} {K : PySem.W.Frag} {mg : Str → Option Value} {base : Heap}
theorem ok_l_u {f : Addr} {fd : FuncData} (F : Fun K "_law_u" "_law_u" s_l_u f fd) {f__law_over : Addr} {fd__law_over : FuncData} (F__law_over : FnOk P w K mg base CX0 1 f__law_over fd__law_over ["_law_high", "_law_low"] (toSp K JJ.spOver)) (m__law_over : mg "_law_over" = some (.ref f__law_over)) (k__law_over : PySem.W.keepIn K (.ref f__law_over) = true) (b__law_over : Binds K fd__law_over ["_law_high", "_law_low"] []) (m_range : mg "range" = none) (m_tuple : mg "tuple" = none) (m_int : mg "int" = none) : FnOk P w K mg base CX0 2 f fd ["_law_index"] (toSp K JJ.spU) := by
  have sc := sc_l_u
  refine fn_pp F sc (fun pvs m q h => ?_) (fun cdv A outer s H E hr pvs m q h => ?_)
  · obtain ⟨_, rfl, _⟩ := h
    rfl
  obtain ⟨n, rfl, rfl, hn, kq⟩ := h
  change WSs _ _ [_, _, _] [] _
  refine wss_cons ?_
  refine ws_setF 1 sc.nd rfl (.inl rfl) ?_
  refine wf_rep ?_
  refine wv_we ?_
  refine we_wf ?_
  refine wf_lst ?_
  refine wd_cons ?_
  refine we_int ?_
  refine wd_nil ?_
  refine ⟨szl (by simp), ?_⟩
  refine we_add ?_
  refine we_name 0 rfl (.inl rfl) rfl ?_
  refine we_int ?_
  refine ⟨_, _, rfl, rfl, ?_⟩
  refine ⟨_, _, rfl, rfl, by omega, by omega, szl (by simp; omega), ?_⟩
  rw [show ((n : Int) + 1).toNat = n + 1 by omega, ← PP.rep_ints]
  change WSs _ _ [_, _, _] [_] _
  refine wss_cons ?_
  refine ws_for PassesOwn.never rfl ?_
  refine wi_rng1 m_range ?_
  refine we_add ?_
  refine we_fdiv ?_
  refine we_name 0 rfl (.inl rfl) rfl ?_
  refine we_int ?_
  refine ⟨_, _, rfl, rfl, cdiv_of (k := 2) (by decide) Bd.lit, ?_⟩
  refine we_int ?_
  refine ⟨_, _, rfl, rfl, ?_⟩
  refine ⟨_, rfl, by omega, by omega, ?_⟩
  refine ⟨fun i L m => ∃ y2, L = [some (.d (.int (n : Nat))), some (.ref 0), y2] ∧ m = [some (.lst ((JJ.uF n i).map .int))], ?_, fun i x L m hx hI => ?_, fun L m hI => ?_⟩
  ·
    exact ⟨_, rfl, rfl⟩
  ·
    obtain ⟨y2, rfl, rfl⟩ := hI
    obtain ⟨hi, rfl⟩ := rgD_get hx
    rw [show (0 : Int) + (i : Int) = (i : Nat) by omega]
    have hi2 : 2 * i ≤ n := by omega
    have hul := JJ.uF_len (n := n) i
    have hob := (JJ.ovF_bd (h := (n : Int) - (i : Int)) (by omega) (by omega) i (by omega)).mono (show 8 * i + 8 ≤ 600 by omega)
    refine ⟨trivial, ?_⟩
    refine wg_name 2 sc.nd rfl (.inl rfl) ?_
    change WSs _ _ [_, _, _] [_] _
    refine wss_one ?_
    refine ws_asg ?_
    refine we_mul ?_
    refine we_call [] F__law_over (hr.mono (by omega)) m__law_over k__law_over b__law_over ?_
    refine wa_d ?_
    refine we_sub ?_
    refine we_name 0 rfl (.inl rfl) rfl ?_
    refine we_name 2 rfl (.inl rfl) rfl ?_
    refine ⟨_, _, rfl, rfl, ?_⟩
    refine wa_d ?_
    refine we_name 2 rfl (.inl rfl) rfl ?_
    refine wa_nil ?_
    refine ⟨by decide, by (simp [setAll_len, setAll_nil]), by (simp [refsIn, setAll_len, setAll_nil, permL]), (n : Int) - (i : Int), i, rfl, rfl, by omega, by omega, by omega, _, rfl, rfl, ?_⟩
    refine we_sub ?_
    refine we_int ?_
    refine we_mul ?_
    refine we_int ?_
    refine we_mod ?_
    refine we_int1 m_int ?_
    refine we_name 2 rfl (.inl rfl) rfl ?_
    refine .inl ⟨_, rfl, ?_⟩
    refine we_int ?_
    refine ⟨_, _, rfl, rfl, by omega, ?_⟩
    refine ⟨_, _, rfl, rfl, cmul_of (j := 2) Bd.lit (Bd.of (k := 2) (by omega) (by omega)), ?_⟩
    refine ⟨_, _, rfl, rfl, ?_⟩
    refine ⟨_, _, rfl, rfl, cmul_of (j := 600) (k := 8) hob (show Bd 8 (1 - 2 * ((i : Int) % 2)) from (by show (1 - 2 * ((i : Int) % 2)).natAbs < 2 ^ 8; omega)), ?_⟩
    refine wg_sub ?_
    refine wv_name 1 rfl (.inl rfl) rfl ?_
    refine we_sub ?_
    refine we_name 0 rfl (.inl rfl) rfl ?_
    refine we_mul ?_
    refine we_int ?_
    refine we_name 2 rfl (.inl rfl) rfl ?_
    refine ⟨_, _, rfl, rfl, cmul_of (j := 2) Bd.lit (Bd.of (k := 20) (by omega) (by omega)), ?_⟩
    refine ⟨_, _, rfl, rfl, ?_⟩
    refine ⟨_, _, _, _, rfl, rfl, rfl, ixN_of (by omega) (by rw [List.length_map]; omega), ?_⟩
    rw [show ((n : Int) - 2 * (i : Int)).toNat = n - 2 * i by omega, ← List.map_set]
    exact ⟨_, _, .same (by (repeat (first | exact WkL.nil | refine WkL.kd ?_ | (refine WkL.kr ?_ ?_; focus (simp [setAll_len, setAll_nil]; done)) | refine WkL.kw ?_ | refine WkL.drop ?_))) (by simp [setAll_len]), _, rfl, rfl⟩
  rw [rgD_len, show (((n : Int) / 2 + 1) - 0).toNat = n / 2 + 1 by omega] at hI
  obtain ⟨y2, rfl, rfl⟩ := hI
  refine ⟨trivial, ?_⟩
  change WSs _ _ [_, _, _] [_] _
  refine wss_one ?_
  refine ws_ret ?_
  refine we_tuple1 m_tuple ?_
  refine wv_name 1 rfl (.inl rfl) rfl ?_
  refine ⟨_, rfl, ?_⟩
  rw [show PyData.tuple ((JJ.uF n (n / 2 + 1)).map .int) = JJ.tI (JJ.uL n) from rfl, ← JJ.vU_uL hn]
  exact ⟨by simp, .inl ⟨_, rfl, kq⟩⟩
end
section
variable {P : Program} {w : World} {K : PySem.W.Frag} {mg : Str → Option Value} {base : Heap}
theorem ok_l_gcd {f : Addr} {fd : FuncData} (F : Fun K "_law_gcd" "_law_gcd" s_l_gcd f fd) (m_int : mg "int" = none) : FnOk P w K mg base CX0 1 f fd ["_law_left", "_law_right"] (toSp K JJ.spGcd) := by
  have sc := sc_l_gcd
  refine fn_pp F sc (fun pvs m q h => ?_) (fun cdv A outer s H E hr pvs m q h => ?_)
  · obtain ⟨_, _, rfl, _⟩ := h
    rfl
  obtain ⟨a, b, rfl, rfl, kq⟩ := h
  change WSs _ _ [_, _] [] _
  refine wss_cons ?_
  refine ws_while PassesOwn.never (fun v L m => ∃ c : Nat, L = [some (.d (.int (c : Nat))), some (.d (.int (v : Nat)))] ∧ m = [] ∧ Nat.gcd c v = Nat.gcd a b) b ?_ (fun v L m hl2 hI => ?_)
  ·
    exact ⟨a, rfl, rfl, rfl⟩
  obtain ⟨c, rfl, rfl, hg⟩ := hI
  refine wt_gt ?_
  refine we_name 1 rfl (.inl rfl) rfl ?_
  refine we_int ?_
  refine ⟨_, _, rfl, rfl, ?_⟩
  refine ⟨fun hwhile1 => ?_, fun hwhile1 => ?_⟩
  ·
    have hv := of_decide_eq_true hwhile1
    change WSs _ _ [_, _] [] _
    refine wss_one ?_
    refine ws_par 0 1 rfl sc.nd rfl rfl (by decide) rfl rfl ?_
    refine wa_d ?_
    refine we_name 1 rfl (.inl rfl) rfl ?_
    refine wa_d ?_
    refine we_mod ?_
    refine we_int1 m_int ?_
    refine we_name 0 rfl (.inl rfl) rfl ?_
    refine .inl ⟨_, rfl, ?_⟩
    refine we_name 1 rfl (.inl rfl) rfl ?_
    refine ⟨_, _, rfl, rfl, by omega, ?_⟩
    rw [← Int.natCast_emod]
    refine wa_nil ?_
    refine ⟨_, _, rfl, ?_⟩
    exact ⟨by simp, c % v, Nat.mod_lt _ (by omega), v, rfl, rfl, by rw [Nat.gcd_comm, ← Nat.gcd_rec, Nat.gcd_comm]; exact hg⟩
  have hv := of_decide_eq_false hwhile1
  obtain rfl : v = 0 := by omega
  rw [← hg, Nat.gcd_zero_right] at kq
  change WSs _ _ [_, _] [] _
  refine wss_one ?_
  refine ws_ret ?_
  refine we_name 0 rfl (.inl rfl) rfl ?_
  exact ⟨Nat.zero_le _, .inl ⟨_, rfl, kq⟩⟩
end
section
variable {P : Program} {w : World} {K : PySem.W.Frag} {mg : Str → Option Value} {base : Heap}
theorem ok_l_row_right {f : Addr} {fd : FuncData} (F : Fun K "_law_row_right" "_law_row_right" s_l_row_right f fd) {f_u_row : Addr} {fd_u_row : FuncData} (F_u_row : FnOk P w K mg base CX0 5 f_u_row fd_u_row ["many"] (toSp K JJ.spURow)) (m_u_row : mg "u_row" = some (.ref f_u_row)) (k_u_row : PySem.W.keepIn K (.ref f_u_row) = true) (b_u_row : Binds K fd_u_row ["many"] []) {f__law_draw : Addr} {fd__law_draw : FuncData} (F__law_draw : FnOk P w K mg base CX0 1 f__law_draw fd__law_draw ["_law_well_here", "_law_limit"] (toSp K JJ.spDrO)) (m__law_draw : mg "_law_draw" = some (.ref f__law_draw)) (k__law_draw : PySem.W.keepIn K (.ref f__law_draw) = true) (b__law_draw : Binds K fd__law_draw ["_law_well_here", "_law_limit"] []) {f__law_same : Addr} {fd__law_same : FuncData} (F__law_same : FnOk P w K mg base CX0 6 f__law_same fd__law_same ["_law_found", "_law_due"] (toSp K JJ.spSmE)) (m__law_same : mg "_law_same" = some (.ref f__law_same)) (k__law_same : PySem.W.keepIn K (.ref f__law_same) = true) (b__law_same : Binds K fd__law_same ["_law_found", "_law_due"] []) {f__law_u : Addr} {fd__law_u : FuncData} (F__law_u : FnOk P w K mg base CX0 2 f__law_u fd__law_u ["_law_index"] (toSp K JJ.spU)) (m__law_u : mg "_law_u" = some (.ref f__law_u)) (k__law_u : PySem.W.keepIn K (.ref f__law_u) = true) (b__law_u : Binds K fd__law_u ["_law_index"] []) (m_range : mg "range" = none) (bK0_u_row : KBp K fd_u_row ["many"] 0 ["many"]) : FnOk P w K mg base CX0 7 f fd ["_law_well_here", "_law_size"] (toSp K JJ.spRowR) := by
  have sc := sc_l_row_right
  refine fn_pp F sc (fun pvs m q h => ?_) (fun cdv A outer s H E hr pvs m q h => ?_)
  · obtain ⟨_, _, _, _, _, _, rfl, _⟩ := h
    rfl
  obtain ⟨n, g, a, b, c, k, rfl, rfl, W, hn, hk, kq⟩ := h
  change WSs _ _ [_, _, _, _, _, _] [_, _] _
  refine wss_cons ?_
  refine ws_setLc 2 [("_law_k", 5)] (.nm 5) rfl sc.nd rfl rfl (sw_true rfl rfl rfl (by decide +kernel)) (blkOk_by (own := [("_law_k", 5)]) (N := ["_law_well_here", "_law_size", "_law_due", "_law_told", "_law_kind", "_law_k"]) (by rfl)) (fun _ _ _ _ _ => pg_nm sc.nd rfl (.inl rfl) (.inr rfl)) (by decide) ?_
  refine wi_rng1 m_range ?_
  refine we_name 1 rfl (.inl rfl) rfl ?_
  refine ⟨_, rfl, by omega, by omega, ?_⟩
  refine lcP (szl (by (first | omega | (rw [rgD_len]; omega) | (rw [rgD3_len]; omega) | (simp only [List.length_append, List.length_cons, List.length_nil, List.length_set, List.length_map, List.length_range, rgD_len, rgD3_len, enD_len]; omega) | omega | decide))) trivial (fun i => JJ.tI (JJ.vU (i + 1))) (fun i x hx => ?_) ?_
  ·
    obtain ⟨hi, rfl⟩ := rgD_get hx
    rw [show (0 : Int) + (i : Int) = (i : Nat) by omega]
    refine ⟨_, rfl, ?_⟩
    intro sb Hb Cb clb fpb
    refine we_call [] F__law_u (hr.mono (by omega)) m__law_u k__law_u b__law_u ?_
    refine wa_d ?_
    refine we_name 5 rfl (.inl rfl) rfl ?_
    refine wa_nil ?_
    refine ⟨by decide, by (simp [setAll_len, setAll_nil]), by (simp [refsIn, setAll_len, setAll_nil, permL]), i, rfl, rfl, by omega, _, rfl, rfl, ?_⟩
    exact ⟨rfl, rfl⟩
  refine .inl ?_
  rw [rgD_len, show ((k : Int) - 0).toNat = k by omega, show ((List.range k).map fun i : Nat => JJ.tI (JJ.vU (i + 1))) = JJ.rowU k from rfl]
  have hrl : (JJ.rowU k).length = k := JJ.rowU_len
  change WSs _ _ [_, _, _, _, _, _] [_, _] _
  refine wss_cons ?_
  refine ws_setF 3 sc.nd rfl (.inl rfl) ?_
  refine wf_call [] F_u_row (hr.mono (by omega)) m_u_row k_u_row b_u_row ?_
  refine wa_d ?_
  refine we_name 1 rfl (.inl rfl) rfl ?_
  refine wa_nil ?_
  refine ⟨by decide, by (simp [setAll_len, setAll_nil]), by (simp [refsIn, setAll_len, setAll_nil, permL]), k, rfl, rfl, hk, [], _, rfl, rfl, rfl, ?_⟩
  change WSs _ _ [_, _, _, _, _, _] [_, _, _] _
  refine wss_cons ?_
  refine ws_if ?_
  refine wt_ww ?_
  refine ww_or ?_
  refine wt_not ?_
  refine wt_val ?_
  refine we_call [2] F__law_same (hr.mono (by omega)) m__law_same k__law_same b__law_same ?_
  refine wa_cons ?_
  refine wv_name 3 rfl (.inl rfl) rfl ?_
  refine wa_d ?_
  refine we_name 2 rfl (.inl rfl) rfl ?_
  refine wa_nil ?_
  refine ⟨by decide, by (simp [setAll_len, setAll_nil]), by (simp [refsIn, setAll_len, setAll_nil, permL]), .inr ⟨JJ.rowU k, rfl, rfl, by omega, JJ.dl_row hk, _, rfl, rfl, ?_⟩⟩
  refine ⟨_, rfl, ?_⟩
  refine ⟨fun heb1 => ?_, fun heb1 => ?_⟩
  ·
    exfalso
    simp at heb1 --done
  ·
    refine ww_or1 ?_
    refine wt_not ?_
    refine wt_val ?_
    refine we_call [] F__law_same (hr.mono (by omega)) m__law_same k__law_same b__law_same ?_
    refine wa_d ?_
    refine we_wf ?_
    refine wf_callK0 [] F_u_row (hr.mono (by omega)) m_u_row k_u_row bK0_u_row ?_
    refine wk_d ?_
    refine we_name 1 rfl (.inl rfl) rfl ?_
    refine wk_nil ?_
    refine ⟨rfl, rfl, ?_⟩
    refine ⟨by decide, by (simp [setAll_len, setAll_nil]), by (simp [refsIn, setAll_len, setAll_nil, permL]), k, rfl, rfl, hk, [], _, rfl, rfl, rfl, ?_⟩
    refine wa_d ?_
    refine we_name 2 rfl (.inl rfl) rfl ?_
    refine wa_nil ?_
    refine ⟨by decide, by (simp [setAll_len, setAll_nil]), by (simp [refsIn, setAll_len, setAll_nil, permL]), .inl ⟨_, rfl, rfl, (.lst (by omega) (JJ.dl_row hk) : JJ.Dl 4 _), _, rfl, rfl, ?_⟩⟩
    refine ⟨_, rfl, ?_⟩
    refine ⟨fun hif1 => ?_, fun hif1 => ?_⟩
    ·
      exfalso
      simp at hif1 --done
    ·
      refine wss_nil ?_
      change WSs _ _ [_, _, _, _, _, _] [_, _, _] _
      refine wss_cons ?_
      refine ws_set 4 sc.nd rfl (.inl rfl) ?_
      refine we_call [0, 1] F__law_draw (hr.mono (by omega)) m__law_draw k__law_draw b__law_draw ?_
      refine wa_cons ?_
      refine wv_name 0 rfl (.inl rfl) rfl ?_
      refine wa_d ?_
      refine we_int ?_
      refine wa_nil ?_
      refine ⟨by decide, by (simp [setAll_len, setAll_nil]), by (simp [refsIn, setAll_len, setAll_nil, permL]), _, _, _, _, _, 4, rfl, rfl, W, by omega, by omega, by omega, fun r1 gr1 ar1 br1 cr1 hr1a hr1b hr1 => ⟨_, rfl, rfl, ?_⟩⟩
      change WSs _ _ [_, _, _, _, _, _] [_, _, _] _
      refine wss_cons ?_
      refine ws_join (fun L m => ∃ zs : List PyData, L = [some (.ref 1), some (.d (.int (k : Nat))), some (.d (.list (JJ.rowU k))), some (.ref 2), some (.d (.int r1)), none] ∧ m = [some (.lst (gr1.map .int)), some (.own ar1 br1 cr1), some (.lst zs)] ∧ zs.length ≤ 61 ∧ (r1 = 3 → zs = JJ.rowU k)) ?_ ?_
      ·
        refine ws_if ?_
        refine wt_eqI ?_
        refine we_name 4 rfl (.inl rfl) rfl ?_
        refine we_int ?_
        refine ⟨_, _, rfl, rfl, ?_⟩
        refine ⟨fun hif2 => ?_, fun hif2 => ?_⟩
        ·
          have hk0 := of_decide_eq_true hif2
          change WSs _ _ [_, _, _, _, _, _] [_, _, _] _
          refine wss_one ?_
          refine ws_expr ?_
          refine we_clear ?_
          refine wv_name 3 rfl (.inl rfl) rfl ?_
          refine ⟨_, _, rfl, rfl, ?_⟩
          refine ⟨_, rfl, ?_⟩
          exact ⟨[], rfl, rfl, by simp, fun z => by omega⟩
        ·
          refine wss_nil ?_
          exact ⟨_, rfl, rfl, by omega, fun _ => rfl⟩
      rintro L m ⟨zs, rfl, rfl, hzl, hz3⟩
      change WSs _ _ [_, _, _, _, _, _] [_, _, _] _
      refine wss_cons ?_
      refine ws_join (fun L m => ∃ zs : List PyData, L = [some (.ref 1), some (.d (.int (k : Nat))), some (.d (.list (JJ.rowU k))), some (.ref 2), some (.d (.int r1)), none] ∧ m = [some (.lst (gr1.map .int)), some (.own ar1 br1 cr1), some (.lst zs)] ∧ zs.length ≤ 62 ∧ (r1 = 3 → zs = JJ.rowU k)) ?_ ?_
      ·
        refine ws_if ?_
        refine wt_eqI ?_
        refine we_name 4 rfl (.inl rfl) rfl ?_
        refine we_int ?_
        refine ⟨_, _, rfl, rfl, ?_⟩
        refine ⟨fun hif3 => ?_, fun hif3 => ?_⟩
        ·
          have hk1 := of_decide_eq_true hif3
          change WSs _ _ [_, _, _, _, _, _] [_, _, _] _
          refine wss_one ?_
          refine ws_expr ?_
          refine we_append ?_
          refine wv_name 3 rfl (.inl rfl) rfl ?_
          refine ⟨_, _, rfl, rfl, ?_⟩
          refine we_tup ?_
          refine wd_cons ?_
          refine we_int ?_
          refine wd_nil ?_
          refine ⟨szl (by simp), ?_⟩
          refine ⟨_, rfl, szlt (by omega), ?_⟩
          exact ⟨_, rfl, rfl, by simp; omega, fun z => by omega⟩
        ·
          refine wss_nil ?_
          exact ⟨zs, rfl, rfl, by omega, hz3⟩
      rintro L m ⟨zs, rfl, rfl, hzl, hz3⟩
      change WSs _ _ [_, _, _, _, _, _] [_, _, _] _
      refine wss_cons ?_
      refine ws_join (fun L m => ∃ zs : List PyData, L = [some (.ref 1), some (.d (.int (k : Nat))), some (.d (.list (JJ.rowU k))), some (.ref 2), some (.d (.int r1)), none] ∧ m = [some (.lst (gr1.map .int)), some (.own ar1 br1 cr1), some (.lst zs)] ∧ zs.length ≤ 62 ∧ (r1 = 3 → zs = JJ.rowU k)) ?_ ?_
      ·
        refine ws_if ?_
        refine wt_eqI ?_
        refine we_name 4 rfl (.inl rfl) rfl ?_
        refine we_int ?_
        refine ⟨_, _, rfl, rfl, ?_⟩
        refine ⟨fun hif4 => ?_, fun hif4 => ?_⟩
        ·
          have hk2 := of_decide_eq_true hif4
          change WSs _ _ [_, _, _, _, _, _] [_, _, _] _
          refine wss_one ?_
          refine ws_expr ?_
          refine we_reverse ?_
          refine wv_name 3 rfl (.inl rfl) rfl ?_
          refine ⟨_, _, rfl, rfl, ?_⟩
          refine ⟨_, rfl, ?_⟩
          exact ⟨_, rfl, rfl, by simp; omega, fun z => by omega⟩
        ·
          refine wss_nil ?_
          exact ⟨zs, rfl, rfl, by omega, hz3⟩
      rintro L m ⟨zs, rfl, rfl, hzl, hz3⟩
      change WSs _ _ [_, _, _, _, _, _] [_, _, _] _
      refine wss_cons ?_
      refine ws_if ?_
      apply VT.use
      ·
        apply VW.vt
        apply vw_and
        ·
          intro Q hQ
          refine wt_eqI ?_
          refine we_name 4 rfl (.inl rfl) rfl ?_
          refine we_int ?_
          refine ⟨_, _, rfl, rfl, ?_⟩
          exact hQ
        intro hg1
        have hz4 := hz3 (of_decide_eq_true hg1)
        subst hz4
        apply vw_and1
        intro Q hQ
        refine wt_neV (by (first | exact hr.units | exact units65 hr | exact units1 hr)) ?_
        refine wv_name 3 rfl (.inl rfl) rfl ?_
        refine wv_we ?_
        refine we_wf ?_
        refine wf_lst ?_
        refine wd_nil ?_
        refine ⟨szl (by simp), ?_⟩
        refine ⟨_, _, rfl, rfl, JJ.shp_row, by (first | rfl | assumption), ?_⟩
        rw [PP.eqv_nil]
        exact hQ
      refine ⟨fun hif5 => ?_, fun hif5 => ?_⟩
      ·
        simp only [Bool.and_eq_true, decide_eq_true_eq] at hif5
        have hz4 := hz3 hif5.1
        subst hz4
        have hkp : 0 < k := by
          have h9 := hif5.2
          by_cases z : k = 0
          · subst z; exact absurd h9 (by decide)
          · omega
        change WSs _ _ [_, _, _, _, _, _] [_, _, _] _
        refine wss_one ?_
        refine ws_asg ?_
        refine we_tup ?_
        refine wd_nil ?_
        refine ⟨szl (by simp), ?_⟩
        refine wg_sub ?_
        refine wv_name 3 rfl (.inl rfl) rfl ?_
        refine we_call [0, 1] F__law_draw (hr.mono (by omega)) m__law_draw k__law_draw b__law_draw ?_
        refine wa_cons ?_
        refine wv_name 0 rfl (.inl rfl) rfl ?_
        refine wa_d ?_
        refine we_name 1 rfl (.inl rfl) rfl ?_
        refine wa_nil ?_
        refine ⟨by decide, by (simp [setAll_len, setAll_nil]), by (simp [refsIn, setAll_len, setAll_nil, permL]), _, _, _, _, _, _, rfl, rfl, hr1, by omega, by omega, by omega, fun r2 gr2 ar2 br2 cr2 hr2a hr2b hr2 => ⟨_, rfl, rfl, ?_⟩⟩
        refine ⟨_, _, _, _, rfl, rfl, rfl, ixN_of (by omega) (by omega), ?_⟩
        change WSs _ _ [_, _, _, _, _, _] [_, _, _] _
        refine wss_one ?_
        refine ws_ret ?_
        refine we_call [] F__law_same (hr.mono (by omega)) m__law_same k__law_same b__law_same ?_
        refine wa_d ?_
        refine we_wf ?_
        refine wf_call [] F_u_row (hr.mono (by omega)) m_u_row k_u_row b_u_row ?_
        refine wa_d ?_
        refine we_name 1 rfl (.inl rfl) rfl ?_
        refine wa_nil ?_
        refine ⟨by decide, by (simp [setAll_len, setAll_nil]), by (simp [refsIn, setAll_len, setAll_nil, permL]), k, rfl, rfl, hk, [], _, rfl, rfl, rfl, ?_⟩
        refine wa_d ?_
        refine we_name 2 rfl (.inl rfl) rfl ?_
        refine wa_nil ?_
        refine ⟨by decide, by (simp [setAll_len, setAll_nil]), by (simp [refsIn, setAll_len, setAll_nil, permL]), .inl ⟨_, rfl, rfl, (.lst (by omega) (JJ.dl_row hk) : JJ.Dl 4 _), _, rfl, rfl, ?_⟩⟩
        first
        | exact ⟨by simp [setAll_len], .inl ⟨_, rfl, kq _ _ _ _ (hr2.mono (by omega))⟩⟩
        | exact ⟨by simp [setAll_len], .inl ⟨_, rfl, kq _ _ _ _ (hr1.mono (by omega))⟩⟩
      ·
        refine wss_nil ?_
        change WSs _ _ [_, _, _, _, _, _] [_, _, _] _
        refine wss_one ?_
        refine ws_ret ?_
        refine we_call [] F__law_same (hr.mono (by omega)) m__law_same k__law_same b__law_same ?_
        refine wa_d ?_
        refine we_wf ?_
        refine wf_call [] F_u_row (hr.mono (by omega)) m_u_row k_u_row b_u_row ?_
        refine wa_d ?_
        refine we_name 1 rfl (.inl rfl) rfl ?_
        refine wa_nil ?_
        refine ⟨by decide, by (simp [setAll_len, setAll_nil]), by (simp [refsIn, setAll_len, setAll_nil, permL]), k, rfl, rfl, hk, [], _, rfl, rfl, rfl, ?_⟩
        refine wa_d ?_
        refine we_name 2 rfl (.inl rfl) rfl ?_
        refine wa_nil ?_
        refine ⟨by decide, by (simp [setAll_len, setAll_nil]), by (simp [refsIn, setAll_len, setAll_nil, permL]), .inl ⟨_, rfl, rfl, (.lst (by omega) (JJ.dl_row hk) : JJ.Dl 4 _), _, rfl, rfl, ?_⟩⟩
        first
        | exact ⟨by simp [setAll_len], .inl ⟨_, rfl, kq _ _ _ _ (hr2.mono (by omega))⟩⟩
        | exact ⟨by simp [setAll_len], .inl ⟨_, rfl, kq _ _ _ _ (hr1.mono (by omega))⟩⟩
end
section
variable {P : Program} {w : World} {K : PySem.W.Frag} {mg : Str → Option Value} {base : Heap}
theorem ok_l_products_right {f : Addr} {fd : FuncData} (F : Fun K "_law_products_right" "_law_products_right" s_l_products_right f fd) {f_u_row : Addr} {fd_u_row : FuncData} (F_u_row : FnOk P w K mg base CX0 5 f_u_row fd_u_row ["many"] (toSp K JJ.spURow)) (m_u_row : mg "u_row" = some (.ref f_u_row)) (k_u_row : PySem.W.keepIn K (.ref f_u_row) = true) (b_u_row : Binds K fd_u_row ["many"] []) {f_times : Addr} {fd_times : FuncData} (F_times : FnOk P w K mg base CX0 4 f_times fd_times ["one", "other"] (toSp K JJ.spTimesH)) (m_times : mg "times" = some (.ref f_times)) (k_times : PySem.W.keepIn K (.ref f_times) = true) (b_times : Binds K fd_times ["one", "other"] []) {f__law_same : Addr} {fd__law_same : FuncData} (F__law_same : FnOk P w K mg base CX0 6 f__law_same fd__law_same ["_law_found", "_law_due"] (toSp K JJ.spSmE)) (m__law_same : mg "_law_same" = some (.ref f__law_same)) (k__law_same : PySem.W.keepIn K (.ref f__law_same) = true) (b__law_same : Binds K fd__law_same ["_law_found", "_law_due"] []) {f_plus : Addr} {fd_plus : FuncData} (F_plus : FnOk P w K mg base CX0 4 f_plus fd_plus ["one", "other"] (toSp K JJ.spPlusH)) (m_plus : mg "plus" = some (.ref f_plus)) (k_plus : PySem.W.keepIn K (.ref f_plus) = true) (b_plus : Binds K fd_plus ["one", "other"] []) {f__law_u : Addr} {fd__law_u : FuncData} (F__law_u : FnOk P w K mg base CX0 2 f__law_u fd__law_u ["_law_index"] (toSp K JJ.spU)) (m__law_u : mg "_law_u" = some (.ref f__law_u)) (k__law_u : PySem.W.keepIn K (.ref f__law_u) = true) (b__law_u : Binds K fd__law_u ["_law_index"] []) {f_divided : Addr} {fd_divided : FuncData} (F_divided : FnOk P w K mg base CX0 4 f_divided fd_divided ["one", "other"] (toSp K JJ.spDivG)) (m_divided : mg "divided" = some (.ref f_divided)) (k_divided : PySem.W.keepIn K (.ref f_divided) = true) (b_divided : Binds K fd_divided ["one", "other"] []) (m_range : mg "range" = none) (m_enumerate : mg "enumerate" = none) (m_tuple : mg "tuple" = none) : FnOk P w K mg base CX0 7 f fd ["_law_low", "_law_high"] (toSp K JJ.spProdR) := by
  have sc := sc_l_products_right
  refine fn_pp F sc (fun pvs m q h => ?_) (fun cdv A outer s H E hr pvs m q h => ?_)
  · obtain ⟨_, _, rfl, _⟩ := h
    rfl
  obtain ⟨low, high, rfl, rfl, h0, h1s, h2, kq⟩ := h
  have h1 : high < 30 := by omega
  have o1 := JJ.vU_ok (low + 1) (by omega)
  have o2 := JJ.vU_ok (high + 1) (by omega)
  obtain ⟨_, hp1, hp2⟩ := JJ.prod_ok low h0 high h1 h2
  change WSs _ _ [_, _, _, _, _, _, _, _, _] [] _
  refine wss_cons ?_
  refine ws_set 2 sc.nd rfl (.inl rfl) ?_
  refine we_wf ?_
  refine wf_call [] F_u_row (hr.mono (by omega)) m_u_row k_u_row b_u_row ?_
  refine wa_d ?_
  refine we_int ?_
  refine wa_nil ?_
  refine ⟨by decide, by (simp [setAll_len, setAll_nil]), by (simp [refsIn, setAll_len, setAll_nil, permL]), 30, rfl, rfl, by decide, [], _, rfl, rfl, rfl, ?_⟩
  change WSs _ _ [_, _, _, _, _, _, _, _, _] [] _
  refine wss_cons ?_
  refine ws_set 3 sc.nd rfl (.inl rfl) ?_
  refine we_tup ?_
  refine wd_nil ?_
  refine ⟨szl (by simp), ?_⟩
  change WSs _ _ [_, _, _, _, _, _, _, _, _] [] _
  refine wss_cons ?_
  refine ws_for PassesOwn.never rfl ?_
  refine wi_rng1 m_range ?_
  refine we_add ?_
  refine we_name 0 rfl (.inl rfl) rfl ?_
  refine we_int ?_
  refine ⟨_, _, rfl, rfl, ?_⟩
  refine ⟨_, rfl, by omega, by omega, ?_⟩
  refine ⟨fun i L m => ∃ y4, L = [some (.d (.int (low : Nat))), some (.d (.int (high : Nat))), some (.d (.list (JJ.rowU 30))), some (.d (JJ.tI (JJ.totQ low high i))), y4, none, none, none, none] ∧ m = [], ?_, fun i x L m hx hI => ?_, fun L m hI => ?_⟩
  ·
    exact ⟨_, rfl, rfl⟩
  ·
    obtain ⟨y4, rfl, rfl⟩ := hI
    obtain ⟨hi, rfl⟩ := rgD_get hx
    rw [show (0 : Int) + (i : Int) = (i : Nat) by omega]
    have hi2 : i < low + 1 := by omega
    have ot := JJ.tot_ok h0 h1 h2 (k := i) (by omega)
    have ov := JJ.vU_ok (high - low + 2 * i + 1) (by omega)
    refine ⟨trivial, ?_⟩
    refine wg_name 4 sc.nd rfl (.inl rfl) ?_
    change WSs _ _ [_, _, _, _, _, _, _, _, _] [] _
    refine wss_one ?_
    refine ws_set 3 sc.nd rfl (.inl rfl) ?_
    refine we_call [] F_plus (hr.mono (by omega)) m_plus k_plus b_plus ?_
    refine wa_d ?_
    refine we_name 3 rfl (.inl rfl) rfl ?_
    refine wa_d ?_
    refine we_ix ?_
    refine wv_name 2 rfl (.inl rfl) rfl ?_
    refine we_add ?_
    refine we_sub ?_
    refine we_name 1 rfl (.inl rfl) rfl ?_
    refine we_name 0 rfl (.inl rfl) rfl ?_
    refine ⟨_, _, rfl, rfl, ?_⟩
    refine we_mul ?_
    refine we_int ?_
    refine we_name 4 rfl (.inl rfl) rfl ?_
    refine ⟨_, _, rfl, rfl, cmul_of (j := 2) Bd.lit (Bd.of (k := 20) (by omega) (by omega)), ?_⟩
    refine ⟨_, _, rfl, rfl, ?_⟩
    refine ⟨_, _, _, rfl, rfl, JJ.rowU_at2 (k := high - low + 2 * i) (by omega) (by omega), ?_⟩
    refine wa_nil ?_
    refine ⟨by decide, by (simp [setAll_len, setAll_nil]), by (simp [refsIn, setAll_len, setAll_nil, permL]), _, _, rfl, rfl, (JJ.okB_of ot).1, (JJ.okB_of ov).1, JJ.okB_PH ot, JJ.okB_PH ov, _, rfl, rfl, ?_⟩
    rw [JJ.plus_quick]
    exact ⟨_, _, .same (by (repeat (first | exact WkL.nil | refine WkL.kd ?_ | (refine WkL.kr ?_ ?_; focus (simp [setAll_len, setAll_nil]; done)) | refine WkL.kw ?_ | refine WkL.drop ?_))) (by simp [setAll_len]), _, rfl, rfl⟩
  rw [rgD_len, show ((low : Int) + 1 - 0).toNat = low + 1 by omega] at hI
  obtain ⟨y4, rfl, rfl⟩ := hI
  have otl := JJ.tot_ok h0 h1 h2 (k := low + 1) (by omega)
  have otn := (JJ.okB_of otl).2.1
  refine ⟨trivial, ?_⟩
  change WSs _ _ [_, _, _, _, _, _, _, _, _] [] _
  refine wss_cons ?_
  refine ws_set 5 sc.nd rfl (.inl rfl) ?_
  refine we_call [] F_times (hr.mono (by omega)) m_times k_times b_times ?_
  refine wa_d ?_
  refine we_ix ?_
  refine wv_name 2 rfl (.inl rfl) rfl ?_
  refine we_name 0 rfl (.inl rfl) rfl ?_
  refine ⟨_, _, _, rfl, rfl, JJ.rowU_at (by omega), ?_⟩
  refine wa_d ?_
  refine we_ix ?_
  refine wv_name 2 rfl (.inl rfl) rfl ?_
  refine we_name 1 rfl (.inl rfl) rfl ?_
  refine ⟨_, _, _, rfl, rfl, JJ.rowU_at (by omega), ?_⟩
  refine wa_nil ?_
  refine ⟨by decide, by (simp [setAll_len, setAll_nil]), by (simp [refsIn, setAll_len, setAll_nil, permL]), _, _, rfl, rfl, (JJ.okB_of o1).1, (JJ.okB_of o2).1, JJ.okB_PH o1, JJ.okB_PH o2, _, rfl, rfl, ?_⟩
  rw [JJ.times_quick, hp1]
  change WSs _ _ [_, _, _, _, _, _, _, _, _] [] _
  refine wss_cons ?_
  refine ws_if ?_
  apply VT.use
  ·
    apply VW.vt
    apply vw_or
    ·
      apply vt_not
      intro Q hQ
      refine wt_val ?_
      refine we_call [] F__law_same (hr.mono (by omega)) m__law_same k__law_same b__law_same ?_
      refine wa_d ?_
      refine we_name 5 rfl (.inl rfl) rfl ?_
      refine wa_d ?_
      refine we_name 3 rfl (.inl rfl) rfl ?_
      refine wa_nil ?_
      refine ⟨by decide, by (simp [setAll_len, setAll_nil]), by (simp [refsIn, setAll_len, setAll_nil, permL]), .inl ⟨_, rfl, rfl, JJ.dl_tI4 (by omega), _, rfl, rfl, ?_⟩⟩
      refine ⟨_, rfl, ?_⟩
      exact hQ
    intro hg1
    apply vw_or1
    apply vt_not
    intro Q hQ
    refine wt_val ?_
    refine we_call [] F__law_same (hr.mono (by omega)) m__law_same k__law_same b__law_same ?_
    refine wa_d ?_
    refine we_call [] F_divided (hr.mono (by omega)) m_divided k_divided b_divided ?_
    refine wa_d ?_
    refine we_name 5 rfl (.inl rfl) rfl ?_
    refine wa_d ?_
    refine we_ix ?_
    refine wv_name 2 rfl (.inl rfl) rfl ?_
    refine we_name 0 rfl (.inl rfl) rfl ?_
    refine ⟨_, _, _, rfl, rfl, JJ.rowU_at (by omega), ?_⟩
    refine wa_nil ?_
    refine ⟨by decide, by (simp [setAll_len, setAll_nil]), by (simp [refsIn, setAll_len, setAll_nil, permL]), JJ.div_call (JJ.prod_div h0 h1 h2) (by omega) (by rw [JJ.vU_len _ (by omega)]; omega) (fun c hc => ((JJ.okB_of o1).2.2 c hc).mono (by decide)) ?_⟩
    refine ⟨_, rfl, rfl, ?_⟩
    refine wa_d ?_
    refine we_ix ?_
    refine wv_name 2 rfl (.inl rfl) rfl ?_
    refine we_name 1 rfl (.inl rfl) rfl ?_
    refine ⟨_, _, _, rfl, rfl, JJ.rowU_at (by omega), ?_⟩
    refine wa_nil ?_
    refine ⟨by decide, by (simp [setAll_len, setAll_nil]), by (simp [refsIn, setAll_len, setAll_nil, permL]), .inl ⟨_, rfl, rfl, JJ.dl_tI4 (by rw [JJ.vU_len _ (by omega)]; omega), _, rfl, rfl, ?_⟩⟩
    refine ⟨_, rfl, ?_⟩
    exact hQ
  refine ⟨fun hif1 => ?_, fun hif1 => ?_⟩
  ·
    exfalso
    simp at hif1 --done
  ·
    refine wss_nil ?_
    change WSs _ _ [_, _, _, _, _, _, _, _, _] [] _
    refine wss_cons ?_
    refine ws_setF 6 sc.nd rfl (.inl rfl) ?_
    refine wf_rep ?_
    refine wv_we ?_
    refine we_wf ?_
    refine wf_lst ?_
    refine wd_cons ?_
    refine we_int ?_
    refine wd_nil ?_
    refine ⟨szl (by simp), ?_⟩
    refine we_add ?_
    refine we_add ?_
    refine we_name 0 rfl (.inl rfl) rfl ?_
    refine we_name 1 rfl (.inl rfl) rfl ?_
    refine ⟨_, _, rfl, rfl, ?_⟩
    refine we_int ?_
    refine ⟨_, _, rfl, rfl, ?_⟩
    refine ⟨_, _, rfl, rfl, by omega, by omega, szl (by simp; omega), ?_⟩
    rw [show ((low : Int) + (high : Int) + 1).toNat = low + high + 1 by omega, ← PP.rep_ints]
    change WSs _ _ [_, _, _, _, _, _, _, _, _] [_] _
    refine wss_cons ?_
    refine ws_for PassesOwn.never rfl ?_
    refine wi_rng1 m_range ?_
    refine we_add ?_
    refine we_name 0 rfl (.inl rfl) rfl ?_
    refine we_int ?_
    refine ⟨_, _, rfl, rfl, ?_⟩
    refine ⟨_, rfl, by omega, by omega, ?_⟩
    refine ⟨fun i L m => ∃ y4 y7 y8, L = [some (.d (.int (low : Nat))), some (.d (.int (high : Nat))), some (.d (.list (JJ.rowU 30))), some (.d (JJ.tI (JJ.totQ low high (low + 1)))), y4, some (.d (JJ.tI (JJ.totQ low high (low + 1)))), some (.ref 0), y7, y8] ∧ m = [some (.lst ((JJ.sumQ low high i).map .int))], ?_, fun i x L m hx hI => ?_, fun L m hI => ?_⟩
    ·
      exact ⟨_, _, _, rfl, rfl⟩
    ·
      obtain ⟨y4, y7, y8, rfl, rfl⟩ := hI
      obtain ⟨hi, rfl⟩ := rgD_get hx
      rw [show (0 : Int) + (i : Int) = (i : Nat) by omega]
      have hi2 : i < low + 1 := by omega
      have hvl := JJ.vU_len (high - low + 2 * i + 1) (by omega)
      have hsl := JJ.sumQ_len (low := low) (high := high) i
      refine ⟨trivial, ?_⟩
      refine wg_name 4 sc.nd rfl (.inl rfl) ?_
      change WSs _ _ [_, _, _, _, _, _, _, _, _] [_] _
      refine wss_one ?_
      refine ws_for PassesOwn.never rfl ?_
      refine wi_enumT m_enumerate ?_
      refine we_call [] F__law_u (hr.mono (by omega)) m__law_u k__law_u b__law_u ?_
      refine wa_d ?_
      refine we_add ?_
      refine we_sub ?_
      refine we_name 1 rfl (.inl rfl) rfl ?_
      refine we_name 0 rfl (.inl rfl) rfl ?_
      refine ⟨_, _, rfl, rfl, ?_⟩
      refine we_mul ?_
      refine we_int ?_
      refine we_name 4 rfl (.inl rfl) rfl ?_
      refine ⟨_, _, rfl, rfl, cmul_of (j := 2) Bd.lit (Bd.of (k := 20) (by omega) (by omega)), ?_⟩
      refine ⟨_, _, rfl, rfl, ?_⟩
      refine wa_nil ?_
      refine ⟨by decide, by (simp [setAll_len, setAll_nil]), by (simp [refsIn, setAll_len, setAll_nil, permL]), high - low + 2 * i, JJ.pv1 (by omega), rfl, by omega, _, rfl, rfl, ?_⟩
      refine ⟨_, rfl, ?_⟩
      refine ⟨fun j L m => ∃ y7 y8, L = [some (.d (.int (low : Nat))), some (.d (.int (high : Nat))), some (.d (.list (JJ.rowU 30))), some (.d (JJ.tI (JJ.totQ low high (low + 1)))), some (.d (.int (i : Nat))), some (.d (JJ.tI (JJ.totQ low high (low + 1)))), some (.ref 0), y7, y8] ∧ m = [some (.lst ((JJ.accQ (JJ.sumQ low high i) ((JJ.vU (high - low + 2 * i + 1)).take j)).map .int))], ?_, fun j x L m hx hI => ?_, fun L m hI => ?_⟩
      ·
        exact ⟨_, _, rfl, by rw [List.take_zero, JJ.acc_nil]; rfl⟩
      ·
        obtain ⟨y7, y8, rfl, rfl⟩ := hI
        obtain ⟨y, hy, rfl⟩ := enD_get hx
        obtain ⟨c, hc, rfl⟩ := JJ.map_at hy
        have hjp := (List.getElem?_eq_some_iff.mp hc).1
        have hal := JJ.acc_len (JJ.sumQ low high i) ((JJ.vU (high - low + 2 * i + 1)).take j)
        have hnx := JJ.acc_next (JJ.sumQ low high i) _ j c hc (by omega)
        refine ⟨trivial, ?_⟩
        refine wg_tup rfl ?_
        refine ⟨_, rfl, rfl, ?_⟩
        refine wgn_cons ?_
        refine wg_name 7 sc.nd rfl (.inl rfl) ?_
        refine wgn_cons ?_
        refine wg_name 8 sc.nd rfl (.inl rfl) ?_
        refine wgn_nil ?_
        change WSs _ _ [_, _, _, _, _, _, _, _, _] [_] _
        refine wss_one ?_
        refine ws_asg ?_
        refine we_add ?_
        refine we_ix ?_
        refine wv_name 6 rfl (.inl rfl) rfl ?_
        refine we_name 7 rfl (.inl rfl) rfl ?_
        refine ⟨_, _, _, rfl, rfl, atI_ints (by omega) (by omega), ?_⟩
        rw [Int.toNat_natCast]
        refine we_name 8 rfl (.inl rfl) rfl ?_
        refine ⟨_, _, rfl, rfl, ?_⟩
        refine wg_sub ?_
        refine wv_name 6 rfl (.inl rfl) rfl ?_
        refine we_name 7 rfl (.inl rfl) rfl ?_
        refine ⟨_, _, _, _, rfl, rfl, rfl, ixN_of (by omega) (by rw [List.length_map]; omega), ?_⟩
        rw [Int.toNat_natCast, ← List.map_set, hnx]
        exact ⟨_, _, .same (by (repeat (first | exact WkL.nil | refine WkL.kd ?_ | (refine WkL.kr ?_ ?_; focus (simp [setAll_len, setAll_nil]; done)) | refine WkL.kw ?_ | refine WkL.drop ?_))) (by simp [setAll_len]), _, _, rfl, rfl⟩
      rw [enD_len, List.length_map] at hI
      obtain ⟨y7, y8, rfl, rfl⟩ := hI
      rw [List.take_length]
      refine ⟨trivial, ?_⟩
      exact ⟨_, _, .same (by (repeat (first | exact WkL.nil | refine WkL.kd ?_ | (refine WkL.kr ?_ ?_; focus (simp [setAll_len, setAll_nil]; done)) | refine WkL.kw ?_ | refine WkL.drop ?_))) (by simp [setAll_len]), _, _, _, rfl, rfl⟩
    rw [rgD_len, show ((low : Int) + 1 - 0).toNat = low + 1 by omega] at hI
    obtain ⟨y4, y7, y8, rfl, rfl⟩ := hI
    rw [hp2]
    refine ⟨trivial, ?_⟩
    change WSs _ _ [_, _, _, _, _, _, _, _, _] [_] _
    refine wss_one ?_
    refine ws_ret ?_
    refine we_call [] F__law_same (hr.mono (by omega)) m__law_same k__law_same b__law_same ?_
    refine wa_d ?_
    refine we_name 5 rfl (.inl rfl) rfl ?_
    refine wa_d ?_
    refine we_tuple1 m_tuple ?_
    refine wv_name 6 rfl (.inl rfl) rfl ?_
    refine ⟨_, rfl, ?_⟩
    refine wa_nil ?_
    refine ⟨by decide, by (simp [setAll_len, setAll_nil]), by (simp [refsIn, setAll_len, setAll_nil, permL]), .inl ⟨_, rfl, rfl, JJ.dl_tI4 (by omega), _, rfl, rfl, ?_⟩⟩
    exact ⟨by simp, .inl ⟨_, rfl, kq⟩⟩
end
section
variable {P : Program} {w : World} {K : PySem.W.Frag} {mg : Str → Option Value} {base : Heap}
theorem ok_l_divisors_right {f : Addr} {fd : FuncData} (F : Fun K "_law_divisors_right" "_law_divisors_right" s_l_divisors_right f fd) {f_u_row : Addr} {fd_u_row : FuncData} (F_u_row : FnOk P w K mg base CX0 5 f_u_row fd_u_row ["many"] (toSp K JJ.spURow)) (m_u_row : mg "u_row" = some (.ref f_u_row)) (k_u_row : PySem.W.keepIn K (.ref f_u_row) = true) (b_u_row : Binds K fd_u_row ["many"] []) {f__law_gcd : Addr} {fd__law_gcd : FuncData} (F__law_gcd : FnOk P w K mg base CX0 1 f__law_gcd fd__law_gcd ["_law_left", "_law_right"] (toSp K JJ.spGcd)) (m__law_gcd : mg "_law_gcd" = some (.ref f__law_gcd)) (k__law_gcd : PySem.W.keepIn K (.ref f__law_gcd) = true) (b__law_gcd : Binds K fd__law_gcd ["_law_left", "_law_right"] []) {f_divided : Addr} {fd_divided : FuncData} (F_divided : FnOk P w K mg base CX0 4 f_divided fd_divided ["one", "other"] (toSp K JJ.spDivG)) (m_divided : mg "divided" = some (.ref f_divided)) (k_divided : PySem.W.keepIn K (.ref f_divided) = true) (b_divided : Binds K fd_divided ["one", "other"] []) {f__law_same : Addr} {fd__law_same : FuncData} (F__law_same : FnOk P w K mg base CX0 6 f__law_same fd__law_same ["_law_found", "_law_due"] (toSp K JJ.spSmE)) (m__law_same : mg "_law_same" = some (.ref f__law_same)) (k__law_same : PySem.W.keepIn K (.ref f__law_same) = true) (b__law_same : Binds K fd__law_same ["_law_found", "_law_due"] []) {f_common : Addr} {fd_common : FuncData} (F_common : FnOk P w K mg base CX0 5 f_common fd_common ["one", "other"] (toSp K JJ.spCommU)) (m_common : mg "common" = some (.ref f_common)) (k_common : PySem.W.keepIn K (.ref f_common) = true) (b_common : Binds K fd_common ["one", "other"] []) {f__law_u : Addr} {fd__law_u : FuncData} (F__law_u : FnOk P w K mg base CX0 2 f__law_u fd__law_u ["_law_index"] (toSp K JJ.spU)) (m__law_u : mg "_law_u" = some (.ref f__law_u)) (k__law_u : PySem.W.keepIn K (.ref f__law_u) = true) (b__law_u : Binds K fd__law_u ["_law_index"] []) {f_times : Addr} {fd_times : FuncData} (F_times : FnOk P w K mg base CX0 4 f_times fd_times ["one", "other"] (toSp K JJ.spTimesH)) (m_times : mg "times" = some (.ref f_times)) (k_times : PySem.W.keepIn K (.ref f_times) = true) (b_times : Binds K fd_times ["one", "other"] []) (m_isinstance : mg "isinstance" = none) (m_tuple : mg "tuple" = none) : FnOk P w K mg base CX0 7 f fd ["_law_left", "_law_right"] (toSp K JJ.spDivR) := by
  have sc := sc_l_divisors_right
  refine fn_pp F sc (fun pvs m q h => ?_) (fun cdv A outer s H E hr pvs m q h => ?_)
  · obtain ⟨_, _, rfl, _⟩ := h
    rfl
  obtain ⟨l, r, rfl, rfl, h0, h1, h2, h3, kq⟩ := h
  have ol := JJ.vU_ok l (by omega)
  have or_ := JJ.vU_ok r (by omega)
  have hll := JJ.vU_len l (by omega)
  have hrl := JJ.vU_len r (by omega)
  have hg1 : Nat.gcd l r ≤ l := Nat.gcd_le_left _ h0
  have hg0 : 0 < Nat.gcd l r := Nat.gcd_pos_of_pos_left _ h0
  obtain ⟨due, hD, hdue⟩ := JJ.row_div h0 h1 h2 h3
  have hgl := JJ.vU_len (Nat.gcd l r) (by omega)
  change WSs _ _ [_, _, _, _, _] [] _
  refine wss_cons ?_
  refine ws_set 2 sc.nd rfl (.inl rfl) ?_
  refine we_wf ?_
  refine wf_call [] F_u_row (hr.mono (by omega)) m_u_row k_u_row b_u_row ?_
  refine wa_d ?_
  refine we_int ?_
  refine wa_nil ?_
  refine ⟨by decide, by (simp [setAll_len, setAll_nil]), by (simp [refsIn, setAll_len, setAll_nil, permL]), 30, rfl, rfl, by decide, [], _, rfl, rfl, rfl, ?_⟩
  change WSs _ _ [_, _, _, _, _] [] _
  refine wss_cons ?_
  refine ws_set 3 sc.nd rfl (.inl rfl) ?_
  refine we_call [] F__law_gcd (hr.mono (by omega)) m__law_gcd k__law_gcd b__law_gcd ?_
  refine wa_d ?_
  refine we_name 0 rfl (.inl rfl) rfl ?_
  refine wa_d ?_
  refine we_name 1 rfl (.inl rfl) rfl ?_
  refine wa_nil ?_
  refine ⟨by decide, by (simp [setAll_len, setAll_nil]), by (simp [refsIn, setAll_len, setAll_nil, permL]), l, r, rfl, rfl, _, rfl, rfl, ?_⟩
  change WSs _ _ [_, _, _, _, _] [] _
  refine wss_cons ?_
  refine ws_if ?_
  refine wt_not ?_
  refine wt_val ?_
  refine we_call [] F__law_same (hr.mono (by omega)) m__law_same k__law_same b__law_same ?_
  refine wa_d ?_
  refine we_call [] F_common (hr.mono (by omega)) m_common k_common b_common ?_
  refine wa_d ?_
  refine we_ix ?_
  refine wv_name 2 rfl (.inl rfl) rfl ?_
  refine we_sub ?_
  refine we_name 0 rfl (.inl rfl) rfl ?_
  refine we_int ?_
  refine ⟨_, _, rfl, rfl, ?_⟩
  refine ⟨_, _, _, rfl, rfl, JJ.rowU_at3 (k := l) (by omega) (by omega) (by omega), ?_⟩
  refine wa_d ?_
  refine we_ix ?_
  refine wv_name 2 rfl (.inl rfl) rfl ?_
  refine we_sub ?_
  refine we_name 1 rfl (.inl rfl) rfl ?_
  refine we_int ?_
  refine ⟨_, _, rfl, rfl, ?_⟩
  refine ⟨_, _, _, rfl, rfl, JJ.rowU_at3 (k := r) (by omega) (by omega) (by omega), ?_⟩
  refine wa_nil ?_
  refine ⟨by decide, by (simp [setAll_len, setAll_nil]), by (simp [refsIn, setAll_len, setAll_nil, permL]), l, r, rfl, rfl, h0, h1, h2, h3, _, rfl, rfl, ?_⟩
  refine wa_d ?_
  refine we_call [] F__law_u (hr.mono (by omega)) m__law_u k__law_u b__law_u ?_
  refine wa_d ?_
  refine we_sub ?_
  refine we_name 3 rfl (.inl rfl) rfl ?_
  refine we_int ?_
  refine ⟨_, _, rfl, rfl, ?_⟩
  refine wa_nil ?_
  refine ⟨by decide, by (simp [setAll_len, setAll_nil]), by (simp [refsIn, setAll_len, setAll_nil, permL]), Nat.gcd l r - 1, JJ.pv1 (by omega), rfl, by omega, _, rfl, rfl, ?_⟩
  rw [show Nat.gcd l r - 1 + 1 = Nat.gcd l r by omega]
  refine wa_nil ?_
  refine ⟨by decide, by (simp [setAll_len, setAll_nil]), by (simp [refsIn, setAll_len, setAll_nil, permL]), .inl ⟨_, rfl, rfl, JJ.dl_tI4 (by omega), _, rfl, rfl, ?_⟩⟩
  refine ⟨_, rfl, ?_⟩
  refine ⟨fun hif1 => ?_, fun hif1 => ?_⟩
  ·
    exfalso
    simp at hif1 --done
  ·
    refine wss_nil ?_
    change WSs _ _ [_, _, _, _, _] [] _
    refine wss_cons ?_
    refine ws_set 4 sc.nd rfl (.inl rfl) ?_
    refine we_call [] F_divided (hr.mono (by omega)) m_divided k_divided b_divided ?_
    refine wa_d ?_
    refine we_ix ?_
    refine wv_name 2 rfl (.inl rfl) rfl ?_
    refine we_sub ?_
    refine we_name 1 rfl (.inl rfl) rfl ?_
    refine we_int ?_
    refine ⟨_, _, rfl, rfl, ?_⟩
    refine ⟨_, _, _, rfl, rfl, JJ.rowU_at3 (k := r) (by omega) (by omega) (by omega), ?_⟩
    refine wa_d ?_
    refine we_ix ?_
    refine wv_name 2 rfl (.inl rfl) rfl ?_
    refine we_sub ?_
    refine we_name 0 rfl (.inl rfl) rfl ?_
    refine we_int ?_
    refine ⟨_, _, rfl, rfl, ?_⟩
    refine ⟨_, _, _, rfl, rfl, JJ.rowU_at3 (k := l) (by omega) (by omega) (by omega), ?_⟩
    refine wa_nil ?_
    refine ⟨by decide, by (simp [setAll_len, setAll_nil]), by (simp [refsIn, setAll_len, setAll_nil, permL]), JJ.div_call hD (by omega) (by omega) (fun c hc => ((JJ.okB_of ol).2.2 c hc).mono (by decide)) ?_⟩
    refine ⟨_, rfl, rfl, ?_⟩
    change WSs _ _ [_, _, _, _, _] [] _
    refine wss_cons ?_
    refine ws_if ?_
    refine wt_lt ?_
    refine we_name 3 rfl (.inl rfl) rfl ?_
    refine we_name 0 rfl (.inl rfl) rfl ?_
    refine ⟨_, _, rfl, rfl, ?_⟩
    refine ⟨fun hif2 => ?_, fun hif2 => ?_⟩
    ·
      have hlt := of_decide_eq_true hif2
      rcases hdue with ⟨_, rfl⟩ | ⟨e, _⟩
      rotate_left
      · omega
      change WSs _ _ [_, _, _, _, _] [] _
      refine wss_one ?_
      refine ws_ret ?_
      refine we_isNone ?_
      refine we_name 4 rfl (.inl rfl) rfl ?_
      refine we_none ?_
      refine ⟨rfl, ?_⟩
      exact ⟨by simp, .inl ⟨_, rfl, kq⟩⟩
    ·
      have hge := of_decide_eq_false hif2
      obtain ⟨aq, rfl, hpa, hPa, hta⟩ : ∃ a, due = JJ.tI a ∧ JJ.Pol a ∧ JJ.PH a ∧ JJ.timesP a (JJ.vU l) = JJ.vU r := by
        rcases hdue with ⟨e, _⟩ | ⟨_, e⟩
        · omega
        · exact e
      refine wss_nil ?_
      change WSs _ _ [_, _, _, _, _] [] _
      refine wss_one ?_
      refine ws_ret ?_
      apply VE.use
      ·
        apply ve_and
        ·
          intro Q hQ
          refine we_isinst (T := "tuple") m_isinstance m_tuple (by decide +kernel) ?_
          refine we_name 4 rfl (.inl rfl) rfl ?_
          refine ⟨_, kit_tuple, ?_⟩
          exact hQ
        intro hg1
        apply ve_one
        intro Q hQ
        refine we_call [] F__law_same (hr.mono (by omega)) m__law_same k__law_same b__law_same ?_
        refine wa_d ?_
        refine we_call [] F_times (hr.mono (by omega)) m_times k_times b_times ?_
        refine wa_d ?_
        refine we_name 4 rfl (.inl rfl) rfl ?_
        refine wa_d ?_
        refine we_ix ?_
        refine wv_name 2 rfl (.inl rfl) rfl ?_
        refine we_sub ?_
        refine we_name 0 rfl (.inl rfl) rfl ?_
        refine we_int ?_
        refine ⟨_, _, rfl, rfl, ?_⟩
        refine ⟨_, _, _, rfl, rfl, JJ.rowU_at3 (k := l) (by omega) (by omega) (by omega), ?_⟩
        refine wa_nil ?_
        refine ⟨by decide, by (simp [setAll_len, setAll_nil]), by (simp [refsIn, setAll_len, setAll_nil, permL]), aq, JJ.vU l, rfl, rfl, hpa, (JJ.okB_of ol).1, hPa, JJ.okB_PH ol, _, rfl, rfl, ?_⟩
        rw [hta]
        refine wa_d ?_
        refine we_call [] F__law_u (hr.mono (by omega)) m__law_u k__law_u b__law_u ?_
        refine wa_d ?_
        refine we_sub ?_
        refine we_name 1 rfl (.inl rfl) rfl ?_
        refine we_int ?_
        refine ⟨_, _, rfl, rfl, ?_⟩
        refine wa_nil ?_
        refine ⟨by decide, by (simp [setAll_len, setAll_nil]), by (simp [refsIn, setAll_len, setAll_nil, permL]), r - 1, JJ.pv1 (by omega), rfl, by omega, _, rfl, rfl, ?_⟩
        rw [show r - 1 + 1 = r by omega]
        refine wa_nil ?_
        refine ⟨by decide, by (simp [setAll_len, setAll_nil]), by (simp [refsIn, setAll_len, setAll_nil, permL]), .inl ⟨_, rfl, rfl, JJ.dl_tI4 (by omega), _, rfl, rfl, ?_⟩⟩
        exact hQ
      exact ⟨by simp, .inl ⟨_, rfl, kq⟩⟩
end
section
variable {P : Program} {w : World} {K : PySem.W.Frag} {mg : Str → Option Value} {base : Heap}
theorem ok_l_refused {f : Addr} {fd : FuncData} (F : Fun K "_law_refused" "_law_refused" s_l_refused f fd) {c_MatError : Addr} (E_MatError : EOk P w K mg base "MatError" c_MatError (spIn K)) {c_InvalidNumber : Addr} (E_InvalidNumber : EOk P w K mg base "InvalidNumber" c_InvalidNumber (spIn K)) {c_InvalidPoly : Addr} (E_InvalidPoly : EOk P w K mg base "InvalidPoly" c_InvalidPoly (spIn K)) {c_InvalidPrime : Addr} (E_InvalidPrime : EOk P w K mg base "InvalidPrime" c_InvalidPrime (spIn K)) {c_NoDivisor : Addr} (E_NoDivisor : EOk P w K mg base "NoDivisor" c_NoDivisor (spIn K)) (sb_InvalidNumber_MatError : PySem.W.subIn K (.ref c_InvalidNumber) (.ref c_MatError) = some true) (sb_InvalidNumber_InvalidNumber : PySem.W.subIn K (.ref c_InvalidNumber) (.ref c_InvalidNumber) = some true) (sb_InvalidNumber_InvalidPoly : PySem.W.subIn K (.ref c_InvalidNumber) (.ref c_InvalidPoly) = some false) (sb_InvalidNumber_InvalidPrime : PySem.W.subIn K (.ref c_InvalidNumber) (.ref c_InvalidPrime) = some false) (sb_InvalidNumber_NoDivisor : PySem.W.subIn K (.ref c_InvalidNumber) (.ref c_NoDivisor) = some false) (sv_InvalidNumber : PySem.W.subIn K (.ref c_InvalidNumber) (.type "ValueError") = some true) {f__law_same : Addr} {fd__law_same : FuncData} (F__law_same : FnOk P w K mg base CX0 6 f__law_same fd__law_same ["_law_found", "_law_due"] (toSp K JJ.spSmE)) (m__law_same : mg "_law_same" = some (.ref f__law_same)) (k__law_same : PySem.W.keepIn K (.ref f__law_same) = true) (b__law_same : Binds K fd__law_same ["_law_found", "_law_due"] []) {f_u_row : Addr} {fd_u_row : FuncData} (F_u_row : FnOk P w K mg base CX0 5 f_u_row fd_u_row ["many"] (toSp K JJ.spURow)) (FX_u_row : FnOk P w K mg base (L2.CX P w) 5 f_u_row fd_u_row ["many"] (toSpX K (JJ.spxURow c_InvalidNumber))) (m_u_row : mg "u_row" = some (.ref f_u_row)) (k_u_row : PySem.W.keepIn K (.ref f_u_row) = true) (b_u_row : Binds K fd_u_row ["many"] []) (m_isinstance : mg "isinstance" = none) (m_ValueError : mg "ValueError" = none) : FnOk P w K mg base CX0 7 f fd ["_law_number"] (toSp K JJ.spRfU) := by
  have sc := sc_l_refused
  refine fn_pp F sc (fun pvs m q h => ?_) (fun cdv A outer s H E hr pvs m q h => ?_)
  · obtain ⟨_, rfl, _⟩ := h
    rfl
  obtain ⟨n, rfl, rfl, hn, kq⟩ := h
  change WSs _ _ [_, _, _, _] [] _
  refine wss_cons ?_
  refine ws_asg ?_
  refine we_tup ?_
  refine wd_cons ?_
  refine we_none ?_
  refine wd_cons ?_
  refine we_none ?_
  refine wd_nil ?_
  refine ⟨szl (by simp), ?_⟩
  refine wg_tup rfl ?_
  refine ⟨_, rfl, rfl, ?_⟩
  refine wgn_cons ?_
  refine wg_name 1 sc.nd rfl (.inl rfl) ?_
  refine wgn_cons ?_
  refine wg_name 2 sc.nd rfl (.inl rfl) ?_
  refine wgn_nil ?_
  change WSs _ _ [_, _, _, _] [] _
  refine wss_cons ?_
  refine ws_tryX rfl rfl sc.nd rfl (fun pn xe hpo => ?_)
  change WSsX _ _ [_, _, _, _] [] _ _
  refine wssx_one ?_
  refine wsx_set 2 sc.nd rfl (.inl rfl) ?_
  refine wex_call [] FX_u_row (hr.mono (by omega)) m_u_row k_u_row b_u_row ?_
  refine wa_d ?_
  refine we_name 0 rfl (.inl rfl) rfl ?_
  refine wa_nil ?_
  refine ⟨by decide, by (simp [setAll_len, setAll_nil]), by (simp [refsIn, setAll_len, setAll_nil, permL]), n, rfl, rfl, hn, rfl, ?_⟩
  refine hq_as 3 rfl rfl ⟨by rfl, by decide, .inl E_MatError.m⟩ (exm_of E_MatError.toExOk (by first | exact sb_InvalidNumber_MatError | exact sb_InvalidNumber_InvalidNumber | exact sb_InvalidNumber_InvalidPoly | exact sb_InvalidNumber_InvalidPrime | exact sb_InvalidNumber_NoDivisor)) (fun a0 pn0 => ?_)
  change WSs _ _ [_, _, _, _] [] _
  refine wss_one ?_
  refine ws_setV 1 sc.nd rfl (.inl rfl) ?_
  refine wv_name 3 rfl (.inl rfl) rfl ?_
  change WSs _ _ [_, _, _, _] [] _
  refine wss_cons ?_
  refine ws_if ?_
  apply VT.use
  ·
    apply VW.vt
    apply vw_or
    ·
      intro Q hQ
      refine wt_isnotNone ?_
      refine we_name 2 rfl (.inl rfl) rfl ?_
      refine we_none ?_
      refine ⟨rfl, ?_⟩
      exact hQ
    intro hg1
    apply vw_or
    ·
      apply vt_not
      intro Q hQ
      refine wt_val ?_
      refine we_isK m_isinstance E_InvalidNumber.m ?_
      refine wv_name 1 rfl (.inl rfl) rfl ?_
      refine ⟨_, _, _, rfl, (by first | exact E_MatError.toExOk | exact E_InvalidNumber.toExOk | exact E_InvalidPoly.toExOk | exact E_InvalidPrime.toExOk | exact E_NoDivisor.toExOk), kit_of (by first | exact E_MatError.toExOk | exact E_InvalidNumber.toExOk | exact E_InvalidPoly.toExOk | exact E_InvalidPrime.toExOk | exact E_NoDivisor.toExOk) E_InvalidNumber.toExOk (by first | exact sb_InvalidNumber_MatError | exact sb_InvalidNumber_InvalidNumber | exact sb_InvalidNumber_InvalidPoly | exact sb_InvalidNumber_InvalidPrime | exact sb_InvalidNumber_NoDivisor), ?_⟩
      refine ⟨_, rfl, ?_⟩
      exact hQ
    intro hg2
    apply vw_or1
    apply vt_not
    intro Q hQ
    refine wt_val ?_
    refine we_isKB (T := "ValueError") m_isinstance m_ValueError (by decide +kernel) ?_
    refine wv_name 1 rfl (.inl rfl) rfl ?_
    refine ⟨_, _, _, rfl, (by first | exact E_MatError.toExOk | exact E_InvalidNumber.toExOk | exact E_InvalidPoly.toExOk | exact E_InvalidPrime.toExOk | exact E_NoDivisor.toExOk), kit_ve (by first | exact sv_InvalidNumber), ?_⟩
    refine ⟨_, rfl, ?_⟩
    exact hQ
  refine ⟨fun hif1 => ?_, fun hif1 => ?_⟩
  ·
    exfalso
    simp [isNoneD] at hif1 --done
  ·
    refine wss_nil ?_
    change WSs _ _ [_, _, _, _] [] _
    refine wss_cons ?_
    refine ws_if ?_
    refine wt_val ?_
    refine we_isK3 m_isinstance E_InvalidPoly.m E_InvalidPrime.m E_NoDivisor.m ?_
    refine wv_name 1 rfl (.inl rfl) rfl ?_
    refine ⟨_, _, _, _, _, rfl, (by first | exact E_MatError.toExOk | exact E_InvalidNumber.toExOk | exact E_InvalidPoly.toExOk | exact E_InvalidPrime.toExOk | exact E_NoDivisor.toExOk), kit_of (by first | exact E_MatError.toExOk | exact E_InvalidNumber.toExOk | exact E_InvalidPoly.toExOk | exact E_InvalidPrime.toExOk | exact E_NoDivisor.toExOk) E_InvalidPoly.toExOk (by first | exact sb_InvalidNumber_MatError | exact sb_InvalidNumber_InvalidNumber | exact sb_InvalidNumber_InvalidPoly | exact sb_InvalidNumber_InvalidPrime | exact sb_InvalidNumber_NoDivisor), kit_of (by first | exact E_MatError.toExOk | exact E_InvalidNumber.toExOk | exact E_InvalidPoly.toExOk | exact E_InvalidPrime.toExOk | exact E_NoDivisor.toExOk) E_InvalidPrime.toExOk (by first | exact sb_InvalidNumber_MatError | exact sb_InvalidNumber_InvalidNumber | exact sb_InvalidNumber_InvalidPoly | exact sb_InvalidNumber_InvalidPrime | exact sb_InvalidNumber_NoDivisor), kit_of (by first | exact E_MatError.toExOk | exact E_InvalidNumber.toExOk | exact E_InvalidPoly.toExOk | exact E_InvalidPrime.toExOk | exact E_NoDivisor.toExOk) E_NoDivisor.toExOk (by first | exact sb_InvalidNumber_MatError | exact sb_InvalidNumber_InvalidNumber | exact sb_InvalidNumber_InvalidPoly | exact sb_InvalidNumber_InvalidPrime | exact sb_InvalidNumber_NoDivisor), ?_⟩
    refine ⟨_, rfl, ?_⟩
    refine ⟨fun hif2 => ?_, fun hif2 => ?_⟩
    ·
      exfalso
      simp at hif2 --done
    ·
      refine wss_nil ?_
      change WSs _ _ [_, _, _, _] [] _
      refine wss_one ?_
      refine ws_ret ?_
      refine we_call [] F__law_same (hr.mono (by omega)) m__law_same k__law_same b__law_same ?_
      refine wa_d ?_
      refine we_exv ?_
      refine wv_name 1 rfl (.inl rfl) rfl ?_
      refine ⟨_, _, rfl, (by first | exact E_MatError.toExOk | exact E_InvalidNumber.toExOk | exact E_InvalidPoly.toExOk | exact E_InvalidPrime.toExOk | exact E_NoDivisor.toExOk), ?_⟩
      refine wa_d ?_
      refine we_name 0 rfl (.inl rfl) rfl ?_
      refine wa_nil ?_
      refine ⟨by decide, by (simp [setAll_len, setAll_nil]), by (simp [refsIn, setAll_len, setAll_nil, permL]), .inl ⟨_, rfl, rfl, JJ.dl_int, _, rfl, rfl, ?_⟩⟩
      exact ⟨by simp, .inl ⟨_, rfl, kq⟩⟩
end
section
variable {P : Program} {w : World} {K : PySem.W.Frag} {mg : Str → Option Value} {base : Heap}
theorem ok_law {f : Addr} {fd : FuncData} (F : Fun K "law" "law" s_law f fd) {f__law_well : Addr} {fd__law_well : FuncData} (F__law_well : FnOk P w K mg base CX0 1 f__law_well fd__law_well ["_law_script"] (toSp K JJ.spWelO)) (m__law_well : mg "_law_well" = some (.ref f__law_well)) (k__law_well : PySem.W.keepIn K (.ref f__law_well) = true) (b__law_well : Binds K fd__law_well ["_law_script"] []) {f__law_row_right : Addr} {fd__law_row_right : FuncData} (F__law_row_right : FnOk P w K mg base CX0 7 f__law_row_right fd__law_row_right ["_law_well_here", "_law_size"] (toSp K JJ.spRowR)) (m__law_row_right : mg "_law_row_right" = some (.ref f__law_row_right)) (k__law_row_right : PySem.W.keepIn K (.ref f__law_row_right) = true) (b__law_row_right : Binds K fd__law_row_right ["_law_well_here", "_law_size"] []) {f__law_draw : Addr} {fd__law_draw : FuncData} (F__law_draw : FnOk P w K mg base CX0 1 f__law_draw fd__law_draw ["_law_well_here", "_law_limit"] (toSp K JJ.spDrO)) (m__law_draw : mg "_law_draw" = some (.ref f__law_draw)) (k__law_draw : PySem.W.keepIn K (.ref f__law_draw) = true) (b__law_draw : Binds K fd__law_draw ["_law_well_here", "_law_limit"] []) {f__law_products_right : Addr} {fd__law_products_right : FuncData} (F__law_products_right : FnOk P w K mg base CX0 7 f__law_products_right fd__law_products_right ["_law_low", "_law_high"] (toSp K JJ.spProdR)) (m__law_products_right : mg "_law_products_right" = some (.ref f__law_products_right)) (k__law_products_right : PySem.W.keepIn K (.ref f__law_products_right) = true) (b__law_products_right : Binds K fd__law_products_right ["_law_low", "_law_high"] []) {f__law_divisors_right : Addr} {fd__law_divisors_right : FuncData} (F__law_divisors_right : FnOk P w K mg base CX0 7 f__law_divisors_right fd__law_divisors_right ["_law_left", "_law_right"] (toSp K JJ.spDivR)) (m__law_divisors_right : mg "_law_divisors_right" = some (.ref f__law_divisors_right)) (k__law_divisors_right : PySem.W.keepIn K (.ref f__law_divisors_right) = true) (b__law_divisors_right : Binds K fd__law_divisors_right ["_law_left", "_law_right"] []) {f__law_refused : Addr} {fd__law_refused : FuncData} (F__law_refused : FnOk P w K mg base CX0 7 f__law_refused fd__law_refused ["_law_number"] (toSp K JJ.spRfU)) (m__law_refused : mg "_law_refused" = some (.ref f__law_refused)) (k__law_refused : PySem.W.keepIn K (.ref f__law_refused) = true) (b__law_refused : Binds K fd__law_refused ["_law_number"] []) (m_range : mg "range" = none) (m_int : mg "int" = none) : FnOk P w K mg base CX0 8 f fd ["_law_script"] (toSp K spLaw) := by
  have sc := sc_law
  refine fn_pp F sc (fun pvs m q h => ?_) (fun cdv A outer s H E hr pvs m q h => ?_)
  · obtain ⟨_, rfl, _⟩ := h
    rfl
  obtain ⟨ns, rfl, rfl, hl, hns, kq⟩ := h
  change WSs _ _ [_, _, _, _, _, _, _, _] [] _
  refine wss_cons ?_
  refine ws_setO 1 [] sc.nd rfl (.inl rfl) F__law_well (hr.mono (by omega)) m__law_well k__law_well b__law_well ?_
  refine wa_cons ?_
  refine wv_name 0 rfl (.inl rfl) rfl ?_
  refine wa_nil ?_
  refine ⟨by decide, by (simp [setAll_len, setAll_nil]), by (simp [refsIn, setAll_len, setAll_nil, permL]), ns, by simp [ren], rfl, hl, hns, fun g1 a1 b1 c1 hw1 => ⟨[], _, _, _, _, rfl, rfl, rfl, ?_⟩⟩
  change WSs _ _ [_, _, _, _, _, _, _, _] [_, _] _
  refine wss_cons ?_
  refine ws_for PassesOwn.never rfl ?_
  refine wi_rng1 m_range ?_
  refine we_int ?_
  refine ⟨_, rfl, by omega, by omega, ?_⟩
  refine ⟨fun i L m => ∃ g a b c y2 y3 y4 y5 y6 y7, L = [some (.raw (ns.map .int)), some (.ref 1), y2, y3, y4, y5, y6, y7] ∧ m = [some (.lst (g.map .int)), some (.own a b c)] ∧ JJ.WO (30 * i) g a b c, ?_, fun i x L m hx hI => ?_, fun L m hI => ?_⟩
  ·
    exact ⟨_, _, _, _, _, _, _, _, _, _, rfl, rfl, hw1⟩
  ·
    obtain ⟨g, a, b, c, y2, y3, y4, y5, y6, y7, rfl, rfl, hw2⟩ := hI
    obtain ⟨hi, rfl⟩ := rgD_get hx
    have hi5 : i < 5 := by omega
    refine ⟨trivial, ?_⟩
    refine wg_name 2 sc.nd rfl (.inl rfl) ?_
    change WSs _ _ [_, _, _, _, _, _, _, _] [_, _] _
    refine wss_cons ?_
    refine ws_set 3 sc.nd rfl (.inl rfl) ?_
    refine we_ix ?_
    refine wv_we ?_
    refine we_wf ?_
    refine wf_lst ?_
    refine wd_cons ?_
    refine we_int ?_
    refine wd_cons ?_
    refine we_int ?_
    refine wd_cons ?_
    refine we_int ?_
    refine wd_cons ?_
    refine we_int ?_
    refine wd_cons ?_
    refine we_call [0, 1] F__law_draw (hr.mono (by omega)) m__law_draw k__law_draw b__law_draw ?_
    refine wa_cons ?_
    refine wv_name 1 rfl (.inl rfl) rfl ?_
    refine wa_d ?_
    refine we_int ?_
    refine wa_nil ?_
    refine ⟨by decide, by (simp [setAll_len, setAll_nil]), by (simp [refsIn, setAll_len, setAll_nil, permL]), _, _, _, _, _, 61, rfl, rfl, hw2, by omega, by omega, by omega, fun r1 gr1 ar1 br1 cr1 hr1a hr1b hr1 => ⟨_, rfl, rfl, ?_⟩⟩
    refine wd_cons ?_
    refine we_call [0, 1] F__law_draw (hr.mono (by omega)) m__law_draw k__law_draw b__law_draw ?_
    refine wa_cons ?_
    refine wv_name 1 rfl (.inl rfl) rfl ?_
    refine wa_d ?_
    refine we_int ?_
    refine wa_nil ?_
    refine ⟨by decide, by (simp [setAll_len, setAll_nil]), by (simp [refsIn, setAll_len, setAll_nil, permL]), _, _, _, _, _, 61, rfl, rfl, hr1, by omega, by omega, by omega, fun r2 gr2 ar2 br2 cr2 hr2a hr2b hr2 => ⟨_, rfl, rfl, ?_⟩⟩
    refine wd_nil ?_
    refine ⟨szl (by simp), ?_⟩
    refine we_call [0, 1] F__law_draw (hr.mono (by omega)) m__law_draw k__law_draw b__law_draw ?_
    refine wa_cons ?_
    refine wv_name 1 rfl (.inl rfl) rfl ?_
    refine wa_d ?_
    refine we_int ?_
    refine wa_nil ?_
    refine ⟨by decide, by (simp [setAll_len, setAll_nil]), by (simp [refsIn, setAll_len, setAll_nil, permL]), _, _, _, _, _, 6, rfl, rfl, hr2, by omega, by omega, by omega, fun r3 gr3 ar3 br3 cr3 hr3a hr3b hr3 => ⟨_, rfl, rfl, ?_⟩⟩
    obtain ⟨sz, hsz, hszb⟩ := pickI (P := fun z => 0 ≤ z ∧ z ≤ 60) (xs := [0, 1, 2, 60, r1, r2]) (r := r3) (by omega) (by simp; omega) (fun z hz => by
      simp only [List.mem_cons, List.not_mem_nil, or_false] at hz
      rcases hz with rfl | rfl | rfl | rfl | rfl | rfl <;> omega)
    refine ⟨_, _, _, rfl, rfl, hsz, ?_⟩
    obtain ⟨nz, rfl⟩ : ∃ n : Nat, sz = n := ⟨sz.toNat, by omega⟩
    change WSs _ _ [_, _, _, _, _, _, _, _] [_, _] _
    refine wss_cons ?_
    refine ws_set 4 sc.nd rfl (.inl rfl) ?_
    refine we_call [0, 1] F__law_draw (hr.mono (by omega)) m__law_draw k__law_draw b__law_draw ?_
    refine wa_cons ?_
    refine wv_name 1 rfl (.inl rfl) rfl ?_
    refine wa_d ?_
    refine we_int ?_
    refine wa_nil ?_
    refine ⟨by decide, by (simp [setAll_len, setAll_nil]), by (simp [refsIn, setAll_len, setAll_nil, permL]), _, _, _, _, _, 15, rfl, rfl, hr3, by omega, by omega, by omega, fun r4 gr4 ar4 br4 cr4 hr4a hr4b hr4 => ⟨_, rfl, rfl, ?_⟩⟩
    obtain ⟨nr4, rfl⟩ : ∃ n : Nat, r4 = n := ⟨r4.toNat, by omega⟩
    change WSs _ _ [_, _, _, _, _, _, _, _] [_, _] _
    refine wss_cons ?_
    refine ws_set 5 sc.nd rfl (.inl rfl) ?_
    refine we_add ?_
    refine we_name 4 rfl (.inl rfl) rfl ?_
    refine we_call [0, 1] F__law_draw (hr.mono (by omega)) m__law_draw k__law_draw b__law_draw ?_
    refine wa_cons ?_
    refine wv_name 1 rfl (.inl rfl) rfl ?_
    refine wa_d ?_
    refine we_sub ?_
    refine we_int ?_
    refine we_mul ?_
    refine we_int ?_
    refine we_name 4 rfl (.inl rfl) rfl ?_
    refine ⟨_, _, rfl, rfl, cmul_of (j := 2) Bd.lit (Bd.of (k := 20) (by omega) (by omega)), ?_⟩
    refine ⟨_, _, rfl, rfl, ?_⟩
    refine wa_nil ?_
    refine ⟨by decide, by (simp [setAll_len, setAll_nil]), by (simp [refsIn, setAll_len, setAll_nil, permL]), _, _, _, _, _, _, rfl, rfl, hr4, by omega, by omega, by omega, fun r5 gr5 ar5 br5 cr5 hr5a hr5b hr5 => ⟨_, rfl, rfl, ?_⟩⟩
    obtain ⟨nr5, rfl⟩ : ∃ n : Nat, r5 = n := ⟨r5.toNat, by omega⟩
    refine ⟨_, _, rfl, rfl, ?_⟩
    change WSs _ _ [_, _, _, _, _, _, _, _] [_, _] _
    refine wss_cons ?_
    refine ws_par 6 7 rfl sc.nd rfl rfl (by decide) rfl rfl ?_
    refine wa_d ?_
    refine we_add ?_
    refine we_int ?_
    refine we_call [0, 1] F__law_draw (hr.mono (by omega)) m__law_draw k__law_draw b__law_draw ?_
    refine wa_cons ?_
    refine wv_name 1 rfl (.inl rfl) rfl ?_
    refine wa_d ?_
    refine we_int ?_
    refine wa_nil ?_
    refine ⟨by decide, by (simp [setAll_len, setAll_nil]), by (simp [refsIn, setAll_len, setAll_nil, permL]), _, _, _, _, _, 30, rfl, rfl, hr5, by omega, by omega, by omega, fun r6 gr6 ar6 br6 cr6 hr6a hr6b hr6 => ⟨_, rfl, rfl, ?_⟩⟩
    obtain ⟨nr6, rfl⟩ : ∃ n : Nat, r6 = n := ⟨r6.toNat, by omega⟩
    refine ⟨_, _, rfl, rfl, ?_⟩
    refine wa_d ?_
    refine we_add ?_
    refine we_int ?_
    refine we_call [0, 1] F__law_draw (hr.mono (by omega)) m__law_draw k__law_draw b__law_draw ?_
    refine wa_cons ?_
    refine wv_name 1 rfl (.inl rfl) rfl ?_
    refine wa_d ?_
    refine we_int ?_
    refine wa_nil ?_
    refine ⟨by decide, by (simp [setAll_len, setAll_nil]), by (simp [refsIn, setAll_len, setAll_nil, permL]), _, _, _, _, _, 30, rfl, rfl, hr6, by omega, by omega, by omega, fun r7 gr7 ar7 br7 cr7 hr7a hr7b hr7 => ⟨_, rfl, rfl, ?_⟩⟩
    obtain ⟨nr7, rfl⟩ : ∃ n : Nat, r7 = n := ⟨r7.toNat, by omega⟩
    refine ⟨_, _, rfl, rfl, ?_⟩
    refine wa_nil ?_
    refine ⟨_, _, rfl, ?_⟩
    change WSs _ _ [_, _, _, _, _, _, _, _] [_, _] _
    refine wss_cons ?_
    refine ws_join (fun L m => ∃ (g : List Int) (a b c : Int) (nr : Nat), L = [some (.raw (ns.map .int)), some (.ref 1), some (.d (.int (0 + (i : Nat)))), some (.d (.int (nz : Nat))), some (.d (.int (nr4 : Nat))), some (.d (.int ((nr4 : Nat) + (nr5 : Nat)))), some (.d (.int (1 + (nr6 : Nat)))), some (.d (.int (nr : Nat)))] ∧ m = [some (.lst (g.map .int)), some (.own a b c)] ∧ JJ.WO (30 * i + 8) g a b c ∧ 0 < nr ∧ nr < 31) ?_ ?_
    ·
      refine ws_if ?_
      refine wt_eqI ?_
      refine we_call [0, 1] F__law_draw (hr.mono (by omega)) m__law_draw k__law_draw b__law_draw ?_
      refine wa_cons ?_
      refine wv_name 1 rfl (.inl rfl) rfl ?_
      refine wa_d ?_
      refine we_int ?_
      refine wa_nil ?_
      refine ⟨by decide, by (simp [setAll_len, setAll_nil]), by (simp [refsIn, setAll_len, setAll_nil, permL]), _, _, _, _, _, 2, rfl, rfl, hr7, by omega, by omega, by omega, fun r8 gr8 ar8 br8 cr8 hr8a hr8b hr8 => ⟨_, rfl, rfl, ?_⟩⟩
      refine we_int ?_
      refine ⟨_, _, rfl, rfl, ?_⟩
      refine ⟨fun hif1 => ?_, fun hif1 => ?_⟩
      ·
        change WSs _ _ [_, _, _, _, _, _, _, _] [_, _] _
        refine wss_one ?_
        refine ws_set 7 sc.nd rfl (.inl rfl) ?_
        refine we_mul ?_
        refine we_name 6 rfl (.inl rfl) rfl ?_
        refine we_add ?_
        refine we_int ?_
        refine we_mod ?_
        refine we_int1 m_int ?_
        refine we_name 7 rfl (.inl rfl) rfl ?_
        refine .inl ⟨_, rfl, ?_⟩
        refine we_fdiv ?_
        refine we_int ?_
        refine we_name 6 rfl (.inl rfl) rfl ?_
        refine ⟨_, _, rfl, rfl, cdiv_of (k := 6) (by omega) (Bd.of (by omega) (by omega)), ?_⟩
        have hq0 : 0 < (30 : Int) / (1 + (nr6 : Int)) := JJ.div30 (by omega) (by omega)
        refine ⟨_, _, rfl, rfl, hq0, ?_⟩
        refine ⟨_, _, rfl, rfl, ?_⟩
        have hm0 := Int.emod_nonneg (1 + (nr7 : Int)) (show (30 : Int) / (1 + (nr6 : Int)) ≠ 0 by omega)
        have hm1 := Int.emod_lt_of_pos (1 + (nr7 : Int)) hq0
        have hm2 : (30 : Int) / (1 + (nr6 : Int)) ≤ 30 := Int.ediv_le_self _ (by decide)
        obtain ⟨nr, hnr, hnr0, hnr1⟩ := JJ.law_right (a := 1 + (nr6 : Int)) (b := 1 + (nr7 : Int)) (by omega) (by omega)
        refine ⟨_, _, rfl, rfl, cmul_of (Bd.of (k := 6) (by omega) (by omega)) (Bd.of (k := 40) (by omega) (by omega)), ?_⟩
        rw [hnr]
        exact ⟨_, _, _, _, nr, rfl, rfl, hr8.mono (by omega), hnr0, hnr1⟩
      ·
        refine wss_nil ?_
        exact ⟨_, _, _, _, 1 + nr7, by simp, rfl, hr8.mono (by omega), by omega, by omega⟩
    rintro L m ⟨g8, a8, b8, c8, nr, rfl, rfl, hw8, hn0, hn1⟩
    change WSs _ _ [_, _, _, _, _, _, _, _] [_, _] _
    refine wss_cons ?_
    refine ws_if ?_
    refine wt_ww ?_
    refine ww_or ?_
    refine wt_not ?_
    refine wt_val ?_
    refine we_call [0, 1] F__law_row_right (hr.mono (by omega)) m__law_row_right k__law_row_right b__law_row_right ?_
    refine wa_cons ?_
    refine wv_name 1 rfl (.inl rfl) rfl ?_
    refine wa_d ?_
    refine we_name 3 rfl (.inl rfl) rfl ?_
    refine wa_nil ?_
    refine ⟨by decide, by (simp [setAll_len, setAll_nil]), by (simp [refsIn, setAll_len, setAll_nil, permL]), _, _, _, _, _, nz, rfl, rfl, hw8, by omega, by omega, fun g9 a9 b9 c9 hw9 => ⟨_, rfl, rfl, ?_⟩⟩
    refine ⟨_, rfl, ?_⟩
    refine ⟨fun heb1 => ?_, fun heb1 => ?_⟩
    ·
      exfalso
      simp at heb1 --done
    ·
      refine ww_or1 ?_
      refine wt_not ?_
      refine wt_val ?_
      refine we_call [] F__law_products_right (hr.mono (by omega)) m__law_products_right k__law_products_right b__law_products_right ?_
      refine wa_d ?_
      refine we_name 4 rfl (.inl rfl) rfl ?_
      refine wa_d ?_
      refine we_name 5 rfl (.inl rfl) rfl ?_
      refine wa_nil ?_
      rw [show ((nr4 : Int) + (nr5 : Int)) = ((nr4 + nr5 : Nat) : Int) by omega]
      refine ⟨by decide, by (simp [setAll_len, setAll_nil]), by (simp [refsIn, setAll_len, setAll_nil, permL]), nr4, nr4 + nr5, rfl, rfl, by omega, by omega, by omega, _, rfl, rfl, ?_⟩
      refine ⟨_, rfl, ?_⟩
      refine ⟨fun hif2 => ?_, fun hif2 => ?_⟩
      ·
        exfalso
        simp at hif2 --done
      ·
        refine wss_nil ?_
        change WSs _ _ [_, _, _, _, _, _, _, _] [_, _] _
        refine wss_one ?_
        refine ws_if ?_
        refine wt_ww ?_
        refine ww_or ?_
        refine wt_not ?_
        refine wt_val ?_
        refine we_call [] F__law_divisors_right (hr.mono (by omega)) m__law_divisors_right k__law_divisors_right b__law_divisors_right ?_
        refine wa_d ?_
        refine we_name 6 rfl (.inl rfl) rfl ?_
        refine wa_d ?_
        refine we_name 7 rfl (.inl rfl) rfl ?_
        refine wa_nil ?_
        rw [show (1 + (nr6 : Int)) = ((1 + nr6 : Nat) : Int) by omega]
        refine ⟨by decide, by (simp [setAll_len, setAll_nil]), by (simp [refsIn, setAll_len, setAll_nil, permL]), 1 + nr6, nr, rfl, rfl, by omega, by omega, by omega, by omega, _, rfl, rfl, ?_⟩
        refine ⟨_, rfl, ?_⟩
        refine ⟨fun heb2 => ?_, fun heb2 => ?_⟩
        ·
          exfalso
          simp at heb2 --done
        ·
          refine ww_or1 ?_
          refine wt_not ?_
          refine wt_val ?_
          refine we_call [] F__law_refused (hr.mono (by omega)) m__law_refused k__law_refused b__law_refused ?_
          refine wa_d ?_
          refine we_sub ?_
          refine we_neg ?_
          refine we_int ?_
          refine ⟨_, rfl, ?_⟩
          refine we_call [0, 1] F__law_draw (hr.mono (by omega)) m__law_draw k__law_draw b__law_draw ?_
          refine wa_cons ?_
          refine wv_name 1 rfl (.inl rfl) rfl ?_
          refine wa_d ?_
          refine we_ix ?_
          refine wv_we ?_
          refine we_wf ?_
          refine wf_lst ?_
          refine wd_cons ?_
          refine we_int ?_
          refine wd_cons ?_
          refine we_int ?_
          refine wd_cons ?_
          refine we_pow ?_
          refine we_int ?_
          refine we_int ?_
          refine ⟨_, _, rfl, rfl, ⟨by decide, by decide⟩, ?_⟩
          refine wd_nil ?_
          refine ⟨szl (by simp), ?_⟩
          refine we_mod ?_
          refine we_int1 m_int ?_
          refine we_name 2 rfl (.inl rfl) rfl ?_
          refine .inl ⟨_, rfl, ?_⟩
          refine we_int ?_
          refine ⟨_, _, rfl, rfl, by decide, ?_⟩
          obtain ⟨lm, hlm, hlmb⟩ := pickI (P := fun z => 1 ≤ z ∧ z ≤ 100000000000000000000) (xs := [1, 60, 10 ^ (20 : Int).toNat]) (r := (0 + (i : Int)) % 3) (by omega) (by simp; omega) (fun z hz => by
            simp only [List.mem_cons, List.not_mem_nil, or_false] at hz
            rcases hz with rfl | rfl | rfl
            · decide
            · decide
            · decide +kernel)
          refine ⟨_, _, _, rfl, rfl, hlm, ?_⟩
          refine wa_nil ?_
          refine ⟨by decide, by (simp [setAll_len, setAll_nil]), by (simp [refsIn, setAll_len, setAll_nil, permL]), _, _, _, _, _, _, rfl, rfl, hw9, by omega, by omega, by omega, fun r9 gr9 ar9 br9 cr9 hr9a hr9b hr9 => ⟨_, rfl, rfl, ?_⟩⟩
          refine ⟨_, _, rfl, rfl, ?_⟩
          refine wa_nil ?_
          refine ⟨by decide, by (simp [setAll_len, setAll_nil]), by (simp [refsIn, setAll_len, setAll_nil, permL]), _, rfl, rfl, by omega, _, rfl, rfl, ?_⟩
          refine ⟨_, rfl, ?_⟩
          refine ⟨fun hif3 => ?_, fun hif3 => ?_⟩
          ·
            exfalso
            simp at hif3 --done
          ·
            refine wss_nil ?_
            exact ⟨_, _, .same (by (repeat (first | exact WkL.nil | refine WkL.kd ?_ | (refine WkL.kr ?_ ?_; focus (simp [setAll_len, setAll_nil]; done)) | refine WkL.kw ?_ | refine WkL.drop ?_))) (by simp [setAll_len]), _, _, _, _, _, _, _, _, _, _, rfl, rfl, hr9.mono (by omega)⟩
  rw [rgD_len] at hI
  obtain ⟨g, a, b, c, y2, y3, y4, y5, y6, y7, rfl, rfl, hw2⟩ := hI
  refine ⟨trivial, ?_⟩
  change WSs _ _ [_, _, _, _, _, _, _, _] [_, _] _
  refine wss_one ?_
  refine ws_ret ?_
  refine we_call [0, 1] F__law_row_right (hr.mono (by omega)) m__law_row_right k__law_row_right b__law_row_right ?_
  refine wa_cons ?_
  refine wv_name 1 rfl (.inl rfl) rfl ?_
  refine wa_d ?_
  refine we_int ?_
  refine wa_nil ?_
  refine ⟨by decide, by (simp [setAll_len, setAll_nil]), by (simp [refsIn, setAll_len, setAll_nil, permL]), _, _, _, _, _, 60, rfl, rfl, hw2, by omega, by omega, fun g9 a9 b9 c9 hw9 => ⟨_, rfl, rfl, ?_⟩⟩
  exact ⟨by simp [setAll_len], .inl ⟨_, rfl, kq⟩⟩
end
theorem all_mk {l : PySem.W.OpenLaw} {w : World} {K : PySem.W.Frag} {h : Heap} {mg : Str → Option Value} {fa f1 f2 f3 f4 f5 f6 f7 f8 f9 f10 f11 f12 f13 f14 f15 f16 f17 f18 f19 f20 f21 f22 f23 f24 f25 f26 : Addr} (X : K.In h) (G : h.Ns mainGlobals mg) (hfa : mg "law" = some (.ref fa))
    {od1 an1 od2 an2 od3 an3 od4 an4 od5 an5 od6 an6 od7 an7 od8 an8 od9 an9 od10 an10 od11 an11 od12 an12 od13 an13 od14 an14 od15 an15 od16 an16 od17 an17 od18 an18 od19 an19 od20 an20 od21 an21 od22 an22 od23 an23 od24 an24 od25 an25 od26 an26 : Option Addr} {sl1 sl2 sl3 sl4 sl5 sl6 sl7 sl8 sl9 sl10 sl11 sl12 sl13 sl14 sl15 sl16 sl17 sl18 sl19 sl20 sl21 sl22 sl23 sl24 sl25 sl26 : Array (Option Value)} {oc1 kV1 dc1 pm1 cd1 ct1 oc2 kV2 dc2 pm2 cd2 ct2 oc3 kV3 dc3 pm3 cd3 ct3 oc4 kV4 dc4 pm4 cd4 ct4 oc5 kV5 dc5 pm5 cd5 ct5 oc6 kV6 dc6 pm6 cd6 ct6 oc7 kV7 dc7 pm7 cd7 ct7 oc8 kV8 dc8 pm8 cd8 ct8 oc9 kV9 dc9 pm9 cd9 ct9 oc10 kV10 dc10 pm10 cd10 ct10 oc11 kV11 dc11 pm11 cd11 ct11 oc12 kV12 dc12 pm12 cd12 ct12 oc13 kV13 dc13 pm13 cd13 ct13 oc14 kV14 dc14 pm14 cd14 ct14 oc15 kV15 dc15 pm15 cd15 ct15 oc16 kV16 dc16 pm16 cd16 ct16 oc17 kV17 dc17 pm17 cd17 ct17 oc18 kV18 dc18 pm18 cd18 ct18 oc19 kV19 dc19 pm19 cd19 ct19 oc20 kV20 dc20 pm20 cd20 ct20 oc21 kV21 dc21 pm21 cd21 ct21 oc22 kV22 dc22 pm22 cd22 ct22 oc23 kV23 dc23 pm23 cd23 ct23 oc24 kV24 dc24 pm24 cd24 ct24 oc25 kV25 dc25 pm25 cd25 ct25 oc26 kV26 dc26 pm26 cd26 ct26 : Value}
    (a1 : PySem.W.nsIn K mainGlobals "check_from" = some (some (.ref f1))) (l1 : K.lookup f1 = some ⟨oc1, od1, .func (PySem.W.fnOf "check_from" "check_from" (defArgs s_check_from) (defBody s_check_from) (defScope s_check_from) .none kV1 dc1 pm1 an1 cd1 ct1), sl1⟩) (c1 : PySem.W.codeIn K cd1 "check_from" = true) (k1 : PySem.W.keepIn K (.ref f1) = true)
    (a2 : PySem.W.nsIn K mainGlobals "is_poly" = some (some (.ref f2))) (l2 : K.lookup f2 = some ⟨oc2, od2, .func (PySem.W.fnOf "is_poly" "is_poly" (defArgs s_is_poly) (defBody s_is_poly) (defScope s_is_poly) .none kV2 dc2 pm2 an2 cd2 ct2), sl2⟩) (c2 : PySem.W.codeIn K cd2 "is_poly" = true) (k2 : PySem.W.keepIn K (.ref f2) = true)
    (a3 : PySem.W.nsIn K mainGlobals "check_poly" = some (some (.ref f3))) (l3 : K.lookup f3 = some ⟨oc3, od3, .func (PySem.W.fnOf "check_poly" "check_poly" (defArgs s_check_poly) (defBody s_check_poly) (defScope s_check_poly) .none kV3 dc3 pm3 an3 cd3 ct3), sl3⟩) (c3 : PySem.W.codeIn K cd3 "check_poly" = true) (k3 : PySem.W.keepIn K (.ref f3) = true)
    (a4 : PySem.W.nsIn K mainGlobals "_check_two" = some (some (.ref f4))) (l4 : K.lookup f4 = some ⟨oc4, od4, .func (PySem.W.fnOf "_check_two" "_check_two" (defArgs s_p_check_two) (defBody s_p_check_two) (defScope s_p_check_two) .none kV4 dc4 pm4 an4 cd4 ct4), sl4⟩) (c4 : PySem.W.codeIn K cd4 "_check_two" = true) (k4 : PySem.W.keepIn K (.ref f4) = true)
    (a5 : PySem.W.nsIn K mainGlobals "_check_divisor" = some (some (.ref f5))) (l5 : K.lookup f5 = some ⟨oc5, od5, .func (PySem.W.fnOf "_check_divisor" "_check_divisor" (defArgs s_p_check_divisor) (defBody s_p_check_divisor) (defScope s_p_check_divisor) .none kV5 dc5 pm5 an5 cd5 ct5), sl5⟩) (c5 : PySem.W.codeIn K cd5 "_check_divisor" = true) (k5 : PySem.W.keepIn K (.ref f5) = true)
    (a6 : PySem.W.nsIn K mainGlobals "_poly_of" = some (some (.ref f6))) (l6 : K.lookup f6 = some ⟨oc6, od6, .func (PySem.W.fnOf "_poly_of" "_poly_of" (defArgs s_p_poly_of) (defBody s_p_poly_of) (defScope s_p_poly_of) .none kV6 dc6 pm6 an6 cd6 ct6), sl6⟩) (c6 : PySem.W.codeIn K cd6 "_poly_of" = true) (k6 : PySem.W.keepIn K (.ref f6) = true)
    (a7 : PySem.W.nsIn K mainGlobals "_take_away" = some (some (.ref f7))) (l7 : K.lookup f7 = some ⟨oc7, od7, .func (PySem.W.fnOf "_take_away" "_take_away" (defArgs s_p_take_away) (defBody s_p_take_away) (defScope s_p_take_away) .none kV7 dc7 pm7 an7 cd7 ct7), sl7⟩) (c7 : PySem.W.codeIn K cd7 "_take_away" = true) (k7 : PySem.W.keepIn K (.ref f7) = true)
    (a8 : PySem.W.nsIn K mainGlobals "plus" = some (some (.ref f8))) (l8 : K.lookup f8 = some ⟨oc8, od8, .func (PySem.W.fnOf "plus" "plus" (defArgs s_plus) (defBody s_plus) (defScope s_plus) .none kV8 dc8 pm8 an8 cd8 ct8), sl8⟩) (c8 : PySem.W.codeIn K cd8 "plus" = true) (k8 : PySem.W.keepIn K (.ref f8) = true)
    (a9 : PySem.W.nsIn K mainGlobals "times" = some (some (.ref f9))) (l9 : K.lookup f9 = some ⟨oc9, od9, .func (PySem.W.fnOf "times" "times" (defArgs s_times) (defBody s_times) (defScope s_times) .none kV9 dc9 pm9 an9 cd9 ct9), sl9⟩) (c9 : PySem.W.codeIn K cd9 "times" = true) (k9 : PySem.W.keepIn K (.ref f9) = true)
    (a10 : PySem.W.nsIn K mainGlobals "divided" = some (some (.ref f10))) (l10 : K.lookup f10 = some ⟨oc10, od10, .func (PySem.W.fnOf "divided" "divided" (defArgs s_divided) (defBody s_divided) (defScope s_divided) .none kV10 dc10 pm10 an10 cd10 ct10), sl10⟩) (c10 : PySem.W.codeIn K cd10 "divided" = true) (k10 : PySem.W.keepIn K (.ref f10) = true)
    (a11 : PySem.W.nsIn K mainGlobals "u_row" = some (some (.ref f11))) (l11 : K.lookup f11 = some ⟨oc11, od11, .func (PySem.W.fnOf "u_row" "u_row" (defArgs s_u_row) (defBody s_u_row) (defScope s_u_row) .none kV11 dc11 pm11 an11 cd11 ct11), sl11⟩) (c11 : PySem.W.codeIn K cd11 "u_row" = true) (k11 : PySem.W.keepIn K (.ref f11) = true)
    (a12 : PySem.W.nsIn K mainGlobals "_content" = some (some (.ref f12))) (l12 : K.lookup f12 = some ⟨oc12, od12, .func (PySem.W.fnOf "_content" "_content" (defArgs s_p_content) (defBody s_p_content) (defScope s_p_content) .none kV12 dc12 pm12 an12 cd12 ct12), sl12⟩) (c12 : PySem.W.codeIn K cd12 "_content" = true) (k12 : PySem.W.keepIn K (.ref f12) = true)
    (a13 : PySem.W.nsIn K mainGlobals "_primitive" = some (some (.ref f13))) (l13 : K.lookup f13 = some ⟨oc13, od13, .func (PySem.W.fnOf "_primitive" "_primitive" (defArgs s_p_primitive) (defBody s_p_primitive) (defScope s_p_primitive) .none kV13 dc13 pm13 an13 cd13 ct13), sl13⟩) (c13 : PySem.W.codeIn K cd13 "_primitive" = true) (k13 : PySem.W.keepIn K (.ref f13) = true)
    (a14 : PySem.W.nsIn K mainGlobals "_rest" = some (some (.ref f14))) (l14 : K.lookup f14 = some ⟨oc14, od14, .func (PySem.W.fnOf "_rest" "_rest" (defArgs s_p_rest) (defBody s_p_rest) (defScope s_p_rest) .none kV14 dc14 pm14 an14 cd14 ct14), sl14⟩) (c14 : PySem.W.codeIn K cd14 "_rest" = true) (k14 : PySem.W.keepIn K (.ref f14) = true)
    (a15 : PySem.W.nsIn K mainGlobals "common" = some (some (.ref f15))) (l15 : K.lookup f15 = some ⟨oc15, od15, .func (PySem.W.fnOf "common" "common" (defArgs s_common) (defBody s_common) (defScope s_common) .none kV15 dc15 pm15 an15 cd15 ct15), sl15⟩) (c15 : PySem.W.codeIn K cd15 "common" = true) (k15 : PySem.W.keepIn K (.ref f15) = true)
    (a16 : PySem.W.nsIn K mainGlobals "_law_well" = some (some (.ref f16))) (l16 : K.lookup f16 = some ⟨oc16, od16, .func (PySem.W.fnOf "_law_well" "_law_well" (defArgs s_l_well) (defBody s_l_well) (defScope s_l_well) .none kV16 dc16 pm16 an16 cd16 ct16), sl16⟩) (c16 : PySem.W.codeIn K cd16 "_law_well" = true) (k16 : PySem.W.keepIn K (.ref f16) = true)
    (a17 : PySem.W.nsIn K mainGlobals "_law_draw" = some (some (.ref f17))) (l17 : K.lookup f17 = some ⟨oc17, od17, .func (PySem.W.fnOf "_law_draw" "_law_draw" (defArgs s_l_draw) (defBody s_l_draw) (defScope s_l_draw) .none kV17 dc17 pm17 an17 cd17 ct17), sl17⟩) (c17 : PySem.W.codeIn K cd17 "_law_draw" = true) (k17 : PySem.W.keepIn K (.ref f17) = true)
    (a18 : PySem.W.nsIn K mainGlobals "_law_same" = some (some (.ref f18))) (l18 : K.lookup f18 = some ⟨oc18, od18, .func (PySem.W.fnOf "_law_same" "_law_same" (defArgs s_l_same) (defBody s_l_same) (defScope s_l_same) .none kV18 dc18 pm18 an18 cd18 ct18), sl18⟩) (c18 : PySem.W.codeIn K cd18 "_law_same" = true) (k18 : PySem.W.keepIn K (.ref f18) = true)
    (a19 : PySem.W.nsIn K mainGlobals "_law_over" = some (some (.ref f19))) (l19 : K.lookup f19 = some ⟨oc19, od19, .func (PySem.W.fnOf "_law_over" "_law_over" (defArgs s_l_over) (defBody s_l_over) (defScope s_l_over) .none kV19 dc19 pm19 an19 cd19 ct19), sl19⟩) (c19 : PySem.W.codeIn K cd19 "_law_over" = true) (k19 : PySem.W.keepIn K (.ref f19) = true)
    (a20 : PySem.W.nsIn K mainGlobals "_law_u" = some (some (.ref f20))) (l20 : K.lookup f20 = some ⟨oc20, od20, .func (PySem.W.fnOf "_law_u" "_law_u" (defArgs s_l_u) (defBody s_l_u) (defScope s_l_u) .none kV20 dc20 pm20 an20 cd20 ct20), sl20⟩) (c20 : PySem.W.codeIn K cd20 "_law_u" = true) (k20 : PySem.W.keepIn K (.ref f20) = true)
    (a21 : PySem.W.nsIn K mainGlobals "_law_gcd" = some (some (.ref f21))) (l21 : K.lookup f21 = some ⟨oc21, od21, .func (PySem.W.fnOf "_law_gcd" "_law_gcd" (defArgs s_l_gcd) (defBody s_l_gcd) (defScope s_l_gcd) .none kV21 dc21 pm21 an21 cd21 ct21), sl21⟩) (c21 : PySem.W.codeIn K cd21 "_law_gcd" = true) (k21 : PySem.W.keepIn K (.ref f21) = true)
    (a22 : PySem.W.nsIn K mainGlobals "_law_row_right" = some (some (.ref f22))) (l22 : K.lookup f22 = some ⟨oc22, od22, .func (PySem.W.fnOf "_law_row_right" "_law_row_right" (defArgs s_l_row_right) (defBody s_l_row_right) (defScope s_l_row_right) .none kV22 dc22 pm22 an22 cd22 ct22), sl22⟩) (c22 : PySem.W.codeIn K cd22 "_law_row_right" = true) (k22 : PySem.W.keepIn K (.ref f22) = true)
    (a23 : PySem.W.nsIn K mainGlobals "_law_products_right" = some (some (.ref f23))) (l23 : K.lookup f23 = some ⟨oc23, od23, .func (PySem.W.fnOf "_law_products_right" "_law_products_right" (defArgs s_l_products_right) (defBody s_l_products_right) (defScope s_l_products_right) .none kV23 dc23 pm23 an23 cd23 ct23), sl23⟩) (c23 : PySem.W.codeIn K cd23 "_law_products_right" = true) (k23 : PySem.W.keepIn K (.ref f23) = true)
    (a24 : PySem.W.nsIn K mainGlobals "_law_divisors_right" = some (some (.ref f24))) (l24 : K.lookup f24 = some ⟨oc24, od24, .func (PySem.W.fnOf "_law_divisors_right" "_law_divisors_right" (defArgs s_l_divisors_right) (defBody s_l_divisors_right) (defScope s_l_divisors_right) .none kV24 dc24 pm24 an24 cd24 ct24), sl24⟩) (c24 : PySem.W.codeIn K cd24 "_law_divisors_right" = true) (k24 : PySem.W.keepIn K (.ref f24) = true)
    (a25 : PySem.W.nsIn K mainGlobals "_law_refused" = some (some (.ref f25))) (l25 : K.lookup f25 = some ⟨oc25, od25, .func (PySem.W.fnOf "_law_refused" "_law_refused" (defArgs s_l_refused) (defBody s_l_refused) (defScope s_l_refused) .none kV25 dc25 pm25 an25 cd25 ct25), sl25⟩) (c25 : PySem.W.codeIn K cd25 "_law_refused" = true) (k25 : PySem.W.keepIn K (.ref f25) = true)
    (a26 : PySem.W.nsIn K mainGlobals "law" = some (some (.ref f26))) (l26 : K.lookup f26 = some ⟨oc26, od26, .func (PySem.W.fnOf "law" "law" (defArgs s_law) (defBody s_law) (defScope s_law) .none kV26 dc26 pm26 an26 cd26 ct26), sl26⟩) (c26 : PySem.W.codeIn K cd26 "law" = true) (k26 : PySem.W.keepIn K (.ref f26) = true)
    {fI : Addr}
    {c_InvalidNumber d_InvalidNumber N_InvalidNumber : Addr} {nm_InvalidNumber q_InvalidNumber : Str} {bs_InvalidNumber : List Value} {sn_InvalidNumber : List Str} {su_InvalidNumber : List Value} {ab_InvalidNumber : Bool} {col_InvalidNumber : Option Bool} {dd_InvalidNumber : Option Addr} {m0_InvalidNumber m1_InvalidNumber m2_InvalidNumber m3_InvalidNumber m5_InvalidNumber : Option Value}
    (aC_InvalidNumber : PySem.W.nsIn K mainGlobals "InvalidNumber" = some (some (.ref c_InvalidNumber))) (xC_InvalidNumber : K.lookup c_InvalidNumber = some (excClassObj nm_InvalidNumber q_InvalidNumber c_InvalidNumber N_InvalidNumber bs_InvalidNumber [.ref d_InvalidNumber, .type "ValueError", .type "Exception", .type "BaseException", .type "object"] true sn_InvalidNumber su_InvalidNumber ab_InvalidNumber col_InvalidNumber dd_InvalidNumber m0_InvalidNumber m1_InvalidNumber m2_InvalidNumber m3_InvalidNumber m5_InvalidNumber "ValueError.__new__"))
    (sa_InvalidNumber : PySem.W.findIn K (.ref c_InvalidNumber) "__setattr__" = some (some (.builtin "object.__setattr__"))) (gg_InvalidNumber : PySem.W.findIn K (.ref c_InvalidNumber) "__getattribute__" = some (some (.builtin "BaseException.__getattribute__"))) (gn_InvalidNumber : PySem.W.findIn K (.ref c_InvalidNumber) "__getattr__" = some none) (nv_InvalidNumber : PySem.W.findIn K (.ref c_InvalidNumber) "value" = some none)
    (iC_InvalidNumber : PySem.W.findIn K (.ref c_InvalidNumber) "__init__" = some (some (.ref fI))) (kC_InvalidNumber : PySem.W.keepIn K (.ref c_InvalidNumber) = true) (eC_InvalidNumber : PySem.W.subIn K (.ref c_InvalidNumber) (.type "BaseException") = some true) (tC_InvalidNumber : PySem.W.typeIn K (.ref c_InvalidNumber) = some (.type "type")) (hC_InvalidNumber : PySem.W.hasDictIn K c_InvalidNumber = true)
    (cc_InvalidNumber : PySem.W.findIn K (.ref c_InvalidNumber) "__class__" = some (some (.builtin "object.__class__"))) (ob_InvalidNumber : PySem.W.mroIn K c_InvalidNumber (.type "object") = some true) (me_InvalidNumber : PySem.W.subIn K (.ref c_InvalidNumber) (.ref c_InvalidNumber) = some true)
    {c_MatError N_MatError : Addr} {nm_MatError q_MatError : Str} {bs_MatError : List Value} {sn_MatError : List Str} {su_MatError : List Value} {ab_MatError : Bool} {col_MatError : Option Bool} {dd_MatError : Option Addr} {m0_MatError m1_MatError m2_MatError m3_MatError m5_MatError : Option Value}
    (aC_MatError : PySem.W.nsIn K mainGlobals "MatError" = some (some (.ref c_MatError))) (xC_MatError : K.lookup c_MatError = some (excClassObj nm_MatError q_MatError c_MatError N_MatError bs_MatError [.type "ValueError", .type "Exception", .type "BaseException", .type "object"] true sn_MatError su_MatError ab_MatError col_MatError dd_MatError m0_MatError m1_MatError m2_MatError m3_MatError m5_MatError "ValueError.__new__"))
    (sa_MatError : PySem.W.findIn K (.ref c_MatError) "__setattr__" = some (some (.builtin "object.__setattr__"))) (gg_MatError : PySem.W.findIn K (.ref c_MatError) "__getattribute__" = some (some (.builtin "BaseException.__getattribute__"))) (gn_MatError : PySem.W.findIn K (.ref c_MatError) "__getattr__" = some none) (nv_MatError : PySem.W.findIn K (.ref c_MatError) "value" = some none)
    (iC_MatError : PySem.W.findIn K (.ref c_MatError) "__init__" = some (some (.ref fI))) (kC_MatError : PySem.W.keepIn K (.ref c_MatError) = true) (eC_MatError : PySem.W.subIn K (.ref c_MatError) (.type "BaseException") = some true) (tC_MatError : PySem.W.typeIn K (.ref c_MatError) = some (.type "type")) (hC_MatError : PySem.W.hasDictIn K c_MatError = true)
    (cc_MatError : PySem.W.findIn K (.ref c_MatError) "__class__" = some (some (.builtin "object.__class__"))) (ob_MatError : PySem.W.mroIn K c_MatError (.type "object") = some true) (me_MatError : PySem.W.subIn K (.ref c_MatError) (.ref c_MatError) = some true)
    {c_InvalidPoly d_InvalidPoly N_InvalidPoly : Addr} {nm_InvalidPoly q_InvalidPoly : Str} {bs_InvalidPoly : List Value} {sn_InvalidPoly : List Str} {su_InvalidPoly : List Value} {ab_InvalidPoly : Bool} {col_InvalidPoly : Option Bool} {dd_InvalidPoly : Option Addr} {m0_InvalidPoly m1_InvalidPoly m2_InvalidPoly m3_InvalidPoly m5_InvalidPoly : Option Value}
    (aC_InvalidPoly : PySem.W.nsIn K mainGlobals "InvalidPoly" = some (some (.ref c_InvalidPoly))) (xC_InvalidPoly : K.lookup c_InvalidPoly = some (excClassObj nm_InvalidPoly q_InvalidPoly c_InvalidPoly N_InvalidPoly bs_InvalidPoly [.ref d_InvalidPoly, .type "ValueError", .type "Exception", .type "BaseException", .type "object"] true sn_InvalidPoly su_InvalidPoly ab_InvalidPoly col_InvalidPoly dd_InvalidPoly m0_InvalidPoly m1_InvalidPoly m2_InvalidPoly m3_InvalidPoly m5_InvalidPoly "ValueError.__new__"))
    (sa_InvalidPoly : PySem.W.findIn K (.ref c_InvalidPoly) "__setattr__" = some (some (.builtin "object.__setattr__"))) (gg_InvalidPoly : PySem.W.findIn K (.ref c_InvalidPoly) "__getattribute__" = some (some (.builtin "BaseException.__getattribute__"))) (gn_InvalidPoly : PySem.W.findIn K (.ref c_InvalidPoly) "__getattr__" = some none) (nv_InvalidPoly : PySem.W.findIn K (.ref c_InvalidPoly) "value" = some none)
    (iC_InvalidPoly : PySem.W.findIn K (.ref c_InvalidPoly) "__init__" = some (some (.ref fI))) (kC_InvalidPoly : PySem.W.keepIn K (.ref c_InvalidPoly) = true) (eC_InvalidPoly : PySem.W.subIn K (.ref c_InvalidPoly) (.type "BaseException") = some true) (tC_InvalidPoly : PySem.W.typeIn K (.ref c_InvalidPoly) = some (.type "type")) (hC_InvalidPoly : PySem.W.hasDictIn K c_InvalidPoly = true)
    (cc_InvalidPoly : PySem.W.findIn K (.ref c_InvalidPoly) "__class__" = some (some (.builtin "object.__class__"))) (ob_InvalidPoly : PySem.W.mroIn K c_InvalidPoly (.type "object") = some true) (me_InvalidPoly : PySem.W.subIn K (.ref c_InvalidPoly) (.ref c_InvalidPoly) = some true)
    {c_InvalidPrime d_InvalidPrime N_InvalidPrime : Addr} {nm_InvalidPrime q_InvalidPrime : Str} {bs_InvalidPrime : List Value} {sn_InvalidPrime : List Str} {su_InvalidPrime : List Value} {ab_InvalidPrime : Bool} {col_InvalidPrime : Option Bool} {dd_InvalidPrime : Option Addr} {m0_InvalidPrime m1_InvalidPrime m2_InvalidPrime m3_InvalidPrime m5_InvalidPrime : Option Value}
    (aC_InvalidPrime : PySem.W.nsIn K mainGlobals "InvalidPrime" = some (some (.ref c_InvalidPrime))) (xC_InvalidPrime : K.lookup c_InvalidPrime = some (excClassObj nm_InvalidPrime q_InvalidPrime c_InvalidPrime N_InvalidPrime bs_InvalidPrime [.ref d_InvalidPrime, .type "ValueError", .type "Exception", .type "BaseException", .type "object"] true sn_InvalidPrime su_InvalidPrime ab_InvalidPrime col_InvalidPrime dd_InvalidPrime m0_InvalidPrime m1_InvalidPrime m2_InvalidPrime m3_InvalidPrime m5_InvalidPrime "ValueError.__new__"))
    (sa_InvalidPrime : PySem.W.findIn K (.ref c_InvalidPrime) "__setattr__" = some (some (.builtin "object.__setattr__"))) (gg_InvalidPrime : PySem.W.findIn K (.ref c_InvalidPrime) "__getattribute__" = some (some (.builtin "BaseException.__getattribute__"))) (gn_InvalidPrime : PySem.W.findIn K (.ref c_InvalidPrime) "__getattr__" = some none) (nv_InvalidPrime : PySem.W.findIn K (.ref c_InvalidPrime) "value" = some none)
    (iC_InvalidPrime : PySem.W.findIn K (.ref c_InvalidPrime) "__init__" = some (some (.ref fI))) (kC_InvalidPrime : PySem.W.keepIn K (.ref c_InvalidPrime) = true) (eC_InvalidPrime : PySem.W.subIn K (.ref c_InvalidPrime) (.type "BaseException") = some true) (tC_InvalidPrime : PySem.W.typeIn K (.ref c_InvalidPrime) = some (.type "type")) (hC_InvalidPrime : PySem.W.hasDictIn K c_InvalidPrime = true)
    (cc_InvalidPrime : PySem.W.findIn K (.ref c_InvalidPrime) "__class__" = some (some (.builtin "object.__class__"))) (ob_InvalidPrime : PySem.W.mroIn K c_InvalidPrime (.type "object") = some true) (me_InvalidPrime : PySem.W.subIn K (.ref c_InvalidPrime) (.ref c_InvalidPrime) = some true)
    {c_NoDivisor d_NoDivisor N_NoDivisor : Addr} {nm_NoDivisor q_NoDivisor : Str} {bs_NoDivisor : List Value} {sn_NoDivisor : List Str} {su_NoDivisor : List Value} {ab_NoDivisor : Bool} {col_NoDivisor : Option Bool} {dd_NoDivisor : Option Addr} {m0_NoDivisor m1_NoDivisor m2_NoDivisor m3_NoDivisor m5_NoDivisor : Option Value}
    (aC_NoDivisor : PySem.W.nsIn K mainGlobals "NoDivisor" = some (some (.ref c_NoDivisor))) (xC_NoDivisor : K.lookup c_NoDivisor = some (excClassObj nm_NoDivisor q_NoDivisor c_NoDivisor N_NoDivisor bs_NoDivisor [.ref d_NoDivisor, .type "ValueError", .type "Exception", .type "BaseException", .type "object"] true sn_NoDivisor su_NoDivisor ab_NoDivisor col_NoDivisor dd_NoDivisor m0_NoDivisor m1_NoDivisor m2_NoDivisor m3_NoDivisor m5_NoDivisor "ValueError.__new__"))
    (sa_NoDivisor : PySem.W.findIn K (.ref c_NoDivisor) "__setattr__" = some (some (.builtin "object.__setattr__"))) (gg_NoDivisor : PySem.W.findIn K (.ref c_NoDivisor) "__getattribute__" = some (some (.builtin "BaseException.__getattribute__"))) (gn_NoDivisor : PySem.W.findIn K (.ref c_NoDivisor) "__getattr__" = some none) (nv_NoDivisor : PySem.W.findIn K (.ref c_NoDivisor) "value" = some none)
    (iC_NoDivisor : PySem.W.findIn K (.ref c_NoDivisor) "__init__" = some (some (.ref fI))) (kC_NoDivisor : PySem.W.keepIn K (.ref c_NoDivisor) = true) (eC_NoDivisor : PySem.W.subIn K (.ref c_NoDivisor) (.type "BaseException") = some true) (tC_NoDivisor : PySem.W.typeIn K (.ref c_NoDivisor) = some (.type "type")) (hC_NoDivisor : PySem.W.hasDictIn K c_NoDivisor = true)
    (cc_NoDivisor : PySem.W.findIn K (.ref c_NoDivisor) "__class__" = some (some (.builtin "object.__class__"))) (ob_NoDivisor : PySem.W.mroIn K c_NoDivisor (.type "object") = some true) (me_NoDivisor : PySem.W.subIn K (.ref c_NoDivisor) (.ref c_NoDivisor) = some true)
    {cdI ctI dcI pmI : Value} {odI anI : Option Addr} {slI : Array (Option Value)} {kVI ocI : Value} (tI : PySem.W.typeIn K (.ref fI) = some (.type "function")) (lI : K.lookup fI = some ⟨ocI, odI, .func (PySem.W.fnOf "__init__" "MatError.__init__" (defArgs s_init) (defBody s_init) (defScope s_init) .none kVI dcI pmI anI cdI ctI), slI⟩) (oI : PySem.W.codeIn K cdI "MatError.__init__" = true) (qI : PySem.W.keepIn K (.ref fI) = true)
    (gtI : PySem.W.specialIn K (.builtin "object.__class__") "__get__" = some (some (.builtin "getset_descriptor.__get__"))) (tkI : PySem.W.takesIn K (.builtin "object.__class__") = some true)
    (sb_InvalidNumber_MatError : PySem.W.subIn K (.ref c_InvalidNumber) (.ref c_MatError) = some true)
    (sb_InvalidNumber_InvalidNumber : PySem.W.subIn K (.ref c_InvalidNumber) (.ref c_InvalidNumber) = some true)
    (sb_InvalidNumber_InvalidPoly : PySem.W.subIn K (.ref c_InvalidNumber) (.ref c_InvalidPoly) = some false)
    (sb_InvalidNumber_InvalidPrime : PySem.W.subIn K (.ref c_InvalidNumber) (.ref c_InvalidPrime) = some false)
    (sb_InvalidNumber_NoDivisor : PySem.W.subIn K (.ref c_InvalidNumber) (.ref c_NoDivisor) = some false)
    (sv_InvalidNumber : PySem.W.subIn K (.ref c_InvalidNumber) (.type "ValueError") = some true)
    (z_len : PySem.W.nsIn K mainGlobals "len" = some none)
    (z_tuple : PySem.W.nsIn K mainGlobals "tuple" = some none)
    (z_enumerate : PySem.W.nsIn K mainGlobals "enumerate" = some none)
    (z_list : PySem.W.nsIn K mainGlobals "list" = some none)
    (z_reversed : PySem.W.nsIn K mainGlobals "reversed" = some none)
    (z_range : PySem.W.nsIn K mainGlobals "range" = some none)
    (z_divmod : PySem.W.nsIn K mainGlobals "divmod" = some none)
    (z_any : PySem.W.nsIn K mainGlobals "any" = some none)
    (z_gcd : PySem.W.nsIn K mainGlobals "gcd" = some (some (.builtin "math.gcd")))
    (z_int : PySem.W.nsIn K mainGlobals "int" = some none)
    (z_isinstance : PySem.W.nsIn K mainGlobals "isinstance" = some none)
    (z_str : PySem.W.nsIn K mainGlobals "str" = some none)
    (z_all : PySem.W.nsIn K mainGlobals "all" = some none)
    (z_ValueError : PySem.W.nsIn K mainGlobals "ValueError" = some none)
    : ∃ fd : FuncData, (∀ (s : Shared) (v : Value), BindsTo s fd ⟨[v], []⟩ [("_law_script", v)]) ∧ ∀ base : Heap, K.In base → base.Ns mainGlobals mg → FnOk l.prog w K mg base CX0 8 fa fd ["_law_script"] (toSp K spLaw) := by
  have e := hfa.symm.trans (PySem.W.mg_of X G a26)
  cases e
  have FI := fun_mk (st := s_init) lI oI qI
  have bI := FI.binds (ps := ["self", "value"]) fun _ _ _ _ _ _ us hl => match us, hl with | [_, _], _ => rfl
  have F1 := fun_mk (st := s_check_from) l1 c1 k1
  have F2 := fun_mk (st := s_is_poly) l2 c2 k2
  have F3 := fun_mk (st := s_check_poly) l3 c3 k3
  have F4 := fun_mk (st := s_p_check_two) l4 c4 k4
  have F5 := fun_mk (st := s_p_check_divisor) l5 c5 k5
  have F6 := fun_mk (st := s_p_poly_of) l6 c6 k6
  have F7 := fun_mk (st := s_p_take_away) l7 c7 k7
  have F8 := fun_mk (st := s_plus) l8 c8 k8
  have F9 := fun_mk (st := s_times) l9 c9 k9
  have F10 := fun_mk (st := s_divided) l10 c10 k10
  have F11 := fun_mk (st := s_u_row) l11 c11 k11
  have F12 := fun_mk (st := s_p_content) l12 c12 k12
  have F13 := fun_mk (st := s_p_primitive) l13 c13 k13
  have F14 := fun_mk (st := s_p_rest) l14 c14 k14
  have F15 := fun_mk (st := s_common) l15 c15 k15
  have F16 := fun_mk (st := s_l_well) l16 c16 k16
  have F17 := fun_mk (st := s_l_draw) l17 c17 k17
  have F18 := fun_mk (st := s_l_same) l18 c18 k18
  have F19 := fun_mk (st := s_l_over) l19 c19 k19
  have F20 := fun_mk (st := s_l_u) l20 c20 k20
  have F21 := fun_mk (st := s_l_gcd) l21 c21 k21
  have F22 := fun_mk (st := s_l_row_right) l22 c22 k22
  have F23 := fun_mk (st := s_l_products_right) l23 c23 k23
  have F24 := fun_mk (st := s_l_divisors_right) l24 c24 k24
  have F25 := fun_mk (st := s_l_refused) l25 c25 k25
  have F26 := fun_mk (st := s_law) l26 c26 k26
  have b1 := F1.binds (ps := ["number", "least"]) fun _ _ _ _ _ _ us hl => match us, hl with | [_, _], _ => rfl
  have b2 := F2.binds (ps := ["told"]) fun _ _ _ _ _ _ us hl => match us, hl with | [_], _ => rfl
  have b3 := F3.binds (ps := ["told"]) fun _ _ _ _ _ _ us hl => match us, hl with | [_], _ => rfl
  have b4 := F4.binds (ps := ["one", "other"]) fun _ _ _ _ _ _ us hl => match us, hl with | [_, _], _ => rfl
  have b5 := F5.binds (ps := ["poly"]) fun _ _ _ _ _ _ us hl => match us, hl with | [_], _ => rfl
  have b6 := F6.binds (ps := ["row"]) fun _ _ _ _ _ _ us hl => match us, hl with | [_], _ => rfl
  have b7 := F7.binds (ps := ["row", "factor", "poly", "power"]) fun _ _ _ _ _ _ us hl => match us, hl with | [_, _, _, _], _ => rfl
  have b8 := F8.binds (ps := ["one", "other"]) fun _ _ _ _ _ _ us hl => match us, hl with | [_, _], _ => rfl
  have b9 := F9.binds (ps := ["one", "other"]) fun _ _ _ _ _ _ us hl => match us, hl with | [_, _], _ => rfl
  have b10 := F10.binds (ps := ["one", "other"]) fun _ _ _ _ _ _ us hl => match us, hl with | [_, _], _ => rfl
  have b11 := F11.binds (ps := ["many"]) fun _ _ _ _ _ _ us hl => match us, hl with | [_], _ => rfl
  have b12 := F12.binds (ps := ["poly"]) fun _ _ _ _ _ _ us hl => match us, hl with | [_], _ => rfl
  have b13 := F13.binds (ps := ["poly"]) fun _ _ _ _ _ _ us hl => match us, hl with | [_], _ => rfl
  have b14 := F14.binds (ps := ["one", "other"]) fun _ _ _ _ _ _ us hl => match us, hl with | [_, _], _ => rfl
  have b15 := F15.binds (ps := ["one", "other"]) fun _ _ _ _ _ _ us hl => match us, hl with | [_, _], _ => rfl
  have b16 := F16.binds (ps := ["_law_script"]) fun _ _ _ _ _ _ us hl => match us, hl with | [_], _ => rfl
  have b17 := F17.binds (ps := ["_law_well_here", "_law_limit"]) fun _ _ _ _ _ _ us hl => match us, hl with | [_, _], _ => rfl
  have b18 := F18.binds (ps := ["_law_found", "_law_due"]) fun _ _ _ _ _ _ us hl => match us, hl with | [_, _], _ => rfl
  have b19 := F19.binds (ps := ["_law_high", "_law_low"]) fun _ _ _ _ _ _ us hl => match us, hl with | [_, _], _ => rfl
  have b20 := F20.binds (ps := ["_law_index"]) fun _ _ _ _ _ _ us hl => match us, hl with | [_], _ => rfl
  have b21 := F21.binds (ps := ["_law_left", "_law_right"]) fun _ _ _ _ _ _ us hl => match us, hl with | [_, _], _ => rfl
  have b22 := F22.binds (ps := ["_law_well_here", "_law_size"]) fun _ _ _ _ _ _ us hl => match us, hl with | [_, _], _ => rfl
  have b23 := F23.binds (ps := ["_law_low", "_law_high"]) fun _ _ _ _ _ _ us hl => match us, hl with | [_, _], _ => rfl
  have b24 := F24.binds (ps := ["_law_left", "_law_right"]) fun _ _ _ _ _ _ us hl => match us, hl with | [_, _], _ => rfl
  have b25 := F25.binds (ps := ["_law_number"]) fun _ _ _ _ _ _ us hl => match us, hl with | [_], _ => rfl
  have bK0_11 := fun_kbp F11 (ps := ["many"]) 0 ["many"] (by decide) fun _ _ _ _ _ _ us ws h1 h2 => match us, ws, h1, h2 with | [], [_], _, _ => rfl
  refine ⟨PySem.W.fnOf "law" "law" (defArgs s_law) (defBody s_law) (defScope s_law) .none kV26 dc26 pm26 an26 cd26 ct26, fun s v => .of_eq rfl, fun base _ _ => ?_⟩
  have E_InvalidNumber : EOk l.prog w K mg base "InvalidNumber" c_InvalidNumber (spIn K) := ⟨⟨⟨⟨_, _, _, _, _, _, _, _, _, _, _, _, _, _, _, xC_InvalidNumber, by first | rfl | decide +kernel⟩, sa_InvalidNumber, eC_InvalidNumber, tC_InvalidNumber, kC_InvalidNumber⟩, ⟨gg_InvalidNumber, gn_InvalidNumber, eC_InvalidNumber, hC_InvalidNumber⟩, nv_InvalidNumber, cc_InvalidNumber, gtI, tkI, ob_InvalidNumber, me_InvalidNumber⟩, PySem.W.mg_of X G aC_InvalidNumber, fI, _, iC_InvalidNumber, tI, ok_init FI, bI⟩
  have E_MatError : EOk l.prog w K mg base "MatError" c_MatError (spIn K) := ⟨⟨⟨⟨_, _, _, _, _, _, _, _, _, _, _, _, _, _, _, xC_MatError, by first | rfl | decide +kernel⟩, sa_MatError, eC_MatError, tC_MatError, kC_MatError⟩, ⟨gg_MatError, gn_MatError, eC_MatError, hC_MatError⟩, nv_MatError, cc_MatError, gtI, tkI, ob_MatError, me_MatError⟩, PySem.W.mg_of X G aC_MatError, fI, _, iC_MatError, tI, ok_init FI, bI⟩
  have E_InvalidPoly : EOk l.prog w K mg base "InvalidPoly" c_InvalidPoly (spIn K) := ⟨⟨⟨⟨_, _, _, _, _, _, _, _, _, _, _, _, _, _, _, xC_InvalidPoly, by first | rfl | decide +kernel⟩, sa_InvalidPoly, eC_InvalidPoly, tC_InvalidPoly, kC_InvalidPoly⟩, ⟨gg_InvalidPoly, gn_InvalidPoly, eC_InvalidPoly, hC_InvalidPoly⟩, nv_InvalidPoly, cc_InvalidPoly, gtI, tkI, ob_InvalidPoly, me_InvalidPoly⟩, PySem.W.mg_of X G aC_InvalidPoly, fI, _, iC_InvalidPoly, tI, ok_init FI, bI⟩
  have E_InvalidPrime : EOk l.prog w K mg base "InvalidPrime" c_InvalidPrime (spIn K) := ⟨⟨⟨⟨_, _, _, _, _, _, _, _, _, _, _, _, _, _, _, xC_InvalidPrime, by first | rfl | decide +kernel⟩, sa_InvalidPrime, eC_InvalidPrime, tC_InvalidPrime, kC_InvalidPrime⟩, ⟨gg_InvalidPrime, gn_InvalidPrime, eC_InvalidPrime, hC_InvalidPrime⟩, nv_InvalidPrime, cc_InvalidPrime, gtI, tkI, ob_InvalidPrime, me_InvalidPrime⟩, PySem.W.mg_of X G aC_InvalidPrime, fI, _, iC_InvalidPrime, tI, ok_init FI, bI⟩
  have E_NoDivisor : EOk l.prog w K mg base "NoDivisor" c_NoDivisor (spIn K) := ⟨⟨⟨⟨_, _, _, _, _, _, _, _, _, _, _, _, _, _, _, xC_NoDivisor, by first | rfl | decide +kernel⟩, sa_NoDivisor, eC_NoDivisor, tC_NoDivisor, kC_NoDivisor⟩, ⟨gg_NoDivisor, gn_NoDivisor, eC_NoDivisor, hC_NoDivisor⟩, nv_NoDivisor, cc_NoDivisor, gtI, tkI, ob_NoDivisor, me_NoDivisor⟩, PySem.W.mg_of X G aC_NoDivisor, fI, _, iC_NoDivisor, tI, ok_init FI, bI⟩
  have G18 := ok_l_sameE (P := l.prog) (w := w) (mg := mg) (base := base) F18 (m__law_same := PySem.W.mg_of X G a18) (k__law_same := k18) (b__law_same := b18) (m_isinstance := PySem.W.mg_none_of X G z_isinstance) (m_str := PySem.W.mg_none_of X G z_str) (m_tuple := PySem.W.mg_none_of X G z_tuple) (m_list := PySem.W.mg_none_of X G z_list) (m_all := PySem.W.mg_none_of X G z_all) (m_int := PySem.W.mg_none_of X G z_int) (m_len := PySem.W.mg_none_of X G z_len) (m_range := PySem.W.mg_none_of X G z_range)
  have G1 := ok_check_from (P := l.prog) (w := w) (mg := mg) (base := base) F1
  have G2 := ok_is_poly (P := l.prog) (w := w) (mg := mg) (base := base) F2
  have G5 := ok_p_check_divisor (P := l.prog) (w := w) (mg := mg) (base := base) F5
  have G6 := ok_p_poly_of (P := l.prog) (w := w) (mg := mg) (base := base) F6 (m_len := PySem.W.mg_none_of X G z_len) (m_tuple := PySem.W.mg_none_of X G z_tuple)
  have G7 := ok_p_take_away (P := l.prog) (w := w) (mg := mg) (base := base) F7 (m_enumerate := PySem.W.mg_none_of X G z_enumerate)
  have G12 := ok_p_content (P := l.prog) (w := w) (mg := mg) (base := base) F12 (m_gcd := PySem.W.mg_of X G z_gcd)
  have G16 := ok_l_well (P := l.prog) (w := w) (mg := mg) (base := base) F16 (m_range := PySem.W.mg_none_of X G z_range) (m_len := PySem.W.mg_none_of X G z_len) (m_int := PySem.W.mg_none_of X G z_int)
  have G17 := ok_l_draw (P := l.prog) (w := w) (mg := mg) (base := base) F17 (m_int := PySem.W.mg_none_of X G z_int)
  have G19 := ok_l_over (P := l.prog) (w := w) (mg := mg) (base := base) F19 (m_range := PySem.W.mg_none_of X G z_range)
  have G21 := ok_l_gcd (P := l.prog) (w := w) (mg := mg) (base := base) F21 (m_int := PySem.W.mg_none_of X G z_int)
  have G3 := ok_check_poly (P := l.prog) (w := w) (mg := mg) (base := base) F3 (F_is_poly := G2) (m_is_poly := PySem.W.mg_of X G a2) (k_is_poly := k2) (b_is_poly := b2)
  have G13 := ok_p_primitive (P := l.prog) (w := w) (mg := mg) (base := base) F13 (F__content := G12) (m__content := PySem.W.mg_of X G a12) (k__content := k12) (b__content := b12) (m_tuple := PySem.W.mg_none_of X G z_tuple)
  have G14 := ok_p_rest (P := l.prog) (w := w) (mg := mg) (base := base) F14 (F__take_away := G7) (m__take_away := PySem.W.mg_of X G a7) (k__take_away := k7) (b__take_away := b7) (F__poly_of := G6) (m__poly_of := PySem.W.mg_of X G a6) (k__poly_of := k6) (b__poly_of := b6) (m_len := PySem.W.mg_none_of X G z_len) (m_gcd := PySem.W.mg_of X G z_gcd)
  have G20 := ok_l_u (P := l.prog) (w := w) (mg := mg) (base := base) F20 (F__law_over := G19) (m__law_over := PySem.W.mg_of X G a19) (k__law_over := k19) (b__law_over := b19) (m_range := PySem.W.mg_none_of X G z_range) (m_tuple := PySem.W.mg_none_of X G z_tuple) (m_int := PySem.W.mg_none_of X G z_int)
  have G4 := ok_p_check_two (P := l.prog) (w := w) (mg := mg) (base := base) F4 (F_check_poly := G3) (m_check_poly := PySem.W.mg_of X G a3) (k_check_poly := k3) (b_check_poly := b3)
  have GX1 := okx_check_from (P := l.prog) (w := w) (mg := mg) (base := base) F1 (E_InvalidNumber := E_InvalidNumber)
  have G8 := ok_plus (P := l.prog) (w := w) (mg := mg) (base := base) F8 (F__check_two := G4) (m__check_two := PySem.W.mg_of X G a4) (k__check_two := k4) (b__check_two := b4) (F__take_away := G7) (m__take_away := PySem.W.mg_of X G a7) (k__take_away := k7) (b__take_away := b7) (F__poly_of := G6) (m__poly_of := PySem.W.mg_of X G a6) (k__poly_of := k6) (b__poly_of := b6) (m_list := PySem.W.mg_none_of X G z_list) (m_len := PySem.W.mg_none_of X G z_len)
  have G9 := ok_times (P := l.prog) (w := w) (mg := mg) (base := base) F9 (F__check_two := G4) (m__check_two := PySem.W.mg_of X G a4) (k__check_two := k4) (b__check_two := b4) (F__poly_of := G6) (m__poly_of := PySem.W.mg_of X G a6) (k__poly_of := k6) (b__poly_of := b6) (F__take_away := G7) (m__take_away := PySem.W.mg_of X G a7) (k__take_away := k7) (b__take_away := b7) (m_enumerate := PySem.W.mg_none_of X G z_enumerate) (m_len := PySem.W.mg_none_of X G z_len)
  have G10 := ok_divided (P := l.prog) (w := w) (mg := mg) (base := base) F10 (F__check_two := G4) (m__check_two := PySem.W.mg_of X G a4) (k__check_two := k4) (b__check_two := b4) (F__check_divisor := G5) (m__check_divisor := PySem.W.mg_of X G a5) (k__check_divisor := k5) (b__check_divisor := b5) (F__take_away := G7) (m__take_away := PySem.W.mg_of X G a7) (k__take_away := k7) (b__take_away := b7) (m_list := PySem.W.mg_none_of X G z_list) (m_reversed := PySem.W.mg_none_of X G z_reversed) (m_range := PySem.W.mg_none_of X G z_range) (m_divmod := PySem.W.mg_none_of X G z_divmod) (m_any := PySem.W.mg_none_of X G z_any) (m_tuple := PySem.W.mg_none_of X G z_tuple) (m_len := PySem.W.mg_none_of X G z_len)
  have G11 := ok_u_row (P := l.prog) (w := w) (mg := mg) (base := base) F11 (F_check_from := G1) (m_check_from := PySem.W.mg_of X G a1) (k_check_from := k1) (b_check_from := b1) (F_plus := G8) (m_plus := PySem.W.mg_of X G a8) (k_plus := k8) (b_plus := b8) (F_times := G9) (m_times := PySem.W.mg_of X G a9) (k_times := k9) (b_times := b9) (m_range := PySem.W.mg_none_of X G z_range)
  have G15 := ok_common (P := l.prog) (w := w) (mg := mg) (base := base) F15 (F__check_two := G4) (m__check_two := PySem.W.mg_of X G a4) (k__check_two := k4) (b__check_two := b4) (F_times := G9) (m_times := PySem.W.mg_of X G a9) (k_times := k9) (b_times := b9) (F__content := G12) (m__content := PySem.W.mg_of X G a12) (k__content := k12) (b__content := b12) (F__primitive := G13) (m__primitive := PySem.W.mg_of X G a13) (k__primitive := k13) (b__primitive := b13) (F__rest := G14) (m__rest := PySem.W.mg_of X G a14) (k__rest := k14) (b__rest := b14) (m_gcd := PySem.W.mg_of X G z_gcd)
  have GX11 := okx_u_row (P := l.prog) (w := w) (mg := mg) (base := base) F11 (E_InvalidNumber := E_InvalidNumber) (F_check_from := G1) (FX_check_from := GX1) (m_check_from := PySem.W.mg_of X G a1) (k_check_from := k1) (b_check_from := b1) (F_plus := G8) (m_plus := PySem.W.mg_of X G a8) (k_plus := k8) (b_plus := b8) (F_times := G9) (m_times := PySem.W.mg_of X G a9) (k_times := k9) (b_times := b9) (m_range := PySem.W.mg_none_of X G z_range)
  have G22 := ok_l_row_right (P := l.prog) (w := w) (mg := mg) (base := base) F22 (F_u_row := G11) (m_u_row := PySem.W.mg_of X G a11) (k_u_row := k11) (b_u_row := b11) (F__law_draw := G17) (m__law_draw := PySem.W.mg_of X G a17) (k__law_draw := k17) (b__law_draw := b17) (F__law_same := G18) (m__law_same := PySem.W.mg_of X G a18) (k__law_same := k18) (b__law_same := b18) (F__law_u := G20) (m__law_u := PySem.W.mg_of X G a20) (k__law_u := k20) (b__law_u := b20) (m_range := PySem.W.mg_none_of X G z_range) (bK0_u_row := bK0_11)
  have G23 := ok_l_products_right (P := l.prog) (w := w) (mg := mg) (base := base) F23 (F_u_row := G11) (m_u_row := PySem.W.mg_of X G a11) (k_u_row := k11) (b_u_row := b11) (F_times := G9) (m_times := PySem.W.mg_of X G a9) (k_times := k9) (b_times := b9) (F__law_same := G18) (m__law_same := PySem.W.mg_of X G a18) (k__law_same := k18) (b__law_same := b18) (F_plus := G8) (m_plus := PySem.W.mg_of X G a8) (k_plus := k8) (b_plus := b8) (F__law_u := G20) (m__law_u := PySem.W.mg_of X G a20) (k__law_u := k20) (b__law_u := b20) (F_divided := G10) (m_divided := PySem.W.mg_of X G a10) (k_divided := k10) (b_divided := b10) (m_range := PySem.W.mg_none_of X G z_range) (m_enumerate := PySem.W.mg_none_of X G z_enumerate) (m_tuple := PySem.W.mg_none_of X G z_tuple)
  have G24 := ok_l_divisors_right (P := l.prog) (w := w) (mg := mg) (base := base) F24 (F_u_row := G11) (m_u_row := PySem.W.mg_of X G a11) (k_u_row := k11) (b_u_row := b11) (F__law_gcd := G21) (m__law_gcd := PySem.W.mg_of X G a21) (k__law_gcd := k21) (b__law_gcd := b21) (F_divided := G10) (m_divided := PySem.W.mg_of X G a10) (k_divided := k10) (b_divided := b10) (F__law_same := G18) (m__law_same := PySem.W.mg_of X G a18) (k__law_same := k18) (b__law_same := b18) (F_common := G15) (m_common := PySem.W.mg_of X G a15) (k_common := k15) (b_common := b15) (F__law_u := G20) (m__law_u := PySem.W.mg_of X G a20) (k__law_u := k20) (b__law_u := b20) (F_times := G9) (m_times := PySem.W.mg_of X G a9) (k_times := k9) (b_times := b9) (m_isinstance := PySem.W.mg_none_of X G z_isinstance) (m_tuple := PySem.W.mg_none_of X G z_tuple)
  have G25 := ok_l_refused (P := l.prog) (w := w) (mg := mg) (base := base) F25 (E_MatError := E_MatError) (E_InvalidNumber := E_InvalidNumber) (E_InvalidPoly := E_InvalidPoly) (E_InvalidPrime := E_InvalidPrime) (E_NoDivisor := E_NoDivisor) (sb_InvalidNumber_MatError := sb_InvalidNumber_MatError) (sb_InvalidNumber_InvalidNumber := sb_InvalidNumber_InvalidNumber) (sb_InvalidNumber_InvalidPoly := sb_InvalidNumber_InvalidPoly) (sb_InvalidNumber_InvalidPrime := sb_InvalidNumber_InvalidPrime) (sb_InvalidNumber_NoDivisor := sb_InvalidNumber_NoDivisor) (sv_InvalidNumber := sv_InvalidNumber) (F__law_same := G18) (m__law_same := PySem.W.mg_of X G a18) (k__law_same := k18) (b__law_same := b18) (F_u_row := G11) (FX_u_row := GX11) (m_u_row := PySem.W.mg_of X G a11) (k_u_row := k11) (b_u_row := b11) (m_isinstance := PySem.W.mg_none_of X G z_isinstance) (m_ValueError := PySem.W.mg_none_of X G z_ValueError)
  exact ok_law (P := l.prog) (w := w) (mg := mg) (base := base) F26 (F__law_well := G16) (m__law_well := PySem.W.mg_of X G a16) (k__law_well := k16) (b__law_well := b16) (F__law_row_right := G22) (m__law_row_right := PySem.W.mg_of X G a22) (k__law_row_right := k22) (b__law_row_right := b22) (F__law_draw := G17) (m__law_draw := PySem.W.mg_of X G a17) (k__law_draw := k17) (b__law_draw := b17) (F__law_products_right := G23) (m__law_products_right := PySem.W.mg_of X G a23) (k__law_products_right := k23) (b__law_products_right := b23) (F__law_divisors_right := G24) (m__law_divisors_right := PySem.W.mg_of X G a24) (k__law_divisors_right := k24) (b__law_divisors_right := b24) (F__law_refused := G25) (m__law_refused := PySem.W.mg_of X G a25) (k__law_refused := k25) (b__law_refused := b25) (m_range := PySem.W.mg_none_of X G z_range) (m_int := PySem.W.mg_none_of X G z_int)
end K31
open PySem PySem.W PyProof.Rows
set_option maxHeartbeats 0 in
theorem PySem.Challenge.cw_hookmats_k31_whole_the_row_u_holds : PySem.Challenge.rw_hookmats_k31_whole_the_row_u.Holds := by
  w_on; o_law; k_head; (case hw => w_witness2)
  k_fill
  refine L2.walk_ofB (l := PySem.Challenge.rw_hookmats_k31_whole_the_row_u) (n := 63) (k := 8) (x := "_law_script") (CX := fun _ => L2.CX0) (sp := fun w => PP.toSp _ PP.spLaw) rfl (by decide) rfl ⟨rfl, by decide, by decide⟩ (fun w h Y => PySem.W.kIn_of Y) ?F (fun _ _ a ns hl hb _ hS => PP.law_sp hl hb hS) (fun _ _ _ _ _ h => h)
  case F =>
    intro w mg fa h KX G hmg
    refine' K31.all_mk KX G hmg ?a1 ?l1 ?c1 ?k1 ?a2 ?l2 ?c2 ?k2 ?a3 ?l3 ?c3 ?k3 ?a4 ?l4 ?c4 ?k4 ?a5 ?l5 ?c5 ?k5 ?a6 ?l6 ?c6 ?k6 ?a7 ?l7 ?c7 ?k7 ?a8 ?l8 ?c8 ?k8 ?a9 ?l9 ?c9 ?k9 ?a10 ?l10 ?c10 ?k10 ?a11 ?l11 ?c11 ?k11 ?a12 ?l12 ?c12 ?k12 ?a13 ?l13 ?c13 ?k13 ?a14 ?l14 ?c14 ?k14 ?a15 ?l15 ?c15 ?k15 ?a16 ?l16 ?c16 ?k16 ?a17 ?l17 ?c17 ?k17 ?a18 ?l18 ?c18 ?k18 ?a19 ?l19 ?c19 ?k19 ?a20 ?l20 ?c20 ?k20 ?a21 ?l21 ?c21 ?k21 ?a22 ?l22 ?c22 ?k22 ?a23 ?l23 ?c23 ?k23 ?a24 ?l24 ?c24 ?k24 ?a25 ?l25 ?c25 ?k25 ?a26 ?l26 ?c26 ?k26 ?aC_InvalidNumber ?xC_InvalidNumber ?sa_InvalidNumber ?gg_InvalidNumber ?gn_InvalidNumber ?nv_InvalidNumber ?iC_InvalidNumber ?kC_InvalidNumber ?eC_InvalidNumber ?tC_InvalidNumber ?hC_InvalidNumber ?cc_InvalidNumber ?ob_InvalidNumber ?me_InvalidNumber ?aC_MatError ?xC_MatError ?sa_MatError ?gg_MatError ?gn_MatError ?nv_MatError ?iC_MatError ?kC_MatError ?eC_MatError ?tC_MatError ?hC_MatError ?cc_MatError ?ob_MatError ?me_MatError ?aC_InvalidPoly ?xC_InvalidPoly ?sa_InvalidPoly ?gg_InvalidPoly ?gn_InvalidPoly ?nv_InvalidPoly ?iC_InvalidPoly ?kC_InvalidPoly ?eC_InvalidPoly ?tC_InvalidPoly ?hC_InvalidPoly ?cc_InvalidPoly ?ob_InvalidPoly ?me_InvalidPoly ?aC_InvalidPrime ?xC_InvalidPrime ?sa_InvalidPrime ?gg_InvalidPrime ?gn_InvalidPrime ?nv_InvalidPrime ?iC_InvalidPrime ?kC_InvalidPrime ?eC_InvalidPrime ?tC_InvalidPrime ?hC_InvalidPrime ?cc_InvalidPrime ?ob_InvalidPrime ?me_InvalidPrime ?aC_NoDivisor ?xC_NoDivisor ?sa_NoDivisor ?gg_NoDivisor ?gn_NoDivisor ?nv_NoDivisor ?iC_NoDivisor ?kC_NoDivisor ?eC_NoDivisor ?tC_NoDivisor ?hC_NoDivisor ?cc_NoDivisor ?ob_NoDivisor ?me_NoDivisor ?tI ?lI ?oI ?qI ?gtI ?tkI ?sb_InvalidNumber_MatError ?sb_InvalidNumber_InvalidNumber ?sb_InvalidNumber_InvalidPoly ?sb_InvalidNumber_InvalidPrime ?sb_InvalidNumber_NoDivisor ?sv_InvalidNumber ?z_len ?z_tuple ?z_enumerate ?z_list ?z_reversed ?z_range ?z_divmod ?z_any ?z_gcd ?z_int ?z_isinstance ?z_str ?z_all ?z_ValueError
    (case a1 => k_is); (case l1 => k_is); (case c1 => k_is); (case k1 => k_is); (case a2 => k_is); (case l2 => k_is); (case c2 => k_is); (case k2 => k_is); (case a3 => k_is); (case l3 => k_is); (case c3 => k_is); (case k3 => k_is); (case a4 => k_is); (case l4 => k_is); (case c4 => k_is); (case k4 => k_is); (case a5 => k_is); (case l5 => k_is); (case c5 => k_is); (case k5 => k_is); (case a6 => k_is); (case l6 => k_is); (case c6 => k_is); (case k6 => k_is); (case a7 => k_is); (case l7 => k_is); (case c7 => k_is); (case k7 => k_is); (case a8 => k_is); (case l8 => k_is); (case c8 => k_is); (case k8 => k_is); (case a9 => k_is); (case l9 => k_is); (case c9 => k_is); (case k9 => k_is); (case a10 => k_is); (case l10 => k_is); (case c10 => k_is); (case k10 => k_is); (case a11 => k_is); (case l11 => k_is); (case c11 => k_is); (case k11 => k_is); (case a12 => k_is); (case l12 => k_is); (case c12 => k_is); (case k12 => k_is); (case a13 => k_is); (case l13 => k_is); (case c13 => k_is); (case k13 => k_is); (case a14 => k_is); (case l14 => k_is); (case c14 => k_is); (case k14 => k_is); (case a15 => k_is); (case l15 => k_is); (case c15 => k_is); (case k15 => k_is); (case a16 => k_is); (case l16 => k_is); (case c16 => k_is); (case k16 => k_is); (case a17 => k_is); (case l17 => k_is); (case c17 => k_is); (case k17 => k_is); (case a18 => k_is); (case l18 => k_is); (case c18 => k_is); (case k18 => k_is); (case a19 => k_is); (case l19 => k_is); (case c19 => k_is); (case k19 => k_is); (case a20 => k_is); (case l20 => k_is); (case c20 => k_is); (case k20 => k_is); (case a21 => k_is); (case l21 => k_is); (case c21 => k_is); (case k21 => k_is); (case a22 => k_is); (case l22 => k_is); (case c22 => k_is); (case k22 => k_is); (case a23 => k_is); (case l23 => k_is); (case c23 => k_is); (case k23 => k_is); (case a24 => k_is); (case l24 => k_is); (case c24 => k_is); (case k24 => k_is); (case a25 => k_is); (case l25 => k_is); (case c25 => k_is); (case k25 => k_is); (case a26 => k_is); (case l26 => k_is); (case c26 => k_is); (case k26 => k_is); (case aC_InvalidNumber => k_is); (case xC_InvalidNumber => k_is); (case sa_InvalidNumber => k_is); (case gg_InvalidNumber => k_is); (case gn_InvalidNumber => k_is); (case nv_InvalidNumber => k_is); (case iC_InvalidNumber => k_is); (case kC_InvalidNumber => k_is); (case eC_InvalidNumber => k_is); (case tC_InvalidNumber => k_is); (case hC_InvalidNumber => k_is); (case cc_InvalidNumber => k_is); (case ob_InvalidNumber => k_is); (case me_InvalidNumber => first | rfl | k_is); (case aC_MatError => k_is); (case xC_MatError => k_is); (case sa_MatError => k_is); (case gg_MatError => k_is); (case gn_MatError => k_is); (case nv_MatError => k_is); (case iC_MatError => k_is); (case kC_MatError => k_is); (case eC_MatError => k_is); (case tC_MatError => k_is); (case hC_MatError => k_is); (case cc_MatError => k_is); (case ob_MatError => k_is); (case me_MatError => first | rfl | k_is); (case aC_InvalidPoly => k_is); (case xC_InvalidPoly => k_is); (case sa_InvalidPoly => k_is); (case gg_InvalidPoly => k_is); (case gn_InvalidPoly => k_is); (case nv_InvalidPoly => k_is); (case iC_InvalidPoly => k_is); (case kC_InvalidPoly => k_is); (case eC_InvalidPoly => k_is); (case tC_InvalidPoly => k_is); (case hC_InvalidPoly => k_is); (case cc_InvalidPoly => k_is); (case ob_InvalidPoly => k_is); (case me_InvalidPoly => first | rfl | k_is); (case aC_InvalidPrime => k_is); (case xC_InvalidPrime => k_is); (case sa_InvalidPrime => k_is); (case gg_InvalidPrime => k_is); (case gn_InvalidPrime => k_is); (case nv_InvalidPrime => k_is); (case iC_InvalidPrime => k_is); (case kC_InvalidPrime => k_is); (case eC_InvalidPrime => k_is); (case tC_InvalidPrime => k_is); (case hC_InvalidPrime => k_is); (case cc_InvalidPrime => k_is); (case ob_InvalidPrime => k_is); (case me_InvalidPrime => first | rfl | k_is); (case aC_NoDivisor => k_is); (case xC_NoDivisor => k_is); (case sa_NoDivisor => k_is); (case gg_NoDivisor => k_is); (case gn_NoDivisor => k_is); (case nv_NoDivisor => k_is); (case iC_NoDivisor => k_is); (case kC_NoDivisor => k_is); (case eC_NoDivisor => k_is); (case tC_NoDivisor => k_is); (case hC_NoDivisor => k_is); (case cc_NoDivisor => k_is); (case ob_NoDivisor => k_is); (case me_NoDivisor => first | rfl | k_is); (case tI => k_is); (case lI => k_is); (case oI => k_is); (case qI => k_is); (case gtI => k_is); (case tkI => k_is); (case sb_InvalidNumber_MatError => first | rfl | k_is); (case sb_InvalidNumber_InvalidNumber => first | rfl | k_is); (case sb_InvalidNumber_InvalidPoly => first | rfl | k_is); (case sb_InvalidNumber_InvalidPrime => first | rfl | k_is); (case sb_InvalidNumber_NoDivisor => first | rfl | k_is); (case sv_InvalidNumber => first | rfl | k_is); (case z_len => k_is); (case z_tuple => k_is); (case z_enumerate => k_is); (case z_list => k_is); (case z_reversed => k_is); (case z_range => k_is); (case z_divmod => k_is); (case z_any => k_is); (case z_gcd => k_is); (case z_int => k_is); (case z_isinstance => k_is); (case z_str => k_is); (case z_all => k_is); (case z_ValueError => k_is)
