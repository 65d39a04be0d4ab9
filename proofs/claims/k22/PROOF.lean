import PyProof.Rows.All
import Wide.All
import OpenK.AllK
import Wide.FinOn
import HandS.ForMost
import HandS.Wide
import HandS.Conv
import HandS.Flow
import KE.GoesEnum
import HandS.Rev
import HandS.Zip
import HandS.IsInst
import HandS.Deep
import HandS.Style
import HandS.More
import HandS.TupAny
import HandS.TryOnly
import HandS.EndBits
import HandS.DictComp
import KE.DataMinMax
import KE.SortData
import HandS.SortInts
import HandS.TupMul
import HandS.List
import PySem.Challenge.RW_hookmats_k22_whole_steps_and_words_behin
set_option Elab.async false
set_option linter.all false
set_option maxRecDepth 100000
set_option maxHeartbeats 8000000
set_option autoImplicit false
namespace PP
open PySem PySem.Spec PyProof.Rows L2
def Sub (F F' : Hp) : Prop := ∀ a o, F a = some o → F' a = some o
theorem Sub.refl (F : Hp) : Sub F F := fun _ _ h => h
theorem Sub.trans {F G H : Hp} (a : Sub F G) (b : Sub G H) : Sub F H := fun x o h => b x o (a x o h)
theorem Sub.upd {F : Hp} {p : Addr} {o : HO} (h : F p = none) : Sub F (upd F p o) := fun a u e => by
  rw [upd_ne (ne_of_none e h)]; exact e
theorem Sub.none {F F' : Hp} (e : Sub F F') {p : Addr} (h : F' p = none) : F p = none := by
  cases q : F p with
  | none => rfl
  | some o => rw [e p o q] at h; cases h
theorem Sub.rd {F F' : Hp} (e : Sub F F') {a : Addr} {u : HO} (h : Rd F a u) : Rd F' a u := by
  rcases h with h | ⟨o, h⟩
  · exact .inl (e _ _ h)
  · exact .inr ⟨o, e _ _ h⟩
theorem Sub.sql {K : PySem.W.Frag} {F F' : Hp} (e : Sub F F') {a : Addr} {xs : List V} (h : SqL K F a xs) : SqL K F' a xs := h.imp e.rd id
theorem Sub.sqt {K : PySem.W.Frag} {F F' : Hp} (e : Sub F F') {a : Addr} {xs : List V} (h : SqT K F a xs) : SqT K F' a xs := h.imp e.rd id
mutual
inductive DP (K : PySem.W.Frag) (F : Hp) : V → PyData → Prop
  | non : DP K F .non .none
  | bl (b : Bool) : DP K F (.bl b) (.bool b)
  | int (i : Int) : DP K F (.int i) (.int i)
  | str (x : Str) : DP K F (.str x) (.str x)
  | lst {a : Addr} {xs : List V} {ds : List PyData} : F a = some (.lst xs) → DPs K F xs ds → DP K F (.ref a) (.list ds)
  | tup {a : Addr} {xs : List V} {ds : List PyData} : SqT K F a xs → DPs K F xs ds → DP K F (.ref a) (.tuple ds)
inductive DPs (K : PySem.W.Frag) (F : Hp) : List V → List PyData → Prop
  | nil : DPs K F [] []
  | cons {v : V} {vs : List V} {d : PyData} {ds : List PyData} : DP K F v d → DPs K F vs ds → DPs K F (v :: vs) (d :: ds)
end
mutual
theorem DP.toDp {K : PySem.W.Frag} {F : Hp} : ∀ (d : PyData) (v : V), DP K F v d → Dp K F v d
  | .none, _, h => by cases h; exact .non
  | .bool b, _, h => by cases h; exact .bl b
  | .int i, _, h => by cases h; exact .int i
  | .str x, _, h => by cases h; exact .str x
  | .list ds, _, h => by
    cases h with
    | lst hs ha => exact .lst (.of hs) (DPs.toDp ds _ ha)
  | .tuple ds, _, h => by
    cases h with
    | tup hs ha => exact .tup hs (DPs.toDp ds _ ha)
  | .dict _, _, h => by cases h
theorem DPs.toDp {K : PySem.W.Frag} {F : Hp} : ∀ (ds : List PyData) (vs : List V), DPs K F vs ds → DpAll K F vs ds
  | [], _, h => by cases h; exact .nil
  | d :: ds, _, h => by
    cases h with
    | cons h1 h2 => exact .cons (DP.toDp d _ h1) (DPs.toDp ds _ h2)
end
mutual
theorem dp_mono {K : PySem.W.Frag} {F F' : Hp} (e : Sub F F') : ∀ (d : PyData) (v : V), DP K F v d → DP K F' v d
  | .none, _, h => by cases h; exact .non
  | .bool b, _, h => by cases h; exact .bl b
  | .int i, _, h => by cases h; exact .int i
  | .str x, _, h => by cases h; exact .str x
  | .list ds, _, h => by
    cases h with
    | lst hs ha => exact .lst (e _ _ hs) (dpa_mono e ds _ ha)
  | .tuple ds, _, h => by
    cases h with
    | tup hs ha => exact .tup (e.sqt hs) (dpa_mono e ds _ ha)
  | .dict _, _, h => by cases h
theorem dpa_mono {K : PySem.W.Frag} {F F' : Hp} (e : Sub F F') : ∀ (ds : List PyData) (vs : List V), DPs K F vs ds → DPs K F' vs ds
  | [], _, h => by cases h; exact .nil
  | d :: ds, _, h => by
    cases h with
    | cons h1 h2 => exact .cons (dp_mono e d _ h1) (dpa_mono e ds _ h2)
end
section
variable {K : PySem.W.Frag} {F : Hp}
theorem dpa_len : ∀ {vs : List V} {ds : List PyData}, DPs K F vs ds → vs.length = ds.length
  | _, _, .nil => rfl
  | _, _, .cons _ t => by rw [List.length_cons, List.length_cons, dpa_len t]
theorem dpa_get : ∀ {vs : List V} {ds : List PyData} {i : Nat} {d : PyData}, DPs K F vs ds → ds[i]? = some d → ∃ v, vs[i]? = some v ∧ DP K F v d
  | _, _, _, _, .nil, e => by simp at e
  | _, _, 0, _, .cons r _, e => by simp at e; subst e; exact ⟨_, rfl, r⟩
  | _, _, i + 1, _, .cons _ t, e => by
    obtain ⟨v, h1, h2⟩ := dpa_get (i := i) t (by simpa using e)
    exact ⟨v, by simpa using h1, h2⟩
theorem dpa_app : ∀ {vs : List V} {ds : List PyData} {ws : List V} {es : List PyData}, DPs K F vs ds → DPs K F ws es → DPs K F (vs ++ ws) (ds ++ es)
  | _, _, _, _, .nil, s => s
  | _, _, _, _, .cons r t, s => .cons r (dpa_app t s)
theorem dpa_take : ∀ {vs : List V} {ds : List PyData} (n : Nat), DPs K F vs ds → DPs K F (vs.take n) (ds.take n)
  | _, _, 0, _ => .nil
  | _, _, _ + 1, .nil => .nil
  | _, _, n + 1, .cons r t => .cons r (dpa_take n t)
theorem dpa_drop : ∀ {vs : List V} {ds : List PyData} (n : Nat), DPs K F vs ds → DPs K F (vs.drop n) (ds.drop n)
  | _, _, 0, r => r
  | _, _, _ + 1, .nil => .nil
  | _, _, n + 1, .cons _ t => dpa_drop n t
theorem dpa_set {v : V} {d : PyData} (r : DP K F v d) : ∀ {vs : List V} {ds : List PyData} (i : Nat), DPs K F vs ds → DPs K F (vs.set i v) (ds.set i d)
  | _, _, _, .nil => .nil
  | _, _, 0, .cons _ t => .cons r t
  | _, _, i + 1, .cons q t => .cons q (dpa_set r i t)
theorem dpa_rev {vs : List V} {ds : List PyData} (h : DPs K F vs ds) : DPs K F vs.reverse ds.reverse := by
  induction vs generalizing ds with
  | nil => cases h; exact .nil
  | cons v vs ih =>
    cases h with
    | cons h1 h2 => rw [List.reverse_cons, List.reverse_cons]; exact dpa_app (ih h2) (.cons h1 .nil)
theorem dpa_ints : ∀ (ns : List Int), DPs K F (ns.map V.int) (ns.map PyData.int)
  | [] => .nil
  | n :: ns => .cons (.int n) (dpa_ints ns)
theorem dp_int {v : V} {i : Int} (h : DP K F v (.int i)) : v = .int i := by cases h; rfl
theorem dp_bool {v : V} {i : Bool} (h : DP K F v (.bool i)) : v = .bl i := by cases h; rfl
theorem dp_none {v : V} (h : DP K F v .none) : v = .non := by cases h; rfl
theorem dp_list {v : V} {ds : List PyData} (h : DP K F v (.list ds)) : ∃ a vs, v = .ref a ∧ F a = some (.lst vs) ∧ DPs K F vs ds := by
  cases h with
  | lst hs ha => exact ⟨_, _, rfl, hs, ha⟩
theorem dp_tuple {v : V} {ds : List PyData} (h : DP K F v (.tuple ds)) : ∃ a vs, v = .ref a ∧ SqT K F a vs ∧ DPs K F vs ds := by
  cases h with
  | tup hs ha => exact ⟨_, _, rfl, hs, ha⟩
end
inductive PV where
  | d (x : PyData)
  | ref (k : Nat)
  | raw (xs : List PyData)
inductive Cell where
  | lst (xs : List PyData)
  | dK (kvs : List (Key × PyData))
  /-- a list of the cell just ahead and three numbers -/
  | own (a b c : Int)
abbrev Mem := List (Option Cell)
abbrev Loc := List (Option PV)
structure Wd where
  A : List Addr
  T : List (Addr × HO)
  F : Hp
structure Wd.le0 (w w' : Wd) : Prop where
  pre : ∃ more, w'.A = w.A ++ more
  sub : Sub w.F w'.F
structure Wd.le (w w' : Wd) : Prop extends toLe0 : Wd.le0 w w' where
  hid : w'.T = w.T
theorem Wd.le0.refl (w : Wd) : w.le0 w := ⟨⟨[], by simp⟩, Sub.refl _⟩
theorem Wd.le.refl (w : Wd) : w.le w := ⟨.refl w, rfl⟩
theorem Wd.le0.trans {a b c : Wd} (h : a.le0 b) (g : b.le0 c) : a.le0 c := by
  obtain ⟨m1, e1⟩ := h.pre
  obtain ⟨m2, e2⟩ := g.pre
  exact ⟨⟨m1 ++ m2, by rw [e2, e1, List.append_assoc]⟩, h.sub.trans g.sub⟩
theorem Wd.le.trans {a b c : Wd} (h : a.le b) (g : b.le c) : a.le c := ⟨h.toLe0.trans g.toLe0, g.hid.trans h.hid⟩
theorem Wd.le0.at {a b : Wd} (h : a.le0 b) {k : Nat} {x : Addr} (e : a.A[k]? = some x) : b.A[k]? = some x := by
  obtain ⟨m, em⟩ := h.pre
  rw [em, List.getElem?_append_left (List.getElem?_eq_some_iff.mp e).1]
  exact e
section
variable (K : PySem.W.Frag)
def RV (w : Wd) (v : V) : PV → Prop
  | .d x => DP K w.F v x
  | .ref k => ∃ a, w.A[k]? = some a ∧ v = .ref a
  | .raw xs => ∃ a vs, v = .ref a ∧ SqL K w.F a vs ∧ DPs K w.F vs xs
abbrev RVs (w : Wd) : List V → List PV → Prop := Paired (RV K w)
def CR (w : Wd) (k : Nat) : Cell → HO → Prop
  | .lst ds, o => ∃ vs, o = .lst vs ∧ DPs K w.F vs ds
  | .dK kvs, o => ∃ us, o = .dK us ∧ Paired (fun (p : Key × V) (q : Key × PyData) => p.1 = q.1 ∧ DP K w.F p.2 q.2) us kvs
  | .own a b c, o => ∃ j q, k = j + 1 ∧ w.A[j]? = some q ∧ o = .lst [V.ref q, V.int a, V.int b, V.int c]
structure HR (w : Wd) (m : Mem) (H : Hp) : Prop where
  fz : Sub w.F H
  len : w.A.length = m.length
  nd : w.A.Nodup
  sep : ∀ (k : Nat) (a : Addr) (c : Cell), w.A[k]? = some a → m[k]? = some (some c) → w.F a = none
  occ : ∀ a : Addr, a ∈ w.A → H a ≠ none
  tp : ∀ p : Addr × HO, p ∈ w.T → H p.1 = some p.2 ∧ w.F p.1 = none ∧ p.1 ∉ w.A
  tnd : (w.T.map (·.1)).Nodup
  cell : ∀ (k : Nat) (c : Cell), m[k]? = some (some c) → ∃ (a : Addr) (o : HO), w.A[k]? = some a ∧ H a = some o ∧ CR K w k c o
structure Rep (w : Wd) (L : Loc) (m : Mem) (σ : L2.St) (H : Hp) : Prop extends toHR : HR K w m H where
  sl : σ.length = L.length
  loc : ∀ (i : Nat) (p : PV), L[i]? = some (some p) → ∃ v, σ[i]? = some (some v) ∧ RV K w v p
end
section
variable {K : PySem.W.Frag} {w w' : Wd} {L : Loc} {m m' : Mem} {σ : L2.St} {H H' : Hp} {v : V} {p : PV}
theorem RV.mono (h : RV K w v p) (l : w.le0 w') : RV K w' v p := by
  cases p with
  | d x => exact dp_mono l.sub x v h
  | ref k => obtain ⟨a, e, r⟩ := h; exact ⟨a, l.at e, r⟩
  | raw u => obtain ⟨a, vs, e, s, d⟩ := h; exact ⟨a, vs, e, l.sub.sql s, dpa_mono l.sub _ _ d⟩
theorem RVs.mono : ∀ {vs : List V} {ps : List PV}, RVs K w vs ps → w.le0 w' → RVs K w' vs ps
  | _, _, .nil, _ => .nil
  | _, _, .cons r t, l => .cons (r.mono l) (RVs.mono t l)
theorem CR.mono {k : Nat} {c : Cell} {o : HO} (h : CR K w k c o) (l : Sub w.F w'.F) (la : ∀ j a, j < k → w.A[j]? = some a → w'.A[j]? = some a := by exact fun _ _ _ z => z) : CR K w' k c o := by
  cases c with
  | lst ds => obtain ⟨vs, e, r⟩ := h; exact ⟨vs, e, dpa_mono l _ _ r⟩
  | dK kvs => obtain ⟨us, e, r⟩ := h; exact ⟨us, e, L2.Paired.mapP r fun a b z => ⟨z.1, dp_mono l _ _ z.2⟩⟩
  | own a b c => obtain ⟨j, q, e1, e2, e3⟩ := h; exact ⟨j, q, e1, la j q (by omega) e2, e3⟩
theorem Rep.go (h : Rep K w L m σ H) (l : w.le w') (r : HR K w' m' H') : Rep K w' L m' σ H' :=
  ⟨r, h.sl, fun i p e => let ⟨v, e1, q⟩ := h.loc i p e; ⟨v, e1, q.mono l.toLe0⟩⟩
def Wd.fz (w : Wd) (p : Addr) (o : HO) : Wd := { w with F := upd w.F p o }
theorem HR.fnone (h : HR K w m H) {p : Addr} (hp : H p = none) : w.F p = none := h.fz.none hp
theorem HR.fnew (h : HR K w m H) {p : Addr} {o : HO} (hp : H p = none) : w.le (w.fz p o) ∧ HR K (w.fz p o) m (upd H p o) := by
  have hF := h.fnone hp
  have hA : p ∉ w.A := fun z => h.occ p z hp
  have hs : Sub w.F (upd w.F p o) := Sub.upd hF
  refine ⟨⟨⟨⟨[], by simp [Wd.fz]⟩, hs⟩, rfl⟩, ?_, h.len, h.nd, fun k a c e1 e2 => ?_, fun a ha => ?_, fun q hq => ?_, h.tnd, fun k c e => ?_⟩
  · intro a u e
    by_cases ha : a = p
    · subst ha; rw [show (w.fz a o).F a = some o from upd_same] at e; rw [upd_same]; exact e
    · rw [show (w.fz p o).F a = w.F a from upd_ne ha] at e; rw [upd_ne ha]; exact h.fz a u e
  · have hne : a ≠ p := fun z => hA (z ▸ List.mem_of_getElem? e1)
    show upd w.F p o a = none
    rw [upd_ne hne]; exact h.sep k a c e1 e2
  · by_cases hne : a = p
    · subst hne; rw [upd_same]; exact fun z => by cases z
    · rw [upd_ne hne]; exact h.occ a ha
  · obtain ⟨e1, e2, e3⟩ := h.tp q hq
    have hne : q.1 ≠ p := fun z => by rw [z, hp] at e1; cases e1
    refine ⟨by rw [upd_ne hne]; exact e1, ?_, e3⟩
    show upd w.F p o q.1 = none
    rw [upd_ne hne]; exact e2
  · obtain ⟨a, u, e1, e2, r⟩ := h.cell k c e
    have hne : a ≠ p := fun z => by rw [z, hp] at e2; cases e2
    exact ⟨a, u, e1, by rw [upd_ne hne]; exact e2, r.mono hs⟩
structure Un1 (w : Wd) (p : Addr) : Prop where
  f : w.F p = none
  a : p ∉ w.A
  t : p ∉ w.T.map (·.1)
theorem HR.un (h : HR K w m H) {p : Addr} {o : HO} (hp : H p = none) : HR K w m (upd H p o) ∧ Un1 w p := by
  have hF := h.fnone hp
  have hA : p ∉ w.A := fun z => h.occ p z hp
  have hT : p ∉ w.T.map (·.1) := fun z => by
    obtain ⟨q, hq, e⟩ := List.mem_map.mp z
    have := (h.tp q hq).1
    rw [e, hp] at this; cases this
  have hq : ∀ a, H a ≠ none → upd H p o a = H a := fun a ha => upd_ne fun z => ha (z ▸ hp)
  refine ⟨⟨fun a u e => ?_, h.len, h.nd, h.sep, fun a ha => ?_, fun q hq' => ?_, h.tnd, fun k c e => ?_⟩, hF, hA, hT⟩
  · have e' := h.fz a u e
    rw [hq a (by rw [e']; exact fun z => by cases z)]; exact e'
  · rw [hq a (h.occ a ha)]; exact h.occ a ha
  · obtain ⟨e1, e2, e3⟩ := h.tp q hq'
    exact ⟨by rw [hq q.1 (by rw [e1]; exact fun z => by cases z)]; exact e1, e2, e3⟩
  · obtain ⟨a, u, e1, e2, r⟩ := h.cell k c e
    exact ⟨a, u, e1, by rw [hq a (by rw [e2]; exact fun z => by cases z)]; exact e2, r⟩
theorem HR.freeze (h : HR K w m H) {p : Addr} {o : HO} (u : Un1 w p) (e : H p = some o) : w.le (w.fz p o) ∧ HR K (w.fz p o) m H := by
  have hs : Sub w.F (upd w.F p o) := Sub.upd u.f
  refine ⟨⟨⟨⟨[], by simp [Wd.fz]⟩, hs⟩, rfl⟩, ?_, h.len, h.nd, fun k a c e1 e2 => ?_, h.occ, fun q hq => ?_, h.tnd, fun k c e => ?_⟩
  · intro a x ea
    by_cases ha : a = p
    · subst ha; rw [show (w.fz a o).F a = some o from upd_same] at ea; rw [← ea]; exact e
    · rw [show (w.fz p o).F a = w.F a from upd_ne ha] at ea; exact h.fz a x ea
  · have hne : a ≠ p := fun z => u.a (z ▸ List.mem_of_getElem? e1)
    show upd w.F p o a = none
    rw [upd_ne hne]; exact h.sep k a c e1 e2
  · obtain ⟨e1, e2, e3⟩ := h.tp q hq
    have hne : q.1 ≠ p := fun z => u.t (z ▸ List.mem_map_of_mem hq)
    refine ⟨e1, ?_, e3⟩
    show upd w.F p o q.1 = none
    rw [upd_ne hne]; exact e2
  · obtain ⟨a, x, e1, e2, r⟩ := h.cell k c e
    exact ⟨a, x, e1, e2, r.mono hs⟩
def Wd.push (w : Wd) (p : Addr) : Wd := { w with A := w.A ++ [p] }
theorem HR.adopt (h : HR K w m H) {p : Addr} {o : HO} {c : Cell} (u : Un1 w p) (e : H p = some o) (r : CR K w m.length c o) : w.le (w.push p) ∧ HR K (w.push p) (m ++ [some c]) H := by
  refine ⟨⟨⟨⟨[p], rfl⟩, Sub.refl _⟩, rfl⟩, h.fz, ?_, ?_, fun k a c' e1 e2 => ?_, fun a ha => ?_, fun q hq => ?_, h.tnd, fun k c' e' => ?_⟩
  · show (w.A ++ [p]).length = _
    rw [List.length_append, List.length_append, h.len]; rfl
  · show (w.A ++ [p]).Nodup
    refine List.nodup_append.mpr ⟨h.nd, by simp, fun a ha b hb z => ?_⟩
    have hb' : b = p := by simpa using hb
    exact u.a (hb' ▸ z ▸ ha)
  · have e1' : (w.A ++ [p])[k]? = some a := e1
    by_cases hk : k < w.A.length
    · rw [List.getElem?_append_left hk] at e1'
      rw [List.getElem?_append_left (by rw [← h.len]; exact hk)] at e2
      exact h.sep k a c' e1' e2
    · have hk2 := (List.getElem?_eq_some_iff.mp e1').1
      rw [List.length_append] at hk2
      have hk3 : k = w.A.length := by simp at hk2; omega
      subst hk3
      rw [List.getElem?_append_right (Nat.le_refl _)] at e1'
      simp at e1'
      rw [← e1']; exact u.f
  · rcases List.mem_append.mp ha with z | z
    · exact h.occ a z
    · have : a = p := by simpa using z
      rw [this, e]; exact fun z => by cases z
  · obtain ⟨e1, e2, e3⟩ := h.tp q hq
    refine ⟨e1, e2, fun z => ?_⟩
    rcases List.mem_append.mp z with z | z
    · exact e3 z
    · have : q.1 = p := by simpa using z
      exact u.t (this ▸ List.mem_map_of_mem hq)
  · by_cases hk : k < m.length
    · rw [List.getElem?_append_left hk] at e'
      obtain ⟨a, x, e1, e2, r'⟩ := h.cell k c' e'
      refine ⟨a, x, ?_, e2, r'.mono (Sub.refl _) fun j b hj z => by
        show (w.A ++ [p])[j]? = some b
        rw [List.getElem?_append_left (List.getElem?_eq_some_iff.mp z).1]; exact z⟩
      show (w.A ++ [p])[k]? = some a
      rw [List.getElem?_append_left (by rw [h.len]; exact hk)]; exact e1
    · have hk2 := (List.getElem?_eq_some_iff.mp e').1
      rw [List.length_append] at hk2
      have hk3 : k = m.length := by simp at hk2; omega
      subst hk3
      rw [List.getElem?_append_right (Nat.le_refl _)] at e'
      simp at e'
      refine ⟨p, o, ?_, e, by rw [← e']; exact r.mono (Sub.refl _) fun j b hj z => (by
        show (w.A ++ [p])[j]? = some b
        rw [List.getElem?_append_left (List.getElem?_eq_some_iff.mp z).1]; exact z)⟩
      show (w.A ++ [p])[m.length]? = some p
      rw [← h.len, List.getElem?_append_right (Nat.le_refl _)]; simp
theorem nodup_at {A : List Addr} (nd : A.Nodup) {i j : Nat} {a : Addr} (h1 : A[i]? = some a) (h2 : A[j]? = some a) : i = j := by
  obtain ⟨l1, e1⟩ := List.getElem?_eq_some_iff.mp h1
  obtain ⟨l2, e2⟩ := List.getElem?_eq_some_iff.mp h2
  exact (List.getElem_inj nd).mp (e1.trans e2.symm)
theorem HR.write (h : HR K w m H) {k : Nat} {a : Addr} {c : Cell} {o : HO} {c' : Cell} (ea : w.A[k]? = some a) (ec : m[k]? = some (some c)) (r : CR K w k c' o) : HR K w (m.set k (some c')) (upd H a o) := by
  have hk : k < m.length := (List.getElem?_eq_some_iff.mp ec).1
  refine ⟨fun b u e => ?_, by rw [List.length_set]; exact h.len, h.nd, fun j b c2 e1 e2 => ?_, fun b hb => ?_, fun q hq => ?_, h.tnd, fun j c2 e => ?_⟩
  · have hne : b ≠ a := fun z => by rw [z, h.sep k a c ea ec] at e; cases e
    rw [upd_ne hne]; exact h.fz b u e
  · by_cases hj : j = k
    · subst hj; rw [ea] at e1; cases e1; exact h.sep _ _ _ ea ec
    · rw [List.getElem?_set_ne (Ne.symm hj)] at e2; exact h.sep j b c2 e1 e2
  · by_cases hne : b = a
    · subst hne; rw [upd_same]; exact fun z => by cases z
    · rw [upd_ne hne]; exact h.occ b hb
  · obtain ⟨e1, e2, e3⟩ := h.tp q hq
    have hne : q.1 ≠ a := fun z => e3 (z ▸ List.mem_of_getElem? ea)
    exact ⟨by rw [upd_ne hne]; exact e1, e2, e3⟩
  · by_cases hj : j = k
    · subst hj
      rw [List.getElem?_set_self hk] at e
      cases e
      exact ⟨a, o, ea, upd_same, r⟩
    · rw [List.getElem?_set_ne (Ne.symm hj)] at e
      obtain ⟨b, x, e1, e2, r'⟩ := h.cell j c2 e
      have hne : b ≠ a := fun z => hj (nodup_at h.nd (z ▸ e1) ea)
      exact ⟨b, x, e1, by rw [upd_ne hne]; exact e2, r'⟩
def Wd.cut (w : Wd) (n : Nat) : Wd := { w with A := w.A.take n }
theorem HR.cut (h : HR K w m H) (n : Nat) : HR K (w.cut n) (m.take n) H := by
  refine ⟨h.fz, ?_, h.nd.sublist (List.take_sublist _ _), fun k a c e1 e2 => ?_, fun a ha => h.occ a (List.mem_of_mem_take ha), fun q hq => ?_, h.tnd, fun k c e => ?_⟩
  · show (w.A.take n).length = _
    rw [List.length_take, List.length_take, h.len]
  · have e1' : (w.A.take n)[k]? = some a := e1
    rw [List.getElem?_take] at e1' e2
    split at e1' <;> simp_all
    exact h.sep k a c e1' e2
  · obtain ⟨e1, e2, e3⟩ := h.tp q hq
    exact ⟨e1, e2, fun z => e3 (List.mem_of_mem_take z)⟩
  · rw [List.getElem?_take] at e
    split at e
    · rename_i hk
      obtain ⟨a, o, e1, e2, r⟩ := h.cell k c e
      refine ⟨a, o, ?_, e2, r.mono (Sub.refl _) fun j b hj z => by
        show (w.A.take n)[j]? = some b
        rw [List.getElem?_take, if_pos (by omega)]; exact z⟩
      show (w.A.take n)[k]? = some a
      rw [List.getElem?_take, if_pos hk]; exact e1
    · cases e
theorem Wd.le.cut {w w' : Wd} (h : w.le w') {n : Nat} (hn : w.A.length ≤ n) : w.le (w'.cut n) := by
  obtain ⟨mo, e⟩ := h.pre
  refine ⟨⟨⟨mo.take (n - w.A.length), ?_⟩, h.sub⟩, h.hid⟩
  show w'.A.take n = _
  rw [e, List.take_append, List.take_of_length_le hn]
end
end PP
namespace PP
open PySem PySem.Spec PyProof.Rows L2
section
variable (X : Cx)
def tU (e : Expr) : TE := fun σ H Q => ∀ (pins : List (Addr × Obj)) (s : Shared), Inv X pins σ H s → wpAny (model X.prog X.w) X.A (eval e X.env) (EP X pins σ Q) X.xe s
def tUT (e : Expr) : TT := fun σ H Q => ∀ (pins : List (Addr × Obj)) (s : Shared), Inv X pins σ H s → wpAny (model X.prog X.w) X.A (isTrue e X.env (eval e X.env)) (TP X pins σ Q) X.xe s
def tUW (e : Expr) : TT := fun σ H Q => ∀ (wh : Sem Value) (pins : List (Addr × Obj)) (s : Shared), Inv X pins σ H s → wpAny (model X.prog X.w) X.A (isTrue e X.env wh) (TP X pins σ Q) X.xe s
def tUA (es : List Expr) : TA := fun σ H Q => ∀ (pos : Pos) (pins : List (Addr × Obj)) (s : Shared), Inv X pins σ H s → wpAny (model X.prog X.w) X.A (spliced (backTo pos (starEach es X.env))) (AP X pins σ Q) X.xe s
def tUS (st : Stmt) : TS := fun D σ H => ∀ (pins : List (Addr × Obj)) (s : Shared), Inv X pins σ H s → wpAny (model X.prog X.w) X.A (exec st X.env) (SP X pins D) X.xe s
def tUSs (st : List Stmt) : TS := fun D σ H => ∀ (pins : List (Addr × Obj)) (s : Shared), Inv X pins σ H s → wpAny (model X.prog X.w) X.A (execs st X.env) (SP X pins D) X.xe s
def tUI (tg iter : Expr) : TI := fun σ H R => ∀ (pins : List (Addr × Obj)) (s : Shared), Inv X pins σ H s → wpAny (model X.prog X.w) X.A (eval iter X.env) (fun v s1 => wpAny (model X.prog X.w) X.A (pyIter v) (PIE X pins σ tg R) X.xe s1) X.xe s
def tUO (o : Option Expr) : TO := fun σ H Q => ∀ (pins : List (Addr × Obj)) (s : Shared), Inv X pins σ H s → wpAny (model X.prog X.w) X.A (evalPart o X.env) (fun u s' => ∃ i H', Inv X pins σ H' s' ∧ IsPart u i ∧ Q i H') X.xe s
def tUG (tg : Expr) : TG := fun v σ H Q => ∀ (pins : List (Addr × Obj)) (s : Shared) (u : Value), Inv X pins σ H s → RelV v u → wpAny (model X.prog X.w) X.A (assign tg X.env u) (fun _ s' => ∃ σ' H', Inv X pins σ' H' s' ∧ Q σ' H') X.xe s
variable {X}
theorem peU (e : Expr) : PE X e (tU X e) := ⟨fun pins s _ _ _ I h => h pins s I⟩
theorem ptU (e : Expr) : PT X e (tUT X e) := ⟨fun pins s _ _ _ I h => h pins s I⟩
theorem pwU (e : Expr) : PW X e (tUW X e) := ⟨fun wh pins s _ _ _ I h => h wh pins s I⟩
theorem paU (es : List Expr) : PA X es (tUA X es) := ⟨fun pos pins s _ _ _ I h => h pos pins s I⟩
theorem psU (st : Stmt) : PS X st (tUS X st) := ⟨fun pins s _ _ _ I h => h pins s I⟩
theorem pssU (st : List Stmt) : PSs X st (tUSs X st) := ⟨fun pins s _ _ _ I h => h pins s I⟩
theorem piU (tg iter : Expr) : PI X tg iter (tUI X tg iter) := ⟨fun pins s _ _ _ I h => h pins s I⟩
theorem pgU (tg : Expr) : PG X tg (tUG X tg) := ⟨fun pins s _ _ _ u _ I r h => h pins s u I r⟩
theorem poU (o : Option Expr) : L2.PO X o (tUO X o) := ⟨fun pins s _ _ _ I h => h pins s I⟩
theorem tUO_mono {e : Option Expr} {σ : L2.St} {H : Hp} {Q Q' : Option Int → Hp → Prop} (h : tUO X e σ H Q) (k : ∀ v H', Q v H' → Q' v H') : tUO X e σ H Q' := fun pins s I =>
  thn (h pins s I) fun b _ ⟨i, H', I', p, q⟩ => ⟨i, H', I', p, k i H' q⟩
theorem tU_mono {e : Expr} {σ : L2.St} {H : Hp} {Q Q' : VK} (h : tU X e σ H Q) (k : ∀ v H', Q v H' → Q' v H') : tU X e σ H Q' := fun pins s I =>
  thn (h pins s I) fun _ _ ⟨v, H', I', r, q⟩ => ⟨v, H', I', r, k v H' q⟩
theorem tUT_mono {e : Expr} {σ : L2.St} {H : Hp} {Q Q' : Bool → Hp → Prop} (h : tUT X e σ H Q) (k : ∀ v H', Q v H' → Q' v H') : tUT X e σ H Q' := fun pins s I =>
  thn (h pins s I) fun b _ ⟨H', I', q⟩ => ⟨H', I', k b H' q⟩
theorem tUW_mono {e : Expr} {σ : L2.St} {H : Hp} {Q Q' : Bool → Hp → Prop} (h : tUW X e σ H Q) (k : ∀ v H', Q v H' → Q' v H') : tUW X e σ H Q' := fun wh pins s I =>
  thn (h wh pins s I) fun b _ ⟨H', I', q⟩ => ⟨H', I', k b H' q⟩
theorem tUA_mono {es : List Expr} {σ : L2.St} {H : Hp} {Q Q' : List V → Hp → Prop} (h : tUA X es σ H Q) (k : ∀ v H', Q v H' → Q' v H') : tUA X es σ H Q' := fun pos pins s I =>
  thn (h pos pins s I) fun _ _ ⟨v, H', I', r, q⟩ => ⟨v, H', I', r, k v H' q⟩
theorem tUI_mono {tg e : Expr} {σ : L2.St} {H : Hp} {Q Q' : It → Hp → Prop} (h : tUI X tg e σ H Q) (k : ∀ v H', Q v H' → Q' v H') : tUI X tg e σ H Q' := fun pins s I =>
  thn (h pins s I) fun v s1 h1 => thn h1 fun itv s2 ⟨it, fp, tn, J, H', e, I', T, st, f, q⟩ => ⟨it, fp, tn, J, H', e, I', T, st, f, k J H' q⟩
theorem tUG_mono {tg : Expr} {v : V} {σ : L2.St} {H : Hp} {Q Q' : L2.St → Hp → Prop} (h : tUG X tg v σ H Q) (k : ∀ σ' H', Q σ' H' → Q' σ' H') : tUG X tg v σ H Q' := fun pins s u I r =>
  thn (h pins s u I r) fun _ s' ⟨σ', H', I', q⟩ => ⟨σ', H', I', k σ' H' q⟩
theorem sp_mono {pins : List (Addr × Obj)} {D D' : Ends} {f : Flow} {s : Shared} (h : SP X pins D f s) (n : ∀ σ H, D.nx σ H → D'.nx σ H) (r : ∀ v H, D.rt v H → D'.rt v H) (b : ∀ σ H, D.bk σ H → D'.bk σ H) (c : ∀ σ H, D.ct σ H → D'.ct σ H) : SP X pins D' f s := by
  cases f with
  | next => obtain ⟨σ', H', I, q⟩ := h; exact ⟨σ', H', I, n _ _ q⟩
  | brk => obtain ⟨σ', H', I, q⟩ := h; exact ⟨σ', H', I, b _ _ q⟩
  | cont => obtain ⟨σ', H', I, q⟩ := h; exact ⟨σ', H', I, c _ _ q⟩
  | ret u => obtain ⟨v, σ', H', I, rr, q⟩ := h; exact ⟨v, σ', H', I, rr, r _ _ q⟩
theorem tUS_mono {st : Stmt} {D D' : Ends} {σ : L2.St} {H : Hp} (h : tUS X st D σ H) (n : ∀ σ H, D.nx σ H → D'.nx σ H) (r : ∀ v H, D.rt v H → D'.rt v H) (b : ∀ σ H, D.bk σ H → D'.bk σ H) (c : ∀ σ H, D.ct σ H → D'.ct σ H) : tUS X st D' σ H := fun pins s I =>
  thn (h pins s I) fun _ _ q => sp_mono q n r b c
theorem tUSs_mono {st : List Stmt} {D D' : Ends} {σ : L2.St} {H : Hp} (h : tUSs X st D σ H) (n : ∀ σ H, D.nx σ H → D'.nx σ H) (r : ∀ v H, D.rt v H → D'.rt v H) (b : ∀ σ H, D.bk σ H → D'.bk σ H) (c : ∀ σ H, D.ct σ H → D'.ct σ H) : tUSs X st D' σ H := fun pins s I =>
  thn (h pins s I) fun _ _ q => sp_mono q n r b c
end
abbrev QE := PyData → Mem → Prop
section
variable (K : PySem.W.Frag) (w : Wd)
def POE (Q : QE) : VK := fun v H => ∃ w' x m, w.le w' ∧ HR K w' m H ∧ DP K w'.F v x ∧ Q x m
def PF (Q : List PyData → Mem → Prop) : VK := fun v H => ∃ w' xs m p vs, v = .ref p ∧ w.le w' ∧ HR K w' m H ∧ H p = some (.lst vs) ∧ Un1 w' p ∧ DPs K w'.F vs xs ∧ Q xs m
def POV (Q : PV → Mem → Prop) : VK := fun v H => ∃ w' x m, w.le w' ∧ HR K w' m H ∧ RV K w' v x ∧ Q x m
def POT (Q : Bool → Mem → Prop) : Bool → Hp → Prop := fun b H => ∃ w' m, w.le w' ∧ HR K w' m H ∧ Q b m
def POA (Q : List PV → Mem → Prop) : List V → Hp → Prop := fun vs H => ∃ w' ps m, w.le w' ∧ HR K w' m H ∧ RVs K w' vs ps ∧ Q ps m
structure PEnds where
  nx : Loc → Mem → Prop
  rt : PV → Mem → Prop
  bk : Loc → Mem → Prop := fun _ _ => False
  ct : Loc → Mem → Prop := fun _ _ => False
def POS (Q : Loc → Mem → Prop) : L2.St → Hp → Prop := fun σ H => ∃ w' L m, w.le w' ∧ Rep K w' L m σ H ∧ Q L m
def toE (D : PEnds) : Ends := { nx := POS K w D.nx, rt := POV K w D.rt, bk := POS K w D.bk, ct := POS K w D.ct }
end
section
variable (X : Cx)
def WE (e : Expr) (L : Loc) (m : Mem) (Q : QE) : Prop := ∀ (w : Wd) (σ : L2.St) (H : Hp), Rep X.K w L m σ H → tU X e σ H (POE X.K w Q)
def WF (e : Expr) (L : Loc) (m : Mem) (Q : List PyData → Mem → Prop) : Prop := ∀ (w : Wd) (σ : L2.St) (H : Hp), Rep X.K w L m σ H → tU X e σ H (PF X.K w Q)
def WV (e : Expr) (L : Loc) (m : Mem) (Q : PV → Mem → Prop) : Prop := ∀ (w : Wd) (σ : L2.St) (H : Hp), Rep X.K w L m σ H → tU X e σ H (POV X.K w Q)
def WT (e : Expr) (L : Loc) (m : Mem) (Q : Bool → Mem → Prop) : Prop := ∀ (w : Wd) (σ : L2.St) (H : Hp), Rep X.K w L m σ H → tUT X e σ H (POT X.K w Q)
def WW (e : Expr) (L : Loc) (m : Mem) (Q : Bool → Mem → Prop) : Prop := ∀ (w : Wd) (σ : L2.St) (H : Hp), Rep X.K w L m σ H → tUW X e σ H (POT X.K w Q)
def WO (o : Option Expr) (L : Loc) (m : Mem) (Q : Option Int → Mem → Prop) : Prop := ∀ (w : Wd) (σ : L2.St) (H : Hp), Rep X.K w L m σ H → tUO X o σ H fun i H' => ∃ w' m', w.le w' ∧ HR X.K w' m' H' ∧ Q i m'
def WA (es : List Expr) (L : Loc) (m : Mem) (Q : List PV → Mem → Prop) : Prop := ∀ (w : Wd) (σ : L2.St) (H : Hp), Rep X.K w L m σ H → tUA X es σ H (POA X.K w Q)
def WS (st : Stmt) (L : Loc) (m : Mem) (D : PEnds) : Prop := ∀ (w : Wd) (σ : L2.St) (H : Hp), Rep X.K w L m σ H → tUS X st (toE X.K w D) σ H
def WSs (st : List Stmt) (L : Loc) (m : Mem) (D : PEnds) : Prop := ∀ (w : Wd) (σ : L2.St) (H : Hp), Rep X.K w L m σ H → tUSs X st (toE X.K w D) σ H
def WG (tg : Expr) (x : PyData) (L : Loc) (m : Mem) (Q : Loc → Mem → Prop) : Prop := ∀ (w : Wd) (σ : L2.St) (H : Hp) (v : V), Rep X.K w L m σ H → DP X.K w.F v x → tUG X tg v σ H (POS X.K w Q)
end
section
variable {K : PySem.W.Frag} {w w1 : Wd}
theorem POE.back {Q : QE} {v : V} {H : Hp} (l : w.le w1) (h : POE K w1 Q v H) : POE K w Q v H := let ⟨w', x, m, l', r⟩ := h; ⟨w', x, m, l.trans l', r⟩
theorem PF.back {Q : List PyData → Mem → Prop} {v : V} {H : Hp} (l : w.le w1) (h : PF K w1 Q v H) : PF K w Q v H := let ⟨w', x, m, p, vs, e, l', r⟩ := h; ⟨w', x, m, p, vs, e, l.trans l', r⟩
theorem POV.back {Q : PV → Mem → Prop} {v : V} {H : Hp} (l : w.le w1) (h : POV K w1 Q v H) : POV K w Q v H := let ⟨w', x, m, l', r⟩ := h; ⟨w', x, m, l.trans l', r⟩
theorem POT.back {Q : Bool → Mem → Prop} {b : Bool} {H : Hp} (l : w.le w1) (h : POT K w1 Q b H) : POT K w Q b H := let ⟨w', m, l', r⟩ := h; ⟨w', m, l.trans l', r⟩
theorem POA.back {Q : List PV → Mem → Prop} {vs : List V} {H : Hp} (l : w.le w1) (h : POA K w1 Q vs H) : POA K w Q vs H := let ⟨w', x, m, l', r⟩ := h; ⟨w', x, m, l.trans l', r⟩
theorem POS.back {Q : Loc → Mem → Prop} {σ : L2.St} {H : Hp} (l : w.le w1) (h : POS K w1 Q σ H) : POS K w Q σ H := let ⟨w', x, m, l', r⟩ := h; ⟨w', x, m, l.trans l', r⟩
end
section
variable {X : Cx} {L : Loc} {m : Mem} {e a b : Expr} {pos : Pos}
theorem WE.mono {Q Q' : QE} (h : WE X e L m Q) (k : ∀ x m', Q x m' → Q' x m') : WE X e L m Q' := fun w σ H r => tU_mono (h w σ H r) fun _ _ ⟨w', x, m', l, hr, d, q⟩ => ⟨w', x, m', l, hr, d, k _ _ q⟩
theorem WF.mono {Q Q' : List PyData → Mem → Prop} (h : WF X e L m Q) (k : ∀ x m', Q x m' → Q' x m') : WF X e L m Q' := fun w σ H r => tU_mono (h w σ H r) fun _ _ ⟨w', x, m', p, vs, e1, l, hr, hp, u, d, q⟩ => ⟨w', x, m', p, vs, e1, l, hr, hp, u, d, k _ _ q⟩
theorem WT.mono {Q Q' : Bool → Mem → Prop} (h : WT X e L m Q) (k : ∀ x m', Q x m' → Q' x m') : WT X e L m Q' := fun w σ H r => tUT_mono (h w σ H r) fun _ _ ⟨w', m', l, hr, q⟩ => ⟨w', m', l, hr, k _ _ q⟩
theorem we_of {t : TE} {Q : QE} (h : PE X e t) (k : ∀ (w : Wd) (σ : L2.St) (H : Hp), Rep X.K w L m σ H → t σ H (POE X.K w Q)) : WE X e L m Q := fun w σ H r pins s I => h.run pins s σ H _ I (k w σ H r)
theorem wf_of {t : TE} {Q : List PyData → Mem → Prop} (h : PE X e t) (k : ∀ (w : Wd) (σ : L2.St) (H : Hp), Rep X.K w L m σ H → t σ H (PF X.K w Q)) : WF X e L m Q := fun w σ H r pins s I => h.run pins s σ H _ I (k w σ H r)
theorem wt_of {t : TT} {Q : Bool → Mem → Prop} (h : PT X e t) (k : ∀ (w : Wd) (σ : L2.St) (H : Hp), Rep X.K w L m σ H → t σ H (POT X.K w Q)) : WT X e L m Q := fun w σ H r pins s I => h.run pins s σ H _ I (k w σ H r)
theorem ws_of {st : Stmt} {t : TS} {D : PEnds} (h : PS X st t) (k : ∀ (w : Wd) (σ : L2.St) (H : Hp), Rep X.K w L m σ H → t (toE X.K w D) σ H) : WS X st L m D := fun w σ H r pins s I => h.run pins s σ H _ I (k w σ H r)
theorem wss_of {st : List Stmt} {t : TS} {D : PEnds} (h : PSs X st t) (k : ∀ (w : Wd) (σ : L2.St) (H : Hp), Rep X.K w L m σ H → t (toE X.K w D) σ H) : WSs X st L m D := fun w σ H r pins s I => h.run pins s σ H _ I (k w σ H r)
theorem WE.go {Q : QE} (h : WE X e L m Q) {w : Wd} {σ : L2.St} {H : Hp} (r : Rep X.K w L m σ H) {R : VK} (k : ∀ (w' : Wd) (v : V) (x : PyData) (m' : Mem) (H' : Hp), w.le w' → Rep X.K w' L m' σ H' → DP X.K w'.F v x → Q x m' → R v H') : tU X e σ H R :=
  tU_mono (h w σ H r) fun v H' ⟨w', x, m', l, hr, d, q⟩ => k w' v x m' H' l (r.go l hr) d q
theorem WF.go {Q : List PyData → Mem → Prop} (h : WF X e L m Q) {w : Wd} {σ : L2.St} {H : Hp} (r : Rep X.K w L m σ H) {R : VK} (k : ∀ (w' : Wd) (p : Addr) (vs : List V) (xs : List PyData) (m' : Mem) (H' : Hp), w.le w' → Rep X.K w' L m' σ H' → H' p = some (.lst vs) → Un1 w' p → DPs X.K w'.F vs xs → Q xs m' → R (.ref p) H') : tU X e σ H R :=
  tU_mono (h w σ H r) fun v H' ⟨w', xs, m', p, vs, e1, l, hr, hp, u, d, q⟩ => e1 ▸ k w' p vs xs m' H' l (r.go l hr) hp u d q
theorem WV.go {Q : PV → Mem → Prop} (h : WV X e L m Q) {w : Wd} {σ : L2.St} {H : Hp} (r : Rep X.K w L m σ H) {R : VK} (k : ∀ (w' : Wd) (v : V) (x : PV) (m' : Mem) (H' : Hp), w.le w' → Rep X.K w' L m' σ H' → RV X.K w' v x → Q x m' → R v H') : tU X e σ H R :=
  tU_mono (h w σ H r) fun v H' ⟨w', x, m', l, hr, d, q⟩ => k w' v x m' H' l (r.go l hr) d q
theorem WT.go {Q : Bool → Mem → Prop} (h : WT X e L m Q) {w : Wd} {σ : L2.St} {H : Hp} (r : Rep X.K w L m σ H) {R : Bool → Hp → Prop} (k : ∀ (w' : Wd) (b : Bool) (m' : Mem) (H' : Hp), w.le w' → Rep X.K w' L m' σ H' → Q b m' → R b H') : tUT X e σ H R :=
  tUT_mono (h w σ H r) fun b H' ⟨w', m', l, hr, q⟩ => k w' b m' H' l (r.go l hr) q
theorem WW.go {Q : Bool → Mem → Prop} (h : WW X e L m Q) {w : Wd} {σ : L2.St} {H : Hp} (r : Rep X.K w L m σ H) {R : Bool → Hp → Prop} (k : ∀ (w' : Wd) (b : Bool) (m' : Mem) (H' : Hp), w.le w' → Rep X.K w' L m' σ H' → Q b m' → R b H') : tUW X e σ H R :=
  tUW_mono (h w σ H r) fun b H' ⟨w', m', l, hr, q⟩ => k w' b m' H' l (r.go l hr) q
theorem WO.go {o : Option Expr} {Q : Option Int → Mem → Prop} (h : WO X o L m Q) {w : Wd} {σ : L2.St} {H : Hp} (r : Rep X.K w L m σ H) {R : Option Int → Hp → Prop} (k : ∀ (w' : Wd) (b : Option Int) (m' : Mem) (H' : Hp), w.le w' → Rep X.K w' L m' σ H' → Q b m' → R b H') : tUO X o σ H R :=
  tUO_mono (h w σ H r) fun b H' ⟨w', m', l, hr, q⟩ => k w' b m' H' l (r.go l hr) q
theorem WA.go {es : List Expr} {Q : List PV → Mem → Prop} (h : WA X es L m Q) {w : Wd} {σ : L2.St} {H : Hp} (r : Rep X.K w L m σ H) {R : List V → Hp → Prop} (k : ∀ (w' : Wd) (vs : List V) (ps : List PV) (m' : Mem) (H' : Hp), w.le w' → Rep X.K w' L m' σ H' → RVs X.K w' vs ps → Q ps m' → R vs H') : tUA X es σ H R :=
  tUA_mono (h w σ H r) fun v H' ⟨w', x, m', l, hr, d, q⟩ => k w' v x m' H' l (r.go l hr) d q
theorem we_name {Q : QE} {x : Str} {y : PyData} (i : Nat) (hN : X.N[i]? = some x) (hv : Vis X.env.scope x) (hL : L[i]? = some (some (.d y))) (q : Q y m) (hd : (x == ("__debug__" : Str)) = false := by decide) (hcd : (x == ("__classdict__" : Str)) = false := by decide) : WE X (.Name x pos) L m Q :=
  we_of (pe_var hN hv hd hcd) fun w σ H r => let ⟨v, e1, d⟩ := r.loc i _ hL; ⟨v, e1, w, y, m, .refl w, r.toHR, d, q⟩
theorem wv_name {Q : PV → Mem → Prop} {x : Str} {y : PV} (i : Nat) (hN : X.N[i]? = some x) (hv : Vis X.env.scope x) (hL : L[i]? = some (some y)) (q : Q y m) (hd : (x == ("__debug__" : Str)) = false := by decide) (hcd : (x == ("__classdict__" : Str)) = false := by decide) : WV X (.Name x pos) L m Q := fun w σ H r pins s I =>
  (pe_var hN hv hd hcd).run pins s σ H _ I (let ⟨v, e1, d⟩ := r.loc i _ hL; ⟨v, e1, w, y, m, .refl w, r.toHR, d, q⟩)
theorem wv_we {Q : PV → Mem → Prop} (h : WE X e L m fun x m' => Q (.d x) m') : WV X e L m Q := fun w σ H r => tU_mono (h w σ H r) fun _ _ ⟨w', x, m', l, hr, d, q⟩ => ⟨w', .d x, m', l, hr, d, q⟩
theorem we_int {Q : QE} {i : Int} {j : Nat} (q : Q (.int i) m) : WE X (.Constant (.int i) j pos) L m Q := we_of pe_int fun w _ _ r => ⟨w, _, m, .refl w, r.toHR, .int i, q⟩
theorem we_bool {Q : QE} {i : Bool} {j : Nat} (q : Q (.bool i) m) : WE X (.Constant (.bool i) j pos) L m Q := we_of pe_bl fun w _ _ r => ⟨w, _, m, .refl w, r.toHR, .bl i, q⟩
theorem we_none {Q : QE} {j : Nat} (q : Q .none m) : WE X (.Constant .none j pos) L m Q := we_of pe_non fun w _ _ r => ⟨w, _, m, .refl w, r.toHR, .non, q⟩
theorem we_str {Q : QE} {x : Str} {j : Nat} (q : Q (.str x) m) : WE X (.Constant (.str x) j pos) L m Q := we_of pe_str fun w _ _ r => ⟨w, _, m, .refl w, r.toHR, .str x, q⟩
def OpW (X : Cx) (r : R2) (x y : PyData) (m : Mem) (Q : QE) : Prop := ∀ (w0 w : Wd) (H : Hp) (v u : V), w0.le w → HR X.K w m H → DP X.K w.F v x → DP X.K w.F u y → r v u H (POE X.K w0 Q)
theorem two {r : R2} {w : Wd} {σ : L2.St} {H : Hp} {Q : VK} {Qr : PyData → PyData → Mem → Prop} (rp : Rep X.K w L m σ H) (h : WE X a L m fun x m1 => WE X b L m1 fun y m2 => Qr x y m2)
    (k : ∀ (w' : Wd) (v u : V) (x y : PyData) (m' : Mem) (H' : Hp), w.le w' → Rep X.K w' L m' σ H' → DP X.K w'.F v x → DP X.K w'.F u y → Qr x y m' → r v u H' Q) : tOp r (tU X a) (tU X b) σ H Q :=
  h.go rp fun w1 v x m1 H1 l1 r1 d1 q1 => q1.go r1 fun w2 u y m2 H2 l2 r2 d2 q2 => k w2 v u x y m2 H2 (l1.trans l2) r2 (dp_mono l2.sub _ _ d1) d2 q2
theorem we_op {op : Operator} {r : R2} {Q : QE} (ho : OpR X (binaryOp op) r) (h : WE X a L m fun x m1 => WE X b L m1 fun y m2 => OpW X r x y m2 Q) : WE X (.BinOp a op b pos) L m Q :=
  we_of (pe_op ho (peU a) (peU b)) fun w _ _ rp => two rp h fun w' v u _ _ _ H' l rp' d1 d2 q => q w w' H' v u l rp'.toHR d1 d2
theorem we_cmp {op : CmpOp} {r : R2} {Q : QE} (ho : OpR X (compareOp op) r) (h : WE X a L m fun x m1 => WE X b L m1 fun y m2 => OpW X r x y m2 Q) (hm : behindInMarks op b = false) : WE X (.Compare a [op] [b] pos) L m Q :=
  we_of (pe_cmpR ho (peU a) (peU b) hm) fun w _ _ rp => two rp h fun w' v u _ _ _ H' l rp' d1 d2 q => q w w' H' v u l rp'.toHR d1 d2
theorem wt_cmp {op : CmpOp} {r : R2} {Q : Bool → Mem → Prop} (ho : OpR X (compareOp op) r) (h : WE X a L m fun x m1 => WE X b L m1 fun y m2 => OpW X r x y m2 fun z m3 => ∃ c, z = .bool c ∧ Q c m3) (hm : behindInMarks op b = false)
    (rm : ∀ (v u : V) (H : Hp) (Q Q' : VK), (∀ z H', Q z H' → Q' z H') → r v u H Q → r v u H Q') : WT X (.Compare a [op] [b] pos) L m Q :=
  wt_of (pt_cmpR ho (peU a) (peU b) hm) fun w _ _ rp => two rp h fun w' v u _ _ _ H' l rp' d1 d2 q => rm _ _ _ _ _ (fun z H2 ⟨w2, x, m2, l2, hr, d, c, e, q2⟩ => by
    subst e
    exact ⟨c, dp_bool d, w2, m2, l2, hr, q2⟩) (q w w' H' v u l rp'.toHR d1 d2)
section
variable {w0 w : Wd} {H : Hp} {Q : QE}
theorem po_int (l : w0.le w) (h : HR X.K w m H) {i : Int} (q : Q (.int i) m) : POE X.K w0 Q (.int i) H := ⟨w, _, m, l, h, .int i, q⟩
theorem po_bool (l : w0.le w) (h : HR X.K w m H) {i : Bool} (q : Q (.bool i) m) : POE X.K w0 Q (.bl i) H := ⟨w, _, m, l, h, .bl i, q⟩
end
variable {Q : QE} {x y : PyData}
theorem opw_I0 {g : Int → Int → Int} (h : ∃ i j, x = .int i ∧ y = .int j ∧ Q (.int (g i j)) m) : OpW X (rI0 fun i j => .int (g i j)) x y m Q := by
  obtain ⟨i, j, rfl, rfl, q⟩ := h
  exact fun w0 w H v u l hr d1 d2 => ⟨i, j, dp_int d1, dp_int d2, po_int l hr q⟩
theorem opw_I {C : Int → Int → Prop} {g : Int → Int → Int} (h : ∃ i j, x = .int i ∧ y = .int j ∧ C i j ∧ Q (.int (g i j)) m) : OpW X (rI C fun i j => .int (g i j)) x y m Q := by
  obtain ⟨i, j, rfl, rfl, c, q⟩ := h
  exact fun w0 w H v u l hr d1 d2 => ⟨i, j, dp_int d1, dp_int d2, c, po_int l hr q⟩
theorem opw_B0 {g : Int → Int → Bool} (h : ∃ i j, x = .int i ∧ y = .int j ∧ Q (.bool (g i j)) m) : OpW X (rI0 fun i j => .bl (g i j)) x y m Q := by
  obtain ⟨i, j, rfl, rfl, q⟩ := h
  exact fun w0 w H v u l hr d1 d2 => ⟨i, j, dp_int d1, dp_int d2, po_bool l hr q⟩
theorem rI0_mono {g : Int → Int → V} : ∀ (v u : V) (H : Hp) (Q Q' : VK), (∀ z H', Q z H' → Q' z H') → rI0 g v u H Q → rI0 g v u H Q' := fun _ _ _ _ _ k ⟨i, j, e1, e2, q⟩ => ⟨i, j, e1, e2, k _ _ q⟩
abbrev AskI (x y : PyData) (R : Int → Int → Prop) : Prop := ∃ i j, x = .int i ∧ y = .int j ∧ R i j
theorem we_add (h : WE X a L m fun x m1 => WE X b L m1 fun y m2 => AskI x y fun i j => Q (.int (i + j)) m2) : WE X (.BinOp a .Add b pos) L m Q := we_op op_add (h.mono fun _ _ h => h.mono fun _ _ q => opw_I0 q)
theorem we_sub (h : WE X a L m fun x m1 => WE X b L m1 fun y m2 => AskI x y fun i j => Q (.int (i - j)) m2) : WE X (.BinOp a .Sub b pos) L m Q := we_op op_sub (h.mono fun _ _ h => h.mono fun _ _ q => opw_I0 q)
theorem we_mul (h : WE X a L m fun x m1 => WE X b L m1 fun y m2 => AskI x y fun i j => CMulW i j ∧ Q (.int (i * j)) m2) : WE X (.BinOp a .Mult b pos) L m Q := we_op op_mulW (h.mono fun _ _ h => h.mono fun _ _ q => opw_I q)
theorem we_fdiv (h : WE X a L m fun x m1 => WE X b L m1 fun y m2 => AskI x y fun i j => CDivW i j ∧ Q (.int (i / j)) m2) : WE X (.BinOp a .FloorDiv b pos) L m Q := we_op op_fdivW (h.mono fun _ _ h => h.mono fun _ _ q => opw_I q)
theorem we_mod (h : WE X a L m fun x m1 => WE X b L m1 fun y m2 => AskI x y fun i j => 0 < j ∧ Q (.int (i % j)) m2) : WE X (.BinOp a .Mod b pos) L m Q := we_op op_mod (h.mono fun _ _ h => h.mono fun _ _ q => opw_I q)
section
variable {QT : Bool → Mem → Prop}
theorem wt_int {op : CmpOp} {g : Int → Int → Bool} (ho : OpR X (compareOp op) (rI0 fun i j => .bl (g i j))) (hm : behindInMarks op b = false) (h : WE X a L m fun x m1 => WE X b L m1 fun y m2 => AskI x y fun i j => QT (g i j) m2) : WT X (.Compare a [op] [b] pos) L m QT :=
  wt_cmp ho (h.mono fun _ _ h => h.mono fun _ _ ⟨i, j, e1, e2, q⟩ => opw_B0 ⟨i, j, e1, e2, _, rfl, q⟩) hm rI0_mono
theorem wt_lt (h : WE X a L m fun x m1 => WE X b L m1 fun y m2 => AskI x y fun i j => QT (decide (i < j)) m2) : WT X (.Compare a [.Lt] [b] pos) L m QT := wt_int op_lt (nomark _) h
theorem wt_le (h : WE X a L m fun x m1 => WE X b L m1 fun y m2 => AskI x y fun i j => QT (decide (i ≤ j)) m2) : WT X (.Compare a [.LtE] [b] pos) L m QT := wt_int op_le (nomark _) h
theorem wt_gt (h : WE X a L m fun x m1 => WE X b L m1 fun y m2 => AskI x y fun i j => QT (decide (j < i)) m2) : WT X (.Compare a [.Gt] [b] pos) L m QT := wt_int op_gt (nomark _) h
theorem wt_ge (h : WE X a L m fun x m1 => WE X b L m1 fun y m2 => AskI x y fun i j => QT (decide (j ≤ i)) m2) : WT X (.Compare a [.GtE] [b] pos) L m QT := wt_int op_ge (nomark _) h
theorem we_lt (h : WE X a L m fun x m1 => WE X b L m1 fun y m2 => AskI x y fun i j => Q (.bool (decide (i < j))) m2) : WE X (.Compare a [.Lt] [b] pos) L m Q := we_cmp op_lt (h.mono fun _ _ h => h.mono fun _ _ q => opw_B0 q) (nomark _)
theorem we_gt (h : WE X a L m fun x m1 => WE X b L m1 fun y m2 => AskI x y fun i j => Q (.bool (decide (j < i))) m2) : WE X (.Compare a [.Gt] [b] pos) L m Q := we_cmp op_gt (h.mono fun _ _ h => h.mono fun _ _ q => opw_B0 q) (nomark _)
theorem we_ge (h : WE X a L m fun x m1 => WE X b L m1 fun y m2 => AskI x y fun i j => Q (.bool (decide (j ≤ i))) m2) : WE X (.Compare a [.GtE] [b] pos) L m Q := we_cmp op_ge (h.mono fun _ _ h => h.mono fun _ _ q => opw_B0 q) (nomark _)
end
abbrev shp (d : PyData) : Prop := SeqAt.shaped d = true
theorem we_eq (hu : X.A.units + 64 < cLine) (h : WE X a L m fun x m1 => WE X b L m1 fun y m2 => shp x ∧ shp y ∧ Q (.bool (PyData.eqv x y)) m2) : WE X (.Compare a [.Eq] [b] pos) L m Q :=
  we_cmp (op_eqD hu) (h.mono fun _ _ h => h.mono fun _ _ ⟨s1, s2, q⟩ w0 w H v u l hr d1 d2 => ⟨_, _, dp_mono hr.fz _ _ d1 |>.toDp _ _, dp_mono hr.fz _ _ d2 |>.toDp _ _, s1, s2, po_bool l hr q⟩) (nomark _)
theorem rEqD_mono {K : PySem.W.Frag} : ∀ (v u : V) (H : Hp) (Q Q' : VK), (∀ z H', Q z H' → Q' z H') → rEqD K v u H Q → rEqD K v u H Q' := fun _ _ _ _ _ k ⟨d, e, a, b, c, f, q⟩ => ⟨d, e, a, b, c, f, k _ _ q⟩
theorem rNeD_mono {K : PySem.W.Frag} : ∀ (v u : V) (H : Hp) (Q Q' : VK), (∀ z H', Q z H' → Q' z H') → rNeD K v u H Q → rNeD K v u H Q' := fun _ _ _ _ _ k ⟨d, e, a, b, c, f, q⟩ => ⟨d, e, a, b, c, f, k _ _ q⟩
section
variable {QT : Bool → Mem → Prop}
theorem wt_eq (hu : X.A.units + 64 < cLine) (h : WE X a L m fun x m1 => WE X b L m1 fun y m2 => shp x ∧ shp y ∧ QT (PyData.eqv x y) m2) : WT X (.Compare a [.Eq] [b] pos) L m QT :=
  wt_cmp (op_eqD hu) (h.mono fun _ _ h => h.mono fun _ _ ⟨s1, s2, q⟩ w0 w H v u l hr d1 d2 => ⟨_, _, dp_mono hr.fz _ _ d1 |>.toDp _ _, dp_mono hr.fz _ _ d2 |>.toDp _ _, s1, s2, po_bool l hr ⟨_, rfl, q⟩⟩) (nomark _) rEqD_mono
theorem wt_ne (hu : X.A.units + 64 < cLine) (h : WE X a L m fun x m1 => WE X b L m1 fun y m2 => shp x ∧ shp y ∧ QT (!PyData.eqv x y) m2) : WT X (.Compare a [.NotEq] [b] pos) L m QT :=
  wt_cmp (op_neD hu) (h.mono fun _ _ h => h.mono fun _ _ ⟨s1, s2, q⟩ w0 w H v u l hr d1 d2 => ⟨_, _, dp_mono hr.fz _ _ d1 |>.toDp _ _, dp_mono hr.fz _ _ d2 |>.toDp _ _, s1, s2, po_bool l hr ⟨_, rfl, q⟩⟩) (nomark _) rNeD_mono
theorem wt_eqI (h : WE X a L m fun x m1 => WE X b L m1 fun y m2 => AskI x y fun i j => QT (decide (i = j)) m2) : WT X (.Compare a [.Eq] [b] pos) L m QT := by
  refine wt_of (pt_cmp (pc_eqI (peU a) (peU b))) fun w σ H rp => ?_
  refine h.go rp fun w1 v x m1 H1 l1 r1 d1 q1 => q1.go r1 fun w2 u y m2 H2 l2 r2 d2 ⟨i, j, e1, e2, q⟩ => ?_
  subst e1; subst e2
  exact ⟨i, j, dp_int (dp_mono l2.sub _ _ d1), dp_int d2, _, rfl, w2, m2, l1.trans l2, r2.toHR, q⟩
theorem wt_neI (h : WE X a L m fun x m1 => WE X b L m1 fun y m2 => AskI x y fun i j => QT (!decide (i = j)) m2) : WT X (.Compare a [.NotEq] [b] pos) L m QT := by
  refine wt_of (pt_cmp (pc_neI (peU a) (peU b))) fun w σ H rp => ?_
  refine h.go rp fun w1 v x m1 H1 l1 r1 d1 q1 => q1.go r1 fun w2 u y m2 H2 l2 r2 d2 ⟨i, j, e1, e2, q⟩ => ?_
  subst e1; subst e2
  exact ⟨i, j, dp_int (dp_mono l2.sub _ _ d1), dp_int d2, _, rfl, w2, m2, l1.trans l2, r2.toHR, q⟩
theorem wt_chain {op op' : CmpOp} {c : Expr} {g g' : Int → Int → Bool} (ho : OpR X (compareOp op) (rI0 fun i j => .bl (g i j))) (ho' : OpR X (compareOp op') (rI0 fun i j => .bl (g' i j))) (hm : lastMarks [op, op'] [b, c] = false)
    (h : WE X a L m fun x m1 => WE X b L m1 fun y m2 => AskI x y fun i j => if g i j = true then WE X c L m2 fun z m3 => ∃ k, z = .int k ∧ QT (g' j k) m3 else QT false m2) : WT X (.Compare a [op, op'] [b, c] pos) L m QT := by
  refine wt_of (pt_chain ho ho' (peU a) (peU b) (peU c) hm) fun w σ H rp => ?_
  refine h.go rp fun w1 v x m1 H1 l1 r1 d1 q1 => q1.go r1 fun w2 u y m2 H2 l2 r2 d2 ⟨i, j, e1, e2, q⟩ => ?_
  subst e1; subst e2
  have d1' := dp_int (dp_mono l2.sub _ _ d1)
  have d2' := dp_int d2
  refine ⟨i, j, d1', d2', _, rfl, ?_⟩
  have q : if g i j = true then WE X c L m2 fun z m3 => ∃ k, z = PyData.int k ∧ QT (g' j k) m3 else QT false m2 := q
  by_cases hg : g i j = true
  · rw [if_pos hg] at q
    rw [if_pos hg]
    refine q.go r2 fun w3 v3 z m3 H3 l3 r3 d3 ⟨k, e3, q3⟩ => ?_
    subst e3
    exact ⟨j, k, d2', dp_int d3, _, rfl, w3, m3, (l1.trans l2).trans l3, r3.toHR, q3⟩
  · rw [if_neg hg] at q
    rw [if_neg hg]
    exact ⟨_, rfl, w2, m2, l1.trans l2, r2.toHR, q⟩
end
end
end PP
namespace PP
open PySem PySem.Spec PyProof.Rows L2
section
variable {X : Cx} {L : Loc} {m : Mem} {e a b c : Expr} {rest es : List Expr} {pos : Pos} {Q : QE} {QT : Bool → Mem → Prop}
theorem wt_ww (h : WW X e L m QT) : WT X e L m QT := fun w σ H r pins s I => h w σ H r _ pins s I
theorem wt_val (h : WE X e L m fun x m' => ∃ c, x = .bool c ∧ QT c m') (he : ∀ whole, isTrue e X.env whole = (do let v ← whole; standAt e.pos; holding [v] (truthy v)) := by intro _; rfl) : WT X e L m QT :=
  wt_of (pt_val (peU e) he) fun w σ H rp => h.go rp fun w1 v x m1 H1 l1 r1 d1 ⟨c, e1, q⟩ => by
    subst e1
    exact ⟨c, dp_bool d1, w1, m1, l1, r1.toHR, q⟩
theorem ww_and1 (h : WT X a L m QT) : WW X (.BoolOp .And [a] pos) L m QT := fun w σ H r wh pins s I => (pw_and1 (ptU a)).run wh pins s σ H _ I (h w σ H r)
theorem ww_or1 (h : WT X a L m QT) : WW X (.BoolOp .Or [a] pos) L m QT := fun w σ H r wh pins s I => (pw_or1 (ptU a)).run wh pins s σ H _ I (h w σ H r)
theorem ww_and (h : WT X a L m fun c m1 => (c = true → WW X (.BoolOp .And (b :: rest) pos) L m1 QT) ∧ (c = false → QT false m1)) : WW X (.BoolOp .And (a :: b :: rest) pos) L m QT := fun w σ H r wh pins s I =>
  (pw_and (ptU a) (pwU _)).run wh pins s σ H _ I (h.go r fun w1 c m1 H1 l1 r1 ⟨q1, q2⟩ => by
    cases c with
    | true =>
      rw [if_pos rfl]
      exact (q1 rfl).go r1 fun w2 d m2 H2 l2 r2 q => ⟨w2, m2, l1.trans l2, r2.toHR, q⟩
    | false =>
      rw [if_neg Bool.false_ne_true]
      exact ⟨w1, m1, l1, r1.toHR, q2 rfl⟩)
theorem ww_or (h : WT X a L m fun c m1 => (c = true → QT true m1) ∧ (c = false → WW X (.BoolOp .Or (b :: rest) pos) L m1 QT)) : WW X (.BoolOp .Or (a :: b :: rest) pos) L m QT := fun w σ H r wh pins s I =>
  (pw_or (ptU a) (pwU _)).run wh pins s σ H _ I (h.go r fun w1 c m1 H1 l1 r1 ⟨q1, q2⟩ => by
    cases c with
    | true =>
      rw [if_pos rfl]
      exact ⟨w1, m1, l1, r1.toHR, q1 rfl⟩
    | false =>
      rw [if_neg Bool.false_ne_true]
      exact (q2 rfl).go r1 fun w2 d m2 H2 l2 r2 q => ⟨w2, m2, l1.trans l2, r2.toHR, q⟩)
theorem wt_not (h : WT X a L m fun c m1 => QT (!c) m1) : WT X (.UnaryOp .Not a pos) L m QT :=
  wt_of (pt_not (ptU a)) fun w σ H r => h.go r fun w1 c m1 H1 l1 r1 q => ⟨w1, m1, l1, r1.toHR, q⟩
theorem we_one {op : BoolOp} (h : WE X a L m Q) : WE X (.BoolOp op [a] pos) L m Q := we_of (pe_one (peU a)) fun w σ H r => h w σ H r
theorem we_andV (h : WE X a L m fun x m1 => ∃ c, x = .bool c ∧ (c = true → WE X (.BoolOp .And (b :: rest) pos) L m1 Q) ∧ (c = false → Q (.bool false) m1)) : WE X (.BoolOp .And (a :: b :: rest) pos) L m Q :=
  we_of (pe_and (peU a) (peU _)) fun w σ H r => h.go r fun w1 v x m1 H1 l1 r1 d1 ⟨c, e1, q1, q2⟩ => by
    subst e1
    refine ⟨c, dp_bool d1, ?_⟩
    cases c with
    | true =>
      rw [if_pos rfl]
      exact (q1 rfl).go r1 fun w2 u y m2 H2 l2 r2 d2 q => ⟨w2, y, m2, l1.trans l2, r2.toHR, d2, q⟩
    | false =>
      rw [if_neg Bool.false_ne_true]
      exact ⟨w1, _, m1, l1, r1.toHR, .bl false, q2 rfl⟩
theorem we_neg (h : WE X a L m fun x m1 => ∃ i, x = .int i ∧ Q (.int (-i)) m1) : WE X (.UnaryOp .USub a pos) L m Q :=
  we_of (pe_un un_neg (peU a)) fun w σ H r => h.go r fun w1 v x m1 H1 l1 r1 d1 ⟨i, e1, q⟩ => by
    subst e1
    exact ⟨i, dp_int d1, w1, _, m1, l1, r1.toHR, .int _, q⟩
theorem we_if (h : WT X c L m fun t m1 => (t = true → WE X a L m1 Q) ∧ (t = false → WE X b L m1 Q)) : WE X (.IfExp c a b pos) L m Q :=
  we_of (pe_ifExp (ptU c) (peU a) (peU b)) fun w σ H r => h.go r fun w1 t m1 H1 l1 r1 ⟨q1, q2⟩ => by
    cases t with
    | true =>
      rw [if_pos rfl]
      exact (q1 rfl).go r1 fun w2 u y m2 H2 l2 r2 d2 q => ⟨w2, y, m2, l1.trans l2, r2.toHR, d2, q⟩
    | false =>
      rw [if_neg Bool.false_ne_true]
      exact (q2 rfl).go r1 fun w2 u y m2 H2 l2 r2 d2 q => ⟨w2, y, m2, l1.trans l2, r2.toHR, d2, q⟩
theorem wf_if {Q : List PyData → Mem → Prop} (h : WT X c L m fun t m1 => (t = true → WF X a L m1 Q) ∧ (t = false → WF X b L m1 Q)) : WF X (.IfExp c a b pos) L m Q :=
  wf_of (pe_ifExp (ptU c) (peU a) (peU b)) fun w σ H r => h.go r fun w1 t m1 H1 l1 r1 ⟨q1, q2⟩ => by
    cases t with
    | true =>
      rw [if_pos rfl]
      exact tU_mono ((q1 rfl) _ _ _ r1) fun v H' q => q.back l1
    | false =>
      rw [if_neg Bool.false_ne_true]
      exact tU_mono ((q2 rfl) _ _ _ r1) fun v H' q => q.back l1
theorem we_wf (h : WF X e L m fun xs m1 => Q (.list xs) m1) : WE X e L m Q := fun w σ H r => tU_mono (h w σ H r) fun v H' ⟨w', xs, m', p, vs, e1, l, hr, hp, u, d, q⟩ => by
  obtain ⟨l2, hr2⟩ := hr.freeze u hp
  exact ⟨_, _, m', l.trans l2, hr2, e1 ▸ .lst upd_same (dpa_mono l2.sub _ _ d), q⟩
theorem wa_nil {Q : List PV → Mem → Prop} (q : Q [] m) : WA X [] L m Q := fun w σ H r pos pins s I => pa_nil.run pos pins s σ H _ I ⟨w, [], m, .refl w, r.toHR, .nil, q⟩
theorem wa_cons {Q : List PV → Mem → Prop} (h : WV X e L m fun x m1 => WA X es L m1 fun xs m2 => Q (x :: xs) m2) (hs : starEach (e :: es) X.env = (false, eval e X.env) :: starEach es X.env := by rfl) : WA X (e :: es) L m Q := fun w σ H r pos pins s I =>
  (pa_cons (peU e) (paU es) hs).run pos pins s σ H _ I (h.go r fun w1 v x m1 H1 l1 r1 d1 q1 => q1.go r1 fun w2 vs xs m2 H2 l2 r2 d2 q2 => ⟨w2, x :: xs, m2, l1.trans l2, r2.toHR, .cons (d1.mono l2.toLe0) d2, q2⟩)
theorem wa_d {Q : List PV → Mem → Prop} (h : WE X e L m fun x m1 => WA X es L m1 fun xs m2 => Q (.d x :: xs) m2) (hs : starEach (e :: es) X.env = (false, eval e X.env) :: starEach es X.env := by rfl) : WA X (e :: es) L m Q := wa_cons (wv_we h) hs
def WD (X : Cx) (es : List Expr) (L : Loc) (m : Mem) (Q : List PyData → Mem → Prop) : Prop := WA X es L m fun ps m' => ∃ xs, ps = xs.map .d ∧ Q xs m'
theorem wd_nil {Q : List PyData → Mem → Prop} (q : Q [] m) : WD X [] L m Q := wa_nil ⟨[], rfl, q⟩
theorem wd_cons {Q : List PyData → Mem → Prop} (h : WE X e L m fun x m1 => WD X es L m1 fun xs m2 => Q (x :: xs) m2) (hs : starEach (e :: es) X.env = (false, eval e X.env) :: starEach es X.env := by rfl) : WD X (e :: es) L m Q :=
  wa_d (h.mono fun x m1 q w σ H r => tUA_mono (q w σ H r) fun vs H' ⟨w', ps, m', l, hr, d, xs, e1, q⟩ => ⟨w', ps, m', l, hr, d, x :: xs, by rw [e1]; rfl, q⟩) hs
theorem rvs_d {K : PySem.W.Frag} {w : Wd} : ∀ {vs : List V} {xs : List PyData}, RVs K w vs (xs.map .d) → DPs K w.F vs xs
  | _, [], h => by cases h; exact .nil
  | _, x :: xs, h => by
    cases h with
    | cons h1 h2 => exact .cons h1 (rvs_d h2)
theorem WD.go {Q : List PyData → Mem → Prop} (h : WD X es L m Q) {w : Wd} {σ : L2.St} {H : Hp} (r : Rep X.K w L m σ H) {R : List V → Hp → Prop} (k : ∀ (w' : Wd) (vs : List V) (xs : List PyData) (m' : Mem) (H' : Hp), w.le w' → Rep X.K w' L m' σ H' → DPs X.K w'.F vs xs → Q xs m' → R vs H') : tUA X es σ H R :=
  WA.go h r fun w' vs ps m' H' l r' d ⟨xs, e1, q⟩ => k w' vs xs m' H' l r' (rvs_d (e1 ▸ d)) q
theorem we_tup {x1 : Nat} (h : WD X es L m fun xs m1 => xs.length ≤ sizeLine ∧ Q (.tuple xs) m1) : WE X (.Tuple es x1 pos) L m Q :=
  we_of (pe_tup (paU es)) fun w σ H r => h.go r fun w1 vs xs m1 H1 l1 r1 d1 ⟨hz, q⟩ => ⟨by rw [dpa_len d1]; exact hz, fun p hp => by
    obtain ⟨l2, hr2⟩ := r1.toHR.fnew (o := .tup vs) hp
    exact ⟨_, _, m1, l1.trans l2, hr2, .tup (.of upd_same) (dpa_mono l2.sub _ _ d1), q⟩⟩
theorem wf_lst {Q : List PyData → Mem → Prop} (h : WD X es L m fun xs m1 => xs.length ≤ sizeLine ∧ Q xs m1) : WF X (.List es pos) L m Q :=
  wf_of (pe_lst (paU es)) fun w σ H r => h.go r fun w1 vs xs m1 H1 l1 r1 d1 ⟨hz, q⟩ => ⟨by rw [dpa_len d1]; exact hz, fun p hp => by
    obtain ⟨hr2, u⟩ := r1.toHR.un (o := .lst vs) hp
    exact ⟨w1, xs, m1, p, vs, rfl, l1, hr2, upd_same, u, d1, q⟩⟩
def seqP (m : Mem) : PV → Option (List PyData)
  | .d (.list xs) => some xs
  | .d (.tuple xs) => some xs
  | .ref k => match m[k]? with
    | some (some (.lst xs)) => some xs
    | _ => none
  | .raw xs => some xs
  | _ => none
theorem seqP_ok {K : PySem.W.Frag} {w : Wd} {H : Hp} {v : V} {p : PV} {xs : List PyData} (hr : HR K w m H) (r : RV K w v p) (h : seqP m p = some xs) : ∃ a vs, v = .ref a ∧ (SqL K H a vs ∨ SqT K H a vs) ∧ DPs K w.F vs xs := by
  cases p with
  | d x =>
    cases x with
    | list ds =>
      have e : ds = xs := Option.some.inj h
      subst e
      obtain ⟨a, vs, e1, e2, d⟩ := dp_list r
      exact ⟨a, vs, e1, .inl (.of (hr.fz _ _ e2)), d⟩
    | tuple ds =>
      have e : ds = xs := Option.some.inj h
      subst e
      obtain ⟨a, vs, e1, e2, d⟩ := dp_tuple r
      exact ⟨a, vs, e1, .inr (hr.fz.sqt e2), d⟩
    | none => cases h
    | bool _ => cases h
    | int _ => cases h
    | str _ => cases h
    | dict _ => cases h
  | ref k =>
    have h' : (match m[k]? with | some (some (.lst xs)) => some xs | _ => none) = some xs := h
    split at h'
    · rename_i ys hk
      cases h'
      obtain ⟨a, o, ea, eo, vs, rfl, d⟩ := hr.cell k _ hk
      obtain ⟨a', ea', rfl⟩ := r
      rw [ea] at ea'; cases ea'
      exact ⟨a, vs, rfl, .inl (.of eo), d⟩
    · cases h'
  | raw u =>
    cases h
    obtain ⟨a, vs, e, s, d⟩ := r
    exact ⟨a, vs, e, .inl (hr.fz.sql s), d⟩
theorem atI_dpa {K : PySem.W.Frag} {F : Hp} {vs : List V} {xs : List PyData} {i : Int} {x : PyData} (d : DPs K F vs xs) (h : atI xs i = some x) : ∃ v, atI vs i = some v ∧ DP K F v x := by
  unfold atI at h ⊢
  rw [dpa_len d]
  cases q : ixN xs.length i with
  | none => rw [q] at h; cases h
  | some j =>
    rw [q] at h
    exact dpa_get d h
theorem we_ix (h : WV X a L m fun p m1 => WE X b L m1 fun y m2 => ∃ i xs x, y = .int i ∧ seqP m2 p = some xs ∧ atI xs i = some x ∧ Q x m2) (hs : PlainIx b := by exact fun _ _ => rfl) : WE X (.Subscript a b pos) L m Q :=
  we_of (pe_ix ix_seq (peU a) (peU b) hs) fun w σ H r => h.go r fun w1 v p m1 H1 l1 r1 d1 q1 => q1.go r1 fun w2 u y m2 H2 l2 r2 d2 ⟨i, xs, x, e1, e2, e3, q⟩ => by
    subst e1
    obtain ⟨ad, vs, rfl, hh, d⟩ := seqP_ok r2.toHR (d1.mono l2.toLe0) e2
    obtain ⟨z, ez, dz⟩ := atI_dpa d e3
    rcases hh with hh | hh
    · exact .inl ⟨ad, vs, i, z, rfl, dp_int d2, hh, ez, w2, x, m2, l1.trans l2, r2.toHR, dz, q⟩
    · exact .inr (.inl ⟨ad, vs, i, z, rfl, dp_int d2, hh, ez, w2, x, m2, l1.trans l2, r2.toHR, dz, q⟩)
theorem wo_none {Q : Option Int → Mem → Prop} (q : Q none m) : WO X none L m Q := fun w σ H r pins s I => po_none.run pins s σ H _ I ⟨w, m, .refl w, r.toHR, q⟩
theorem wo_some {Q : Option Int → Mem → Prop} (h : WE X e L m fun x m1 => ∃ i, x = .int i ∧ Q (some i) m1) : WO X (some e) L m Q := fun w σ H r pins s I =>
  (po_some (peU e)).run pins s σ H _ I (h.go r fun w1 v x m1 H1 l1 r1 d1 ⟨i, e1, q⟩ => by
    subst e1
    exact ⟨i, dp_int d1, w1, m1, l1, r1.toHR, q⟩)
def cutD (xs : List PyData) (lo hi : Option Int) : List PyData := (xs.drop (HT.sIx xs.length 0 lo)).take (HT.sIx xs.length xs.length hi - HT.sIx xs.length 0 lo)
theorem cut_dpa {K : PySem.W.Frag} {F : Hp} {vs : List V} {xs : List PyData} (d : DPs K F vs xs) (lo hi : Option Int) : DPs K F (cutV vs lo hi) (cutD xs lo hi) := by
  unfold cutV cutD
  rw [dpa_len d]
  exact dpa_take _ (dpa_drop _ d)
def lstP (m : Mem) : PV → Option (List PyData)
  | .d (.list xs) => some xs
  | .ref k => match m[k]? with
    | some (some (.lst xs)) => some xs
    | _ => none
  | _ => none
theorem lstP_ok {K : PySem.W.Frag} {w : Wd} {H : Hp} {v : V} {p : PV} {xs : List PyData} (hr : HR K w m H) (r : RV K w v p) (h : lstP m p = some xs) : ∃ a vs, v = .ref a ∧ H a = some (.lst vs) ∧ DPs K w.F vs xs := by
  cases p with
  | d x =>
    cases x with
    | list ds =>
      have e : ds = xs := Option.some.inj h
      subst e
      obtain ⟨a, vs, e1, e2, d⟩ := dp_list r
      exact ⟨a, vs, e1, hr.fz _ _ e2, d⟩
    | tuple ds => cases h
    | none => cases h
    | bool _ => cases h
    | int _ => cases h
    | str _ => cases h
    | dict _ => cases h
  | ref k =>
    have h' : (match m[k]? with | some (some (.lst xs)) => some xs | _ => none) = some xs := h
    split at h'
    · rename_i ys hk
      cases h'
      obtain ⟨a, o, ea, eo, vs, rfl, d⟩ := hr.cell k _ hk
      obtain ⟨a', ea', rfl⟩ := r
      rw [ea] at ea'; cases ea'
      exact ⟨a, vs, rfl, eo, d⟩
    · cases h'
  | raw u => cases h
theorem wf_cat {Q : List PyData → Mem → Prop} (h : WV X a L m fun p m1 => WV X b L m1 fun p' m2 => ∃ xs ys, lstP m2 p = some xs ∧ lstP m2 p' = some ys ∧ xs.length + ys.length ≤ sizeLine ∧ Q (xs ++ ys) m2) : WF X (.BinOp a .Add b pos) L m Q :=
  wf_of (pe_op op_cat (peU a) (peU b)) fun w σ H r => h.go r fun w1 v p m1 H1 l1 r1 d1 q1 => q1.go r1 fun w2 u p' m2 H2 l2 r2 d2 ⟨xs, ys, e1, e2, hz, q⟩ => by
    obtain ⟨a1, vs, rfl, hh, d⟩ := lstP_ok r2.toHR (d1.mono l2.toLe0) e1
    obtain ⟨a2, us, rfl, hh', d'⟩ := lstP_ok r2.toHR d2 e2
    refine ⟨a1, a2, vs, us, rfl, rfl, hh, hh', by rw [dpa_len d, dpa_len d']; exact hz, fun p hp => ?_⟩
    obtain ⟨hr2, u⟩ := r2.toHR.un (o := .lst (vs ++ us)) hp
    exact ⟨w2, _, m2, p, _, rfl, l1.trans l2, hr2, upd_same, u, dpa_app d d', q⟩
theorem sqv {K : PySem.W.Frag} {H : Hp} {a : Addr} {vs : List V} (h : SqL K H a vs ∨ SqT K H a vs) : SqL K H a vs ∨ SqT K H a vs := h
theorem we_len {p : Pos} (hm : X.mg "len" = none) (h : WV X a L m fun p m1 => ∃ xs, seqP m1 p = some xs ∧ Q (.int xs.length) m1) (hg : Gl X "len" := by rfl) (he : starEach [a] X.env = (false, eval a X.env) :: starEach [] X.env := by rfl)
    (hpl : (backTo pos (starEach [] X.env)).any (·.1) = false := by rfl) : WE X (.Call (.Name "len" p) [a] [] pos) L m Q :=
  we_of (pe_callB call_len_seq hg hm boot_len (paU [a]) (he := he) (hpl := hpl)) fun w σ H r => WA.go (X := X) (Q := fun ps m1 => ∃ p, ps = [p] ∧ ∃ xs, seqP m1 p = some xs ∧ Q (.int xs.length) m1) (wa_cons (h := fun w σ H r => tU_mono (h w σ H r) fun _ _ ⟨w', x, m', l, hr, d, q⟩ => ⟨w', x, m', l, hr, d, wa_nil ⟨x, rfl, q⟩⟩) he) r fun w1 vs ps m1 H1 l1 r1 d1 ⟨p, e1, xs, e2, q⟩ => by
    subst e1
    cases d1 with
    | cons d1 d2 =>
      cases d2
      obtain ⟨ad, vs, rfl, hh, d⟩ := seqP_ok r1.toHR d1 e2
      refine ⟨ad, vs, rfl, sqv hh, w1, _, m1, l1, r1.toHR, .int _, ?_⟩
      rw [dpa_len d]
      exact q
theorem wa1 {Q : PV → Mem → Prop} (h : WV X a L m Q) (he : starEach [a] X.env = (false, eval a X.env) :: starEach [] X.env) : WA X [a] L m fun ps m1 => ∃ p, ps = [p] ∧ Q p m1 :=
  wa_cons (h := fun w σ H r => tU_mono (h w σ H r) fun _ _ ⟨w', x, m', l, hr, d, q⟩ => ⟨w', x, m', l, hr, d, wa_nil ⟨x, rfl, q⟩⟩) he
theorem wd1 {Q : PyData → Mem → Prop} (h : WE X a L m Q) (he : starEach [a] X.env = (false, eval a X.env) :: starEach [] X.env) : WA X [a] L m fun ps m1 => ∃ x, ps = [.d x] ∧ Q x m1 :=
  wa_d (h := h.mono fun x m1 q => wa_nil ⟨x, rfl, q⟩) he
theorem wd2 {Q : PyData → PyData → Mem → Prop} (h : WE X a L m fun x m1 => WE X b L m1 fun y m2 => Q x y m2) (he : starEach [a, b] X.env = (false, eval a X.env) :: starEach [b] X.env) (he2 : starEach [b] X.env = (false, eval b X.env) :: starEach [] X.env) : WA X [a, b] L m fun ps m1 => ∃ x y, ps = [.d x, .d y] ∧ Q x y m1 :=
  wa_d (h := h.mono fun x m1 h => wa_d (h := h.mono fun y m2 q => wa_nil ⟨x, y, rfl, q⟩) he2) he
theorem rvs1 {K : PySem.W.Frag} {w : Wd} {vs : List V} {p : PV} (h : RVs K w vs [p]) : ∃ v, vs = [v] ∧ RV K w v p := by
  cases h with
  | cons h1 h2 => cases h2; exact ⟨_, rfl, h1⟩
theorem rvs2 {K : PySem.W.Frag} {w : Wd} {vs : List V} {p q : PV} (h : RVs K w vs [p, q]) : ∃ v u, vs = [v, u] ∧ RV K w v p ∧ RV K w u q := by
  cases h with
  | cons h1 h2 =>
    obtain ⟨u, e, r⟩ := rvs1 h2
    exact ⟨_, u, by rw [e], h1, r⟩
theorem we_max2 {p : Pos} (hc : X.calm = true) (hm : X.mg "max" = none) (h : WE X a L m fun x m1 => WE X b L m1 fun y m2 => AskI x y fun i j => Q (.int (if j > i then j else i)) m2) (hg : Gl X "max" := by rfl) (he : starEach [a, b] X.env = (false, eval a X.env) :: starEach [b] X.env := by rfl)
    (he2 : starEach [b] X.env = (false, eval b X.env) :: starEach [] X.env := by rfl) (hpl : (backTo pos (starEach [b] X.env)).any (·.1) = false := by rfl) : WE X (.Call (.Name "max" p) [a, b] [] pos) L m Q :=
  we_of (pe_callB (call_max2 hc) hg hm (by decide +kernel) (paU [a, b]) (he := he) (hpl := hpl)) fun w σ H r => WA.go (wd2 h he he2) r fun w1 vs ps m1 H1 l1 r1 d1 ⟨x, y, e1, i, j, e2, e3, q⟩ => by
    subst e1; subst e2; subst e3
    obtain ⟨v, u, rfl, d1, d2⟩ := rvs2 d1
    exact ⟨i, j, by rw [dp_int d1, dp_int d2], w1, _, m1, l1, r1.toHR, .int _, q⟩
theorem we_min2 {p : Pos} (hc : X.calm = true) (hm : X.mg "min" = none) (h : WE X a L m fun x m1 => WE X b L m1 fun y m2 => AskI x y fun i j => Q (.int (if j < i then j else i)) m2) (hg : Gl X "min" := by rfl) (he : starEach [a, b] X.env = (false, eval a X.env) :: starEach [b] X.env := by rfl)
    (he2 : starEach [b] X.env = (false, eval b X.env) :: starEach [] X.env := by rfl) (hpl : (backTo pos (starEach [b] X.env)).any (·.1) = false := by rfl) : WE X (.Call (.Name "min" p) [a, b] [] pos) L m Q :=
  we_of (pe_callB (call_min2 hc) hg hm (by decide +kernel) (paU [a, b]) (he := he) (hpl := hpl)) fun w σ H r => WA.go (wd2 h he he2) r fun w1 vs ps m1 H1 l1 r1 d1 ⟨x, y, e1, i, j, e2, e3, q⟩ => by
    subst e1; subst e2; subst e3
    obtain ⟨v, u, rfl, d1, d2⟩ := rvs2 d1
    exact ⟨i, j, by rw [dp_int d1, dp_int d2], w1, _, m1, l1, r1.toHR, .int _, q⟩
theorem we_int1 {p : Pos} (hm : X.mg "int" = none) (h : WE X a L m fun x m1 => (∃ i, x = .int i ∧ Q (.int i) m1) ∨ (∃ k, x = .bool k ∧ Q (.int (if k then 1 else 0)) m1)) (hg : Gl X "int" := by rfl) (he : starEach [a] X.env = (false, eval a X.env) :: starEach [] X.env := by rfl)
    (hpl : (backTo pos (starEach [] X.env)).any (·.1) = false := by rfl) : WE X (.Call (.Name "int" p) [a] [] pos) L m Q :=
  we_of (pe_callTy call_int1 hg hm (by decide +kernel) (paU [a]) (he := he) (hpl := hpl)) fun w σ H r => WA.go (wd1 h he) r fun w1 vs ps m1 H1 l1 r1 d1 ⟨x, e1, q⟩ => by
    subst e1
    obtain ⟨v, rfl, d2⟩ := rvs1 d1
    rcases q with ⟨i, e, q⟩ | ⟨k, e, q⟩
    · subst e
      exact .inl ⟨i, by rw [dp_int d2], w1, _, m1, l1, r1.toHR, .int _, q⟩
    · subst e
      exact .inr ⟨k, by rw [dp_bool d2], w1, _, m1, l1, r1.toHR, .int _, q⟩
theorem we_tuple1 {p : Pos} (hm : X.mg "tuple" = none) (h : WV X a L m fun p m1 => ∃ xs, seqP m1 p = some xs ∧ Q (.tuple xs) m1) (hg : Gl X "tuple" := by rfl) (he : starEach [a] X.env = (false, eval a X.env) :: starEach [] X.env := by rfl)
    (hpl : (backTo pos (starEach [] X.env)).any (·.1) = false := by rfl) : WE X (.Call (.Name "tuple" p) [a] [] pos) L m Q :=
  we_of (pe_callTy call_tuple_of hg hm (by decide +kernel) (paU [a]) (he := he) (hpl := hpl)) fun w σ H r => WA.go (wa1 h he) r fun w1 vs ps m1 H1 l1 r1 d1 ⟨p, e1, xs, e2, q⟩ => by
    subst e1
    obtain ⟨v, rfl, d2⟩ := rvs1 d1
    by_cases ht : p = .d (.tuple xs)
    · subst ht
      obtain ⟨ad, vs, e3, e4, d⟩ := dp_tuple d2
      subst e3
      exact ⟨ad, vs, rfl, .inr ⟨r1.toHR.fz.sqt e4, w1, _, m1, l1, r1.toHR, d2, q⟩⟩
    · have e3 : ∃ ad vs, v = .ref ad ∧ SqL X.K H1 ad vs ∧ DPs X.K w1.F vs xs := by
        have key : ∀ p', p' = p → lstP m1 p' = some xs → ∃ ad vs, v = .ref ad ∧ SqL X.K H1 ad vs ∧ DPs X.K w1.F vs xs := fun p' e3 e4 => by
          subst e3
          obtain ⟨ad, vs, e5, hh, d⟩ := lstP_ok r1.toHR d2 e4
          exact ⟨ad, vs, e5, .of hh, d⟩
        cases p with
        | d x =>
          cases x <;> first | exact key _ rfl e2 | (cases e2; exact absurd rfl ht) | cases e2
        | ref k => exact key _ rfl e2
        | raw u =>
          cases e2
          obtain ⟨a, vs, e, s, d⟩ := d2
          exact ⟨a, vs, e, r1.toHR.fz.sql s, d⟩
      obtain ⟨ad, vs, rfl, hh, d⟩ := e3
      refine ⟨ad, vs, rfl, .inl ⟨hh, fun l hl => ?_⟩⟩
      obtain ⟨l2, hr2⟩ := r1.toHR.fnew (o := .tup vs) hl
      exact ⟨_, _, m1, l1.trans l2, hr2, .tup (.of upd_same) (dpa_mono l2.sub _ _ d), q⟩
theorem wf_list1 {p : Pos} {Q : List PyData → Mem → Prop} (hm : X.mg "list" = none) (h : WV X a L m fun p m1 => ∃ xs, seqP m1 p = some xs ∧ Q xs m1) (hg : Gl X "list" := by rfl) (he : starEach [a] X.env = (false, eval a X.env) :: starEach [] X.env := by rfl)
    (hpl : (backTo pos (starEach [] X.env)).any (·.1) = false := by rfl) : WF X (.Call (.Name "list" p) [a] [] pos) L m Q :=
  wf_of (pe_callTy call_list_of hg hm (by decide +kernel) (paU [a]) (he := he) (hpl := hpl)) fun w σ H r => WA.go (wa1 h he) r fun w1 vs ps m1 H1 l1 r1 d1 ⟨p, e1, xs, e2, q⟩ => by
    subst e1
    obtain ⟨v, rfl, d2⟩ := rvs1 d1
    obtain ⟨ad, vs, rfl, hh, d⟩ := seqP_ok r1.toHR d2 e2
    refine ⟨ad, vs, rfl, sqv hh, fun p hp => ?_⟩
    obtain ⟨hr2, u⟩ := r1.toHR.un (o := .lst vs) hp
    exact ⟨w1, _, m1, p, _, rfl, l1, hr2, upd_same, u, d, q⟩
def rgD (a b : Int) : List PyData := (List.range (b - a).toNat).map fun i => PyData.int (a + (i : Nat))
theorem rg_dpa {K : PySem.W.Frag} {F : Hp} (a b : Int) : DPs K F (rgV a b) (rgD a b) := by
  unfold rgV rgD
  generalize List.range (b - a).toNat = l
  induction l with
  | nil => exact .nil
  | cons i l ih => exact .cons (.int _) ih
theorem wf_listRg1 {p q pq : Pos} {Q : List PyData → Mem → Prop} (hc : X.calm = true) (hm : X.mg "list" = none) (hmr : X.mg "range" = none) (h : WE X a L m fun x m1 => ∃ n, x = .int n ∧ RgOk 0 n ∧ Q (rgD 0 n) m1) (hg : Gl X "list" := by rfl) (hgr : Gl X "range" := by rfl)
    (na : starEach [a] X.env = (false, eval a X.env) :: starEach [] X.env := by rfl) (na2 : starEach [.Call (.Name "range" q) [a] [] pq] X.env = (false, eval (.Call (.Name "range" q) [a] [] pq) X.env) :: starEach [] X.env := by rfl) : WF X (.Call (.Name "list" p) [.Call (.Name "range" q) [a] [] pq] [] pos) L m Q :=
  wf_of (pe_listRg hc hg hm (prg_1 hgr hmr (peU a) na) na2) fun w σ H r => h.go r fun w1 v x m1 H1 l1 r1 d1 ⟨n, e1, ok, qq⟩ => by
    subst e1
    refine ⟨n, dp_int d1, ok, fun p hp => ?_⟩
    obtain ⟨hr2, u⟩ := r1.toHR.un (o := .lst (rgV 0 n)) hp
    exact ⟨w1, _, m1, p, _, rfl, l1, hr2, upd_same, u, rg_dpa 0 n, qq⟩
theorem wf_listRg2 {p q pq : Pos} {Q : List PyData → Mem → Prop} (hc : X.calm = true) (hm : X.mg "list" = none) (hmr : X.mg "range" = none) (h : WE X a L m fun x m1 => WE X b L m1 fun y m2 => AskI x y fun i j => RgOk i j ∧ Q (rgD i j) m2) (hg : Gl X "list" := by rfl) (hgr : Gl X "range" := by rfl)
    (na : starEach [a, b] X.env = (false, eval a X.env) :: starEach [b] X.env := by rfl) (nb : starEach [b] X.env = (false, eval b X.env) :: starEach [] X.env := by rfl) (na2 : starEach [.Call (.Name "range" q) [a, b] [] pq] X.env = (false, eval (.Call (.Name "range" q) [a, b] [] pq) X.env) :: starEach [] X.env := by rfl) (hp : (backTo pq (starEach [b] X.env)).any (·.1) = false := by rfl) : WF X (.Call (.Name "list" p) [.Call (.Name "range" q) [a, b] [] pq] [] pos) L m Q :=
  wf_of (pe_listRg hc hg hm (prg_2 hgr hmr (peU a) (peU b) na nb hp) na2) fun w σ H r => h.go r fun w1 v x m1 H1 l1 r1 d1 q1 => q1.go r1 fun w2 u y m2 H2 l2 r2 d2 ⟨i, j, e1, e2, ok, qq⟩ => by
    subst e1; subst e2
    refine ⟨i, j, dp_int (dp_mono l2.sub _ _ d1), dp_int d2, ok, fun p hp => ?_⟩
    obtain ⟨hr2, u⟩ := r2.toHR.un (o := .lst (rgV i j)) hp
    exact ⟨w2, _, m2, p, _, rfl, l1.trans l2, hr2, upd_same, u, rg_dpa i j, qq⟩
end
end PP
namespace PP
open PySem PySem.Spec PyProof.Rows L2
section
variable {X : Cx} {L : Loc} {m : Mem} {e a b c : Expr} {es : List Expr} {pos : Pos} {D : PEnds} {st : Stmt} {rest body : List Stmt}
theorem RV.backE {K : PySem.W.Frag} {w w1 : Wd} (l : w.le w1) (D : PEnds) : (∀ σ H, (toE K w1 D).nx σ H → (toE K w D).nx σ H) ∧ (∀ v H, (toE K w1 D).rt v H → (toE K w D).rt v H) ∧ (∀ σ H, (toE K w1 D).bk σ H → (toE K w D).bk σ H) ∧ (∀ σ H, (toE K w1 D).ct σ H → (toE K w D).ct σ H) :=
  ⟨fun _ _ h => POS.back l h, fun _ _ h => POV.back l h, fun _ _ h => POS.back l h, fun _ _ h => POS.back l h⟩
theorem tUSs_back {w w1 : Wd} {σ : L2.St} {H : Hp} (l : w.le w1) (h : tUSs X body (toE X.K w1 D) σ H) : tUSs X body (toE X.K w D) σ H := let ⟨a, b, c, d⟩ := RV.backE l D; tUSs_mono h a b c d
theorem WSs.imp {D' : PEnds} (h : WSs X body L m D) (n : ∀ L m, D.nx L m → D'.nx L m) (r : ∀ p m, D.rt p m → D'.rt p m) (b : ∀ L m, D.bk L m → D'.bk L m) (k : ∀ L m, D.ct L m → D'.ct L m) : WSs X body L m D' := fun w σ H rp =>
  tUSs_mono (h w σ H rp) (fun _ _ ⟨w', L, m, l, r', q⟩ => ⟨w', L, m, l, r', n _ _ q⟩) (fun _ _ ⟨w', p, m, l, hr, d, q⟩ => ⟨w', p, m, l, hr, d, r _ _ q⟩) (fun _ _ ⟨w', L, m, l, r', q⟩ => ⟨w', L, m, l, r', b _ _ q⟩) (fun _ _ ⟨w', L, m, l, r', q⟩ => ⟨w', L, m, l, r', k _ _ q⟩)
theorem WS.imp {D' : PEnds} (h : WS X st L m D) (n : ∀ L m, D.nx L m → D'.nx L m) (r : ∀ p m, D.rt p m → D'.rt p m) (b : ∀ L m, D.bk L m → D'.bk L m) (k : ∀ L m, D.ct L m → D'.ct L m) : WS X st L m D' := fun w σ H rp =>
  tUS_mono (h w σ H rp) (fun _ _ ⟨w', L, m, l, r', q⟩ => ⟨w', L, m, l, r', n _ _ q⟩) (fun _ _ ⟨w', p, m, l, hr, d, q⟩ => ⟨w', p, m, l, hr, d, r _ _ q⟩) (fun _ _ ⟨w', L, m, l, r', q⟩ => ⟨w', L, m, l, r', b _ _ q⟩) (fun _ _ ⟨w', L, m, l, r', q⟩ => ⟨w', L, m, l, r', k _ _ q⟩)
theorem wss_nil (q : D.nx L m) : WSs X [] L m D := wss_of pss_nil fun w σ H r => ⟨w, L, m, .refl w, r, q⟩
theorem wss_cons (h : WS X st L m { D with nx := fun L1 m1 => WSs X rest L1 m1 D }) : WSs X (st :: rest) L m D :=
  wss_of (pss_cons (psU st) (pssU rest)) fun w σ H r => tUS_mono (h w σ H r) (fun σ' H' ⟨w', L', m', l, r', q⟩ => tUSs_back l (q w' σ' H' r')) (fun _ _ h => h) (fun _ _ h => h) (fun _ _ h => h)
theorem wss_one (h : WS X st L m D) : WSs X [st] L m D := wss_of (pss_one (psU st)) fun w σ H r => h w σ H r
theorem ws_expr (h : WE X e L m fun _ m1 => D.nx L m1) (hs : swapsWith e none pos.line X.env = pure false := by rfl) : WS X (.Expr e pos) L m D := ws_of (ps_expr (peU e) hs) fun w σ H r => h.go r fun w1 v x m1 H1 l1 r1 d1 q => ⟨w1, L, m1, l1, r1, q⟩
theorem ws_ret (h : WE X e L m fun x m1 => D.rt (.d x) m1) : WS X (.Return (some e) pos) L m D := ws_of (ps_ret (peU e)) fun w σ H r => h.go r fun w1 v x m1 H1 l1 r1 d1 q => ⟨w1, .d x, m1, l1, r1.toHR, d1, q⟩
theorem ws_retF (h : WF X e L m fun xs m1 => D.rt (.ref m1.length) (m1 ++ [some (.lst xs)])) : WS X (.Return (some e) pos) L m D := ws_of (ps_ret (peU e)) fun w σ H r => h.go r fun w1 p vs xs m1 H1 l1 r1 hp u d q => by
  obtain ⟨l2, hr2⟩ := r1.toHR.adopt (c := .lst xs) u hp ⟨vs, rfl, d⟩
  refine ⟨_, .ref m1.length, _, l1.trans l2, hr2, ⟨p, ?_, rfl⟩, q⟩
  show (w1.A ++ [p])[m1.length]? = some p
  rw [← r1.toHR.len, List.getElem?_append_right (Nat.le_refl _)]; simp
theorem ws_if {t f : List Stmt} (h : WT X c L m fun k m1 => (k = true → WSs X t L m1 D) ∧ (k = false → WSs X f L m1 D)) : WS X (.If c t f pos) L m D :=
  ws_of (ps_if (ptU c) (pssU t) (pssU f)) fun w σ H r => h.go r fun w1 k m1 H1 l1 r1 ⟨q1, q2⟩ => by
    cases k with
    | true =>
      rw [if_pos rfl]
      exact tUSs_back l1 (q1 rfl _ _ _ r1)
    | false =>
      rw [if_neg Bool.false_ne_true]
      exact tUSs_back l1 (q2 rfl _ _ _ r1)
theorem Rep.set {K : PySem.W.Frag} {w : Wd} {σ : L2.St} {H : Hp} {i : Nat} {v : V} {p : PV} (r : Rep K w L m σ H) (d : RV K w v p) : Rep K w (L.set i (some p)) m (σ.set i (some v)) H :=
  ⟨r.toHR, by rw [List.length_set, List.length_set]; exact r.sl, fun j q e => by
    by_cases hj : i = j
    · subst hj
      by_cases hi : i < L.length
      · rw [List.getElem?_set_self hi] at e
        cases e
        exact ⟨v, by rw [List.getElem?_set_self (by rw [r.sl]; exact hi)], d⟩
      · rw [List.getElem?_eq_none (by rw [List.length_set]; omega)] at e; cases e
    · rw [List.getElem?_set_ne hj] at e
      obtain ⟨u, e1, r1⟩ := r.loc j q e
      exact ⟨u, by rw [List.getElem?_set_ne hj]; exact e1, r1⟩⟩
section
variable {i : Nat} {x : Str} {pos' : Pos}
theorem ws_set (i : Nat) (hN : X.N.Nodup) (hi : X.N[i]? = some x) (hx : L2.Loc X.env.scope x) (h : WE X e L m fun y m1 => D.nx (L.set i (some (.d y))) m1) (hs : swapsWith e (some (.Name x pos')) pos.line X.env = pure false := by rfl) (hf : X.fn x = true ∨ X.env.scope.names.lookup x = some .local := by first | exact .inl rfl | exact .inr rfl | assumption) :
    WS X (.Assign [.Name x pos'] e pos) L m D := ws_of (ps_set hN hi hx (peU e) hs hf) fun w σ H r => h.go r fun w1 v y m1 H1 l1 r1 d1 q => ⟨w1, _, m1, l1, r1.set (p := .d y) d1, q⟩
end
theorem wg_of {tg : Expr} {t : TG} {x : PyData} {Q : Loc → Mem → Prop} (h : PG X tg t) (k : ∀ (w : Wd) (σ : L2.St) (H : Hp) (v : V), Rep X.K w L m σ H → DP X.K w.F v x → t v σ H (POS X.K w Q)) : WG X tg x L m Q := fun w σ H v r d pins s u I rv => h.run pins s σ H v u _ I rv (k w σ H v r d)
theorem wg_name {x : Str} {y : PyData} {Q : Loc → Mem → Prop} (i : Nat) (hN : X.N.Nodup) (hi : X.N[i]? = some x) (hx : L2.Loc X.env.scope x) (q : Q (L.set i (some (.d y))) m) (hf : X.fn x = true ∨ X.env.scope.names.lookup x = some .local := by first | exact .inl rfl | exact .inr rfl | assumption) : WG X (.Name x pos) y L m Q :=
  wg_of (pg_name hN hi hx hf) fun w σ H v r d => ⟨w, _, m, .refl w, r.set (p := .d y) d, q⟩
end
def tUGs (X : Cx) (ts : List Expr) : TGs := fun vs σ H Q => ∀ (pins : List (Addr × Obj)) (s : Shared) (us : List Value), Inv X pins σ H s → Vals vs us → wpAny (model X.prog X.w) X.A (assignInOrder ((assignEach ts X.env).map (·.2)) us) (fun _ s' => ∃ σ' H', Inv X pins σ' H' s' ∧ Q σ' H') X.xe s
theorem pgsU {X : Cx} (ts : List Expr) : PGs X ts (tUGs X ts) := ⟨fun pins s _ _ _ us _ I r h => h pins s us I r⟩
def WGn (X : Cx) (es : List Expr) (xs : List PyData) (L : Loc) (m : Mem) (Q : Loc → Mem → Prop) : Prop := ∀ (w : Wd) (σ : L2.St) (H : Hp) (vs : List V), Rep X.K w L m σ H → DPs X.K w.F vs xs → tUGs X es vs σ H (POS X.K w Q)
section
variable {X : Cx} {L : Loc} {m : Mem} {e a b c tg : Expr} {es : List Expr} {pos : Pos} {D : PEnds} {st : Stmt} {rest body : List Stmt} {Q : Loc → Mem → Prop}
theorem wgn_nil (q : Q L m) : WGn X [] [] L m Q := fun w σ H vs r d pins s us I rv => pgs_nil.run pins s σ H vs us _ I rv (by cases d; exact ⟨rfl, w, L, m, .refl w, r, q⟩)
theorem wgn_cons {x : PyData} {xs : List PyData} (h : WG X e x L m fun L1 m1 => WGn X es xs L1 m1 Q) (hs : (assignEach (e :: es) X.env).map (·.2) = assign e X.env :: (assignEach es X.env).map (·.2) := by rfl) : WGn X (e :: es) (x :: xs) L m Q := fun w σ H vs r d pins s us I rv =>
  (pgs_cons (pgU e) (pgsU es) hs).run pins s σ H vs us _ I rv (by
    cases d with
    | cons d1 d2 =>
      refine ⟨_, _, rfl, tUG_mono (h w σ H _ r d1) fun σ' H' ⟨w', L', m', l, r', q⟩ => ?_⟩
      intro pins s us I rv
      exact thn (q w' σ' H' _ r' (dpa_mono l.sub _ _ d2) pins s us I rv) fun _ s' ⟨σ2, H2, I2, q2⟩ => ⟨σ2, H2, I2, POS.back l q2⟩)
theorem wg_tup {k n : Nat} {x : PyData} (hc : X.calm = true) (h : ∃ xs, x = .tuple xs ∧ xs.length = n ∧ WGn X es xs L m Q) (hn : (assignEach es X.env).length = n := by rfl) (hst : (assignEach es X.env).findIdx? (·.1) = none := by rfl) : WG X (.Tuple es k pos) x L m Q := by
  obtain ⟨xs, rfl, hl, h⟩ := h
  refine wg_of (pg_tup hc (pgsU es) hn hst) fun w σ H v r d => ?_
  obtain ⟨a, vs, rfl, e1, d1⟩ := dp_tuple d
  exact ⟨a, vs, rfl, r.toHR.fz.sqt e1, by rw [dpa_len d1]; exact hl, h w σ H vs r d1⟩
theorem wg_sub {x : PyData} (h : WV X a L m fun p m1 => WE X b L m1 fun y m2 => ∃ k i xs j, p = .ref k ∧ y = .int i ∧ m2[k]? = some (some (.lst xs)) ∧ ixN xs.length i = some j ∧ Q L (m2.set k (some (.lst (xs.set j x)))))
    (ha : ∀ v, assign (.Subscript a b pos) X.env v = (do
      let ov ← holding [v] (eval a X.env)
      let iv ← holding [v, ov] (eval b X.env)
      standAt pos
      holding [v, ov, iv] (setItem ov iv v)
      release [v, ov, iv] []) := by intro _; rfl) : WG X (.Subscript a b pos) x L m Q := by
  refine wg_of (pg_sub (peU a) (peU b) set_list ha) fun w σ H v r d => ?_
  refine h.go r fun w1 ov p m1 H1 l1 r1 d1 q1 => q1.go r1 fun w2 iv y m2 H2 l2 r2 d2 ⟨k, i, xs, j, e1, e2, e3, e4, q⟩ => ?_
  subst e1; subst e2
  obtain ⟨ad, o, ea, eo, vs, rfl, dv⟩ := r2.cell k _ e3
  obtain ⟨ad', ea', rfl⟩ := d1.mono l2.toLe0
  rw [ea] at ea'; cases ea'
  have dd := dp_mono (l1.trans l2).sub _ _ d
  have hr3 := r2.toHR.write (c' := .lst (xs.set j x)) (o := .lst (vs.set j v)) ea e3 ⟨_, rfl, dpa_set dd j dv⟩
  exact ⟨ad, vs, i, j, rfl, dp_int d2, eo, by rw [dpa_len dv]; exact e4, w2, L, _, l1.trans l2, r2.go (.refl w2) hr3, q⟩
theorem ws_asg (h : WE X e L m fun x m1 => WG X tg x L m1 D.nx) (hs : swapsWithSole [tg] e pos.line X.env = pure false := by rfl) (hw : swappedStores [tg] e X.env = pure none := by rfl)
    (h1 : (assignEach [tg] X.env).map (·.2) = [assign tg X.env] := by rfl) : WS X (.Assign [tg] e pos) L m D :=
  ws_of (ps_asg (peU e) (pgU tg) hs hw h1) fun w σ H r => h.go r fun w1 v x m1 H1 l1 r1 d1 q => tUG_mono (q w1 σ H1 v r1 d1) fun σ' H' q => POS.back l1 q
theorem ws_par {x y : Str} {px py pt : Pos} {kt k2 pt2} (i j : Nat) (hc : X.calm = true) (hN : X.N.Nodup) (hi : X.N[i]? = some x) (hj : X.N[j]? = some y) (hij : i ≠ j)
    (hx : X.env.scope.names.lookup x = some .local) (hy : X.env.scope.names.lookup y = some .local) (h : WA X [a, b] L m fun ps m1 => ∃ p q, ps = [p, q] ∧ D.nx ((L.set i (some p)).set j (some q)) m1)
    (hw : swappedStores [.Tuple [.Name x px, .Name y py] kt pt] (.Tuple [a, b] k2 pt2) X.env = pure (some [x, y]) := by rfl)
    (hs : swapsWithSole [.Tuple [.Name x px, .Name y py] kt pt] (.Tuple [a, b] k2 pt2) pos.line X.env = pure false := by rfl) :
    WS X (.Assign [.Tuple [.Name x px, .Name y py] kt pt] (.Tuple [a, b] k2 pt2) pos) L m D :=
  ws_of (ps_par hc hN hi hj hij hx hy (paU [a, b]) hw hs) fun w σ H r => h.go r fun w1 vs ps m1 H1 l1 r1 d1 ⟨p, q, e1, qq⟩ => by
    subst e1
    obtain ⟨v, u, rfl, d1, d2⟩ := rvs2 d1
    exact ⟨v, u, rfl, w1, _, m1, l1, (r1.set d1).set d2, qq⟩
structure JOk (K : PySem.W.Frag) (w1 : Wd) (J : It) (xs : List PyData) (g : Mem → Prop) : Prop where
  go : ∀ (w' : Wd) (m' : Mem) (H' : Hp) (i : Nat) (x : PyData), w1.le0 w' → HR K w' m' H' → g m' → xs[i]? = some x → J.go i H' ∧ ∀ v H'', J.yld i H' v H'' → ∃ w'', w'.le w'' ∧ HR K w'' m' H'' ∧ DP K w''.F v x
  stop : ∀ (w' : Wd) (m' : Mem) (H' : Hp) (i : Nat), w1.le0 w' → HR K w' m' H' → g m' → xs.length ≤ i → J.stop i H'
def WI (X : Cx) (tg iter : Expr) (L : Loc) (m : Mem) (Q : List PyData → (Mem → Prop) → Mem → Prop) : Prop := ∀ (w : Wd) (σ : L2.St) (H : Hp), Rep X.K w L m σ H → tUI X tg iter σ H fun J H1 => ∃ w1 m1 xs g, w.le w1 ∧ HR X.K w1 m1 H1 ∧ JOk X.K w1 J xs g ∧ Q xs g m1
theorem WI.go {iter : Expr} {Q : List PyData → (Mem → Prop) → Mem → Prop} (h : WI X tg iter L m Q) {w : Wd} {σ : L2.St} {H : Hp} (r : Rep X.K w L m σ H) {R : It → Hp → Prop} (k : ∀ (w' : Wd) (J : It) (xs : List PyData) (g : Mem → Prop) (m' : Mem) (H' : Hp), w.le w' → Rep X.K w' L m' σ H' → JOk X.K w' J xs g → Q xs g m' → R J H') : tUI X tg iter σ H R :=
  tUI_mono (h w σ H r) fun J H' ⟨w', m', xs, g, l, hr, j, q⟩ => k w' J xs g m' H' l (r.go l hr) j q
structure Wk (n : Nat) (L : Loc) (m : Mem) (L' : Loc) (m' : Mem) : Prop where
  ln : L'.length = L.length
  lc : ∀ (i : Nat) (p : PV), L'[i]? = some (some p) → L[i]? = some (some p) ∧ ∀ k, p = .ref k → k < m'.length
  mm : ∃ j, n ≤ j ∧ m' = m.take j
theorem Wk.refl {n : Nat} (h : n ≤ m.length) (hl : ∀ (i k : Nat), L[i]? = some (some (.ref k)) → k < m.length) : Wk n L m L m := ⟨rfl, fun i p e => ⟨e, fun k e2 => hl i k (e2 ▸ e)⟩, m.length, h, by rw [List.take_length]⟩
theorem Wk.rep {K : PySem.W.Frag} {n : Nat} {L' : Loc} {m' : Mem} {w : Wd} {σ : L2.St} {H : Hp} (k : Wk n L m L' m') (r : Rep K w L m σ H) : ∃ w', Rep K w' L' m' σ H ∧ ∀ w0 : Wd, w0.A.length ≤ n → w0.le w → w0.le w' := by
  obtain ⟨j, hj, rfl⟩ := k.mm
  refine ⟨w.cut j, ⟨r.toHR.cut j, by rw [k.ln]; exact r.sl, fun i p e => ?_⟩, fun w0 h0 l => l.cut (Nat.le_trans h0 hj)⟩
  obtain ⟨e1, hk⟩ := k.lc i p e
  obtain ⟨v, e2, d⟩ := r.loc i p e1
  refine ⟨v, e2, ?_⟩
  cases p with
  | d x => exact d
  | raw u => exact d
  | ref kk =>
    obtain ⟨ad, ea, ev⟩ := d
    refine ⟨ad, ?_, ev⟩
    have h1 := hk kk rfl
    show (w.A.take j)[kk]? = some ad
    have : kk < j := by
      rw [List.length_take] at h1
      exact Nat.lt_of_lt_of_le h1 (Nat.min_le_left _ _)
    rw [List.getElem?_take, if_pos this]
    exact ea
theorem ws_for {iter : Expr} (hp : PassesOwn (model X.prog X.w) X.A X.env X.xe) (hc : X.calm = true)
    (h : WI X tg iter L m fun xs g m1 => ∃ I : Nat → Loc → Mem → Prop, I 0 L m1 ∧ (∀ (i : Nat) (x : PyData) (L' : Loc) (m' : Mem), xs[i]? = some x → I i L' m' → g m' ∧ WG X tg x L' m' fun L2 m2 =>
        WSs X body L2 m2 { D with nx := fun L3 m3 => ∃ L4 m4, Wk m'.length L3 m3 L4 m4 ∧ I (i + 1) L4 m4, ct := fun L3 m3 => ∃ L4 m4, Wk m'.length L3 m3 L4 m4 ∧ I (i + 1) L4 m4, bk := D.nx }) ∧ (∀ L' m', I xs.length L' m' → g m' ∧ D.nx L' m'))
    (hs : ∀ x, foldedSetIterable iter X.env x = pure x := by intro _; rfl) : WS X (.For tg iter body [] pos) L m D := by
  refine ws_of (ps_for hp hc (piU tg iter) (pgU tg) (pssU body) hs) fun w σ H r => ?_
  refine h.go r fun w1 J xs g m1 H1 l1 r1 jo ⟨I, i0, it, ie⟩ => ?_
  refine ⟨fun i n σ' H' => n = xs.length - i ∧ i ≤ xs.length ∧ ∃ w' L' m', w1.le w' ∧ Rep X.K w' L' m' σ' H' ∧ I i L' m', ⟨xs.length, by simp, Nat.zero_le _, w1, L, m1, .refl w1, r1, i0⟩, ?_⟩
  rintro i n σ' H' ⟨rfl, hi, w', L', m', l', r', q⟩
  by_cases hlt : i < xs.length
  · refine .inr ?_
    have hx : xs[i]? = some xs[i] := List.getElem?_eq_getElem hlt
    obtain ⟨gm, wg⟩ := it i _ L' m' hx q
    obtain ⟨jg, jy⟩ := jo.go w' m' H' i _ l'.toLe0 r'.toHR gm hx
    refine ⟨jg, fun σ2 H2 => ∃ w2 L2 m2, w1.le w2 ∧ Rep X.K w2 L2 m2 σ2 H2 ∧ I (i + 1) L2 m2, fun σ2 H2 ⟨w2, L2, m2, l2, r2, q2⟩ => ⟨xs.length - (i + 1), by omega, rfl, hlt, w2, L2, m2, l2, r2, q2⟩, fun v H'' y => ?_⟩
    obtain ⟨w2, l2, hr2, d2⟩ := jy v H'' y
    have r2 := r'.go l2 hr2
    have nxt : ∀ (w3 : Wd) (σ3 : L2.St) (H3 : Hp), w2.le w3 → POS X.K w3 (fun L3 m3 => ∃ L4 m4, Wk m'.length L3 m3 L4 m4 ∧ I (i + 1) L4 m4) σ3 H3 → ∃ w2 L2 m2, w1.le w2 ∧ Rep X.K w2 L2 m2 σ3 H3 ∧ I (i + 1) L2 m2 := fun w3 σ3 H3 l3 ⟨w4, L3, m3, l4, r3, L4, m4, k, q4⟩ => by
      obtain ⟨w5, r5, h5⟩ := k.rep r3
      have l24 : w'.le w4 := (l2.trans l3).trans l4
      have : w'.le w5 := h5 w' (by rw [r'.toHR.len]; exact Nat.le_refl _) l24
      exact ⟨w5, L4, m4, l'.trans this, r5, q4⟩
    refine tUG_mono (wg w2 σ' H'' v r2 d2) fun σ3 H3 ⟨w3, L3, m3, l3, r3, q3⟩ => ?_
    refine tUSs_mono (q3 w3 σ3 H3 r3) ?_ ?_ ?_ ?_
    · exact fun σ4 H4 q4 => nxt w3 σ4 H4 l3 q4
    · exact fun v H4 q4 => POV.back (((l1.trans l').trans l2).trans l3) q4
    · exact fun σ4 H4 q4 => POS.back (((l1.trans l').trans l2).trans l3) q4
    · exact fun σ4 H4 q4 => nxt w3 σ4 H4 l3 q4
  · have e : i = xs.length := by omega
    subst e
    obtain ⟨gm, qd⟩ := ie L' m' q
    exact .inl ⟨jo.stop w' m' H' _ l'.toLe0 r'.toHR gm (Nat.le_refl _), w', L', m', l1.trans l', r', qd⟩
end
end PP
namespace PP
open PySem PySem.Spec PyProof.Rows L2
section
variable {X : Cx} {L : Loc} {m : Mem} {e a b c tg : Expr} {pos : Pos} {QI : List PyData → (Mem → Prop) → Mem → Prop}
theorem WV.mono {Q Q' : PV → Mem → Prop} (h : WV X e L m Q) (k : ∀ x m', Q x m' → Q' x m') : WV X e L m Q' := fun w σ H r => tU_mono (h w σ H r) fun _ _ ⟨w', x, m', l, hr, d, q⟩ => ⟨w', x, m', l, hr, d, k _ _ q⟩
theorem wi_of {iter : Expr} {t : TI} (h : PI X tg iter t) (k : ∀ (w : Wd) (σ : L2.St) (H : Hp), Rep X.K w L m σ H → t σ H fun J H1 => ∃ w1 m1 xs g, w.le w1 ∧ HR X.K w1 m1 H1 ∧ JOk X.K w1 J xs g ∧ QI xs g m1) : WI X tg iter L m QI := fun w σ H r pins s I => h.run pins s σ H _ I (k w σ H r)
theorem jok_list {K : PySem.W.Frag} {w : Wd} {a : Addr} {p : PV} {xs : List PyData} (r : RV K w (.ref a) p) : JOk K w (Itl K a) xs fun m => lstP m p = some xs where
  go := fun w' m' H' i x l hr g hx => by
    obtain ⟨ad, vs, e1, e2, d⟩ := lstP_ok hr (r.mono l) g
    cases e1
    obtain ⟨v, hv, dv⟩ := dpa_get d hx
    refine ⟨⟨vs, v, .of e2, hv⟩, fun u H'' ⟨e3, y⟩ => ?_⟩
    subst e3
    have : u = v := Option.some.inj ((y vs (.of e2)).symm.trans hv)
    subst this
    exact ⟨w', .refl w', hr, dv⟩
  stop := fun w' m' H' i l hr g hi => by
    obtain ⟨ad, vs, e1, e2, d⟩ := lstP_ok hr (r.mono l) g
    cases e1
    exact ⟨vs, .of e2, by rw [dpa_len d]; exact hi⟩
theorem wi_list (h : WV X e L m fun p m1 => ∃ xs, lstP m1 p = some xs ∧ QI xs (fun m2 => lstP m2 p = some xs) m1) : WI X tg e L m QI :=
  wi_of (pi_list (peU e)) fun w σ H r => h.go r fun w1 v p m1 H1 l1 r1 d1 ⟨xs, e1, q⟩ => by
    obtain ⟨ad, vs, rfl, e2, d⟩ := lstP_ok r1.toHR d1 e1
    exact ⟨ad, rfl, ⟨vs, .of e2⟩, w1, m1, xs, _, l1, r1.toHR, jok_list d1, q⟩
theorem wi_new (h : WF X e L m fun xs m1 => QI xs (fun _ => True) m1) : WI X tg e L m QI :=
  wi_of (pi_list (peU e)) fun w σ H r => (we_wf (Q := fun x m1 => ∃ xs, x = .list xs ∧ QI xs (fun _ => True) m1) (h.mono fun xs m1 q => ⟨xs, rfl, q⟩)).go r fun w1 v p m1 H1 l1 r1 d1 ⟨xs, e1, q⟩ => by
    subst e1
    obtain ⟨ad, vs, rfl, e2, d⟩ := lstP_ok (p := .d (.list xs)) r1.toHR d1 rfl
    have j := jok_list (K := X.K) (w := w1) (a := ad) (p := .d (.list xs)) (xs := xs) d1
    exact ⟨ad, rfl, ⟨vs, .of e2⟩, w1, m1, xs, fun _ => True, l1, r1.toHR, ⟨fun w' m' H' i x l hr _ hx => j.go w' m' H' i x l hr rfl hx, fun w' m' H' i l hr _ hi => j.stop w' m' H' i l hr rfl hi⟩, q⟩
theorem jok_tup {K : PySem.W.Frag} {w : Wd} {a : Addr} {xs : List PyData} (r : DP K w.F (.ref a) (.tuple xs)) : JOk K w (Itt K a) xs fun _ => True where
  go := fun w' m' H' i x l hr g hx => by
    obtain ⟨ad, vs, e1, e2, d⟩ := dp_tuple (dp_mono l.sub _ _ r)
    cases e1
    obtain ⟨v, hv, dv⟩ := dpa_get d hx
    have e2 := hr.fz.sqt e2
    refine ⟨⟨vs, v, e2, hv⟩, fun u H'' ⟨e3, y⟩ => ?_⟩
    subst e3
    have : u = v := Option.some.inj ((y vs e2).symm.trans hv)
    subst this
    exact ⟨w', .refl w', hr, dv⟩
  stop := fun w' m' H' i l hr g hi => by
    obtain ⟨ad, vs, e1, e2, d⟩ := dp_tuple (dp_mono l.sub _ _ r)
    cases e1
    exact ⟨vs, hr.fz.sqt e2, by rw [dpa_len d]; exact hi⟩
theorem wi_tup (h : WE X e L m fun x m1 => ∃ xs, x = .tuple xs ∧ QI xs (fun _ => True) m1) : WI X tg e L m QI :=
  wi_of (pi_tup (peU e)) fun w σ H r => h.go r fun w1 v p m1 H1 l1 r1 d1 ⟨xs, e1, q⟩ => by
    subst e1
    obtain ⟨ad, vs, rfl, e2, d⟩ := dp_tuple d1
    exact ⟨ad, rfl, ⟨vs, r1.toHR.fz.sqt e2⟩, w1, m1, xs, _, l1, r1.toHR, jok_tup d1, q⟩
theorem rgD_get {a b : Int} {i : Nat} {x : PyData} (h : (rgD a b)[i]? = some x) : i < (b - a).toNat ∧ x = .int (a + i) := by
  unfold rgD at h
  rw [List.getElem?_map] at h
  by_cases hi : i < (b - a).toNat
  · rw [List.getElem?_range hi] at h
    cases h
    exact ⟨hi, rfl⟩
  · rw [List.getElem?_eq_none (by rw [List.length_range]; omega)] at h; cases h
theorem rgD_len {a b : Int} : (rgD a b).length = (b - a).toNat := by unfold rgD; rw [List.length_map, List.length_range]
theorem jok_rng {K : PySem.W.Frag} {w : Wd} {a b : Int} : JOk K w (Itr a (b - a).toNat) (rgD a b) fun _ => True where
  go := fun w' m' H' i x l hr g hx => by
    obtain ⟨hi, rfl⟩ := rgD_get hx
    refine ⟨hi, fun u H'' ⟨e3, y⟩ => ?_⟩
    subst e3; subst y
    exact ⟨w', .refl w', hr, .int _⟩
  stop := fun w' m' H' i l hr g hi => by rw [rgD_len] at hi; exact hi
theorem wi_rng1 {p : Pos} (hm : X.mg "range" = none) (h : WE X a L m fun x m1 => ∃ n, x = .int n ∧ -(2 ^ 62) ≤ n ∧ n < 2 ^ 62 ∧ QI (rgD 0 n) (fun _ => True) m1) (hg : Gl X "range" := by rfl) (hs : starEach [a] X.env = [(false, eval a X.env)] := by rfl)
    (he : starEach [a] X.env = (false, eval a X.env) :: starEach [] X.env := by rfl) : WI X tg (.Call (.Name "range" p) [a] [] pos) L m QI :=
  wi_of (pi_range1 hg hm (paU [a]) hs) fun w σ H r => WA.go (wd1 h he) r fun w1 vs ps m1 H1 l1 r1 d1 ⟨x, e1, n, e2, n1, n2, q⟩ => by
    subst e1; subst e2
    obtain ⟨v, rfl, d2⟩ := rvs1 d1
    refine ⟨n, by rw [dp_int d2], n1, n2, w1, m1, rgD 0 n, _, l1, r1.toHR, ?_, q⟩
    have := jok_rng (K := X.K) (w := w1) (a := 0) (b := n)
    rwa [Int.sub_zero] at this
end
end PP
namespace PP
open PySem PySem.Spec PyProof.Rows L2
section
variable {K : PySem.W.Frag} {w w' : Wd} {L : PP.Loc} {m m' : Mem} {σ : L2.St} {H H' : Hp} {D : Addr} {o o' : HO}
theorem Rep.go0 (h : Rep K w L m σ H) (l : w.le0 w') (r : HR K w' m' H') : Rep K w' L m' σ H' :=
  ⟨r, h.sl, fun i p e => let ⟨v, e1, q⟩ := h.loc i p e; ⟨v, e1, q.mono l⟩⟩
def Wd.hide (w : Wd) (D : Addr) (o : HO) : Wd := { w with T := (D, o) :: w.T }
theorem Wd.le0_hide (w : Wd) (D : Addr) (o : HO) : w.le0 (w.hide D o) := ⟨⟨[], by simp [Wd.hide]⟩, Sub.refl _⟩
theorem HR.hide (h : HR K w m H) (u : Un1 w D) (e : H D = some o) : HR K (w.hide D o) m H :=
  ⟨h.fz, h.len, h.nd, h.sep, h.occ, fun p hp => by
    rcases List.mem_cons.mp hp with z | z
    · subst z; exact ⟨e, u.f, u.a⟩
    · exact h.tp p z, by
    show ((D, o) :: w.T |>.map (·.1)).Nodup
    rw [List.map_cons, List.nodup_cons]
    exact ⟨u.t, h.tnd⟩, fun k c e => let ⟨a, x, e1, e2, r⟩ := h.cell k c e; ⟨a, x, e1, e2, r.mono (Sub.refl _)⟩⟩
theorem HR.unhide (h : HR K (w.hide D o) m H) : HR K w m H ∧ Un1 w D ∧ H D = some o := by
  obtain ⟨e1, e2, e3⟩ := h.tp (D, o) List.mem_cons_self
  have nd : ((D, o) :: w.T |>.map (·.1)).Nodup := h.tnd
  rw [List.map_cons, List.nodup_cons] at nd
  exact ⟨⟨h.fz, h.len, h.nd, h.sep, h.occ, fun p hp => h.tp p (List.mem_cons_of_mem _ hp), nd.2, fun k c e => let ⟨a, x, e1, e2, r⟩ := h.cell k c e; ⟨a, x, e1, e2, r.mono (Sub.refl _)⟩⟩, ⟨e2, e3, nd.1⟩, e1⟩
theorem HR.updUn (h : HR K w m H) (u : Un1 w D) : HR K w m (upd H D o) := by
  refine ⟨fun a x e => ?_, h.len, h.nd, h.sep, fun a ha => ?_, fun q hq => ?_, h.tnd, fun k c e => ?_⟩
  · have hne : a ≠ D := fun z => by rw [z, u.f] at e; cases e
    rw [upd_ne hne]; exact h.fz a x e
  · have hne : a ≠ D := fun z => u.a (z ▸ ha)
    rw [upd_ne hne]; exact h.occ a ha
  · obtain ⟨e1, e2, e3⟩ := h.tp q hq
    have hne : q.1 ≠ D := fun z => u.t (z ▸ List.mem_map_of_mem hq)
    exact ⟨by rw [upd_ne hne]; exact e1, e2, e3⟩
  · obtain ⟨a, x, e1, e2, r⟩ := h.cell k c e
    have hne : a ≠ D := fun z => u.a (z ▸ List.mem_of_getElem? e1)
    exact ⟨a, x, e1, by rw [upd_ne hne]; exact e2, r⟩
theorem le_hide {w'' : Wd} (l : (w.hide D o).le w'') : ∃ w3, w'' = w3.hide D o ∧ w.le w3 := by
  refine ⟨{ w'' with T := w.T }, ?_, ⟨⟨l.pre, l.sub⟩, rfl⟩⟩
  obtain ⟨A, T, F⟩ := w''
  have e : T = (D, o) :: w.T := l.hid
  subst e
  rfl
def wipeL (L : PP.Loc) : List Nat → PP.Loc
  | [] => L
  | v :: vs => (wipeL L vs).set v none
theorem wipeL_length (L : PP.Loc) : ∀ vs : List Nat, (wipeL L vs).length = L.length
  | [] => rfl
  | v :: vs => by unfold wipeL; rw [List.length_set, wipeL_length L vs]
theorem wipeL_some {i : Nat} {x : PV} : ∀ {vs : List Nat}, (wipeL L vs)[i]? = some (some x) → L[i]? = some (some x) ∧ i ∉ vs
  | [], h => ⟨h, by simp⟩
  | v :: vs, h => by
    unfold wipeL at h
    by_cases hi : v = i
    · subst hi
      by_cases hv : v < (wipeL L vs).length
      · rw [List.getElem?_set_self hv] at h; cases h
      · rw [List.getElem?_eq_none (by simpa using hv)] at h; cases h
    · rw [List.getElem?_set_ne hi] at h
      obtain ⟨h1, h2⟩ := wipeL_some h
      exact ⟨h1, by simp only [List.mem_cons, not_or]; exact ⟨fun e => hi e.symm, h2⟩⟩
theorem Rep.wipe (h : Rep K w L m σ H) (vs : List Nat) : Rep K w (wipeL L vs) m (L2.wipe σ vs) H :=
  ⟨h.toHR, by rw [wipe_length, wipeL_length]; exact h.sl, fun i p e => by
    obtain ⟨e1, hi⟩ := wipeL_some e
    obtain ⟨v, e2, d⟩ := h.loc i p e1
    exact ⟨v, by rw [wipe_out hi]; exact e2, d⟩⟩
theorem wipe_in {i : Nat} : ∀ {vs : List Nat}, i ∈ vs → i < σ.length → (L2.wipe σ vs)[i]? = some none
  | v :: vs, h, hl => by
    unfold L2.wipe
    by_cases e : v = i
    · subst e
      rw [List.getElem?_set_self (by rw [wipe_length]; exact hl)]
    · rw [List.getElem?_set_ne e]
      exact wipe_in ((List.mem_cons.mp h).resolve_left (Ne.symm e)) hl
theorem wipe_eq {σ' : L2.St} {vs : List Nat} (hl : σ'.length = σ.length) (h : ∀ i, i ∉ vs → σ'[i]? = (L2.wipe σ vs)[i]?) : L2.wipe σ' vs = L2.wipe σ vs := by
  apply List.ext_getElem?
  intro i
  by_cases hi : i ∈ vs
  · by_cases hs : i < σ.length
    · rw [wipe_in hi (by omega), wipe_in hi hs]
    · rw [List.getElem?_eq_none (by rw [wipe_length]; omega), List.getElem?_eq_none (by rw [wipe_length]; omega)]
  · rw [wipe_out hi, h i hi]
end
inductive Pat where
  | nm (j : Nat)
  | tp (js : List Nat)
def gNames : List Nat → TGs
  | [] => gNil
  | j :: js => gCons (gName j) (gNames js)
def gP (K : PySem.W.Frag) : Pat → TG
  | .nm j => gName j
  | .tp js => gTup K js.length (gNames js)
def Pat.slots : Pat → List Nat
  | .nm j => [j]
  | .tp js => js
def setN (L : PP.Loc) : List Nat → List PyData → PP.Loc
  | j :: js, x :: xs => setN (L.set j (some (.d x))) js xs
  | _, _ => L
def setP (L : PP.Loc) : Pat → PyData → Option PP.Loc
  | .nm j, x => some (L.set j (some (.d x)))
  | .tp js, .tuple xs => if xs.length = js.length then some (setN L js xs) else none
  | .tp _, _ => none
section
variable {K : PySem.W.Frag} {w : Wd} {m : Mem}
theorem gNames_ok {H : Hp} {Q : L2.St → Hp → Prop} {vsl : List Nat} : ∀ {js : List Nat} {xs : List PyData} {vs : List V} {σ : L2.St} {L : PP.Loc}, xs.length = js.length → DPs K w.F vs xs → Rep K w L m σ H → (∀ j ∈ js, j ∈ vsl) →
    (∀ σ', σ'.length = σ.length → Rep K w (setN L js xs) m σ' H → (∀ i, i ∉ vsl → σ'[i]? = σ[i]?) → Q σ' H) → gNames js vs σ H Q
  | [], [], _, σ, L, _, d, r, _, k => by
    cases d
    exact ⟨rfl, k σ rfl r fun _ _ => rfl⟩
  | j :: js, x :: xs, _, σ, L, hl, d, r, hj, k => by
    cases d with
    | cons d1 d2 =>
      refine ⟨_, _, rfl, ?_⟩
      show gNames js _ (σ.set j (some _)) H Q
      refine gNames_ok (by simpa using hl) d2 (r.set (p := .d x) d1) (fun i hi => hj i (List.mem_cons_of_mem _ hi)) fun σ' e1 r' h' => k σ' (by rw [e1, List.length_set]) r' fun i hi => ?_
      rw [h' i hi, List.getElem?_set_ne (fun z => hi (by rw [← z]; exact hj j List.mem_cons_self))]
  | [], _ :: _, _, _, _, hl, _, _, _, _ => by simp at hl
  | _ :: _, [], _, _, _, hl, _, _, _, _ => by simp at hl
theorem gP_ok {H : Hp} {σ : L2.St} {L Lx : PP.Loc} {Q : L2.St → Hp → Prop} {vsl : List Nat} {pat : Pat} {x : PyData} {v : V} (d : DP K w.F v x) (r : Rep K w L m σ H) (hp : ∀ j ∈ pat.slots, j ∈ vsl) (hs : setP L pat x = some Lx)
    (k : ∀ σ', σ'.length = σ.length → Rep K w Lx m σ' H → (∀ i, i ∉ vsl → σ'[i]? = σ[i]?) → Q σ' H) : gP K pat v σ H Q := by
  cases pat with
  | nm j =>
    cases hs
    exact k _ (List.length_set ..) (r.set (p := .d x) d) fun i hi => by rw [List.getElem?_set_ne (fun z => hi (by rw [← z]; exact hp j List.mem_cons_self))]
  | tp js =>
    cases x with
    | tuple xs =>
      have hs : (if xs.length = js.length then some (setN L js xs) else none) = some Lx := hs
      split at hs
      · rename_i hl
        cases hs
        obtain ⟨a, vs, rfl, e1, d1⟩ := dp_tuple d
        exact ⟨a, vs, rfl, r.toHR.fz.sqt e1, by rw [dpa_len d1]; exact hl, gNames_ok hl d1 r hp k⟩
      · cases hs
    | none => cases hs
    | bool _ => cases hs
    | int _ => cases hs
    | str _ => cases hs
    | list _ => cases hs
    | dict _ => cases hs
end
abbrev BX (X : Cx) (scope : Scope) (s : Shared) (H : Hp) (C : Addr) (cl : List (Str × Addr)) (fp : List Addr) : Cx := X.blk s H scope (compEnvC scope cl C X.env) fp
def WEb (X : Cx) (scope : Scope) (e : Expr) (L : PP.Loc) (m : Mem) (Q : QE) : Prop := ∀ (s : Shared) (H : Hp) (C : Addr) (cl : List (Str × Addr)) (fp : List Addr), WE (BX X scope s H C cl fp) e L m Q
def WTb (X : Cx) (scope : Scope) (e : Expr) (L : PP.Loc) (m : Mem) (Q : Bool → Mem → Prop) : Prop := ∀ (s : Shared) (H : Hp) (C : Addr) (cl : List (Str × Addr)) (fp : List Addr), WT (BX X scope s H C cl fp) e L m Q
section
variable {X : Cx} {L : PP.Loc} {m : Mem} {elt tg iter c : Expr} {ifs : List Expr} {scope : Scope} {own : List (Str × Nat)} {pos : Pos} {pat : Pat} {Q : List PyData → Mem → Prop}
theorem lc_read {tt : TT} {te : TE} {w : Wd} {σ : L2.St} {H : Hp} (rp : Rep X.K w L m σ H) (hp : ∀ j ∈ pat.slots, j ∈ own.map (·.2))
    (h : WI X tg iter L m fun xs g m1 => xs.length ≤ sizeLine ∧ ∃ I : Nat → List PyData → Mem → Prop, I 0 [] m1 ∧
      (∀ (i : Nat) (x : PyData) (ys : List PyData) (m' : Mem), xs[i]? = some x → ys.length ≤ i → I i ys m' → g m' ∧ ∃ Lx, setP (wipeL L (own.map (·.2))) pat x = some Lx ∧
        ∀ (w : Wd) (σ : L2.St) (H : Hp), Rep X.K w Lx m' σ H → tt σ H fun b H3 => ∃ w3 m3, w.le w3 ∧ HR X.K w3 m3 H3 ∧ (b = true → ∀ (w : Wd) (H : Hp), Rep X.K w Lx m3 σ H → te σ H (POE X.K w fun y m4 => I (i + 1) (ys ++ [y]) m4)) ∧ (b = false → I (i + 1) ys m3)) ∧
      ∀ ys m', ys.length ≤ xs.length → I xs.length ys m' → g m' ∧ Q ys m')
    (ttm : ∀ (σ : L2.St) (H : Hp) (Q Q' : Bool → Hp → Prop), (∀ b H', Q b H' → Q' b H') → tt σ H Q → tt σ H Q') (tem : ∀ (σ : L2.St) (H : Hp) (Q Q' : VK), (∀ b H', Q b H' → Q' b H') → te σ H Q → te σ H Q') :
    tLc (tUI X tg iter) (gP X.K pat) tt te (own.map (·.2)) σ H (PF X.K w Q) := by
  refine h.go rp fun w1 J xs g m1 H1 l1 r1 jo ⟨hz, I, i0, it, ie⟩ => ?_
  intro D hD
  generalize hvs : own.map (·.2) = vs at *
  obtain ⟨hr0, u0⟩ := r1.toHR.un (o := .lst []) hD
  refine ⟨fun i n H' => n = xs.length - i ∧ i ≤ xs.length ∧ ∃ w' m' ys us, w1.le w' ∧ HR X.K (w'.hide D (.lst us)) m' H' ∧ DPs X.K w'.F us ys ∧ ys.length ≤ i ∧ I i ys m', ⟨xs.length, by simp, Nat.zero_le _, w1, m1, [], [], .refl w1, hr0.hide u0 upd_same, .nil, Nat.le_refl _, i0⟩, ?_⟩
  rintro i n H' ⟨rfl, hi, w', m', ys, us, l', hr', d', hy, q⟩
  by_cases hlt : i < xs.length
  · refine .inr ?_
    have hx : xs[i]? = some xs[i] := List.getElem?_eq_getElem hlt
    obtain ⟨gm, Lx, hs, tst⟩ := it i _ ys m' hx hy q
    obtain ⟨jg, jy⟩ := jo.go (w'.hide D (.lst us)) m' H' i _ (l'.toLe0.trans (Wd.le0_hide _ _ _)) hr' gm hx
    refine ⟨jg, fun H2 => ∃ w2 m2 ys us, w1.le w2 ∧ HR X.K (w2.hide D (.lst us)) m2 H2 ∧ DPs X.K w2.F us ys ∧ ys.length ≤ i + 1 ∧ I (i + 1) ys m2, fun H2 ⟨w2, m2, ys, us, a, b, c, d, e⟩ => ⟨xs.length - (i + 1), by omega, rfl, hlt, w2, m2, ys, us, a, b, c, d, e⟩, fun v H'' y => ?_⟩
    obtain ⟨w2, l2, hr2, d2⟩ := jy v H'' y
    obtain ⟨w3, rfl, l3⟩ := le_hide l2
    have r2 : Rep X.K (w3.hide D (.lst us)) L m' σ H'' := r1.go0 ((l'.trans l3).toLe0.trans (Wd.le0_hide _ _ _)) hr2
    refine gP_ok d2 (r2.wipe vs) hp hs fun σ' e1 r3 e2 => ⟨?_, ?_⟩
    · exact wipe_eq (by rw [e1, wipe_length]) e2
    refine ttm _ _ _ _ (fun b H3 ⟨w4, m3, l4, hr4, qt, qf⟩ => ?_) (tst _ σ' H'' r3)
    obtain ⟨w5, rfl, l5⟩ := le_hide l4
    cases b with
    | true =>
      rw [if_pos rfl]
      refine tem _ _ _ _ (fun v4 H4 ⟨w6, y, m4, l6, hr6, d6, q6⟩ => ?_) (qt rfl _ H3 (r3.go l4 hr4))
      obtain ⟨w7, rfl, l7⟩ := le_hide l6
      obtain ⟨hr7, u7, e7⟩ := hr6.unhide
      have lall : w'.le w7 := (l3.trans l5).trans l7
      have dus := dpa_mono lall.sub _ _ d'
      refine ⟨us, e7, by rw [dpa_len d']; omega, w7, m4, ys ++ [y], us ++ [v4], l'.trans lall, (hr7.updUn u7).hide u7 upd_same, dpa_app dus (.cons d6 .nil), by rw [List.length_append]; simp; omega, q6⟩
    | false =>
      rw [if_neg Bool.false_ne_true]
      have lall : w'.le w5 := l3.trans l5
      exact ⟨w5, m3, ys, us, l'.trans lall, hr4, dpa_mono lall.sub _ _ d', by omega, qf rfl⟩
  · have e : i = xs.length := by omega
    subst e
    obtain ⟨gm, qd⟩ := ie ys m' hy q
    obtain ⟨hr7, u7, e7⟩ := hr'.unhide
    exact .inl ⟨jo.stop (w'.hide D (.lst us)) m' H' _ (l'.toLe0.trans (Wd.le0_hide _ _ _)) hr' gm (Nat.le_refl _), w', ys, m', D, us, rfl, l1.trans l', hr7, e7, u7, d', qd⟩
def tUb (X : Cx) (scope : Scope) (e : Expr) : TE := fun σ H Q => ∀ (s : Shared) (H0 : Hp) (C : Addr) (cl : List (Str × Addr)) (fp : List Addr), tU (BX X scope s H0 C cl fp) e σ H Q
def tUTb (X : Cx) (scope : Scope) (e : Expr) : TT := fun σ H Q => ∀ (s : Shared) (H0 : Hp) (C : Addr) (cl : List (Str × Addr)) (fp : List Addr), tUT (BX X scope s H0 C cl fp) e σ H Q
theorem peUb (e : Expr) (s : Shared) (H : Hp) (C : Addr) (cl : List (Str × Addr)) (fp : List Addr) : PE (BX X scope s H C cl fp) e (tUb X scope e) := ⟨fun pins s1 _ _ _ I h => h s H C cl fp pins s1 I⟩
theorem ptUb (e : Expr) (s : Shared) (H : Hp) (C : Addr) (cl : List (Str × Addr)) (fp : List Addr) : PT (BX X scope s H C cl fp) e (tUTb X scope e) := ⟨fun pins s1 _ _ _ I h => h s H C cl fp pins s1 I⟩
abbrev LcAsk1 (X : Cx) (L : PP.Loc) (m : Mem) (elt tg iter c : Expr) (scope : Scope) (own : List (Str × Nat)) (pat : Pat) (Q : List PyData → Mem → Prop) : Prop :=
  WI X tg iter L m fun xs g m1 => xs.length ≤ sizeLine ∧ ∃ I : Nat → List PyData → Mem → Prop, I 0 [] m1 ∧
      (∀ (i : Nat) (x : PyData) (ys : List PyData) (m' : Mem), xs[i]? = some x → ys.length ≤ i → I i ys m' → g m' ∧ ∃ Lx, setP (wipeL L (own.map (·.2))) pat x = some Lx ∧
        WTb X scope c Lx m' fun b m3 => (b = true → WEb X scope elt Lx m3 fun y m4 => I (i + 1) (ys ++ [y]) m4) ∧ (b = false → I (i + 1) ys m3)) ∧
      ∀ ys m', ys.length ≤ xs.length → I xs.length ys m' → g m' ∧ Q ys m'
theorem lc_read1 {w : Wd} {σ : L2.St} {H : Hp} (rp : Rep X.K w L m σ H) (hp : ∀ j ∈ pat.slots, j ∈ own.map (·.2)) (h : LcAsk1 X L m elt tg iter c scope own pat Q) : tLc (tUI X tg iter) (gP X.K pat) (tUTb X scope c) (tUb X scope elt) (own.map (·.2)) σ H (PF X.K w Q) :=
  lc_read rp hp (fun w σ H r => tUI_mono (h w σ H r) fun J H1 ⟨w1, m1, xs, g, l, hr, jo, hz, I, i0, it, ie⟩ => ⟨w1, m1, xs, g, l, hr, jo, hz, I, i0, fun i x ys m' hx hy q => let ⟨gm, Lx, hs, k⟩ := it i x ys m' hx hy q; ⟨gm, Lx, hs, fun w σ H r s H0 C cl fp => tUT_mono (k s H0 C cl fp w σ H r) fun b H3 ⟨w3, m3, l3, hr3, qt, qf⟩ => ⟨w3, m3, l3, hr3, fun hb w H r s H0 C cl fp => qt hb s H0 C cl fp w σ H r, qf⟩⟩, ie⟩)
    (fun _ _ _ _ k h s H0 C cl fp => tUT_mono (h s H0 C cl fp) k) (fun _ _ _ _ k h s H0 C cl fp => tU_mono (h s H0 C cl fp) k)
theorem wf_lc1 (own : List (Str × Nat)) (pat : Pat) (hc : X.calm = true) (hN : X.N.Nodup) (ok : BlkOk X.N X.env.scope scope own) (hg : ∀ (s : Shared) (H : Hp) (C : Addr) (cl : List (Str × Addr)) (fp : List Addr), PG (BX X scope s H C cl fp) tg (gP X.K pat)) (hp : ∀ j ∈ pat.slots, j ∈ own.map (·.2))
    (h : LcAsk1 X L m elt tg iter c scope own pat Q) (hs : ∀ x, foldedSetIterable iter X.env x = pure x := by intro _; rfl) : WF X (.ListComp elt [⟨tg, iter, [c], 0⟩] scope pos) L m Q :=
  wf_of (pe_lc hc hN (piU tg iter) ok hg (fun s H C cl fp => pts_one (ptUb c s H C cl fp)) (fun s H C cl fp => peUb elt s H C cl fp) hs) fun w σ H r => lc_read1 r hp h
theorem setF_core {i : Nat} {y : Str} {py : Pos} {e : Expr} {spos : Pos} {D : PEnds} {t : TE} (ps : PS X (.Assign [.Name y py] e spos) (tAsg t (gName i)))
    (h : ∀ (w : Wd) (σ : L2.St) (H : Hp), Rep X.K w L m σ H → t σ H (PF X.K w fun xs m1 => D.nx (L.set i (some (.d (.list xs)))) m1 ∨ D.nx (L.set i (some (.ref m1.length))) (m1 ++ [some (.lst xs)])))
    (tm : ∀ (σ : L2.St) (H : Hp) (Q Q' : VK), (∀ b H', Q b H' → Q' b H') → t σ H Q → t σ H Q') : WS X (.Assign [.Name y py] e spos) L m D :=
  ws_of ps fun w σ H r => tm _ _ _ _ (fun v H' ⟨w', xs, m1, p, vs, e1, l, hr, hp, u, d, q⟩ => by
    subst e1
    have r' := r.go l hr
    rcases q with q | q
    · obtain ⟨l2, hr2⟩ := hr.freeze u hp
      exact ⟨_, _, m1, l.trans l2, (r'.go l2 hr2).set (p := .d (.list xs)) (.lst upd_same (dpa_mono l2.sub _ _ d)), q⟩
    · obtain ⟨l2, hr2⟩ := hr.adopt (c := .lst xs) u hp ⟨vs, rfl, d⟩
      refine ⟨_, _, _, l.trans l2, (r'.go l2 hr2).set (p := .ref m1.length) ⟨p, ?_, rfl⟩, q⟩
      show (w'.A ++ [p])[m1.length]? = some p
      rw [← hr.len, List.getElem?_append_right (Nat.le_refl _)]; simp) (h w σ H r)
theorem ws_setF {y : Str} {py : Pos} {e : Expr} {spos : Pos} {D : PEnds} (i : Nat) (hN : X.N.Nodup) (hi : X.N[i]? = some y) (hx : L2.Loc X.env.scope y) (h : WF X e L m fun xs m1 => D.nx (L.set i (some (.ref m1.length))) (m1 ++ [some (.lst xs)])) (hs : swapsWith e (some (.Name y py)) spos.line X.env = pure false := by rfl) (hf : X.fn y = true ∨ X.env.scope.names.lookup y = some .local := by first | exact .inl rfl | exact .inr rfl | assumption) : WS X (.Assign [.Name y py] e spos) L m D :=
  setF_core (ps_set hN hi hx (peU e) hs hf) (fun w σ H r => tU_mono (h w σ H r) fun v H' ⟨w', xs, m1, p, vs, e1, l, hr, hp, u, d, q⟩ => ⟨w', xs, m1, p, vs, e1, l, hr, hp, u, d, .inr q⟩) fun _ _ _ _ k h => tU_mono h k
theorem pg_nm {x : Str} {tp : Pos} {j : Nat} {s : Shared} {H : Hp} {C : Addr} {cl : List (Str × Addr)} {fp : List Addr} (hN : X.N.Nodup) (hi : X.N[j]? = some x) (hx : L2.Loc (compEnvC scope cl C X.env).scope x) (hf : (scope.names.lookup x == some .cell) = true ∨ (compEnvC scope cl C X.env).scope.names.lookup x = some .local) : PG (BX X scope s H C cl fp) (.Name x tp) (gP X.K (.nm j)) := pg_name (X := BX X scope s H C cl fp) hN hi hx hf
end
end PP
namespace PP
open PySem PySem.Spec PyProof.Rows L2
abbrev FSp := List PV → Mem → (PV → Mem → Prop) → Prop
def toSp (K : PySem.W.Frag) (f : FSp) : Sp := fun vs H Q _ => ∃ (w : Wd) (pvs : List PV) (m : Mem) (q : PV → Mem → Prop), HR K w m H ∧ RVs K w vs pvs ∧ f pvs m q ∧
  ∀ (w' : Wd) (v : V) (p : PV) (m' : Mem) (H' : Hp), w.le w' → HR K w' m' H' → RV K w' v p → q p m' → Q v H'
def Adj (n : Nat) (q : PV → Mem → Prop) : PV → Mem → Prop := fun p m => n ≤ m.length ∧
  ((∃ x, p = .d x ∧ q (.d x) (m.take n)) ∨
   ((∃ k, p = .ref k ∧ k < n ∧ q (.ref k) (m.take n)) ∨ (∃ k g x y z, p = .ref (k + 1) ∧ n ≤ k ∧ m[k]? = some (some (.lst g)) ∧ m[k + 1]? = some (some (.own x y z)) ∧ q (.ref (n + 1)) (m.take n ++ [some (.lst g), some (.own x y z)]))) ∨
   (∃ k c, p = .ref k ∧ n ≤ k ∧ m[k]? = some (some c) ∧ match c with
    | .own _ _ _ => False
    | c => q (.ref n) (m.take n ++ [some c])))
theorem RVs.length {K : PySem.W.Frag} {w : Wd} {vs : List V} {ps : List PV} (h : RVs K w vs ps) : vs.length = ps.length := Paired.length h
section
variable {K : PySem.W.Frag} {w w' : Wd} {m m' : Mem} {H H' : Hp}
theorem adj_ok {q : PV → Mem → Prop} {v : V} {p : PV} {Q : VK} (hl : w.A.length = m.length) (l : w.le w') (hr : HR K w' m' H') (r : RV K w' v p) (a : Adj m.length q p m')
    (k : ∀ (w' : Wd) (v : V) (p : PV) (m' : Mem) (H' : Hp), w.le w' → HR K w' m' H' → RV K w' v p → q p m' → Q v H') : Q v H' := by
  obtain ⟨hn, a⟩ := a
  have lc : w.le (w'.cut m.length) := l.cut (by omega)
  have hc := hr.cut m.length
  rcases a with ⟨x, rfl, qq⟩ | (⟨j, rfl, hj, qq⟩ | ⟨j, g, x, y, z, rfl, hj, hm, hm2, qq⟩) | ⟨j, c, rfl, hj, hm, qq⟩
  · exact k _ v (.d x) _ H' lc hc r qq
  · obtain ⟨ad, ea, ev⟩ := r
    refine k _ v (.ref j) _ H' lc hc ⟨ad, ?_, ev⟩ qq
    show (w'.A.take m.length)[j]? = some ad
    rw [List.getElem?_take, if_pos hj]; exact ea
  · obtain ⟨a1, o1, ea1, eo1, us, rfl, dg⟩ := hr.cell j _ hm
    obtain ⟨a2, o2, ea2, eo2, j', q', e3, e4, rfl⟩ := hr.cell (j + 1) _ hm2
    obtain ⟨ad', ea', ev⟩ := r
    rw [ea2] at ea'; cases ea'
    have e5 : j' = j := by omega
    subst e5
    rw [ea1] at e4; cases e4
    have un : ∀ (i : Nat) (ad : Addr) (c : Cell), m.length ≤ i → w'.A[i]? = some ad → m'[i]? = some (some c) → Un1 (w'.cut m.length) ad := fun i ad c hi ea hc2 => by
      refine ⟨hr.sep i ad c ea hc2, fun z => ?_, fun z => ?_⟩
      · obtain ⟨i2, hi2⟩ := List.getElem?_of_mem z
        have hi' : (w'.A.take m.length)[i2]? = some ad := hi2
        rw [List.getElem?_take] at hi'
        split at hi'
        · rename_i hlt
          have := nodup_at hr.nd hi' ea
          omega
        · cases hi'
      · obtain ⟨t, ht, et⟩ := List.mem_map.mp z
        exact (hr.tp t ht).2.2 (et ▸ List.mem_of_getElem? ea)
    have hcl : (w'.A.take m.length).length = m.length := by rw [List.length_take, hr.len]; omega
    obtain ⟨l2, hr2⟩ := hc.adopt (c := .lst g) (un j' a1 _ hj ea1 hm) eo1 ⟨us, rfl, dg⟩
    have u2 := un (j' + 1) a2 _ (by omega) ea2 hm2
    have u3 : Un1 ((w'.cut m.length).push a1) a2 := ⟨u2.f, fun z => by
      rcases List.mem_append.mp (show a2 ∈ (w'.cut m.length).A ++ [a1] from z) with z | z
      · exact u2.a z
      · have e6 : a2 = a1 := by simpa using z
        rw [e6] at ea2
        have := nodup_at hr.nd ea1 ea2
        omega, u2.t⟩
    have hml : (m'.take m.length ++ [some (Cell.lst g)]).length = m.length + 1 := by rw [List.length_append, List.length_take, List.length_singleton]; omega
    obtain ⟨l3, hr3⟩ := hr2.adopt (c := .own x y z) u3 eo2 ⟨m.length, a1, hml, by
      show ((w'.A.take m.length) ++ [a1])[m.length]? = some a1
      rw [List.getElem?_append_right (by omega), hcl]; simp, rfl⟩
    refine k _ v (.ref (m.length + 1)) _ H' (lc.trans (l2.trans l3)) (by rw [List.append_assoc] at hr3; exact hr3) ⟨a2, ?_, ev⟩ qq
    show (((w'.A.take m.length) ++ [a1]) ++ [a2])[m.length + 1]? = some a2
    rw [List.getElem?_append_right (by rw [List.length_append, hcl]; simp), List.length_append, hcl]; simp
  · obtain ⟨ad, o, ea, eo, cr⟩ := hr.cell j c hm
    obtain ⟨ad', ea', ev⟩ := r
    rw [ea] at ea'; cases ea'
    have un : Un1 (w'.cut m.length) ad := by
      refine ⟨hr.sep j ad c ea hm, fun z => ?_, fun z => ?_⟩
      · obtain ⟨i, hi⟩ := List.getElem?_of_mem z
        have hi' : (w'.A.take m.length)[i]? = some ad := hi
        rw [List.getElem?_take] at hi'
        split at hi'
        · rename_i hlt
          have := nodup_at hr.nd hi' ea
          omega
        · cases hi'
      · obtain ⟨t, ht, et⟩ := List.mem_map.mp z
        exact (hr.tp t ht).2.2 (et ▸ List.mem_of_getElem? ea)
    obtain ⟨cr2, qq⟩ : CR K (w'.cut m.length) (m'.take m.length).length c o ∧ q (.ref m.length) (m'.take m.length ++ [some c]) := by
      cases c with
      | lst ds => exact ⟨cr, qq⟩
      | dK kvs => exact ⟨cr, qq⟩
      | own a b c => exact False.elim qq
    obtain ⟨l2, hr2⟩ := hc.adopt (c := c) un eo cr2
    refine k _ v (.ref m.length) _ H' (lc.trans l2) hr2 ⟨ad, ?_, ev⟩ qq
    show ((w'.A.take m.length) ++ [ad])[m.length]? = some ad
    have : (w'.A.take m.length).length = m.length := by rw [List.length_take, hr.len]; omega
    rw [List.getElem?_append_right (by omega), this]; simp
end
abbrev startL (N : List Str) (pvs : List PV) : PP.Loc := pvs.map some ++ List.replicate (N.length - pvs.length) none
theorem rep_start {K : PySem.W.Frag} {w : Wd} {m : Mem} {H : Hp} {vs : List V} {pvs : List PV} (N : List Str) (hr : HR K w m H) (r : RVs K w vs pvs) : Rep K w (startL N pvs) m (L2.start N vs) H := by
  refine ⟨hr, ?_, fun i p e => ?_⟩
  · unfold L2.start startL
    rw [List.length_append, List.length_append, List.length_map, List.length_map, List.length_replicate, List.length_replicate, r.length]
  · unfold startL at e
    unfold L2.start
    by_cases hi : i < pvs.length
    · rw [List.getElem?_append_left (by simpa using hi), List.getElem?_map] at e
      rw [List.getElem?_append_left (by rw [List.length_map, r.length]; exact hi), List.getElem?_map]
      cases e1 : pvs[i]? with
      | none => rw [e1] at e; cases e
      | some q =>
        rw [e1] at e
        have e' : q = p := by simpa using e
        subst e'
        have key : ∀ {vs : List V} {ps : List PV} {i : Nat} {q : PV}, RVs K w vs ps → ps[i]? = some q → ∃ v, vs[i]? = some v ∧ RV K w v q := by
          intro vs ps i q r e
          induction r generalizing i with
          | nil => simp at e
          | cons r1 _ ih =>
            cases i with
            | zero => simp at e; subst e; exact ⟨_, rfl, r1⟩
            | succ i =>
              obtain ⟨v, h1, h2⟩ := ih (i := i) (by simpa using e)
              exact ⟨v, by simpa using h1, h2⟩
        obtain ⟨v, h1, h2⟩ := key r e1
        exact ⟨v, by rw [h1]; rfl, h2⟩
    · rw [List.getElem?_append_right (by simpa using hi), List.getElem?_replicate] at e
      split at e <;> cases e
abbrev DX (P : Program) (w : World) (K : PySem.W.Frag) (mg : Str → Option Value) (base : Heap) (N : List Str) (qual : Str) (st : Stmt) (f : Addr) (cdv : Value) (A : Around) (outer : List Env) (s : Shared) (H : Hp) (E : XK) : Cx := (cxOf CX0 P w K mg base N qual (defScope st) f cdv A outer s H E).nox
abbrev fnE (n : Nat) (q : PV → Mem → Prop) : PEnds := { nx := fun _ m => Adj n q (.d .none) m, rt := Adj n q }
section
variable {P : Program} {w : World} {K : PySem.W.Frag} {mg : Str → Option Value} {base : Heap}
theorem fn_pp {x qual : Str} {st : Stmt} {f : Addr} {fd : FuncData} {N ps : List Str} {k : Nat} {sp : FSp} (F : Fun K x qual st f fd) (S : FnScope N ps (defScope st)) (len : ∀ pvs m q, sp pvs m q → pvs.length = ps.length)
    (body : ∀ (cdv : Value) (A : Around) (outer : List Env) (s : Shared) (H : Hp) (E : XK), Room k (DX P w K mg base N qual st f cdv A outer s H E).A → ∀ pvs m q, sp pvs m q → WSs (DX P w K mg base N qual st f cdv A outer s H E) (defBody st) (startL N pvs) m (fnE m.length q)) :
    FnOk P w K mg base CX0 (k + 1) f fd ps (toSp K sp) := by
  refine F.ok S (fun vs H Q E ⟨w, pvs, m, q, hr, r, h, k⟩ => by rw [r.length]; exact len _ _ _ h) fun cdv A outer s H vs Q E hrm h => ?_
  refine ⟨_, pssU _, ?_⟩
  obtain ⟨wd, pvs, m, q, hr, r, h, kk⟩ := h
  refine tUSs_mono (body cdv A outer s H E hrm pvs m q h wd _ H (rep_start N hr r)) ?_ ?_ ?_ ?_
  · rintro σ' H' ⟨w', L', m', l, r', a⟩
    exact adj_ok hr.len l r'.toHR (show RV K w' V.non (.d .none) from DP.non) a kk
  · rintro v H' ⟨w', p, m', l, hr', d, a⟩
    exact adj_ok hr.len l hr' d a kk
  · rintro σ' H' ⟨_, _, _, _, _, z⟩
    exact z
  · rintro σ' H' ⟨_, _, _, _, _, z⟩
    exact z
end
def ren (ks : List Nat) : PV → PV
  | .ref k => .ref (ks.idxOf k)
  | p => p
def refsIn (ks : List Nat) : PV → Prop
  | .ref k => k ∈ ks
  | _ => True
def keepO (pv : Option Nat) (k : Nat) : Option Cell → Option Cell
  | some (.own a b c) => match pv with
    | some j => if j + 1 = k then some (.own a b c) else none
    | none => none
  | c => c
def cellsFr (m : Mem) : Option Nat → List Nat → Mem
  | _, [] => []
  | pv, k :: ks => keepO pv k (m[k]?).join :: cellsFr m (some k) ks
def cellsAt (m : Mem) (ks : List Nat) : Mem := cellsFr m none ks
theorem cellsFr_len (m : Mem) : ∀ (pv : Option Nat) (ks : List Nat), (cellsFr m pv ks).length = ks.length
  | _, [] => rfl
  | _, k :: ks => congrArg (· + 1) (cellsFr_len m (some k) ks)
theorem cellsAt_len {m : Mem} {ks : List Nat} : (cellsAt m ks).length = ks.length := cellsFr_len m none ks
def ahead (pv : Option Nat) (ks : List Nat) : Nat → Option Nat
  | 0 => pv
  | j + 1 => ks[j]?
theorem cellsFr_at {m : Mem} {c : Cell} : ∀ {pv : Option Nat} {ks : List Nat} {j : Nat}, (cellsFr m pv ks)[j]? = some (some c) → ∃ k, ks[j]? = some k ∧ m[k]? = some (some c) ∧ ((∃ x y z, c = .own x y z) → ∃ i, ahead pv ks j = some i ∧ i + 1 = k)
  | _, [], _, e => by cases e
  | pv, k :: ks, 0, e => by
    have e : keepO pv k (m[k]?).join = some c := by simpa [cellsFr] using e
    refine ⟨k, rfl, ?_, ?_⟩
    · cases r : (m[k]?).join with
      | none => rw [r] at e; cases e
      | some d =>
        rw [r] at e
        have ed : d = c := by
          cases d with
          | lst _ => exact Option.some.inj e
          | dK _ => exact Option.some.inj e
          | own x y z =>
            unfold keepO at e
            cases pv with
            | none => cases e
            | some i =>
              dsimp only at e
              split at e
              · exact Option.some.inj e
              · cases e
        subst ed
        cases q : m[k]? with
        | none => rw [q] at r; cases r
        | some o => rw [q] at r; rw [show o = some d from r]
    · rintro ⟨x, y, z, rfl⟩
      cases r : (m[k]?).join with
      | none => rw [r] at e; cases e
      | some d =>
        rw [r] at e
        cases d with
        | lst _ => cases e
        | dK _ => cases e
        | own x y z =>
          unfold keepO at e
          cases pv with
          | none => cases e
          | some i =>
            dsimp only at e
            split at e
            · rename_i h; exact ⟨i, rfl, h⟩
            · cases e
  | pv, k :: ks, j + 1, e => by
    have e : (cellsFr m (some k) ks)[j]? = some (some c) := by simpa [cellsFr] using e
    obtain ⟨k', h1, h2, h3⟩ := cellsFr_at e
    refine ⟨k', by simpa using h1, h2, fun h => ?_⟩
    obtain ⟨i, h4, h5⟩ := h3 h
    refine ⟨i, ?_, h5⟩
    cases j with
    | zero => exact h4
    | succ j => exact h4
def setAll (m : Mem) : List Nat → Mem → Mem
  | k :: ks, c :: cs => setAll (m.set k c) ks cs
  | _, _ => m
theorem setAll_len : ∀ (ks : List Nat) (cs m : Mem), (setAll m ks cs).length = m.length
  | [], [], _ => rfl
  | [], _ :: _, _ => rfl
  | k :: ks, [], m => rfl
  | k :: ks, c :: cs, m => by unfold setAll; rw [setAll_len ks cs, List.length_set]
theorem setAll_out : ∀ {ks : List Nat} {cs m : Mem} {i : Nat}, i ∉ ks → (setAll m ks cs)[i]? = m[i]?
  | [], cs, m, i, _ => by cases cs <;> rfl
  | k :: ks, [], m, i, _ => rfl
  | k :: ks, c :: cs, m, i, h => by
    unfold setAll
    rw [setAll_out (fun z => h (List.mem_cons_of_mem _ z)), List.getElem?_set_ne (fun z => h (by rw [← z]; exact List.mem_cons_self))]
theorem setAll_in : ∀ {ks : List Nat} {cs m : Mem} {j k : Nat} {c : Option Cell}, ks.Nodup → (∀ k ∈ ks, k < m.length) → ks[j]? = some k → cs[j]? = some c → (setAll m ks cs)[k]? = some c
  | [], _, _, _, _, _, _, _, e, _ => by simp at e
  | _ :: _, [], _, _, _, _, _, _, _, e => by simp at e
  | k0 :: ks, c0 :: cs, m, 0, k, c, nd, hl, e1, e2 => by
    have e1' : k0 = k := by simpa using e1
    have e2' : c0 = c := by simpa using e2
    subst e1'; subst e2'
    unfold setAll
    rw [setAll_out (List.nodup_cons.mp nd).1, List.getElem?_set_self (hl k0 List.mem_cons_self)]
  | k0 :: ks, c0 :: cs, m, j + 1, k, c, nd, hl, e1, e2 => by
    unfold setAll
    exact setAll_in (List.nodup_cons.mp nd).2 (fun i hi => by rw [List.length_set]; exact hl i (List.mem_cons_of_mem _ hi)) (by simpa using e1) (by simpa using e2)
section
variable {K : PySem.W.Frag} {w : Wd} {m : Mem} {H : Hp} {ks : List Nat}
def othersOf (w : Wd) (H : Hp) (ks : List Nat) : List (Addr × HO) := (List.range w.A.length).filterMap fun k => if k ∈ ks then none else
  match w.A[k]? with
  | some a => match w.F a with
    | none => (H a).map fun o => (a, o)
    | some _ => none
  | none => none
theorem mem_others {p : Addr × HO} : p ∈ othersOf w H ks ↔ ∃ k, k ∉ ks ∧ w.A[k]? = some p.1 ∧ w.F p.1 = none ∧ H p.1 = some p.2 := by
  unfold othersOf
  rw [List.mem_filterMap]
  constructor
  · rintro ⟨k, _, e⟩
    split at e
    · cases e
    · rename_i hk
      split at e
      · rename_i a ea
        split at e
        · rename_i hf
          cases q : H a with
          | none => rw [q] at e; cases e
          | some o =>
            rw [q] at e
            have e' : (a, o) = p := by simpa using e
            subst e'
            exact ⟨k, hk, ea, hf, q⟩
        · cases e
      · cases e
  · rintro ⟨k, hk, ea, hf, q⟩
    refine ⟨k, List.mem_range.mpr (List.getElem?_eq_some_iff.mp ea).1, ?_⟩
    rw [if_neg hk, ea]
    simp only [hf, q, Option.map_some]
theorem others_nodup (nd : w.A.Nodup) : ((othersOf w H ks).map (·.1)).Nodup := by
  have gen : ∀ (l : List Nat), l.Nodup → ((l.filterMap fun k => if k ∈ ks then none else match w.A[k]? with | some a => (match w.F a with | none => (H a).map fun o => (a, o) | some _ => none) | none => none).map (·.1)).Nodup := by
    intro l
    induction l with
    | nil => intro _; exact .nil
    | cons k l ih =>
      intro hl
      rw [List.nodup_cons] at hl
      rw [List.filterMap_cons]
      split
      · exact ih hl.2
      · rename_i p e
        rw [List.map_cons, List.nodup_cons]
        refine ⟨fun z => ?_, ih hl.2⟩
        have hk : w.A[k]? = some p.1 := by
          split at e
          · cases e
          · split at e
            · rename_i a ea
              split at e
              · cases q : H a with
                | none => rw [q] at e; cases e
                | some o => rw [q] at e; simp at e; rw [← e]; exact ea
              · cases e
            · cases e
        obtain ⟨p', hp', ep⟩ := List.mem_map.mp z
        obtain ⟨k', hk', e'⟩ := List.mem_filterMap.mp hp'
        have hk2 : w.A[k']? = some p'.1 := by
          split at e'
          · cases e'
          · split at e'
            · rename_i a ea
              split at e'
              · cases q : H a with
                | none => rw [q] at e'; cases e'
                | some o => rw [q] at e'; simp at e'; rw [← e']; exact ea
              · cases e'
            · cases e'
        rw [ep] at hk2
        have := nodup_at nd hk2 hk
        subst this
        exact hl.1 hk'
  exact gen _ List.nodup_range
def Wd.sub (w : Wd) (H : Hp) (ks : List Nat) : Wd := { A := ks.map fun k => w.A.getD k 0, T := w.T ++ othersOf w H ks, F := w.F }
theorem sub_at (w : Wd) (H : Hp) {j k : Nat} (e : ks[j]? = some k) (hk : k < w.A.length) : (w.sub H ks).A[j]? = w.A[k]? := by
  show (ks.map fun k => w.A.getD k 0)[j]? = _
  rw [List.getElem?_map, e, List.getElem?_eq_getElem hk]
  simp [List.getD, List.getElem?_eq_getElem hk]
theorem sub_inv (w : Wd) (H : Hp) (hk : ∀ k ∈ ks, k < w.A.length) {j : Nat} {a : Addr} (e : (w.sub H ks).A[j]? = some a) : ∃ k, ks[j]? = some k ∧ w.A[k]? = some a := by
  have e' : (ks.map fun k => w.A.getD k 0)[j]? = some a := e
  rw [List.getElem?_map] at e'
  cases q : ks[j]? with
  | none => rw [q] at e'; cases e'
  | some k =>
    refine ⟨k, rfl, ?_⟩
    rw [← sub_at w H q (hk k (List.mem_of_getElem? q))]; exact e
theorem HR.subWorld (h : HR K w m H) (nd : ks.Nodup) (hk : ∀ k ∈ ks, k < m.length) : HR K (w.sub H ks) (cellsAt m ks) H := by
  have hk' : ∀ k ∈ ks, k < w.A.length := fun k z => by rw [h.len]; exact hk k z
  refine ⟨h.fz, ?_, ?_, fun j a c e1 e2 => ?_, fun a ha => ?_, fun p hp => ?_, ?_, fun j c e => ?_⟩
  · show (ks.map _).length = _
    rw [List.length_map, cellsAt_len]
  · show (ks.map fun k => w.A.getD k 0).Nodup
    refine List.Pairwise.map _ (R := fun a b => a ≠ b ∧ a ∈ ks ∧ b ∈ ks) (fun a b ⟨hab, ha, hb⟩ z => hab ?_) ?_
    · have h1 := hk' a ha
      have h2 := hk' b hb
      have e1 : w.A[a]? = some (w.A.getD a 0) := by rw [List.getElem?_eq_getElem h1]; simp [List.getD, List.getElem?_eq_getElem h1]
      have e2 : w.A[b]? = some (w.A.getD a 0) := by rw [z, List.getElem?_eq_getElem h2]; simp [List.getD, List.getElem?_eq_getElem h2]
      exact nodup_at h.nd e1 e2
    · exact List.Pairwise.imp_of_mem (fun {a b} ha hb hab => ⟨hab, ha, hb⟩) nd
  · obtain ⟨k, e3, e4⟩ := sub_inv w H hk' e1
    obtain ⟨k', e5, e6, _⟩ := cellsFr_at e2
    rw [e3] at e5; cases e5
    exact h.sep k a c e4 e6
  · obtain ⟨j, e1⟩ := List.getElem?_of_mem ha
    obtain ⟨k, e3, e4⟩ := sub_inv w H hk' e1
    exact h.occ a (List.mem_of_getElem? e4)
  · have notin : ∀ a, (∀ k, w.A[k]? = some a → k ∉ ks) → a ∉ (w.sub H ks).A := fun a hn z => by
      obtain ⟨j, e1⟩ := List.getElem?_of_mem z
      obtain ⟨k, e3, e4⟩ := sub_inv w H hk' e1
      exact hn k e4 (List.mem_of_getElem? e3)
    rcases List.mem_append.mp hp with z | z
    · obtain ⟨e1, e2, e3⟩ := h.tp p z
      exact ⟨e1, e2, notin _ fun k ek _ => e3 (List.mem_of_getElem? ek)⟩
    · obtain ⟨k, hk1, ea, hf, eh⟩ := mem_others.mp z
      exact ⟨eh, hf, notin _ fun k2 ek2 z2 => hk1 (nodup_at h.nd ek2 ea ▸ z2)⟩
  · show ((w.T ++ othersOf w H ks).map (·.1)).Nodup
    rw [List.map_append]
    refine List.nodup_append.mpr ⟨h.tnd, others_nodup h.nd, fun a ha b hb z => ?_⟩
    obtain ⟨p, hp, e1⟩ := List.mem_map.mp ha
    obtain ⟨q, hq, e2⟩ := List.mem_map.mp hb
    obtain ⟨k, _, ea, _⟩ := mem_others.mp hq
    exact (h.tp p hp).2.2 (by rw [e1, z, ← e2]; exact List.mem_of_getElem? ea)
  · obtain ⟨k, e3, e4, e0⟩ := cellsFr_at e
    obtain ⟨a, o, e5, e6, r⟩ := h.cell k c e4
    refine ⟨a, o, by rw [sub_at w H e3 (hk' k (List.mem_of_getElem? e3))]; exact e5, e6, ?_⟩
    cases c with
    | lst ds => exact r
    | dK kvs => exact r
    | own x y z =>
      obtain ⟨i, h1, h2⟩ := e0 ⟨x, y, z, rfl⟩
      obtain ⟨j', q, r1, r2, r3⟩ := r
      cases j with
      | zero => cases h1
      | succ j =>
        have h1 : ks[j]? = some i := h1
        refine ⟨j, q, rfl, ?_, r3⟩
        rw [sub_at w H h1 (hk' i (List.mem_of_getElem? h1)), show i = j' by omega]
        exact r2
theorem sub_rv (h : HR K w m H) (hk : ∀ k ∈ ks, k < m.length) {v : V} {p : PV} (r : RV K w v p) (hp : refsIn ks p) : RV K (w.sub H ks) v (ren ks p) := by
  cases p with
  | d x => exact r
  | raw u => exact r
  | ref k =>
    obtain ⟨a, ea, ev⟩ := r
    have hin : k ∈ ks := hp
    refine ⟨a, ?_, ev⟩
    have : ks[ks.idxOf k]? = some k := by
      rw [List.getElem?_eq_getElem (List.idxOf_lt_length_of_mem hin)]
      exact congrArg some (List.getElem_idxOf _)
    rw [sub_at w H this (by rw [h.len]; exact hk k hin)]; exact ea
theorem sub_rvs (h : HR K w m H) (hk : ∀ k ∈ ks, k < m.length) : ∀ {vs : List V} {ps : List PV}, RVs K w vs ps → (∀ p ∈ ps, refsIn ks p) → RVs K (w.sub H ks) vs (ps.map (ren ks))
  | _, _, .nil, _ => .nil
  | _, _, .cons r t, hp => .cons (sub_rv h hk r (hp _ List.mem_cons_self)) (sub_rvs h hk t fun p z => hp p (List.mem_cons_of_mem _ z))
def okO (pv : Option Nat) (k : Nat) : Option Cell → Bool
  | some (.own _ _ _) => match pv with
    | some j => decide (j + 1 = k)
    | none => false
  | _ => true
def backB : Option Nat → List Nat → Mem → Bool
  | _, [], [] => true
  | pv, k :: ks, c :: cs => okO pv k c && backB (some k) ks cs
  | _, _, _ => false
theorem backB_len : ∀ {pv : Option Nat} {ks : List Nat} {cs : Mem}, backB pv ks cs = true → cs.length = ks.length
  | _, [], [], _ => rfl
  | _, [], _ :: _, h => by cases h
  | _, _ :: _, [], h => by cases h
  | pv, k :: ks, c :: cs, h => by
    unfold backB at h
    rw [List.length_cons, List.length_cons, backB_len (Bool.and_eq_true_iff.mp h).2]
theorem backB_own {x y z : Int} : ∀ {pv : Option Nat} {ks : List Nat} {cs : Mem} {j : Nat}, backB pv ks cs = true → cs[j]? = some (some (.own x y z)) → ∃ i k, ahead pv ks j = some i ∧ ks[j]? = some k ∧ i + 1 = k
  | _, [], [], _, _, e => by cases e
  | _, [], _ :: _, _, h, _ => by cases h
  | _, _ :: _, [], _, h, _ => by cases h
  | pv, k :: ks, c :: cs, 0, h, e => by
    unfold backB at h
    have e : c = some (.own x y z) := by simpa using e
    subst e
    have h1 := (Bool.and_eq_true_iff.mp h).1
    unfold okO at h1
    cases pv with
    | none => cases h1
    | some i => exact ⟨i, k, rfl, rfl, of_decide_eq_true h1⟩
  | pv, k :: ks, c :: cs, j + 1, h, e => by
    unfold backB at h
    obtain ⟨i, k', h1, h2, h3⟩ := backB_own (Bool.and_eq_true_iff.mp h).2 (by simpa using e)
    refine ⟨i, k', ?_, by simpa using h2, h3⟩
    cases j with
    | zero => exact h1
    | succ j => exact h1
theorem HR.back {w' : Wd} {mc : Mem} {H' : Hp} {mo : List Addr} {ex : Mem} (h : HR K w m H) (nd : ks.Nodup) (hk : ∀ k ∈ ks, k < m.length) (l : (w.sub H ks).le w') (hr : HR K w' (mc ++ ex) H') (hbk : backB none ks mc = true) :
    w.le { w with F := w'.F } ∧ HR K { w with F := w'.F } (setAll m ks mc) H' := by
  have hl := backB_len hbk
  have hk' : ∀ k ∈ ks, k < w.A.length := fun k z => by rw [h.len]; exact hk k z
  obtain ⟨more, em⟩ := l.pre
  have hT : w'.T = w.T ++ othersOf w H ks := l.hid
  have inA : ∀ {j k : Nat} {a : Addr}, ks[j]? = some k → w.A[k]? = some a → w'.A[j]? = some a := fun {j k a} e1 e2 => by
    rw [em, List.getElem?_append_left]
    · rw [sub_at w H e1 (hk' k (List.mem_of_getElem? e1))]; exact e2
    · show j < (ks.map _).length
      rw [List.length_map]; exact (List.getElem?_eq_some_iff.mp e1).1
  have out : ∀ {k : Nat} {a : Addr}, w.A[k]? = some a → k ∉ ks → w.F a = none → ∃ o, H a = some o ∧ H' a = some o ∧ w'.F a = none := fun {k a} ea hn hf => by
    cases q : H a with
    | none => exact absurd q (h.occ a (List.mem_of_getElem? ea))
    | some o =>
      have := hr.tp (a, o) (by rw [hT]; exact List.mem_append_right _ (mem_others.mpr ⟨k, hn, ea, hf, q⟩))
      exact ⟨o, rfl, this.1, this.2.1⟩
  refine ⟨⟨⟨⟨[], by simp⟩, l.sub⟩, rfl⟩, hr.fz, by rw [setAll_len]; exact h.len, h.nd, fun k a c e1 e2 => ?_, fun a ha => ?_, fun p hp => ?_, h.tnd, fun k c e => ?_⟩
  · by_cases hin : k ∈ ks
    · obtain ⟨j, ej⟩ := List.getElem?_of_mem hin
      have hj : j < mc.length := by rw [hl]; exact (List.getElem?_eq_some_iff.mp ej).1
      have e3 := setAll_in nd hk ej (List.getElem?_eq_getElem hj)
      rw [e3] at e2
      have e4 : (mc ++ ex)[j]? = some (some c) := by rw [List.getElem?_append_left hj, List.getElem?_eq_getElem hj]; exact e2
      exact hr.sep j a c (inA ej e1) e4
    · rw [setAll_out hin] at e2
      exact (out e1 hin (h.sep k a c e1 e2)).choose_spec.2.2
  · obtain ⟨k, ek⟩ := List.getElem?_of_mem ha
    by_cases hin : k ∈ ks
    · obtain ⟨j, ej⟩ := List.getElem?_of_mem hin
      exact hr.occ a (List.mem_of_getElem? (inA ej ek))
    · cases hf : w.F a with
      | none =>
        obtain ⟨o, _, e2, _⟩ := out ek hin hf
        rw [e2]; exact fun z => by cases z
      | some o =>
        rw [hr.fz a o (l.sub a o hf)]; exact fun z => by cases z
  · obtain ⟨e1, e2, _⟩ := hr.tp p (by rw [hT]; exact List.mem_append_left _ hp)
    exact ⟨e1, e2, (h.tp p hp).2.2⟩
  · by_cases hin : k ∈ ks
    · obtain ⟨j, ej⟩ := List.getElem?_of_mem hin
      have hj : j < mc.length := by rw [hl]; exact (List.getElem?_eq_some_iff.mp ej).1
      have e3 := setAll_in nd hk ej (List.getElem?_eq_getElem hj)
      rw [e3] at e
      have e4 : (mc ++ ex)[j]? = some (some c) := by rw [List.getElem?_append_left hj, List.getElem?_eq_getElem hj]; exact e
      obtain ⟨a, o, e5, e6, r⟩ := hr.cell j c e4
      have hkl := hk' k hin
      have e7 := inA ej (List.getElem?_eq_getElem hkl)
      rw [e5] at e7
      cases e7
      refine ⟨_, o, List.getElem?_eq_getElem hkl, e6, ?_⟩
      cases c with
      | lst ds => exact r
      | dK kvs => exact r
      | own x y z =>
        have e9 : mc[j]? = some (some (.own x y z)) := by rw [← e4, List.getElem?_append_left hj]
        obtain ⟨i, k2, b1, b2, b3⟩ := backB_own hbk e9
        obtain ⟨j', q, r1, r2, r3⟩ := r
        subst r1
        have b1 : ks[j']? = some i := b1
        rw [ej] at b2
        cases b2
        have hi := hk' i (List.mem_of_getElem? b1)
        have e10 := inA b1 (List.getElem?_eq_getElem hi)
        rw [r2] at e10
        refine ⟨i, q, b3.symm, ?_, r3⟩
        show w.A[i]? = some q
        rw [List.getElem?_eq_getElem hi, e10]
    · rw [setAll_out hin] at e
      obtain ⟨a, o, e5, e6, r⟩ := h.cell k c e
      obtain ⟨o', h1, h2, _⟩ := out e5 hin (h.sep k a c e5 e)
      rw [e6] at h1; cases h1
      exact ⟨a, o, e5, h2, r.mono l.sub⟩
end
section
variable {X : Cx} {L : PP.Loc} {m : Mem} {e a b : Expr} {es : List Expr} {pos p : Pos} {Q : QE} {k : Nat} {f : Addr} {fd : FuncData} {ps : List Str} {sp : FSp} {x : Str}
def CallAsk (sp : FSp) (ks : List Nat) (pvs : List PV) (m : Mem) (q : PV → Mem → Prop) : Prop := ks.Nodup ∧ (∀ k ∈ ks, k < m.length) ∧ (∀ p ∈ pvs, refsIn ks p) ∧ sp (pvs.map (ren ks)) (cellsAt m ks) q
theorem we_call (ks : List Nat) (F : FnOk X.prog X.w X.K X.mg X.base CX0 k f fd ps (toSp X.K sp)) (hr : Room k X.A) (hm : X.mg x = some (.ref f)) (hk : PySem.W.keepIn X.K (.ref f) = true) (hb : Binds X.K fd ps [])
    (h : WA X (e :: es) L m fun pvs m1 => CallAsk sp ks pvs m1 fun p mc => ∃ y, p = .d y ∧ backB none ks mc = true ∧ Q y (setAll m1 ks mc))
    (hg : Gl X x := by rfl) (hdb : (x == ("__debug__" : Str)) = false := by decide) (he : starEach (e :: es) X.env = (false, eval e X.env) :: starEach es X.env := by rfl) (hpl : (backTo pos (starEach es X.env)).any (·.1) = false := by rfl) : WE X (.Call (.Name x p) (e :: es) [] pos) L m Q :=
  we_of (pe_call F hr hg hm hk hb .nil pass0 (paU (e :: es)) hdb he hpl) fun w σ H r => h.go r fun w1 vs pvs m1 H1 l1 r1 d1 ⟨nd, hl, hi, hs⟩ => by
    show toSp X.K sp (vs ++ []) H1 _ _
    rw [List.append_nil]
    refine ⟨_, _, _, _, r1.toHR.subWorld nd hl, sub_rvs r1.toHR hl d1 hi, hs, fun w' v q mc H' l hr' d ⟨y, ey, hmc, qq⟩ => ?_⟩
    subst ey
    obtain ⟨l3, hr3⟩ := r1.toHR.back (mo := []) (ex := []) nd hl l (by rw [List.append_nil]; exact hr') hmc
    exact ⟨_, y, _, l1.trans l3, hr3, d, qq⟩
theorem wf_call {Q : List PyData → Mem → Prop} (ks : List Nat) (F : FnOk X.prog X.w X.K X.mg X.base CX0 k f fd ps (toSp X.K sp)) (hr : Room k X.A) (hm : X.mg x = some (.ref f)) (hk : PySem.W.keepIn X.K (.ref f) = true) (hb : Binds X.K fd ps [])
    (h : WA X (e :: es) L m fun pvs m1 => CallAsk sp ks pvs m1 fun p mc => ∃ mc0 xs, p = .ref ks.length ∧ mc = mc0 ++ [some (.lst xs)] ∧ backB none ks mc0 = true ∧ Q xs (setAll m1 ks mc0))
    (hg : Gl X x := by rfl) (hdb : (x == ("__debug__" : Str)) = false := by decide) (he : starEach (e :: es) X.env = (false, eval e X.env) :: starEach es X.env := by rfl) (hpl : (backTo pos (starEach es X.env)).any (·.1) = false := by rfl) : WF X (.Call (.Name x p) (e :: es) [] pos) L m Q :=
  wf_of (pe_call F hr hg hm hk hb .nil pass0 (paU (e :: es)) hdb he hpl) fun w σ H r => h.go r fun w1 vs pvs m1 H1 l1 r1 d1 ⟨nd, hl, hi, hs⟩ => by
    show toSp X.K sp (vs ++ []) H1 _ _
    rw [List.append_nil]
    refine ⟨_, _, _, _, r1.toHR.subWorld nd hl, sub_rvs r1.toHR hl d1 hi, hs, fun w' v q mc H' l hr' d ⟨mc0, xs, ey, em, hmc, qq⟩ => ?_⟩
    subst ey; subst em
    obtain ⟨l3, hr3⟩ := r1.toHR.back (mo := []) (ex := [some (.lst xs)]) nd hl l hr' hmc
    have ec : (mc0 ++ [some (Cell.lst xs)])[ks.length]? = some (some (.lst xs)) := by rw [← backB_len hmc, List.getElem?_append_right (Nat.le_refl _)]; simp
    obtain ⟨ad, o, ea, eo, us, rfl, dd⟩ := hr'.cell _ _ ec
    obtain ⟨ad', ea', rfl⟩ := d
    rw [ea] at ea'; cases ea'
    have hF := hr'.sep _ _ _ ea ec
    obtain ⟨more, em⟩ := l.pre
    have hT : w'.T = w1.T ++ othersOf w1 H1 ks := l.hid
    refine ⟨_, xs, _, ad, us, rfl, l1.trans l3, hr3, eo, ⟨hF, fun z => ?_, fun z => ?_⟩, dd, qq⟩
    · have z : ad ∈ w1.A := z
      obtain ⟨i, ei⟩ := List.getElem?_of_mem z
      by_cases hin : i ∈ ks
      · obtain ⟨j, ej⟩ := List.getElem?_of_mem hin
        have hil : i < w1.A.length := (List.getElem?_eq_some_iff.mp ei).1
        have hj : j < ks.length := (List.getElem?_eq_some_iff.mp ej).1
        have e3 : w'.A[j]? = some ad := by
          rw [em, List.getElem?_append_left (by show j < (ks.map _).length; rw [List.length_map]; exact hj), sub_at w1 H1 ej hil]; exact ei
        have := nodup_at hr'.nd e3 ea
        omega
      · have hf : w1.F ad = none := l.sub.none hF
        cases q : H1 ad with
        | none => exact r1.toHR.occ ad z q
        | some o =>
          have := hr'.tp (ad, o) (by rw [hT]; exact List.mem_append_right _ (mem_others.mpr ⟨i, hin, ei, hf, q⟩))
          exact this.2.2 (List.mem_of_getElem? ea)
    · obtain ⟨t, ht, et⟩ := List.mem_map.mp z
      exact (hr'.tp t (by rw [hT]; exact List.mem_append_left _ ht)).2.2 (et ▸ List.mem_of_getElem? ea)
theorem cell_at {w : Wd} {H : Hp} {v : V} {k : Nat} {xs : List PyData} (hr : HR X.K w m H) (r : RV X.K w v (.ref k)) (hm : m[k]? = some (some (.lst xs))) : ∃ a vs, v = .ref a ∧ w.A[k]? = some a ∧ H a = some (.lst vs) ∧ DPs X.K w.F vs xs := by
  obtain ⟨a, o, ea, eo, vs, rfl, d⟩ := hr.cell k _ hm
  obtain ⟨a', ea', rfl⟩ := r
  rw [ea] at ea'; cases ea'
  exact ⟨a, vs, rfl, ea, eo, d⟩
theorem cell_upd {w : Wd} {H : Hp} {k : Nat} {a0 : Addr} {vs us : List V} {xs ys : List PyData} (hr : HR X.K w m H) (ea : w.A[k]? = some a0) (hm : m[k]? = some (some (.lst xs))) (d : DPs X.K w.F us ys) : HR X.K w (m.set k (some (.lst ys))) (upd H a0 (.lst us)) := hr.write (c' := .lst ys) (o := .lst us) ea hm ⟨us, rfl, d⟩
theorem we_lm1 {name : Str} {id : String} {r : V → List V → Hp → VK → Prop} {apos : Pos} {Qr : Nat → PyData → Mem → Prop} (slot : Slot "list" name id) (hty : typeOf (.builtin id) = pure (.type "method_descriptor")) (hmt : MtM X id r)
    (rule : ∀ (w0 w : Wd) (k : Nat) (y : PyData) (m : Mem) (H : Hp) (v u : V), w0.le w → HR X.K w m H → RV X.K w v (.ref k) → DP X.K w.F u y → Qr k y m → r v [u] H (POE X.K w0 Q))
    (h : WV X a L m fun p m1 => ∃ k xs0, p = .ref k ∧ m1[k]? = some (some (.lst xs0)) ∧ WE X e L m1 fun y m2 => Qr k y m2)
    (hb : attributeBase a name X.env (eval a X.env) = eval a X.env := by rfl)
    (hfew : ((backTo pos (starEach [e] X.env)).all (fun x => !x.1) && (backToKw pos (keywordEach [] X.env)).all (fun x => x.1.isSome)
      && decide ([e].length + ([] : List Keyword).length + (if ([] : List Keyword).isEmpty then 0 else 1) < 30)) = true := by rfl)
    (hline : (apos.endLine == pos.line) = true := by rfl) (he : starEach [e] X.env = (false, eval e X.env) :: starEach [] X.env := by rfl) (hpl : (backTo pos (starEach [] X.env)).any (·.1) = false := by rfl) : WE X (.Call (.Attribute a name apos) [e] [] pos) L m Q :=
  we_of (pe_bm PySem.F.plainAttrs_list slot hty hmt (peU a) (paU [e]) hb hfew hline he hpl) fun w σ H r => h.go r fun w1 v p m1 H1 l1 r1 d1 ⟨k, xs0, e1, e2, q1⟩ => by
    subst e1
    obtain ⟨a0, vs0, rfl, ea0, eo0, dd0⟩ := cell_at r1.toHR d1 e2
    refine ⟨.inl ⟨rfl, _, .inl (.inl eo0)⟩, WA.go (wd1 q1 he) r1 fun w2 us ps m2 H2 l2 r2 d2 ⟨y, e3, q⟩ => ?_⟩
    subst e3
    obtain ⟨u, rfl, d3⟩ := rvs1 d2
    exact rule w w2 k y m2 H2 _ u (l1.trans l2) r2.toHR (d1.mono l2.toLe0) d3 q
theorem we_lm0 {name : Str} {id : String} {r : V → List V → Hp → VK → Prop} {apos : Pos} {Qr : Nat → Mem → Prop} (slot : Slot "list" name id) (hty : typeOf (.builtin id) = pure (.type "method_descriptor")) (hmt : MtM X id r)
    (rule : ∀ (w0 w : Wd) (k : Nat) (m : Mem) (H : Hp) (v : V), w0.le w → HR X.K w m H → RV X.K w v (.ref k) → Qr k m → r v [] H (POE X.K w0 Q))
    (h : WV X a L m fun p m1 => ∃ k xs0, p = .ref k ∧ m1[k]? = some (some (.lst xs0)) ∧ Qr k m1)
    (hb : attributeBase a name X.env (eval a X.env) = eval a X.env := by rfl) (hline : (apos.endLine == pos.line) = true := by rfl) : WE X (.Call (.Attribute a name apos) [] [] pos) L m Q :=
  we_of (pe_bm0 PySem.F.plainAttrs_list slot hty hmt (peU a) hb hline) fun w σ H r => h.go r fun w1 v p m1 H1 l1 r1 d1 ⟨k, xs0, e1, e2, q1⟩ => by
    subst e1
    obtain ⟨a0, vs0, rfl, ea0, eo0, dd0⟩ := cell_at r1.toHR d1 e2
    exact ⟨.inl ⟨rfl, _, .inl (.inl eo0)⟩, rule w w1 k m1 H1 _ l1 r1.toHR d1 q1⟩
theorem we_append {apos : Pos} (h : WV X a L m fun p m1 => ∃ k xs0, p = .ref k ∧ m1[k]? = some (some (.lst xs0)) ∧ WE X e L m1 fun y m2 => ∃ xs, m2[k]? = some (some (.lst xs)) ∧ xs.length < sizeLine ∧ Q .none (m2.set k (some (.lst (xs ++ [y])))))
    (hb : attributeBase a "append" X.env (eval a X.env) = eval a X.env := by rfl)
    (hfew : ((backTo pos (starEach [e] X.env)).all (fun x => !x.1) && (backToKw pos (keywordEach [] X.env)).all (fun x => x.1.isSome)
      && decide ([e].length + ([] : List Keyword).length + (if ([] : List Keyword).isEmpty then 0 else 1) < 30)) = true := by rfl)
    (hline : (apos.endLine == pos.line) = true := by rfl) (he : starEach [e] X.env = (false, eval e X.env) :: starEach [] X.env := by rfl) (hpl : (backTo pos (starEach [] X.env)).any (·.1) = false := by rfl) : WE X (.Call (.Attribute a "append" apos) [e] [] pos) L m Q :=
  we_lm1 PySem.F.slot_list_append PySem.F.type_list_append mt_append (fun w0 w k y m H v u l hr d1 d2 ⟨xs, e4, hz, q⟩ => by
    obtain ⟨a1, vs, rfl, ea, eo, dd⟩ := cell_at hr d1 e4
    exact ⟨_, vs, u, rfl, rfl, eo, by rw [dpa_len dd]; exact hz, w, _, _, l, cell_upd (vs := vs) hr ea e4 (dpa_app dd (.cons d2 .nil)), .non, q⟩) h hb hfew hline he hpl
end
end PP
namespace PP
open PySem PySem.Spec PyProof.Rows L2
def Bd (k : Nat) (i : Int) : Prop := i.natAbs < 2 ^ k
theorem Bd.of {k : Nat} {i : Int} (h0 : 0 ≤ i) (h : i < 2 ^ k) : Bd k i := by
  unfold Bd
  have : ((2 ^ k : Nat) : Int) = (2 : Int) ^ k := by simp
  omega
theorem Bd.mono {j k : Nat} {i : Int} (h : Bd j i) (l : j ≤ k) : Bd k i := Nat.lt_of_lt_of_le h (Nat.pow_le_pow_right (by decide) l)
theorem Bd.log {k : Nat} {i : Int} (h : Bd k i) : i.natAbs.log2 ≤ k := by
  rcases Nat.eq_zero_or_pos i.natAbs with z | z
  · rw [z]; exact Nat.zero_le _
  · exact Nat.le_of_lt ((Nat.log2_lt (Nat.ne_of_gt z)).mpr h)
theorem cmul_of {j k : Nat} {a b : Int} (h : Bd j a) (g : Bd k b) (l : j + k < 1000000 := by decide) : CMulW a b := by
  have := h.log
  have := g.log
  unfold CMulW
  omega
theorem cdiv_of {k : Nat} {a b : Int} (h0 : 0 < b) (g : Bd k b) (l : k < 9000 := by decide) : CDivW a b := ⟨h0, Nat.lt_of_le_of_lt g.log l⟩
def CPowW (i j : Int) : Prop := 0 ≤ j ∧ (Builtin.Int.intBits i : Int) * j ≤ 2 ^ 27
theorem cpow_of {k : Nat} {a b : Int} (h : Bd k a) (h0 : 0 ≤ b) (h1 : b ≤ 64) (l : k ≤ 1000000 := by decide) : CPowW a b := by
  refine ⟨h0, ?_⟩
  have e : Builtin.Int.intBits a ≤ a.natAbs.log2 + 1 := by
    unfold Builtin.Int.intBits
    split <;> omega
  have := h.log
  have e2 : (Builtin.Int.intBits a : Int) * b ≤ 1000001 * 64 := Int.mul_le_mul (by omega) h1 h0 (by omega)
  have e3 : (2 : Int) ^ 27 = 134217728 := by decide
  omega
section
variable {X : Cx} {L : PP.Loc} {m : Mem} {a b : Expr} {pos : Pos} {Q : QE}
theorem op_powW : OpR X (binaryOp .Pow) (rI CPowW fun i j => .int (i ^ j.toNat)) := opI fun _ _ _ _ _ _ _ hc q => pow_int hc.1 hc.2 q
theorem we_pow (h : WE X a L m fun x m1 => WE X b L m1 fun y m2 => AskI x y fun i j => CPowW i j ∧ Q (.int (i ^ j.toNat)) m2) : WE X (.BinOp a .Pow b pos) L m Q := we_op op_powW (h.mono fun _ _ h => h.mono fun _ _ q => opw_I q)
end
end PP
namespace PP
open PySem PySem.Spec PyProof.Rows L2
section
variable {X : Cx} {L : PP.Loc} {m : Mem} {a b c e : Expr} {es : List Expr} {pos p : Pos} {Q : QE} {QT : Bool → Mem → Prop} {QL : List PyData → Mem → Prop} {D : PEnds}
def VT (X : Cx) (e : Expr) (L : PP.Loc) (m : Mem) (b : Bool) : Prop := ∀ Q : Bool → Mem → Prop, Q b m → WT X e L m Q
def VW (X : Cx) (e : Expr) (L : PP.Loc) (m : Mem) (b : Bool) : Prop := ∀ Q : Bool → Mem → Prop, Q b m → WW X e L m Q
def VE (X : Cx) (e : Expr) (L : PP.Loc) (m : Mem) (x : PyData) : Prop := ∀ Q : QE, Q x m → WE X e L m Q
theorem VT.use {k : Bool} (h : VT X e L m k) (q : QT k m) : WT X e L m QT := h QT q
theorem VE.use {k : PyData} (h : VE X e L m k) (q : Q k m) : WE X e L m Q := h Q q
theorem VW.vt {k : Bool} (h : VW X e L m k) : VT X e L m k := fun Q q => wt_ww (h Q q)
theorem vw_and1 {k : Bool} (h : VT X a L m k) : VW X (.BoolOp .And [a] pos) L m k := fun Q q => ww_and1 (h Q q)
theorem vw_or1 {k : Bool} (h : VT X a L m k) : VW X (.BoolOp .Or [a] pos) L m k := fun Q q => ww_or1 (h Q q)
theorem vw_and {k j : Bool} (h : VT X a L m k) (g : k = true → VW X (.BoolOp .And (b :: es) pos) L m j) : VW X (.BoolOp .And (a :: b :: es) pos) L m (k && j) := fun Q q => ww_and (h _ ⟨fun e => by
  subst e; exact g rfl Q q, fun e => by subst e; exact q⟩)
theorem vw_or {k j : Bool} (h : VT X a L m k) (g : k = false → VW X (.BoolOp .Or (b :: es) pos) L m j) : VW X (.BoolOp .Or (a :: b :: es) pos) L m (k || j) := fun Q q => ww_or (h _ ⟨fun e => by
  subst e; exact q, fun e => by subst e; exact g rfl Q q⟩)
theorem vt_not {k : Bool} (h : VT X a L m k) : VT X (.UnaryOp .Not a pos) L m (!k) := fun Q q => wt_not (h _ q)
theorem ve_one {op : BoolOp} {x : PyData} (h : VE X a L m x) : VE X (.BoolOp op [a] pos) L m x := fun Q q => we_one (h Q q)
theorem ve_and {k j : Bool} (h : VE X a L m (.bool k)) (g : k = true → VE X (.BoolOp .And (b :: es) pos) L m (.bool j)) : VE X (.BoolOp .And (a :: b :: es) pos) L m (.bool (k && j)) := fun Q q => we_andV (h _ ⟨k, rfl, fun e => by
  subst e; exact g rfl Q q, fun e => by subst e; exact q⟩)
theorem we_eqI (h : WE X a L m fun x m1 => WE X b L m1 fun y m2 => AskI x y fun i j => Q (.bool (decide (i = j))) m2) : WE X (.Compare a [.Eq] [b] pos) L m Q :=
  we_of (pe_cmp (pc_eqI (peU a) (peU b))) fun w σ H rp => by
    refine h.go rp fun w1 v x m1 H1 l1 r1 d1 q1 => q1.go r1 fun w2 u y m2 H2 l2 r2 d2 ⟨i, j, e1, e2, q⟩ => ?_
    subst e1; subst e2
    exact ⟨i, j, dp_int (dp_mono l2.sub _ _ d1), dp_int d2, w2, _, m2, l1.trans l2, r2.toHR, .bl _, q⟩
theorem dp_cell {w : Wd} {H : Hp} {v : V} {pv : PV} {xs : List PyData} (hr : HR X.K w m H) (r : RV X.K w v pv) (h : lstP m pv = some xs) : Dp X.K H v (.list xs) := by
  obtain ⟨a, vs, rfl, e, d⟩ := lstP_ok hr r h
  exact .lst (.of e) (DPs.toDp _ _ (dpa_mono hr.fz _ _ d))
def asD (m : Mem) : PV → Option PyData
  | .d x => some x
  | .ref k => match m[k]? with
    | some (some (.lst xs)) => some (.list xs)
    | _ => none
  | _ => none
theorem asD_ok {w : Wd} {H : Hp} {v : V} {pv : PV} {x : PyData} (hr : HR X.K w m H) (r : RV X.K w v pv) (h : asD m pv = some x) : Dp X.K H v x := by
  cases pv with
  | d y => cases h; exact DP.toDp _ _ (dp_mono hr.fz _ _ r)
  | ref k =>
    have h' : (match m[k]? with | some (some (.lst xs)) => some (PyData.list xs) | _ => none) = some x := h
    split at h'
    · rename_i ys hk
      cases h'
      exact dp_cell hr r (show (match m[k]? with | some (some (.lst xs)) => some xs | _ => none) = some ys by rw [hk])
    · cases h'
  | raw u => cases h
theorem wt_neV (hu : X.A.units + 64 < cLine) (h : WV X a L m fun x m1 => WV X b L m1 fun y m2 => ∃ d e, asD m2 x = some d ∧ asD m2 y = some e ∧ shp d ∧ shp e ∧ QT (!PyData.eqv d e) m2) : WT X (.Compare a [.NotEq] [b] pos) L m QT :=
  wt_of (pt_cmpR (op_neD hu) (peU a) (peU b) (nomark _)) fun w σ H r => h.go r fun w1 v x m1 H1 l1 r1 d1 q1 => q1.go r1 fun w2 u y m2 H2 l2 r2 d2 ⟨d, e, e1, e2, s1, s2, q⟩ =>
    ⟨_, _, asD_ok r2.toHR (d1.mono l2.toLe0) e1, asD_ok r2.toHR d2 e2, s1, s2, _, rfl, w2, m2, l1.trans l2, r2.toHR, q⟩
def tyD : PyData → String
  | .none => "NoneType"
  | .bool _ => "bool"
  | .int _ => "int"
  | .str _ => "str"
  | .list _ => "list"
  | .tuple _ => "tuple"
  | .dict _ => "dict"
theorem tyD_ok {w : Wd} {H : Hp} {v : V} {x : PyData} (hr : HR X.K w m H) (d : DP X.K w.F v x) : TyX X.K H v (.type (tyD x)) ∨ ∃ xs, x = .tuple xs := by
  cases d with
  | non => exact .inl (.base .non)
  | bl b => exact .inl (.base (.bl b))
  | int i => exact .inl (.base (.int i))
  | str s => exact .inl (.base (.str s))
  | lst h _ => exact .inl (.base (.lst (hr.fz _ _ h)))
  | tup h d =>
    refine .inr ⟨_, rfl⟩
theorem tyD_tup {w : Wd} {H : Hp} {v : V} {xs : List PyData} (hr : HR X.K w m H) (d : DP X.K w.F v (.tuple xs)) : TyX X.K H v (.type "tuple") := by
  cases d with
  | tup h d =>
    rcases hr.fz.sqt h with (h | ⟨o, h⟩) | ⟨o, its, n, hk, hcl, _⟩
    · exact .base (.tup h)
    · exact .fTuple h
    · exact .kTuple hk hcl
theorem we_isinst {T : String} {x : Str} {p2 : Pos} (hm : X.mg "isinstance" = none) (hmT : X.mg x = none) (hb : bootBuiltins x = some (.type T)) (h : WE X a L m fun y m1 => ∃ k, kitB (tyD y) T = some k ∧ Q (.bool k) m1) (hg : Gl X "isinstance" := by rfl) (hgT : Gl X x := by rfl)
    (hn : x ≠ "__name__" := by decide) (hd : (x == ("__debug__" : Str)) = false := by decide)
    (he : starEach [a, .Name x p2] X.env = (false, eval a X.env) :: starEach [.Name x p2] X.env := by rfl) (he2 : starEach [.Name x p2] X.env = (false, eval (.Name x p2) X.env) :: starEach [] X.env := by rfl) (hpl : (backTo pos (starEach [.Name x p2] X.env)).any (·.1) = false := by rfl) : WE X (.Call (.Name "isinstance" p) [a, .Name x p2] [] pos) L m Q :=
  we_of (pe_callB call_isi hg hm (by decide +kernel) (pa_cons (peU a) (pa_cons (pe_bltn (v := .ty T) hgT hmT hb rfl hn hd) pa_nil he2) he) (he := he) (hpl := hpl)) fun w σ H r => h.go r fun w1 v y m1 H1 l1 r1 d1 ⟨k, e1, q⟩ => by
    have ty : TyX X.K H1 v (.type (tyD y)) := by
      rcases tyD_ok r1.toHR d1 with t | ⟨xs, rfl⟩
      · exact t
      · exact tyD_tup r1.toHR d1
    exact ⟨v, .ty T, _, _, k, rfl, .ty T, ty, kit_ty e1, w1, _, m1, l1, r1.toHR, .bl k, q⟩
theorem we_catT (h : WE X a L m fun x m1 => WE X b L m1 fun y m2 => ∃ xs ys, x = .tuple xs ∧ y = .tuple ys ∧ xs.length + ys.length ≤ sizeLine ∧ Q (.tuple (xs ++ ys)) m2) : WE X (.BinOp a .Add b pos) L m Q :=
  we_of (pe_op op_catA (peU a) (peU b)) fun w σ H r => h.go r fun w1 v x m1 H1 l1 r1 d1 q1 => q1.go r1 fun w2 u y m2 H2 l2 r2 d2 ⟨xs, ys, e1, e2, hz, q⟩ => by
    subst e1; subst e2
    have d1 := dp_mono l2.sub _ _ d1
    obtain ⟨a1, vs, rfl, hs, d⟩ := dp_tuple d1
    obtain ⟨a2, us, rfl, hs', d'⟩ := dp_tuple d2
    refine ⟨a1, a2, vs, us, rfl, rfl, r2.toHR.fz.sqt hs, r2.toHR.fz.sqt hs', by rw [dpa_len d, dpa_len d']; exact hz, fun z => ?_, fun _ z => ?_, fun _ _ p hp => ?_⟩
    · subst z
      cases d
      exact ⟨w2, _, m2, l1.trans l2, r2.toHR, d2, q⟩
    · subst z
      cases d'
      rw [List.append_nil] at q
      exact ⟨w2, _, m2, l1.trans l2, r2.toHR, d1, q⟩
    · obtain ⟨l3, hr3⟩ := r2.toHR.fnew (o := .tup (vs ++ us)) hp
      exact ⟨_, _, m2, (l1.trans l2).trans l3, hr3, .tup (.of upd_same) (dpa_mono l3.sub _ _ (dpa_app d d')), q⟩
theorem cutD_whole {xs : List PyData} {lo hi : Option Int} (h : HT.sIx xs.length 0 lo = 0 ∧ HT.sIx xs.length xs.length hi = xs.length) : cutD xs lo hi = xs := by
  unfold cutD
  rw [h.1, h.2]
  simp
theorem we_sliceT {lo hi : Option Expr} {p2 : Pos} (h : WE X a L m fun x m1 => WO X lo L m1 fun i m2 => WO X hi L m2 fun j m3 => ∃ xs, x = .tuple xs ∧ Q (.tuple (cutD xs i j)) m3) : WE X (.Subscript a (.Slice lo hi none p2) pos) L m Q :=
  we_of (pe_slice sl_tupA (peU a) (poU lo) (poU hi)) fun w σ H r => h.go r fun w1 v x m1 H1 l1 r1 d1 q1 => q1.go r1 fun w2 i m2 H2 l2 r2 q2 => q2.go r2 fun w3 j m3 H3 l3 r3 ⟨xs, e1, q⟩ => by
    subst e1
    have d1 := dp_mono (l2.trans l3).sub _ _ d1
    obtain ⟨ad, vs, rfl, hh, d⟩ := dp_tuple d1
    refine ⟨ad, vs, rfl, r3.toHR.fz.sqt hh, fun z => ?_, fun _ p hp => ?_⟩
    · rw [dpa_len d] at z
      rw [cutD_whole z] at q
      exact ⟨w3, _, m3, (l1.trans l2).trans l3, r3.toHR, d1, q⟩
    · obtain ⟨l4, hr4⟩ := r3.toHR.fnew (o := .tup (cutV vs i j)) hp
      exact ⟨_, _, m3, ((l1.trans l2).trans l3).trans l4, hr4, .tup (.of upd_same) (dpa_mono l4.sub _ _ (cut_dpa d i j)), q⟩
def valD (kvs : List (Key × PyData)) (k : Key) : Option PyData := (kvs.find? fun kv => decide (kv.1 = k)).map (·.2)
end
end PP
namespace PP
open PySem PySem.Spec PyProof.Rows L2
theorem setAll_nil {m cs : Mem} : setAll m [] cs = m := by cases cs <;> rfl
theorem units65 {k : Nat} {A : Around} (r : Room k A) : A.units + 65 < cLine := by have := r.un; omega
theorem units1 {k : Nat} {A : Around} (r : Room k A) : A.units + 1 < cLine := by have := r.un; omega
theorem Bd.mod {k : Nat} {i j : Int} (h0 : 0 < j) (h : j ≤ 2 ^ k) : Bd k (i % j) := Bd.of (Int.emod_nonneg _ (by omega)) (Int.lt_of_lt_of_le (Int.emod_lt_of_pos _ h0) h)
theorem Bd.div {k : Nat} {a j : Int} (h : Bd k a) (ha : 0 ≤ a) (h0 : 0 < j) : Bd k (a / j) := by
  unfold Bd at *
  have h1 : a / j ≤ a := Int.ediv_le_self _ ha
  have h2 : 0 ≤ a / j := Int.ediv_nonneg ha (by omega)
  omega
theorem Bd.lit {k : Nat} {i : Int} (h : i.natAbs < 2 ^ k := by decide +kernel) : Bd k i := h
def WL (n : Nat) (xs : List PyData) : Prop := ∃ a b c : Int, xs = [.int a, .int b, .int c] ∧ 0 ≤ a ∧ Bd 2000000 a ∧ 0 ≤ b ∧ b < 2 ^ 120 ∧ 0 ≤ c ∧ c ≤ n
theorem WL.mono {n k : Nat} {xs : List PyData} (h : WL n xs) (l : n ≤ k) : WL k xs := by
  obtain ⟨a, b, c, e, h1, h2, h3, h4, h5, h6⟩ := h
  exact ⟨a, b, c, e, h1, h2, h3, h4, h5, by omega⟩
theorem bits_bd {z : Int} (h : Builtin.Int.intBits z ≤ 1048576) : Bd 1048577 z := by
  unfold Builtin.Int.intBits at h
  split at h
  · rename_i e
    have : z.natAbs = 0 := by simpa using e
    unfold Bd
    rw [this]
    exact Nat.pow_pos (by decide)
  · rename_i e
    have e0 : z.natAbs ≠ 0 := by simpa using e
    unfold Bd
    refine (Nat.log2_lt e0).mp ?_
    omega
theorem ixN_of {n : Nat} {i : Int} (h0 : 0 ≤ i) (h : i < n) : ixN n i = some i.toNat := by
  unfold ixN
  rw [if_pos h0, if_pos h]
theorem ixN_ng {n : Nat} {i : Int} (h0 : i < 0) (h : -(n : Int) ≤ i) : ixN n i = some (i + n).toNat := by
  unfold ixN
  rw [if_neg (by omega), if_pos h]
theorem atI_of {α : Type} {xs : List α} {i : Int} (h0 : 0 ≤ i) (h : i < xs.length) : atI xs i = some (xs[i.toNat]'(by omega)) := by
  unfold atI
  rw [ixN_of h0 h, Option.bind_some, List.getElem?_eq_getElem (by omega)]
theorem atI_ng {α : Type} {xs : List α} {i : Int} (h0 : i < 0) (h : -(xs.length : Int) ≤ i) : atI xs i = some (xs[(i + xs.length).toNat]'(by omega)) := by
  unfold atI
  rw [ixN_ng h0 h, Option.bind_some, List.getElem?_eq_getElem (by omega)]
theorem atI_ints {ns : List Int} {i : Int} (h0 : 0 ≤ i) (h : i < ns.length) : atI (ns.map PyData.int) i = some (.int (ns.getD i.toNat 0)) := by
  rw [atI_of h0 (by rw [List.length_map]; exact h), List.getElem_map]
  have h1 : i.toNat < ns.length := by omega
  rw [List.getD_eq_getElem?_getD, List.getElem?_eq_getElem h1, Option.getD_some]
theorem szl {n : Nat} (h : n ≤ 16777216) : n ≤ sizeLine := h
theorem szlt {n : Nat} (h : n < 16777216) : n < sizeLine := h
inductive WkL (n : Nat) : PP.Loc → PP.Loc → Prop
  | nil : WkL n [] []
  | kd {x : PyData} {L L' : PP.Loc} : WkL n L L' → WkL n (some (.d x) :: L) (some (.d x) :: L')
  | kr {k : Nat} {L L' : PP.Loc} : k < n → WkL n L L' → WkL n (some (.ref k) :: L) (some (.ref k) :: L')
  | kw {x : List PyData} {L L' : PP.Loc} : WkL n L L' → WkL n (some (.raw x) :: L) (some (.raw x) :: L')
  | drop {y : Option PV} {L L' : PP.Loc} : WkL n L L' → WkL n (y :: L) (none :: L')
theorem WkL.len {n : Nat} : ∀ {L L' : PP.Loc}, WkL n L L' → L'.length = L.length
  | _, _, .nil => rfl
  | _, _, .kd h => by rw [List.length_cons, List.length_cons, h.len]
  | _, _, .kr _ h => by rw [List.length_cons, List.length_cons, h.len]
  | _, _, .kw h => by rw [List.length_cons, List.length_cons, h.len]
  | _, _, .drop h => by rw [List.length_cons, List.length_cons, h.len]
theorem WkL.at {n : Nat} : ∀ {L L' : PP.Loc}, WkL n L L' → ∀ (i : Nat) (p : PV), L'[i]? = some (some p) → L[i]? = some (some p) ∧ ∀ k, p = .ref k → k < n
  | _, _, .nil, i, p, e => by simp at e
  | _, _, .kd h, 0, p, e => by simp at e; subst e; exact ⟨rfl, fun k z => by cases z⟩
  | _, _, .kr hk h, 0, p, e => by simp at e; subst e; exact ⟨rfl, fun k z => by cases z; exact hk⟩
  | _, _, .kw h, 0, p, e => by simp at e; subst e; exact ⟨rfl, fun k z => by cases z⟩
  | _, _, .drop h, 0, p, e => by simp at e
  | _, _, .kd h, i + 1, p, e => h.at i p (by simpa using e)
  | _, _, .kr _ h, i + 1, p, e => h.at i p (by simpa using e)
  | _, _, .kw h, i + 1, p, e => h.at i p (by simpa using e)
  | _, _, .drop h, i + 1, p, e => h.at i p (by simpa using e)
theorem Wk.same {n : Nat} {L L' : PP.Loc} {m : Mem} (h : WkL m.length L L') (hn : n ≤ m.length) : Wk n L m L' m := ⟨h.len, h.at, m.length, hn, by rw [List.take_length]⟩
theorem Wk.cut {n : Nat} {L L' : PP.Loc} {m : Mem} (h : WkL (m.take n).length L L') : Wk n L m L' (m.take n) := ⟨h.len, h.at, n, Nat.le_refl _, rfl⟩
theorem atI_gd {xs : List PyData} {i : Int} (h0 : 0 ≤ i) (h : i < xs.length) : atI xs i = some (xs.getD i.toNat .none) := by
  rw [atI_of h0 h, List.getD_eq_getElem?_getD, List.getElem?_eq_getElem (by omega), Option.getD_some]
theorem atI_gdn {xs : List PyData} {i : Int} (h0 : i < 0) (h : -(xs.length : Int) ≤ i) : atI xs i = some (xs.getD (i + xs.length).toNat .none) := by
  rw [atI_ng h0 h, List.getD_eq_getElem?_getD, List.getElem?_eq_getElem (by omega), Option.getD_some]
theorem mem_getD {α : Type} {xs : List α} {j : Nat} {d : α} (h : j < xs.length) : xs.getD j d ∈ xs := by
  rw [List.getD_eq_getElem?_getD, List.getElem?_eq_getElem h, Option.getD_some]
  exact List.getElem_mem h
end PP
namespace PP
open PySem PySem.Spec PyProof.Rows L2
def Sd (n : Nat) (d : PyData) : Prop := d.canLay0 = true ∧ d.depth ≤ n
theorem Sd.mono {n k : Nat} {d : PyData} (h : Sd n d) (l : n ≤ k) : Sd k d := ⟨h.1, Nat.le_trans h.2 l⟩
theorem Sd.shp {n : Nat} {d : PyData} (h : Sd n d) (l : n ≤ 64 := by decide) : shp d := by
  unfold PP.shp SeqAt.shaped
  rw [Bool.and_eq_true]
  exact ⟨h.1, decide_eq_true (Nat.le_trans h.2 l)⟩
theorem sd_int {n : Nat} {i : Int} : Sd n (.int i) := ⟨rfl, Nat.zero_le _⟩
theorem sd_all {n : Nat} : ∀ {xs : List PyData}, (∀ x ∈ xs, Sd n x) → PyData.canLayAll0 xs = true ∧ PyData.depthAll xs ≤ n
  | [], _ => ⟨rfl, Nat.zero_le _⟩
  | x :: xs, h => by
    obtain ⟨h1, h2⟩ := h x List.mem_cons_self
    obtain ⟨h3, h4⟩ := sd_all fun y hy => h y (List.mem_cons_of_mem _ hy)
    refine ⟨?_, ?_⟩
    · simp only [PyData.canLayAll0, h1, h3, Bool.and_self]
    · simp only [PyData.depthAll]; omega
theorem sd_list {n : Nat} {xs : List PyData} (h : ∀ x ∈ xs, Sd n x) : Sd (n + 1) (.list xs) := by
  obtain ⟨h1, h2⟩ := sd_all h
  exact ⟨by simp only [PyData.canLay0, h1], by simp only [PyData.depth]; omega⟩
theorem sd_tuple {n : Nat} {xs : List PyData} (h : ∀ x ∈ xs, Sd n x) : Sd (n + 1) (.tuple xs) := by
  obtain ⟨h1, h2⟩ := sd_all h
  exact ⟨by simp only [PyData.canLay0, h1], by simp only [PyData.depth]; omega⟩
theorem sd_ints {n : Nat} {ns : List Int} : ∀ x ∈ ns.map PyData.int, Sd n x := fun x hx => by
  obtain ⟨i, _, rfl⟩ := List.mem_map.mp hx
  exact sd_int
theorem shp_ints {ns : List Int} : shp (.list (ns.map .int)) := (sd_list (n := 0) sd_ints).shp
theorem shp_intsT {ns : List Int} : shp (.tuple (ns.map .int)) := (sd_tuple (n := 0) sd_ints).shp
theorem eqv_nil {xs : List PyData} : PyData.eqv (.list xs) (.list []) = xs.isEmpty := by
  cases xs <;> rfl
theorem ws_join {X : Cx} {st : Stmt} {L : PP.Loc} {m : Mem} {D : PEnds} (J : PP.Loc → Mem → Prop) (h : WS X st L m { D with nx := J }) (k : ∀ L' m', J L' m' → D.nx L' m') : WS X st L m D :=
  fun w σ H r => tUS_mono (h w σ H r) (fun σ' H' ⟨w', L', m', l, r', q⟩ => ⟨w', L', m', l, r', k _ _ q⟩) (fun _ _ q => q) (fun _ _ q => q) (fun _ _ q => q)
def Tg (k : Int) (x : PyData) : Prop := ∃ (u d : Int) (ns : List Int), x = .tuple [.int u, .int d, .tuple (ns.map .int)] ∧ -(1000 + 10 * k) ≤ u ∧ u ≤ 1000 + 10 * k ∧ -(1000 + 10 * k) ≤ d ∧ d ≤ 1000 + 10 * k ∧ ns.length ≤ 16 ∧
  ∀ z ∈ ns, -(1000000000000000000000000000000 + 100 * k) ≤ z ∧ z ≤ 1000000000000000000000000000000 + 100 * k
theorem Tg.mono {k l : Int} {x : PyData} (h : Tg k x) (e : k ≤ l) : Tg l x := by
  obtain ⟨u, d, ns, e1, h1, h2, h3, h4, h5, h6⟩ := h
  exact ⟨u, d, ns, e1, by omega, by omega, by omega, by omega, h5, fun z hz => by have := h6 z hz; omega⟩
end PP
namespace PP
open PySem PySem.Spec PyProof.Rows L2
section
variable {X : Cx} {L : PP.Loc} {m : Mem} {a b c : Expr} {pos : Pos} {i j k : Int} {Q : QE} {es : List Expr}
theorem vt_chain {op op' : CmpOp} {g g' : Int → Int → Bool} (ho : OpR X (compareOp op) (rI0 fun i j => .bl (g i j))) (ho' : OpR X (compareOp op') (rI0 fun i j => .bl (g' i j))) (hm : lastMarks [op, op'] [b, c] = false)
    (ha : VE X a L m (.int i)) (hb : VE X b L m (.int j)) (hc : g i j = true → VE X c L m (.int k)) : VT X (.Compare a [op, op'] [b, c] pos) L m (g i j && g' j k) := fun Q q => wt_chain ho ho' hm (ha _ (hb _ ⟨i, j, rfl, rfl, by
    dsimp only
    by_cases h : g i j = true
    · rw [if_pos h]
      refine hc h _ ⟨k, rfl, ?_⟩
      rw [h, Bool.true_and] at q
      exact q
    · rw [if_neg h]
      rw [Bool.eq_false_iff.mpr h, Bool.false_and] at q
      exact q⟩))
end
end PP
namespace PP
open PySem PySem.Spec PyProof.Rows L2
section
variable {X : Cx} {L : PP.Loc} {m : Mem} {e : Expr} {es : List Expr} {kws : List Keyword} {pos p kpos : Pos} {Q : QE} {k : Nat} {f : Addr} {fd : FuncData} {ps kn : List Str} {sp : FSp} {x : Str} {nm : Option Str}
def tUK (X : Cx) (kws : List Keyword) : TA := fun σ H Q => ∀ (pos : Pos) (pins : List (Addr × Obj)) (s : Shared), Inv X pins σ H s → wpAny (model X.prog X.w) X.A (evalAll ((backToKw pos (keywordEach kws X.env)).map (·.2))) (AP X pins σ Q) X.xe s
theorem pkU (kws : List Keyword) : PK X kws (tUK X kws) := ⟨fun pos pins s _ _ _ I h => h pos pins s I⟩
theorem tUK_mono {kws : List Keyword} {σ : L2.St} {H : Hp} {Q Q' : List V → Hp → Prop} (h : tUK X kws σ H Q) (k : ∀ v H', Q v H' → Q' v H') : tUK X kws σ H Q' := fun pos pins s I =>
  thn (h pos pins s I) fun us s' ⟨vs, H', I', r, q⟩ => ⟨vs, H', I', r, k _ _ q⟩
def WK (X : Cx) (kws : List Keyword) (L : PP.Loc) (m : Mem) (Q : List PV → Mem → Prop) : Prop := ∀ (w : Wd) (σ : L2.St) (H : Hp), Rep X.K w L m σ H → tUK X kws σ H (POA X.K w Q)
theorem WK.go {Q : List PV → Mem → Prop} (h : WK X kws L m Q) {w : Wd} {σ : L2.St} {H : Hp} (r : Rep X.K w L m σ H) {R : List V → Hp → Prop} (k : ∀ (w' : Wd) (vs : List V) (ps : List PV) (m' : Mem) (H' : Hp), w.le w' → Rep X.K w' L m' σ H' → RVs X.K w' vs ps → Q ps m' → R vs H') : tUK X kws σ H R :=
  tUK_mono (h w σ H r) fun v H' ⟨w', x, m', l, hr, d, q⟩ => k w' v x m' H' l (r.go l hr) d q
theorem wk_nil {Q : List PV → Mem → Prop} (q : Q [] m) : WK X [] L m Q := fun w σ H r pos pins s I => pk_nil.run pos pins s σ H _ I ⟨w, [], m, .refl w, r.toHR, .nil, q⟩
theorem wk_cons {Q : List PV → Mem → Prop} (h : WV X e L m fun x m1 => WK X kws L m1 fun xs m2 => Q (x :: xs) m2) : WK X (⟨nm, e, kpos⟩ :: kws) L m Q := fun w σ H r pos pins s I =>
  (pk_cons (peU e) (pkU kws)).run pos pins s σ H _ I (h.go r fun w1 v x m1 H1 l1 r1 d1 q1 => q1.go r1 fun w2 vs xs m2 H2 l2 r2 d2 q2 => ⟨w2, x :: xs, m2, l1.trans l2, r2.toHR, .cons (d1.mono l2.toLe0) d2, q2⟩)
theorem wk_d {Q : List PV → Mem → Prop} (h : WE X e L m fun x m1 => WK X kws L m1 fun xs m2 => Q (.d x :: xs) m2) : WK X (⟨nm, e, kpos⟩ :: kws) L m Q := wk_cons (wv_we h)
theorem pe_callK0 {CX : CXT} {tk : TA} {ps kn : List Str} {sp : Sp} {E : XK} {g : List Value → List Value → List Value} {gV : List V → List V → List V} (F : FnOk X.prog X.w X.K X.mg X.base CX k f fd ps sp) (hr : Room k X.A) (hg : Gl X x) (hm : X.mg x = some (.ref f)) (hk : PySem.W.keepIn X.K (.ref f) = true) (hb : KBinds X.K fd ps kn g gV) (hx : Passes CX X E)
    (hkw : PK X kws tk) (hall : (backToKw pos (keywordEach kws X.env)).all (·.1.isSome) = true := by rfl) (hks : (backToKw pos (keywordEach kws X.env)).filterMap (·.1) = kn := by rfl)
    (hdb : (x == ("__debug__" : Str)) = false := by decide)
    (hpl : ((backTo pos (starEach [] X.env)).any (·.1) || (backToKw pos (keywordEach kws X.env)).any (·.1.isNone)) = false := by rfl) :
    PE X (.Call (.Name x p) [] kws pos) (tCallK sp gV E tNil tk) := by
  refine ⟨fun pins s σ H Q I h => ?_⟩
  refine wpAny_Call_Name_kw (ld_glob I hg hm ?_ hdb)
  refine PySem.W.callWith_KW0 (h₀ := X.base) I.ok.mod.kin hk hall (thn (hkw.run pos pins s σ H _ I h) fun ws s2 ⟨zs, H2, I2, rz, q2⟩ => ⟨I2.kIn, ?_⟩) hpl
  rw [hks]
  exact run_fnk F hr hb hx I2 .nil rz q2
theorem call_readE {ks : List Nat} {w w1 : Wd} {σ : L2.St} {H1 : Hp} {vs : List V} {pvs : List PV} {m1 : Mem} {E : XK} (l1 : w.le w1) (r1 : Rep X.K w1 L m1 σ H1) (d1 : RVs X.K w1 vs pvs) (h : CallAsk sp ks pvs m1 fun p mc => ∃ y, p = .d y ∧ backB none ks mc = true ∧ Q y (setAll m1 ks mc)) : toSp X.K sp vs H1 (POE X.K w Q) E := by
  obtain ⟨nd, hl, hi, hs⟩ := h
  refine ⟨_, _, _, _, r1.toHR.subWorld nd hl, sub_rvs r1.toHR hl d1 hi, hs, fun w' v q mc H' l hr' d ⟨y, ey, hmc, qq⟩ => ?_⟩
  subst ey
  obtain ⟨l3, hr3⟩ := r1.toHR.back (mo := []) (ex := []) nd hl l (by rw [List.append_nil]; exact hr') hmc
  exact ⟨_, y, _, l1.trans l3, hr3, d, qq⟩
theorem call_readF {Q : List PyData → Mem → Prop} {ks : List Nat} {w w1 : Wd} {σ : L2.St} {H1 : Hp} {vs : List V} {pvs : List PV} {m1 : Mem} {E : XK} (l1 : w.le w1) (r1 : Rep X.K w1 L m1 σ H1) (d1 : RVs X.K w1 vs pvs) (h : CallAsk sp ks pvs m1 fun p mc => ∃ mc0 xs, p = .ref ks.length ∧ mc = mc0 ++ [some (.lst xs)] ∧ backB none ks mc0 = true ∧ Q xs (setAll m1 ks mc0)) : toSp X.K sp vs H1 (PF X.K w Q) E := by
  obtain ⟨nd, hl, hi, hs⟩ := h
  refine ⟨_, _, _, _, r1.toHR.subWorld nd hl, sub_rvs r1.toHR hl d1 hi, hs, fun w' v q mc H' l hr' d ⟨mc0, xs, ey, em, hmc, qq⟩ => ?_⟩
  subst ey; subst em
  obtain ⟨l3, hr3⟩ := r1.toHR.back (mo := []) (ex := [some (.lst xs)]) nd hl l hr' hmc
  have ec : (mc0 ++ [some (Cell.lst xs)])[ks.length]? = some (some (.lst xs)) := by rw [← backB_len hmc, List.getElem?_append_right (Nat.le_refl _)]; simp
  obtain ⟨ad, o, ea, eo, us, rfl, dd⟩ := hr'.cell _ _ ec
  obtain ⟨ad', ea', rfl⟩ := d
  rw [ea] at ea'; cases ea'
  have hF := hr'.sep _ _ _ ea ec
  obtain ⟨more, em⟩ := l.pre
  have hT : w'.T = w1.T ++ othersOf w1 H1 ks := l.hid
  refine ⟨_, xs, _, ad, us, rfl, l1.trans l3, hr3, eo, ⟨hF, fun z => ?_, fun z => ?_⟩, dd, qq⟩
  · have z : ad ∈ w1.A := z
    obtain ⟨i, ei⟩ := List.getElem?_of_mem z
    by_cases hin : i ∈ ks
    · obtain ⟨j, ej⟩ := List.getElem?_of_mem hin
      have hil : i < w1.A.length := (List.getElem?_eq_some_iff.mp ei).1
      have hj : j < ks.length := (List.getElem?_eq_some_iff.mp ej).1
      have e3 : w'.A[j]? = some ad := by
        rw [em, List.getElem?_append_left (by show j < (ks.map _).length; rw [List.length_map]; exact hj), sub_at w1 H1 ej hil]; exact ei
      have := nodup_at hr'.nd e3 ea
      omega
    · have hf : w1.F ad = none := l.sub.none hF
      cases q : H1 ad with
      | none => exact r1.toHR.occ ad z q
      | some o =>
        have := hr'.tp (ad, o) (by rw [hT]; exact List.mem_append_right _ (mem_others.mpr ⟨i, hin, ei, hf, q⟩))
        exact this.2.2 (List.mem_of_getElem? ea)
  · obtain ⟨t, ht, et⟩ := List.mem_map.mp z
    exact (hr'.tp t (by rw [hT]; exact List.mem_append_left _ ht)).2.2 (et ▸ List.mem_of_getElem? ea)
structure KBp (K : PySem.W.Frag) (fd : FuncData) (ps : List Str) (n : Nat) (kn : List Str) : Prop where
  to : ∀ (s : Shared) (us ws : List Value), K.In s.heap → us.length = n → ws.length = kn.length → BindsTo s fd ⟨us, kn.zip ws⟩ (ps.zip (us ++ ws))
  ne : ps ≠ []
def gL {α : Type} (n k : Nat) (us ws : List α) : List α := if us.length = n ∧ ws.length = k then us ++ ws else []
theorem vals_app : ∀ {vs zs : List V} {us ws : List Value}, Vals vs us → Vals zs ws → Vals (vs ++ zs) (us ++ ws)
  | _, _, _, _, .nil, s => s
  | _, _, _, _, .cons r t, s => .cons r (vals_app t s)
theorem KBp.kb {K : PySem.W.Frag} {fd : FuncData} {ps kn : List Str} {n : Nat} (h : KBp K fd ps n kn) : KBinds K fd ps kn (gL n kn.length) (gL n kn.length) where
  to := fun s us ws X hl => by
    unfold gL at hl ⊢
    split at hl
    · rename_i c
      rw [if_pos c]
      exact h.to s us ws X c.1 c.2
    · exact absurd (List.length_eq_zero_iff.mp hl.symm) h.ne
  rel := fun {vs us zs ws} r rz => by
    unfold gL
    rw [r.length, rz.length]
    split
    · exact vals_app r rz
    · exact .nil
end
def spLaw : FSp := fun pvs m q => ∃ ns : List Int, pvs = [.raw (ns.map .int)] ∧ m = [] ∧ ns.length ≤ 63 ∧ (∀ z ∈ ns, Builtin.Int.intBits z ≤ 1048576) ∧ q (.d (.bool true)) []
end PP
namespace PP
open PySem PySem.Spec PyProof.Rows L2
theorem hr_base {K : PySem.W.Frag} {H : Hp} : HR K ⟨[], [], H⟩ [] H where
  fz := Sub.refl _
  len := rfl
  nd := .nil
  sep := fun k a c e _ => by simp at e
  occ := fun a h => by cases h
  tp := fun p h => by cases h
  tnd := .nil
  cell := fun k c e => by simp at e
theorem law_sp {K : PySem.W.Frag} {H : Hp} {a : Addr} {ns : List Int} {E : XK} (hl : ns.length ≤ 63) (hb : ∀ z ∈ ns, Builtin.Int.intBits z ≤ 1048576) (hS : SqL K H a (ns.map V.int)) : toSp K spLaw [.ref a] H (fun v _ => v = .bl true) E :=
  ⟨⟨[], [], H⟩, [.raw (ns.map .int)], [], fun p _ => p = .d (.bool true), hr_base, .cons ⟨a, _, rfl, hS, dpa_ints ns⟩ .nil, ⟨ns, rfl, rfl, hl, hb, rfl⟩, fun w' v p m' H' _ _ r e => by
    subst e
    exact dp_bool r⟩
end PP
namespace PP
open PySem PySem.Spec PyProof.Rows L2 RZ
section
variable {X : Cx} {L : PP.Loc} {m : Mem} {a b : Expr} {pos p : Pos} {Q : QE} {QT : Bool → Mem → Prop} {QI : List PyData → (Mem → Prop) → Mem → Prop}
theorem we_isinst2 {S T : String} {x y : Str} {x1 : Nat} {p2 p3 p4 : Pos} (hm : X.mg "isinstance" = none) (hmS : X.mg x = none) (hmT : X.mg y = none) (hbS : bootBuiltins x = some (.type S)) (hb : bootBuiltins y = some (.type T)) (h : WE X a L m fun z m1 => ∃ j k, kitB (tyD z) S = some j ∧ kitB (tyD z) T = some k ∧ Q (.bool (j || k)) m1)
    (hg : Gl X "isinstance" := by rfl) (hgS : Gl X x := by rfl) (hgT : Gl X y := by rfl)
    (hnS : x ≠ "__name__" := by decide) (hdS : (x == ("__debug__" : Str)) = false := by decide) (hn : y ≠ "__name__" := by decide) (hd : (y == ("__debug__" : Str)) = false := by decide)
    (he : starEach [a, .Tuple [.Name x p2, .Name y p3] x1 p4] X.env = (false, eval a X.env) :: starEach [.Tuple [.Name x p2, .Name y p3] x1 p4] X.env := by rfl) (he2 : starEach [.Tuple [.Name x p2, .Name y p3] x1 p4] X.env = (false, eval (.Tuple [.Name x p2, .Name y p3] x1 p4) X.env) :: starEach [] X.env := by rfl)
    (he3 : starEach [.Name x p2, .Name y p3] X.env = (false, eval (.Name x p2) X.env) :: starEach [.Name y p3] X.env := by rfl) (he4 : starEach [.Name y p3] X.env = (false, eval (.Name y p3) X.env) :: starEach [] X.env := by rfl)
    (hpl : (backTo pos (starEach [.Tuple [.Name x p2, .Name y p3] x1 p4] X.env)).any (·.1) = false := by rfl) : WE X (.Call (.Name "isinstance" p) [a, .Tuple [.Name x p2, .Name y p3] x1 p4] [] pos) L m Q :=
  we_of (pe_callB call_isiT hg hm (by decide +kernel) (pa_cons (peU a) (pa_cons (pe_tup (pa_cons (pe_bltn (v := .ty S) hgS hmS hbS rfl hnS hdS) (pa_cons (pe_bltn (v := .ty T) hgT hmT hb rfl hn hd) pa_nil he4) he3)) pa_nil he2) he) (he := he) (hpl := hpl)) fun w σ H r => h.go r fun w1 v z m1 H1 l1 r1 d1 ⟨j, k, e1, e2, q⟩ => by
    refine ⟨szl (by simp), fun t ht => ?_⟩
    obtain ⟨l2, hr2⟩ := r1.toHR.fnew (o := .tup [.ty S, .ty T]) ht
    have d2 := dp_mono l2.sub _ _ d1
    have ty : TyX X.K (upd H1 t (.tup [.ty S, .ty T])) v (.type (tyD z)) := by
      rcases tyD_ok hr2 d2 with t | ⟨xs, rfl⟩
      · exact t
      · exact tyD_tup hr2 d2
    refine ⟨v, t, [.ty S, .ty T], _, [.type S, .type T], j || k, rfl, upd_same, .cons (.ty S) (.cons (.ty T) .nil), ty, kitAny_cons (kit_ty e1) (fun hj => kitAny_cons (kit_ty e2) (fun hk => by rw [hj, hk]; rfl) fun hk => by rw [hj, hk]; rfl) (fun hj => by rw [hj]; rfl), _, _, m1, l1.trans l2, hr2, .bl _, q⟩
def isNoneD : PyData → Bool
  | .none => true
  | _ => false
theorem isNone_ok {K : PySem.W.Frag} {F : Hp} {v : V} {x : PyData} (d : DP K F v x) : decide (v = .non) = isNoneD x := by
  cases d <;> simp [isNoneD]
theorem we_isNone (h : WE X a L m fun x m1 => WE X b L m1 fun y m2 => y = .none ∧ Q (.bool (isNoneD x)) m2) : WE X (.Compare a [.Is] [b] pos) L m Q :=
  we_cmp op_isN (h.mono fun _ _ h => h.mono fun _ _ ⟨e, q⟩ w0 w H v u l hr d1 d2 => by
    subst e
    exact ⟨dp_none d2, by rw [isNone_ok d1]; exact po_bool l hr q⟩) (nomark _)
theorem wt_isNone (h : WE X a L m fun x m1 => WE X b L m1 fun y m2 => y = .none ∧ QT (isNoneD x) m2) : WT X (.Compare a [.Is] [b] pos) L m QT :=
  wt_cmp op_isN (h.mono fun _ _ h => h.mono fun _ _ ⟨e, q⟩ w0 w H v u l hr d1 d2 => by
    subst e
    exact ⟨dp_none d2, by rw [isNone_ok d1]; exact po_bool l hr ⟨_, rfl, q⟩⟩) (nomark _) fun _ _ _ _ _ k ⟨e, q⟩ => ⟨e, k _ _ q⟩
end
end PP
namespace PP
open PySem PySem.Spec PyProof.Rows L2
def isT (s : String) (d : PyData) : Bool := tyD d == s
def isSc : PyData → Bool
  | .none => true
  | .bool _ => true
  | .int _ => true
  | .str _ => true
  | _ => false
inductive Dq : Nat → PyData → Prop
  | sc {n : Nat} {d : PyData} : isSc d = true → d.canLay0 = true → d.depth ≤ 64 → Dq n d
  | lst {n : Nat} {xs : List PyData} : (∀ x ∈ xs, Dq n x) → Dq (n + 1) (.list xs)
  | tup {n : Nat} {xs : List PyData} : (∀ x ∈ xs, Dq n x) → Dq (n + 1) (.tuple xs)
theorem kit_list {d : PyData} : kitB (tyD d) "list" = some (isT "list" d) := by cases d <;> (simp only [tyD, isT]; decide +kernel)
theorem kit_tuple {d : PyData} : kitB (tyD d) "tuple" = some (isT "tuple" d) := by cases d <;> (simp only [tyD, isT]; decide +kernel)
theorem kit_str {d : PyData} : kitB (tyD d) "str" = some (isT "str" d) := by cases d <;> (simp only [tyD, isT]; decide +kernel)
theorem kit_bool {d : PyData} : kitB (tyD d) "bool" = some (isT "bool" d) := by cases d <;> (simp only [tyD, isT]; decide +kernel)
theorem kit_int {d : PyData} : kitB (tyD d) "int" = some (isT "int" d || isT "bool" d) := by cases d <;> (simp only [tyD, isT]; decide +kernel)
theorem dq_sc {n : Nat} {d : PyData} (h : Dq n d) (g : (isT "list" d || isT "tuple" d) = false) : isSc d = true ∧ d.canLay0 = true ∧ d.depth ≤ 64 := by
  cases h with
  | sc h a b => exact ⟨h, a, b⟩
  | lst h => exfalso; simp only [isT, tyD] at g; revert g; decide +kernel
  | tup h => exfalso; simp only [isT, tyD] at g; revert g; decide +kernel
theorem seq_of {d : PyData} {xs : List PyData} (h : d = .list xs ∨ d = .tuple xs) (m : Mem) : seqP m (.d d) = some xs := by
  rcases h with rfl | rfl <;> rfl
end PP
namespace PP
open PySem PySem.Spec PyProof.Rows L2
theorem fnok_or {P : Program} {w : World} {K : PySem.W.Frag} {mg : Str → Option Value} {base : Heap} {CX : CXT} {k : Nat} {f : Addr} {fd : FuncData} {ps : List Str} {f1 f2 : FSp} (A : FnOk P w K mg base CX k f fd ps (toSp K f1)) (B : FnOk P w K mg base CX k f fd ps (toSp K f2)) : FnOk P w K mg base CX k f fd ps (toSp K fun pvs m q => f1 pvs m q ∨ f2 pvs m q) := by
  refine ⟨fun vs H Q E h => ?_, fun Ar outer s H args us vs Q E hr he hb hv h => ?_⟩
  · obtain ⟨wd, pvs, m, q, h1, h2, h3, h4⟩ := h
    rcases h3 with h3 | h3
    · exact A.len vs H Q E ⟨wd, pvs, m, q, h1, h2, h3, h4⟩
    · exact B.len vs H Q E ⟨wd, pvs, m, q, h1, h2, h3, h4⟩
  · obtain ⟨wd, pvs, m, q, h1, h2, h3, h4⟩ := h
    rcases h3 with h3 | h3
    · exact A.run Ar outer s H args us vs Q E hr he hb hv ⟨wd, pvs, m, q, h1, h2, h3, h4⟩
    · exact B.run Ar outer s H args us vs Q E hr he hb hv ⟨wd, pvs, m, q, h1, h2, h3, h4⟩
end PP
namespace PP
open PySem PySem.Spec PyProof.Rows L2
def permL {α : Type} (is : List Nat) (ws : List α) : List α := is.filterMap (ws[·]?)
structure KBr (K : PySem.W.Frag) (fd : FuncData) (ps : List Str) (n : Nat) (kn : List Str) (is : List Nat) : Prop where
  to : ∀ (s : Shared) (us ws : List Value), K.In s.heap → us.length = n → ws.length = kn.length → BindsTo s fd ⟨us, kn.zip ws⟩ (ps.zip (us ++ permL is ws))
  ne : ps ≠ []
def gR {α : Type} (n k : Nat) (is : List Nat) (us ws : List α) : List α := if us.length = n ∧ ws.length = k then us ++ permL is ws else []
theorem gR_of {α : Type} {n k : Nat} {is : List Nat} {us ws : List α} (h : us.length = n) (g : ws.length = k) : gR n k is us ws = us ++ permL is ws := by unfold gR; rw [if_pos ⟨h, g⟩]
theorem paired_get {α β : Type} {R : α → β → Prop} : ∀ {xs : List α} {ys : List β}, Paired R xs ys → ∀ i : Nat, (xs[i]? = none ∧ ys[i]? = none) ∨ ∃ a b, xs[i]? = some a ∧ ys[i]? = some b ∧ R a b
  | _, _, .nil, i => .inl ⟨rfl, rfl⟩
  | _, _, .cons r _, 0 => .inr ⟨_, _, rfl, rfl, r⟩
  | _, _, .cons _ t, i + 1 => by
    rcases paired_get t i with ⟨a, b⟩ | ⟨a, b, h1, h2, h3⟩
    · exact .inl ⟨by simpa using a, by simpa using b⟩
    · exact .inr ⟨a, b, by simpa using h1, by simpa using h2, h3⟩
theorem vals_get : ∀ {xs : List V} {ys : List Value}, Vals xs ys → ∀ i : Nat, (xs[i]? = none ∧ ys[i]? = none) ∨ ∃ a b, xs[i]? = some a ∧ ys[i]? = some b ∧ RelV a b
  | _, _, .nil, i => .inl ⟨rfl, rfl⟩
  | _, _, .cons r _, 0 => .inr ⟨_, _, rfl, rfl, r⟩
  | _, _, .cons _ t, i + 1 => by
    rcases vals_get t i with ⟨a, b⟩ | ⟨a, b, h1, h2, h3⟩
    · exact .inl ⟨by simpa using a, by simpa using b⟩
    · exact .inr ⟨a, b, by simpa using h1, by simpa using h2, h3⟩
theorem vals_perm {vs : List V} {us : List Value} (h : Vals vs us) : ∀ is : List Nat, Vals (permL is vs) (permL is us)
  | [] => .nil
  | i :: is => by
    unfold permL
    rw [List.filterMap_cons, List.filterMap_cons]
    rcases vals_get h i with ⟨a, b⟩ | ⟨a, b, h1, h2, h3⟩
    · rw [a, b]; exact vals_perm h is
    · rw [h1, h2]; exact .cons h3 (vals_perm h is)
theorem rvs_perm {K : PySem.W.Frag} {w : Wd} {vs : List V} {ps : List PV} (h : RVs K w vs ps) : ∀ is : List Nat, RVs K w (permL is vs) (permL is ps)
  | [] => .nil
  | i :: is => by
    unfold permL
    rw [List.filterMap_cons, List.filterMap_cons]
    rcases paired_get h i with ⟨a, b⟩ | ⟨a, b, h1, h2, h3⟩
    · rw [a, b]; exact rvs_perm h is
    · rw [h1, h2]; exact .cons h3 (rvs_perm h is)
theorem KBr.kb {K : PySem.W.Frag} {fd : FuncData} {ps kn : List Str} {n : Nat} {is : List Nat} (h : KBr K fd ps n kn is) : KBinds K fd ps kn (gR n kn.length is) (gR n kn.length is) where
  to := fun s us ws X hl => by
    unfold gR at hl ⊢
    split at hl
    · rename_i c
      rw [if_pos c]
      exact h.to s us ws X c.1 c.2
    · exact absurd (List.length_eq_zero_iff.mp hl.symm) h.ne
  rel := fun {vs us zs ws} r rz => by
    unfold gR
    rw [r.length, rz.length]
    split
    · exact vals_app r (vals_perm rz is)
    · exact .nil
theorem fun_kbr {K : PySem.W.Frag} {x qual : Str} {st : Stmt} {f : Addr} {fd : FuncData} {ps : List Str} (F : Fun K x qual st f fd) (n : Nat) (kn : List Str) (is : List Nat) (ne : ps ≠ [])
    (h : ∀ (kV doc pm : Value) (an : Option Addr) (cdv ct : Value) (us ws : List Value), us.length = n → ws.length = kn.length → bindArgs (PySem.W.fnOf x qual (defArgs st) (defBody st) (defScope st) .none kV doc pm an cdv ct) ⟨us, kn.zip ws⟩ = pure (ps.zip (us ++ permL is ws))) : KBr K fd ps n kn is := by
  obtain ⟨oc, od, kV, doc, pm, an, cdv, ct, osl, rfl, lk, hcd⟩ := F.ex
  exact ⟨fun s us ws _ l1 l2 => .of_eq (h kV doc pm an cdv ct us ws l1 l2), ne⟩
section
variable {X : Cx} {L : PP.Loc} {m : Mem} {e a b : Expr} {es : List Expr} {kws : List Keyword} {pos p kpos : Pos} {Q : QE} {k : Nat} {f : Addr} {fd : FuncData} {ps kn : List Str} {sp : FSp} {x : Str} {nm : Option Str} {is : List Nat}
theorem we_callR0 {n : Nat} (ks : List Nat) (F : FnOk X.prog X.w X.K X.mg X.base CX0 k f fd ps (toSp X.K sp)) (hr : Room k X.A) (hm : X.mg x = some (.ref f)) (hk : PySem.W.keepIn X.K (.ref f) = true) (hb : KBr X.K fd ps n kn is)
    (h : WK X kws L m fun pvs m1 => 0 = n ∧ pvs.length = kn.length ∧ CallAsk sp ks (permL is pvs) m1 fun p mc => ∃ y, p = .d y ∧ backB none ks mc = true ∧ Q y (setAll m1 ks mc))
    (hg : Gl X x := by rfl) (hall : (backToKw pos (keywordEach kws X.env)).all (·.1.isSome) = true := by rfl) (hks : (backToKw pos (keywordEach kws X.env)).filterMap (·.1) = kn := by rfl) (hdb : (x == ("__debug__" : Str)) = false := by decide)
    (hpl : ((backTo pos (starEach [] X.env)).any (·.1) || (backToKw pos (keywordEach kws X.env)).any (·.1.isNone)) = false := by rfl) : WE X (.Call (.Name x p) [] kws pos) L m Q :=
  we_of (pe_callK0 F hr hg hm hk hb.kb pass0 (pkU kws) hall hks hdb hpl) fun w σ H r => WK.go h r fun w1 vs pvs m1 H1 l1 r1 d1 ⟨e1, e2, hs⟩ => by
    show toSp X.K sp (gR n kn.length is [] vs) H1 _ _
    rw [gR_of (show ([] : List V).length = n from e1) (d1.length.trans e2), List.nil_append]
    exact call_readE l1 r1 (rvs_perm d1 is) hs
theorem wf_callR0 {n : Nat} {Q : List PyData → Mem → Prop} (ks : List Nat) (F : FnOk X.prog X.w X.K X.mg X.base CX0 k f fd ps (toSp X.K sp)) (hr : Room k X.A) (hm : X.mg x = some (.ref f)) (hk : PySem.W.keepIn X.K (.ref f) = true) (hb : KBr X.K fd ps n kn is)
    (h : WK X kws L m fun pvs m1 => 0 = n ∧ pvs.length = kn.length ∧ CallAsk sp ks (permL is pvs) m1 fun p mc => ∃ mc0 xs, p = .ref ks.length ∧ mc = mc0 ++ [some (.lst xs)] ∧ backB none ks mc0 = true ∧ Q xs (setAll m1 ks mc0))
    (hg : Gl X x := by rfl) (hall : (backToKw pos (keywordEach kws X.env)).all (·.1.isSome) = true := by rfl) (hks : (backToKw pos (keywordEach kws X.env)).filterMap (·.1) = kn := by rfl) (hdb : (x == ("__debug__" : Str)) = false := by decide)
    (hpl : ((backTo pos (starEach [] X.env)).any (·.1) || (backToKw pos (keywordEach kws X.env)).any (·.1.isNone)) = false := by rfl) : WF X (.Call (.Name x p) [] kws pos) L m Q :=
  wf_of (pe_callK0 F hr hg hm hk hb.kb pass0 (pkU kws) hall hks hdb hpl) fun w σ H r => WK.go h r fun w1 vs pvs m1 H1 l1 r1 d1 ⟨e1, e2, hs⟩ => by
    show toSp X.K sp (gR n kn.length is [] vs) H1 _ _
    rw [gR_of (show ([] : List V).length = n from e1) (d1.length.trans e2), List.nil_append]
    exact call_readF l1 r1 (rvs_perm d1 is) hs
end
end PP
namespace PP
open PySem PySem.Spec PyProof.Rows L2
open PySem.W (AlikeAll dataLt reads_keeps iter_tupleW cmpIn_lt moved_old)
end PP
namespace PP
open PySem PySem.Spec PyProof.Rows L2
section
variable {prog : Program} {w : World} {A : Around} {R : Result → Shared → Prop} {s : Shared} {kx vx ta ia tb ib : Expr} {scope : Scope} {pos : Pos} {it : Value} {D : Addr} {env : Env}
abbrev dc2 (kx vx ta ia tb ib : Expr) (scope : Scope) (pos : Pos) : Expr := .DictComp kx vx [⟨ta, ia, [], 0⟩, ⟨tb, ib, [], 0⟩] scope pos
end
section
variable {X : Cx} {L : PP.Loc} {m : Mem} {kx vx ta ia tb ib : Expr} {scope : Scope} {own : List (Str × Nat)} {vs1 : List Nat} {pos : Pos} {pat pat1 : Pat} {Q : List (Key × PyData) → Mem → Prop}
def tUIb (X : Cx) (scope : Scope) (tg iter : Expr) : TI := fun σ H R => ∀ (s : Shared) (H0 : Hp) (C : Addr) (cl : List (Str × Addr)) (fp : List Addr), tUI (BX X scope s H0 C cl fp) tg iter σ H R
theorem piUb (tg iter : Expr) (s : Shared) (H : Hp) (C : Addr) (cl : List (Str × Addr)) (fp : List Addr) : PI (BX X scope s H C cl fp) tg iter (tUIb X scope tg iter) := ⟨fun pins s1 _ _ _ I h => h s H C cl fp pins s1 I⟩
def WIb (X : Cx) (scope : Scope) (tg iter : Expr) (L : PP.Loc) (m : Mem) (Q : List PyData → (Mem → Prop) → Mem → Prop) : Prop := ∀ (s : Shared) (H : Hp) (C : Addr) (cl : List (Str × Addr)) (fp : List Addr), WI (BX X scope s H C cl fp) tg iter L m Q
end
end PP
namespace PP
open PySem PySem.Spec PyProof.Rows L2
def dropD (kvs : List (Key × PyData)) (k : Key) : List (Key × PyData) := kvs.filter fun kv => decide (kv.1 ≠ k)
theorem valD_drop {k j : Key} : ∀ {kvs : List (Key × PyData)}, valD (dropD kvs k) j = if k = j then none else valD kvs j
  | [] => by simp [valD, dropD]
  | (k1, x) :: kvs => by
    have ih := valD_drop (k := k) (j := j) (kvs := kvs)
    unfold dropD at ih ⊢
    rw [List.filter_cons]
    by_cases h1 : k1 = k
    · subst h1
      rw [if_neg (by simp), ih]
      by_cases h2 : k1 = j
      · rw [if_pos h2, if_pos h2]
      · rw [if_neg h2, if_neg h2]
        simp [valD, List.find?_cons, h2]
    · rw [if_pos (by simpa using h1)]
      by_cases h3 : k1 = j
      · subst h3
        rw [if_neg (fun z => h1 z.symm)]
        simp [valD, List.find?_cons]
      · have e : ∀ t : List (Key × PyData), valD ((k1, x) :: t) j = valD t j := fun t => by simp [valD, List.find?_cons, h3]
        rw [e, e]
        exact ih
end PP
namespace PP
open PySem PySem.Spec PyProof.Rows L2 RZ
end PP
namespace PP
open PySem PySem.Spec PyProof.Rows L2
structure FunD (K : PySem.W.Frag) (x qual : Str) (st : Stmt) (f : Addr) (fd : FuncData) (T : Addr) : Prop where
  ex : ∃ (oc : Value) (od : Option Addr) (kV doc pm : Value) (an : Option Addr) (cdv ct : Value) (osl : Array (Option Value)),
    fd = PySem.W.fnOf x qual (defArgs st) (defBody st) (defScope st) (.ref T) kV doc pm an cdv ct ∧ K.lookup f = some ⟨oc, od, .func fd, osl⟩ ∧ PySem.W.codeIn K cdv qual = true
  kp : PySem.W.keepIn K (.ref f) = true
theorem funD_mk {K : PySem.W.Frag} {x qual : Str} {st : Stmt} {f T : Addr} {oc : Value} {od an : Option Addr} {osl : Array (Option Value)} {kV doc pm cdv ct : Value} (l : K.lookup f = some ⟨oc, od, .func (PySem.W.fnOf x qual (defArgs st) (defBody st) (defScope st) (.ref T) kV doc pm an cdv ct), osl⟩)
    (c : PySem.W.codeIn K cdv qual = true) (k : PySem.W.keepIn K (.ref f) = true) : FunD K x qual st f (PySem.W.fnOf x qual (defArgs st) (defBody st) (defScope st) (.ref T) kV doc pm an cdv ct) T := ⟨⟨oc, od, kV, doc, pm, an, cdv, ct, osl, rfl, l, c⟩, k⟩
section
variable {P : Program} {w : World} {K : PySem.W.Frag} {mg : Str → Option Value} {base : Heap} {T : Addr}
theorem FunD.ok {x qual : Str} {st : Stmt} {f : Addr} {fd : FuncData} {N ps : List Str} {k : Nat} {sp : Sp} (F : FunD K x qual st f fd T) (S : FnScope N ps (defScope st)) (len : ∀ vs H Q E, sp vs H Q E → vs.length = ps.length)
    (hbody : ∀ (cdv : Value) (A : Around) (outer : List Env) (s : Shared) (H : Hp) (vs : List V) (Q : VK) (E : XK), Room k (A.deeper (envOfC qual (defScope st) s.heap.objs.size f cdv)) → sp vs H Q E →
      ∃ t, PSs (cxOf CX0 P w K mg base N qual (defScope st) f cdv A outer s H E).nox (defBody st) t ∧ t { nx := fun _ H' => Q .non H', rt := Q } (start N vs) H) : FnOk P w K mg base CX0 (k + 1) f fd ps sp := by
  obtain ⟨oc, od, kV, doc, pm, an, cdv, ct, osl, rfl, lk, hcd⟩ := F.ex
  refine fn_of lk hcd S len fun A outer s H vs Q E hr hsp => ?_
  obtain ⟨t, h, q⟩ := hbody cdv A outer s H vs Q E hr hsp
  exact ⟨t, h.nox, q⟩
theorem FunD.binds {x qual : Str} {st : Stmt} {f : Addr} {fd : FuncData} {ps : List Str} {ds : List Value} {o : Obj} {items : Array Value} {n : Nat} (F : FunD K x qual st f fd T) (ho : K.lookup T = some o) (hs : o.data = .seq items n)
    (h : ∀ (kV doc pm : Value) (an : Option Addr) (cdv ct : Value) (us : List Value), (us ++ ds).length = ps.length → ∃ k, bindArgs (PySem.W.fnOf x qual (defArgs st) (defBody st) (defScope st) (.ref T) kV doc pm an cdv ct) ⟨us, []⟩ = seqItems? (Value.ref T) >>= k ∧ k (some items) = pure (ps.zip (us ++ ds))) : Binds K fd ps ds := by
  obtain ⟨oc, od, kV, doc, pm, an, cdv, ct, osl, rfl, lk, hcd⟩ := F.ex
  intro s us X hl
  obtain ⟨k, e1, e2⟩ := h kV doc pm an cdv ct us hl
  exact BindsTo.of_defaults rfl (X _ _ ho) hs e1 e2
theorem fnD_pp {x qual : Str} {st : Stmt} {f : Addr} {fd : FuncData} {N ps : List Str} {k : Nat} {sp : FSp} (F : FunD K x qual st f fd T) (S : FnScope N ps (defScope st)) (len : ∀ pvs m q, sp pvs m q → pvs.length = ps.length)
    (body : ∀ (cdv : Value) (A : Around) (outer : List Env) (s : Shared) (H : Hp) (E : XK), Room k (DX P w K mg base N qual st f cdv A outer s H E).A → ∀ pvs m q, sp pvs m q → WSs (DX P w K mg base N qual st f cdv A outer s H E) (defBody st) (startL N pvs) m (fnE m.length q)) :
    FnOk P w K mg base CX0 (k + 1) f fd ps (toSp K sp) := by
  refine F.ok S (fun vs H Q E ⟨w, pvs, m, q, hr, r, h, k⟩ => by rw [r.length]; exact len _ _ _ h) fun cdv A outer s H vs Q E hrm h => ?_
  refine ⟨_, pssU _, ?_⟩
  obtain ⟨wd, pvs, m, q, hr, r, h, kk⟩ := h
  refine tUSs_mono (body cdv A outer s H E hrm pvs m q h wd _ H (rep_start N hr r)) ?_ ?_ ?_ ?_
  · rintro σ' H' ⟨w', L', m', l, r', a⟩
    exact adj_ok hr.len l r'.toHR (show RV K w' V.non (.d .none) from DP.non) a kk
  · rintro v H' ⟨w', p, m', l, hr', d, a⟩
    exact adj_ok hr.len l hr' d a kk
  · rintro σ' H' ⟨_, _, _, _, _, z⟩
    exact z
  · rintro σ' H' ⟨_, _, _, _, _, z⟩
    exact z
end
section
variable {X : Cx} {L : PP.Loc} {m : Mem} {a b e : Expr} {es : List Expr} {pos p : Pos} {Q : QE} {QT : Bool → Mem → Prop} {k : Nat} {f : Addr} {fd : FuncData} {ps : List Str} {sp : FSp} {x : Str}
theorem we_callD {j : Int} {ds : List Value} (ks : List Nat) (F : FnOk X.prog X.w X.K X.mg X.base CX0 k f fd ps (toSp X.K sp)) (hr : Room k X.A) (hm : X.mg x = some (.ref f)) (hk : PySem.W.keepIn X.K (.ref f) = true) (hb : Binds X.K fd ps ds) (hd : Vals [V.int j] ds)
    (h : WA X (e :: es) L m fun pvs m1 => CallAsk sp ks (pvs ++ [.d (.int j)]) m1 fun p mc => ∃ y, p = .d y ∧ backB none ks mc = true ∧ Q y (setAll m1 ks mc))
    (hg : Gl X x := by rfl) (hdb : (x == ("__debug__" : Str)) = false := by decide) (he : starEach (e :: es) X.env = (false, eval e X.env) :: starEach es X.env := by rfl) (hpl : (backTo pos (starEach es X.env)).any (·.1) = false := by rfl) : WE X (.Call (.Name x p) (e :: es) [] pos) L m Q :=
  we_of (pe_call F hr hg hm hk hb hd pass0 (paU (e :: es)) hdb he hpl) fun w σ H r => h.go r fun w1 vs pvs m1 H1 l1 r1 d1 ⟨nd, hl, hi, hs⟩ => by
    have d2 : RVs X.K w1 (vs ++ [V.int j]) (pvs ++ [.d (.int j)]) := by
      have app : ∀ {vs : List V} {pvs : List PV}, RVs X.K w1 vs pvs → RVs X.K w1 (vs ++ [V.int j]) (pvs ++ [.d (.int j)]) := by
        intro vs pvs r
        induction r with
        | nil => exact .cons (DP.int j) .nil
        | cons a _ ih => exact .cons a ih
      exact app d1
    show toSp X.K sp (vs ++ [V.int j]) H1 _ _
    refine ⟨_, _, _, _, r1.toHR.subWorld nd hl, sub_rvs r1.toHR hl d2 hi, hs, fun w' v q mc H' l hr' d ⟨y, ey, hmc, qq⟩ => ?_⟩
    subst ey
    obtain ⟨l3, hr3⟩ := r1.toHR.back (mo := []) (ex := []) nd hl l (by rw [List.append_nil]; exact hr') hmc
    exact ⟨_, y, _, l1.trans l3, hr3, d, qq⟩
theorem cell_ty {w : Wd} {H : Hp} {v : V} {p : PV} {xs : List PyData} (hr : HR X.K w m H) (r : RV X.K w v p) (h : lstP m p = some xs) : TyX X.K H v (.type "list") := by
  obtain ⟨ad, vs, rfl, e, _⟩ := lstP_ok hr r h
  exact .base (.lst e)
theorem we_isinstV {T : String} {x : Str} {p2 : Pos} (hm : X.mg "isinstance" = none) (hmT : X.mg x = none) (hb : bootBuiltins x = some (.type T)) (h : WV X a L m fun y m1 => (∃ xs, lstP m1 y = some xs) ∧ ∃ k, kitB "list" T = some k ∧ Q (.bool k) m1) (hg : Gl X "isinstance" := by rfl) (hgT : Gl X x := by rfl)
    (hn : x ≠ "__name__" := by decide) (hd : (x == ("__debug__" : Str)) = false := by decide)
    (he : starEach [a, .Name x p2] X.env = (false, eval a X.env) :: starEach [.Name x p2] X.env := by rfl) (he2 : starEach [.Name x p2] X.env = (false, eval (.Name x p2) X.env) :: starEach [] X.env := by rfl) (hpl : (backTo pos (starEach [.Name x p2] X.env)).any (·.1) = false := by rfl) : WE X (.Call (.Name "isinstance" p) [a, .Name x p2] [] pos) L m Q :=
  we_of (pe_callB call_isi hg hm (by decide +kernel) (pa_cons (peU a) (pa_cons (pe_bltn (v := .ty T) hgT hmT hb rfl hn hd) pa_nil he2) he) (he := he) (hpl := hpl)) fun w σ H r => h.go r fun w1 v y m1 H1 l1 r1 d1 ⟨⟨xs, e0⟩, k, e1, q⟩ =>
    ⟨v, .ty T, _, _, k, rfl, .ty T, cell_ty r1.toHR d1 e0, kit_ty e1, w1, _, m1, l1, r1.toHR, .bl k, q⟩
theorem we_isinstV2 {S T : String} {x y : Str} {x1 : Nat} {p2 p3 p4 : Pos} (hm : X.mg "isinstance" = none) (hmS : X.mg x = none) (hmT : X.mg y = none) (hbS : bootBuiltins x = some (.type S)) (hb : bootBuiltins y = some (.type T)) (h : WV X a L m fun z m1 => (∃ xs, lstP m1 z = some xs) ∧ ∃ j k, kitB "list" S = some j ∧ kitB "list" T = some k ∧ Q (.bool (j || k)) m1)
    (hg : Gl X "isinstance" := by rfl) (hgS : Gl X x := by rfl) (hgT : Gl X y := by rfl)
    (hnS : x ≠ "__name__" := by decide) (hdS : (x == ("__debug__" : Str)) = false := by decide) (hn : y ≠ "__name__" := by decide) (hd : (y == ("__debug__" : Str)) = false := by decide)
    (he : starEach [a, .Tuple [.Name x p2, .Name y p3] x1 p4] X.env = (false, eval a X.env) :: starEach [.Tuple [.Name x p2, .Name y p3] x1 p4] X.env := by rfl) (he2 : starEach [.Tuple [.Name x p2, .Name y p3] x1 p4] X.env = (false, eval (.Tuple [.Name x p2, .Name y p3] x1 p4) X.env) :: starEach [] X.env := by rfl)
    (he3 : starEach [.Name x p2, .Name y p3] X.env = (false, eval (.Name x p2) X.env) :: starEach [.Name y p3] X.env := by rfl) (he4 : starEach [.Name y p3] X.env = (false, eval (.Name y p3) X.env) :: starEach [] X.env := by rfl)
    (hpl : (backTo pos (starEach [.Tuple [.Name x p2, .Name y p3] x1 p4] X.env)).any (·.1) = false := by rfl) : WE X (.Call (.Name "isinstance" p) [a, .Tuple [.Name x p2, .Name y p3] x1 p4] [] pos) L m Q :=
  we_of (pe_callB call_isiT hg hm (by decide +kernel) (pa_cons (peU a) (pa_cons (pe_tup (pa_cons (pe_bltn (v := .ty S) hgS hmS hbS rfl hnS hdS) (pa_cons (pe_bltn (v := .ty T) hgT hmT hb rfl hn hd) pa_nil he4) he3)) pa_nil he2) he) (he := he) (hpl := hpl)) fun w σ H r => h.go r fun w1 v z m1 H1 l1 r1 d1 ⟨⟨xs, e0⟩, j, k, e1, e2, q⟩ => by
    refine ⟨szl (by simp), fun t ht => ?_⟩
    obtain ⟨l2, hr2⟩ := r1.toHR.fnew (o := .tup [.ty S, .ty T]) ht
    have ty : TyX X.K (upd H1 t (.tup [.ty S, .ty T])) v (.type "list") := cell_ty hr2 (d1.mono l2.toLe0) e0
    refine ⟨v, t, [.ty S, .ty T], _, [.type S, .type T], j || k, rfl, upd_same, .cons (.ty S) (.cons (.ty T) .nil), ty, kitAny_cons (kit_ty e1) (fun hj => kitAny_cons (kit_ty e2) (fun hk => by rw [hj, hk]; rfl) fun hk => by rw [hj, hk]; rfl) (fun hj => by rw [hj]; rfl), _, _, m1, l1.trans l2, hr2, .bl _, q⟩
theorem wt_isNoneV (h : WV X a L m fun p m1 => (∃ xs, lstP m1 p = some xs) ∧ WE X b L m1 fun y m2 => y = .none ∧ QT false m2) : WT X (.Compare a [.Is] [b] pos) L m QT :=
  wt_of (pt_cmpR op_isN (peU a) (peU b) (nomark _)) fun w σ H r => h.go r fun w1 v p m1 H1 l1 r1 d1 ⟨⟨xs, e0⟩, q1⟩ => q1.go r1 fun w2 u y m2 H2 l2 r2 d2 ⟨e2, q⟩ => by
    subst e2
    obtain ⟨ad, vs, rfl, _, _⟩ := lstP_ok r1.toHR d1 e0
    exact ⟨dp_none d2, false, by rw [decide_eq_false (fun z => by cases z)], w2, m2, l1.trans l2, r2.toHR, q⟩
end
end PP
namespace PP
open PySem PySem.Spec PyProof.Rows L2
section
variable {X : Cx} {L : PP.Loc} {m : Mem} {a b c e : Expr} {pos p : Pos} {Q : QE}
theorem we_reverse {apos : Pos} (h : WV X a L m fun p m1 => ∃ k xs0, p = .ref k ∧ m1[k]? = some (some (.lst xs0)) ∧ ∃ xs, m1[k]? = some (some (.lst xs)) ∧ Q .none (m1.set k (some (.lst xs.reverse))))
    (hb : attributeBase a "reverse" X.env (eval a X.env) = eval a X.env := by rfl) (hline : (apos.endLine == pos.line) = true := by rfl) : WE X (.Call (.Attribute a "reverse" apos) [] [] pos) L m Q :=
  we_lm0 PySem.F.slot_list_reverse PySem.F.type_list_reverse mt_reverse (fun w0 w k m H v l hr d1 ⟨xs, e4, q⟩ => by
    obtain ⟨a1, vs, rfl, ea, eo, dd⟩ := cell_at hr d1 e4
    exact ⟨_, vs, rfl, rfl, eo, w, .none, _, l, cell_upd (vs := vs) hr ea e4 (dpa_rev dd), .non, q⟩) h hb hline
theorem ve_ifL {i j : Int} {t : Bool} {k1 k2 : Nat} {p1 p2 : Pos} (h : VT X c L m t) : VE X (.IfExp c (.Constant (.int i) k1 p1) (.Constant (.int j) k2 p2) pos) L m (.int (if t = true then i else j)) := fun Q q =>
  we_if (h _ ⟨fun e => we_int (by rw [if_pos e] at q; exact q), fun e => we_int (by rw [if_neg (by rw [e]; exact Bool.false_ne_true)] at q; exact q)⟩)
end
end PP
namespace PP
open PySem PySem.Spec PyProof.Rows L2
section
variable {X : Cx} {L : PP.Loc} {m : Mem} {a : Expr} {pos p : Pos} {Q : QE}
theorem we_abs (hm : X.mg "abs" = none) (h : WE X a L m fun x m1 => ∃ i : Int, x = .int i ∧ Q (.int (if i < 0 then -i else i)) m1) (hg : Gl X "abs" := by rfl) (he : starEach [a] X.env = (false, eval a X.env) :: starEach [] X.env := by rfl)
    (hpl : (backTo pos (starEach [] X.env)).any (·.1) = false := by rfl) : WE X (.Call (.Name "abs" p) [a] [] pos) L m Q :=
  we_of (pe_callB call_abs hg hm (by decide +kernel) (paU [a]) (he := he) (hpl := hpl)) fun w σ H r => WA.go (wd1 h he) r fun w1 vs ps m1 H1 l1 r1 d1 ⟨x, e1, i, e2, q⟩ => by
    subst e1; subst e2
    obtain ⟨v, rfl, d2⟩ := rvs1 d1
    exact ⟨i, by rw [dp_int d2], w1, _, m1, l1, r1.toHR, .int _, q⟩
end
end PP
namespace PP
open PySem PySem.Spec PyProof.Rows L2
open PySem.W (AllAlike Sortable dataLe dataLt EachIs sorted_data)
section
variable {X : Cx} {L : PP.Loc} {m : Mem} {a b : Expr} {pos p : Pos} {QL : List PyData → Mem → Prop}
abbrev srtD (xs : List PyData) : List PyData := xs.mergeSort (dataLe false id)
theorem each_of {R : Value → PyData → Prop} {P : V → PyData → Prop} (f : ∀ v u d, P v d → RelV v u → R u d) : ∀ {vs : List V} {us : List Value} {ds : List PyData}, Paired P vs ds → Vals vs us → EachIs R us ds
  | _, _, _, .nil, .nil => .nil
  | _, _, _, .cons p ps, .cons r rs => .cons (f _ _ _ p r) (each_of f ps rs)
theorem each_back {P : V → PyData → Prop} : ∀ {us : List Value} {ds : List PyData}, EachIs (fun u d => ∃ v, RelV v u ∧ P v d) us ds → ∃ vs, Vals vs us ∧ Paired P vs ds
  | _, _, .nil => ⟨[], .nil, .nil⟩
  | _, _, .cons ⟨v, r, p⟩ t => by
    obtain ⟨vs, r2, p2⟩ := each_back t
    exact ⟨v :: vs, .cons r r2, .cons p p2⟩
def rSortedD (K : PySem.W.Frag) : List V → Hp → VK → Prop := fun vs H Q => ∃ (a : Addr) (xs : List V) (ds : List PyData) (P : V → PyData → Prop), vs = [V.ref a] ∧ SqL K H a xs ∧ Paired P xs ds ∧ (∀ v d, P v d → Dp K H v d) ∧ AllAlike ds ∧ Sortable ds ∧ (∀ d ∈ ds, d.depth ≤ 60) ∧
  ∀ (ys : List V) (p : Addr), Paired P ys (srtD ds) → H p = none → Q (.ref p) (upd H p (.lst ys))
theorem cr_sortedD (hu : X.A.units + 65 < cLine) : CallR X (.builtin "sorted") (rSortedD X.K) := by
  intro pins s σ H vs us Q I r h
  obtain ⟨a, xs, ds, P, rfl, hs, hp, hd, hal, hk, hz, q⟩ := h
  obtain ⟨its, rv, hl, hlen⟩ := I.list hs
  rw [Vals.ref1 r]
  have e1 : EachIs (fun u d => ∃ v, RelV v u ∧ P v d) its ds := each_of (fun v u d pp rr => ⟨v, rr, pp⟩) hp rv
  have e2 : EachIs (fun u d => ∃ as, Reads s.heap u d as) its ds := each_of (fun v u d pp rr => Dp.reads I d v u (hd v d pp) rr) hp rv
  have hll : ds.length ≤ sizeLine := by rw [← e1.length, ← rv.length]; exact hlen
  refine sorted_data (enc := id) hl.isList e1 e2 (by rw [List.map_id]; exact hal) (by rw [List.map_id]; exact hk) hll (fun d hdm => ?_) fun out hol eo => ?_
  · have := hz d hdm
    show X.A.units + 2 + d.depth < cLine
    omega
  obtain ⟨ys, rys, pys⟩ := each_back eo
  obtain ⟨ep, he'⟩ := PyProof.Rows.sortedAll_at s.heap its out.toArray
  have hyl : ys.length ≤ sizeLine := by rw [rys.length, hol]; exact hll
  exact ⟨.ref _, upd H (s.heap.objs.size + 1) (.lst ys), I.laid (t' := s.toks) (fun _ _ => PyProof.Rows.sortedAll_old) (Nat.le_succ _) ⟨hyl, out, ep, rys, he'⟩, rfl, q _ _ pys (I.hok.fresh (Nat.le_succ _))⟩
theorem dps_paired {K : PySem.W.Frag} {F : Hp} : ∀ {vs : List V} {ds : List PyData}, DPs K F vs ds → Paired (DP K F) vs ds
  | _, _, .nil => .nil
  | _, _, .cons r t => .cons r (dps_paired t)
theorem paired_dps {K : PySem.W.Frag} {F : Hp} : ∀ {vs : List V} {ds : List PyData}, Paired (DP K F) vs ds → DPs K F vs ds
  | _, _, .nil => .nil
  | _, _, .cons r t => .cons r (paired_dps t)
theorem wf_sortedD (hu : X.A.units + 65 < cLine) (hm : X.mg "sorted" = none) (h : WV X a L m fun p m1 => ∃ ds, lstP m1 p = some ds ∧ AllAlike ds ∧ Sortable ds ∧ (∀ d ∈ ds, d.depth ≤ 60) ∧ QL (srtD ds) m1) (hg : Gl X "sorted" := by rfl) (he : starEach [a] X.env = (false, eval a X.env) :: starEach [] X.env := by rfl)
    (hpl : (backTo pos (starEach [] X.env)).any (·.1) = false := by rfl) : WF X (.Call (.Name "sorted" p) [a] [] pos) L m QL :=
  wf_of (pe_callB (cr_sortedD hu) hg hm (by decide +kernel) (paU [a]) (he := he) (hpl := hpl)) fun w σ H r => WA.go (wa1 h he) r fun w1 vs ps m1 H1 l1 r1 d1 ⟨p, e1, ds, e2, hal, hk, hz, q⟩ => by
    subst e1
    obtain ⟨v, rfl, d2⟩ := rvs1 d1
    obtain ⟨ad, vs, rfl, hh, d⟩ := lstP_ok r1.toHR d2 e2
    refine ⟨ad, vs, ds, DP X.K w1.F, rfl, .of hh, dps_paired d, fun v d hv => DP.toDp _ _ (dp_mono r1.toHR.fz _ _ hv), hal, hk, hz, fun ys p hp hn => ?_⟩
    obtain ⟨hr2, u⟩ := r1.toHR.un (o := .lst ys) hn
    exact ⟨w1, _, m1, p, _, rfl, l1, hr2, upd_same, u, paired_dps hp, q⟩
end
theorem srt_mem {xs : List PyData} {x : PyData} : x ∈ srtD xs ↔ x ∈ xs := (List.mergeSort_perm xs _).mem_iff
theorem srt_len {xs : List PyData} : (srtD xs).length = xs.length := (List.mergeSort_perm xs _).length_eq
end PP
namespace PP
open PySem PySem.Spec PyProof.Rows L2
end PP
namespace PP
open PySem PySem.Spec PyProof.Rows L2
section
variable {X : Cx} {L : PP.Loc} {m : Mem} {elt ta ia tb ib : Expr} {scope : Scope} {own : List (Str × Nat)} {vs1 : List Nat} {pos : Pos} {pat pat1 : Pat} {Q : List PyData → Mem → Prop}
abbrev LcAsk2 (X : Cx) (L : PP.Loc) (m : Mem) (elt ta ia tb ib : Expr) (scope : Scope) (own : List (Str × Nat)) (vs1 : List Nat) (pat pat1 : Pat) (Q : List PyData → Mem → Prop) : Prop :=
  WI X ta ia L m fun xs g m1 => ∃ I : Nat → List PyData → Mem → Prop, I 0 [] m1 ∧
    (∀ (i : Nat) (x : PyData) (ys : List PyData) (m' : Mem), xs[i]? = some x → I i ys m' → g m' ∧ ∃ Lx, setP (wipeL L (own.map (·.2))) pat x = some Lx ∧
      WIb X scope tb ib Lx m' fun zs g1 m2 => ∃ J : Nat → List PyData → Mem → Prop, J 0 ys m2 ∧
        (∀ (j : Nat) (y : PyData) (ys : List PyData) (m' : Mem), zs[j]? = some y → J j ys m' → g1 m' ∧ ∃ Ly, setP (wipeL Lx vs1) pat1 y = some Ly ∧
          WEb X scope elt Ly m' fun z m4 => ys.length < sizeLine ∧ J (j + 1) (ys ++ [z]) m4) ∧
        ∀ ys m', J zs.length ys m' → g1 m' ∧ I (i + 1) ys m') ∧
    ∀ ys m', I xs.length ys m' → g m' ∧ Q ys m'
theorem lc2_read {w : Wd} {σ : L2.St} {H : Hp} (rp : Rep X.K w L m σ H) (hp : ∀ j ∈ pat.slots, j ∈ own.map (·.2)) (hp1 : ∀ j ∈ pat1.slots, j ∈ vs1) (h : LcAsk2 X L m elt ta ia tb ib scope own vs1 pat pat1 Q) :
    tLc2 (tUI X ta ia) (gP X.K pat) tYes (tUIb X scope tb ib) (gP X.K pat1) tYes (tUb X scope elt) (own.map (·.2)) vs1 σ H (PF X.K w Q) := by
  refine WI.go h rp fun w1 J xs g m1 H1 l1 r1 jo ⟨I, i0, it, ie⟩ => ?_
  intro D hD
  generalize hvs : own.map (·.2) = vs at *
  obtain ⟨hr0, u0⟩ := r1.toHR.un (o := .lst []) hD
  refine ⟨fun i n H' => n = xs.length - i ∧ i ≤ xs.length ∧ ∃ w' m' ys us, w1.le w' ∧ HR X.K (w'.hide D (.lst us)) m' H' ∧ DPs X.K w'.F us ys ∧ I i ys m', ⟨xs.length, by simp, Nat.zero_le _, w1, m1, [], [], .refl w1, hr0.hide u0 upd_same, .nil, i0⟩, ?_⟩
  rintro i n H' ⟨rfl, hi, w', m', ys, us, l', hr', d', q⟩
  by_cases hlt : i < xs.length
  · refine .inr ?_
    have hx : xs[i]? = some xs[i] := List.getElem?_eq_getElem hlt
    obtain ⟨gm, Lx, hs, tst⟩ := it i _ ys m' hx q
    obtain ⟨jg, jy⟩ := jo.go (w'.hide D (.lst us)) m' H' i _ (l'.toLe0.trans (Wd.le0_hide _ _ _)) hr' gm hx
    refine ⟨jg, fun H2 => ∃ w2 m2 ys us, w1.le w2 ∧ HR X.K (w2.hide D (.lst us)) m2 H2 ∧ DPs X.K w2.F us ys ∧ I (i + 1) ys m2, fun H2 ⟨w2, m2, ys, us, a, b, c, e⟩ => ⟨xs.length - (i + 1), by omega, rfl, hlt, w2, m2, ys, us, a, b, c, e⟩, fun v H'' y => ?_⟩
    obtain ⟨w2, l2, hr2, d2⟩ := jy v H'' y
    obtain ⟨w3, rfl, l3⟩ := le_hide l2
    have r2 : Rep X.K (w3.hide D (.lst us)) L m' σ H'' := r1.go0 ((l'.trans l3).toLe0.trans (Wd.le0_hide _ _ _)) hr2
    refine gP_ok d2 (r2.wipe vs) hp hs fun σ' e1 r3 e2 => ⟨?_, ?_⟩
    · exact wipe_eq (by rw [e1, wipe_length]) e2
    (try unfold tYes)
    dsimp only
    rw [if_pos rfl]
    intro s0 H0 C cl fp
    refine WI.go (tst s0 H0 C cl fp) r3 fun w4 J1 zs g1 m4 H4 l4 r4 jo1 ⟨Jn, j0, jt, je⟩ => ?_
    obtain ⟨w5, rfl, l5⟩ := le_hide l4
    have d5 := dpa_mono (l3.trans l5).sub _ _ d'
    refine ⟨fun j n H' => n = zs.length - j ∧ j ≤ zs.length ∧ ∃ w' m' ys us, w5.le w' ∧ HR X.K (w'.hide D (.lst us)) m' H' ∧ DPs X.K w'.F us ys ∧ Jn j ys m', ⟨zs.length, by simp, Nat.zero_le _, w5, m4, ys, us, .refl w5, r4.toHR, d5, j0⟩, ?_⟩
    rintro j n H6 ⟨rfl, hj, w6, m6, ys6, us6, l6, hr6, d6, q6⟩
    by_cases hlt1 : j < zs.length
    · refine .inr ?_
      have hy : zs[j]? = some zs[j] := List.getElem?_eq_getElem hlt1
      obtain ⟨gm1, Ly, hs1, tst1⟩ := jt j _ ys6 m6 hy q6
      have l05 : (w5.hide D (.lst us)).le0 (w6.hide D (.lst us6)) := ⟨l6.pre, l6.sub⟩
      obtain ⟨jg1, jy1⟩ := jo1.go (w6.hide D (.lst us6)) m6 H6 j _ l05 hr6 gm1 hy
      refine ⟨jg1, fun H2 => ∃ w2 m2 ys us, w5.le w2 ∧ HR X.K (w2.hide D (.lst us)) m2 H2 ∧ DPs X.K w2.F us ys ∧ Jn (j + 1) ys m2, fun H2 ⟨w2, m2, us9, us, a, b, c, e⟩ => ⟨zs.length - (j + 1), by omega, rfl, hlt1, w2, m2, us9, us, a, b, c, e⟩, fun v1 H7 y1 => ?_⟩
      obtain ⟨w7, l7, hr7, d7⟩ := jy1 v1 H7 y1
      obtain ⟨w8, rfl, l8⟩ := le_hide l7
      have r8 : Rep X.K (w8.hide D (.lst us6)) Lx m6 σ' H7 := r4.go0 ⟨(l6.trans l8).pre, (l6.trans l8).sub⟩ hr7
      refine gP_ok d7 (r8.wipe vs1) hp1 hs1 fun σ9 e9 r9 e10 => ⟨?_, ?_⟩
      · exact wipe_eq (by rw [e9, wipe_length]) e10
      (try unfold tYes)
      dsimp only
      rw [if_pos rfl]
      intro s1 H10 C1 cl1 fp1
      refine tU_mono (tst1 s1 H10 C1 cl1 fp1 _ _ _ r9) fun y11 H11 ⟨w11, x11, m11, l11, hr11, d11, hz11, q11⟩ => ?_
      obtain ⟨w12, rfl, l12⟩ := le_hide l11
      obtain ⟨hr16, u16, e16⟩ := hr11.unhide
      have lall : w6.le w12 := l8.trans l12
      have dus := dpa_mono lall.sub _ _ d6
      exact ⟨us6, e16, by rw [dpa_len d6]; omega, w12, m11, ys6 ++ [x11], us6 ++ [y11], l6.trans lall, (hr16.updUn u16).hide u16 upd_same, dpa_app dus (.cons d11 .nil), q11⟩
    · have e : j = zs.length := by omega
      subst e
      obtain ⟨gm1, qi⟩ := je ys6 m6 q6
      exact .inl ⟨jo1.stop (w6.hide D (.lst us6)) m6 H6 _ ⟨l6.pre, l6.sub⟩ hr6 gm1 (Nat.le_refl _), w6, m6, ys6, us6, ((l'.trans l3).trans l5).trans l6, hr6, d6, qi⟩
  · have e : i = xs.length := by omega
    subst e
    obtain ⟨gm, qd⟩ := ie ys m' q
    obtain ⟨hr7, u7, e7⟩ := hr'.unhide
    exact .inl ⟨jo.stop (w'.hide D (.lst us)) m' H' _ (l'.toLe0.trans (Wd.le0_hide _ _ _)) hr' gm (Nat.le_refl _), w', ys, m', D, us, rfl, l1.trans l', hr7, e7, u7, d', qd⟩
theorem tLc2_mono {wi : TI} {g : TG} {tt : TT} {wi1 : TI} {g1 : TG} {tt1 : TT} {te : TE} {vs vs1 : List Nat} (wm : ∀ (σ : L2.St) (H : Hp) (R R' : It → Hp → Prop), (∀ J H', R J H' → R' J H') → wi σ H R → wi σ H R') (σ : L2.St) (H : Hp) (Q Q' : VK) (k : ∀ b H', Q b H' → Q' b H') (h : tLc2 wi g tt wi1 g1 tt1 te vs vs1 σ H Q) : tLc2 wi g tt wi1 g1 tt1 te vs vs1 σ H Q' :=
  wm _ _ _ _ (fun J H1 h D hD => by
    obtain ⟨W, w0, st⟩ := h D hD
    exact ⟨W, w0, fun i n H' wt => (st i n H' wt).imp (fun ⟨a, b⟩ => ⟨a, k _ _ b⟩) id⟩) h
theorem ws_setLc2 {y : Str} {py : Pos} {spos : Pos} {D : PEnds} (i : Nat) (own : List (Str × Nat)) (vs1 : List Nat) (pat pat1 : Pat) (hc : X.calm = true) (hN : X.N.Nodup) (hy : X.N[i]? = some y) (hyl : X.env.scope.names.lookup y = some .local) (hsw : swapsWith (.ListComp elt [⟨ta, ia, [], 0⟩, ⟨tb, ib, [], 0⟩] scope pos) (some (.Name y py)) spos.line X.env = pure true)
    (ok : BlkOk X.N X.env.scope scope own) (hv : ∀ i ∈ vs1, i ∈ own.map (·.2)) (hg : ∀ (s : Shared) (H : Hp) (C : Addr) (cl : List (Str × Addr)) (fp : List Addr), PG (BX X scope s H C cl fp) ta (gP X.K pat)) (hp : ∀ j ∈ pat.slots, j ∈ own.map (·.2))
    (hg1 : ∀ (s : Shared) (H : Hp) (C : Addr) (cl : List (Str × Addr)) (fp : List Addr), PG (BX X scope s H C cl fp) tb (gP X.K pat1)) (hp1 : ∀ j ∈ pat1.slots, j ∈ vs1)
    (h : LcAsk2 X L m elt ta ia tb ib scope own vs1 pat pat1 fun xs m1 => D.nx (L.set i (some (.d (.list xs)))) m1 ∨ D.nx (L.set i (some (.ref m1.length))) (m1 ++ [some (.lst xs)])) (hs : ∀ x, foldedSetIterable ia X.env x = pure x := by intro _; rfl) (hs1 : ∀ env x, foldedSetIterable ib env x = pure x := by intro _ _; rfl) : WS X (.Assign [.Name y py] (.ListComp elt [⟨ta, ia, [], 0⟩, ⟨tb, ib, [], 0⟩] scope pos) spos) L m D :=
  setF_core (ps_setLc2 hc hN hy hyl hsw (piU ta ia) ok hv hg (fun _ _ _ _ _ => pts_nil) (fun s H C cl fp => piUb tb ib s H C cl fp) hg1 (fun _ _ _ _ _ => pts_nil) (fun s H C cl fp => peUb elt s H C cl fp) hs hs1) (fun w σ H r => lc2_read r hp hp1 h) (tLc2_mono fun _ _ _ _ k h => tUI_mono h k)
end
section
variable {X : Cx} {L : PP.Loc} {m : Mem} {a : Expr} {pos : Pos} {Q : QE}
theorem we_clear {apos : Pos} (h : WV X a L m fun p m1 => ∃ k xs0, p = .ref k ∧ m1[k]? = some (some (.lst xs0)) ∧ ∃ xs, m1[k]? = some (some (.lst xs)) ∧ Q .none (m1.set k (some (.lst []))))
    (hb : attributeBase a "clear" X.env (eval a X.env) = eval a X.env := by rfl) (hline : (apos.endLine == pos.line) = true := by rfl) : WE X (.Call (.Attribute a "clear" apos) [] [] pos) L m Q :=
  we_lm0 PySem.F.slot_list_clear PySem.F.type_list_clear mt_clear (fun w0 w k m H v l hr d1 ⟨xs, e4, q⟩ => by
    obtain ⟨a1, vs, rfl, ea, eo, dd⟩ := cell_at hr d1 e4
    exact ⟨_, vs, rfl, rfl, eo, w, .none, _, l, cell_upd (vs := vs) hr ea e4 .nil, .non, q⟩) h hb hline
end
end PP
namespace MM
def stepR (mu : Int → Int) (s : List Int) (p : Int) : List Int := match s with
  | [] => [p]
  | t :: r => if t = mu p then r else p :: t :: r
def stkR (mu : Int → Int) (R : List Int) (i : Nat) : List Int := (R.take i).foldl (stepR mu) []
theorem stkR_zero {mu : Int → Int} {R : List Int} : stkR mu R 0 = [] := by unfold stkR; rw [List.take_zero]; rfl
theorem stkR_succ {mu : Int → Int} {R : List Int} {i : Nat} {p : Int} (h : R[i]? = some p) : stkR mu R (i + 1) = stepR mu (stkR mu R i) p := by
  unfold stkR
  rw [List.take_add_one, h, List.foldl_append]
  rfl
structure Inv (mu : Int → Int) (R : List Int) : Prop where
  nd : R.Nodup
  mem : ∀ p ∈ R, mu p ∈ R
  ne : ∀ p ∈ R, mu p ≠ p
  inv : ∀ p ∈ R, mu (mu p) = p
theorem idx_at {R : List Int} (nd : R.Nodup) {i : Nat} {p : Int} (h : R[i]? = some p) : R.idxOf p = i := by
  obtain ⟨hi, e⟩ := List.getElem?_eq_some_iff.mp h
  have h2 := List.idxOf_lt_length_of_mem (e ▸ List.getElem_mem hi)
  have h3 := List.getElem_idxOf h2
  exact (List.getElem_inj nd).mp (h3.trans e.symm)
theorem at_idx {R : List Int} {p : Int} (h : p ∈ R) : R[R.idxOf p]? = some p := by
  have h2 := List.idxOf_lt_length_of_mem h
  rw [List.getElem?_eq_getElem h2, List.getElem_idxOf h2]
theorem idx_inj {R : List Int} {p q : Int} (hp : p ∈ R) (hq : q ∈ R) (e : R.idxOf p = R.idxOf q) : p = q := by
  have h1 := at_idx hp
  rw [e, at_idx hq] at h1
  exact (Option.some.inj h1).symm
section
variable {mu : Int → Int} {R : List Int} (I : Inv mu R)
include I
theorem stk_sorted : ∀ {i : Nat}, i ≤ R.length → (∀ x ∈ stkR mu R i, x ∈ R ∧ R.idxOf x < i) ∧ (stkR mu R i).Pairwise fun a b => R.idxOf b < R.idxOf a
  | 0, _ => by rw [stkR_zero]; exact ⟨fun x h => (List.not_mem_nil h).elim, .nil⟩
  | i + 1, h => by
    obtain ⟨h1, h2⟩ := stk_sorted (i := i) (by omega)
    have hq : R[i]? = some R[i] := List.getElem?_eq_getElem (by omega)
    have hqp := idx_at I.nd hq
    rw [stkR_succ hq]
    cases e : stkR mu R i with
    | nil =>
      refine ⟨fun x hx => ?_, List.pairwise_singleton _ _⟩
      have := List.mem_singleton.mp hx
      subst this
      exact ⟨List.getElem_mem _, by omega⟩
    | cons t r =>
      rw [e] at h1 h2
      unfold stepR
      dsimp only
      split
      · exact ⟨fun x hx => let ⟨a, b⟩ := h1 x (List.mem_cons_of_mem _ hx); ⟨a, by omega⟩, (List.pairwise_cons.mp h2).2⟩
      · refine ⟨fun x hx => ?_, List.pairwise_cons.mpr ⟨fun y hy => ?_, h2⟩⟩
        · rcases List.mem_cons.mp hx with rfl | hx
          · exact ⟨List.getElem_mem _, by omega⟩
          · obtain ⟨a, b⟩ := h1 x hx
            exact ⟨a, by omega⟩
        · have := (h1 y hy).2
          omega
theorem stk_open : ∀ {i : Nat}, i ≤ R.length → ∀ p ∈ R, R.idxOf p < i → i ≤ R.idxOf (mu p) → p ∈ stkR mu R i
  | 0, _, _, _, h, _ => by omega
  | i + 1, h, p, hp, h1, h2 => by
    have hq : R[i]? = some R[i] := List.getElem?_eq_getElem (by omega)
    have hqm : R[i] ∈ R := List.getElem_mem _
    have hqp := idx_at I.nd hq
    have hs := stk_sorted I (i := i) (by omega)
    rw [stkR_succ hq]
    by_cases e : R.idxOf p = i
    · have ep : p = R[i] := idx_inj hp hqm (by omega)
      cases es : stkR mu R i with
      | nil => rw [ep]; exact List.mem_singleton.mpr rfl
      | cons t r =>
        unfold stepR
        dsimp only
        split
        · rename_i ht
          have h3 := (hs.1 t (by rw [es]; exact List.mem_cons_self)).2
          rw [ht, ← ep] at h3
          omega
        · rw [ep]; exact List.mem_cons_self
    · have ih := stk_open (i := i) (by omega) p hp (by omega) (by omega)
      cases es : stkR mu R i with
      | nil => rw [es] at ih; exact (List.not_mem_nil ih).elim
      | cons t r =>
        rw [es] at ih
        unfold stepR
        dsimp only
        split
        · rename_i ht
          rcases List.mem_cons.mp ih with rfl | ih
          · rw [ht, I.inv _ hqm] at h2
            omega
          · exact ih
        · exact List.mem_cons_of_mem _ ih
theorem stk_stays {i : Nat} {p : Int} (hp : p ∈ R) (hm : R.idxOf (mu p) < i) (h : p ∈ stkR mu R i) : ∀ {j : Nat}, i ≤ j → j ≤ R.length → p ∈ stkR mu R j
  | 0, h1, _ => by
    have : i = 0 := by omega
    subst this; exact h
  | j + 1, h1, h2 => by
    by_cases e : i = j + 1
    · subst e; exact h
    · have ih := stk_stays hp hm h (j := j) (by omega) (by omega)
      have hq : R[j]? = some R[j] := List.getElem?_eq_getElem (by omega)
      have hqm : R[j] ∈ R := List.getElem_mem _
      have hqp := idx_at I.nd hq
      rw [stkR_succ hq]
      cases es : stkR mu R j with
      | nil => rw [es] at ih; exact (List.not_mem_nil ih).elim
      | cons t r =>
        rw [es] at ih
        unfold stepR
        dsimp only
        split
        · rename_i ht
          rcases List.mem_cons.mp ih with rfl | ih
          · rw [ht, I.inv _ hqm] at hm
            omega
          · exact ih
        · exact List.mem_cons_of_mem _ ih
def Crs (mu : Int → Int) (R : List Int) (a b : Int) : Prop := R.idxOf a < R.idxOf b ∧ R.idxOf b < R.idxOf (mu a) ∧ R.idxOf (mu a) < R.idxOf (mu b)
theorem stk_only (nc : ∀ a ∈ R, ∀ b ∈ R, ¬ Crs mu R a b) : ∀ {i : Nat}, i ≤ R.length → ∀ x ∈ stkR mu R i, i ≤ R.idxOf (mu x)
  | 0, _, _, _ => Nat.zero_le _
  | i + 1, h, x, hx => by
    have hq : R[i]? = some R[i] := List.getElem?_eq_getElem (by omega)
    have hqm : R[i] ∈ R := List.getElem_mem _
    have hqp := idx_at I.nd hq
    have hs := stk_sorted I (i := i) (by omega)
    have ih := stk_only nc (i := i) (by omega)
    have hmq := I.mem _ hqm
    -- what is there and is not the mate stays open
    have keep : ∀ y ∈ stkR mu R i, y ≠ mu R[i] → i + 1 ≤ R.idxOf (mu y) := fun y hy hne => by
      have h1 := ih y hy
      have h2 : R.idxOf (mu y) ≠ i := fun z => hne (by
        have : mu y = R[i] := idx_inj (I.mem _ (hs.1 y hy).1) hqm (by omega)
        rw [← this, I.inv _ (hs.1 y hy).1])
      omega
    rw [stkR_succ hq] at hx
    have push : (∀ t r, stkR mu R i = t :: r → t ≠ mu R[i]) → i + 1 ≤ R.idxOf (mu R[i]) ∧ ∀ y ∈ stkR mu R i, y ≠ mu R[i] := fun htop => by
      have h1 : i + 1 ≤ R.idxOf (mu R[i]) := by
        have hne : R.idxOf (mu R[i]) ≠ i := fun z => I.ne _ hqm (idx_inj hmq hqm (by omega))
        have hlt : ¬ R.idxOf (mu R[i]) < i := fun z => by
          have ho := stk_open I (i := i) (by omega) (mu R[i]) hmq z (by rw [I.inv _ hqm]; omega)
          cases es : stkR mu R i with
          | nil => rw [es] at ho; exact (List.not_mem_nil ho).elim
          | cons t r =>
            have ht := htop t r es
            rw [es] at ho hs
            rcases List.mem_cons.mp ho with e | ho
            · exact ht e.symm
            · have h2 := (List.pairwise_cons.mp hs.2).1 _ ho
              have ht1 := hs.1 t List.mem_cons_self
              have h3 := keep t (by rw [es]; exact List.mem_cons_self) ht
              refine nc (mu R[i]) hmq t ht1.1 ⟨h2, ?_, ?_⟩
              · rw [I.inv _ hqm, hqp]; exact ht1.2
              · rw [I.inv _ hqm, hqp]; omega
        omega
      exact ⟨h1, fun y hy e => by
        have := (hs.1 y hy).2
        rw [e] at this
        omega⟩
    cases es : stkR mu R i with
    | nil =>
      rw [es] at hx
      have := List.mem_singleton.mp hx
      subst this
      exact (push fun t r e => by rw [es] at e; cases e).1
    | cons t r =>
      rw [es] at hx
      unfold stepR at hx
      dsimp only at hx
      split at hx
      · rename_i ht
        refine keep x (by rw [es]; exact List.mem_cons_of_mem _ hx) fun e => ?_
        rw [es] at hs
        have := (List.pairwise_cons.mp hs.2).1 _ hx
        rw [e, ht] at this
        omega
      · rename_i ht
        obtain ⟨p1, p2⟩ := push fun t' r' e => by rw [es] at e; cases e; exact ht
        rcases List.mem_cons.mp hx with rfl | hx
        · exact p1
        · exact keep x (by rw [es]; exact hx) (p2 x (by rw [es]; exact hx))
theorem pile_empty : stkR mu R R.length = [] ↔ ∀ a ∈ R, ∀ b ∈ R, ¬ Crs mu R a b := by
  constructor
  · intro e a ha b hb ⟨h1, h2, h3⟩
    have hma := I.mem _ ha
    have hc := List.idxOf_lt_length_of_mem hma
    have h4 := stk_open I (i := R.idxOf (mu a)) (by omega) a ha (by omega) (Nat.le_refl _)
    have h5 := stk_open I (i := R.idxOf (mu a)) (by omega) b hb h2 (by omega)
    have hs := stk_sorted I (i := R.idxOf (mu a)) (by omega)
    have h6 : a ∈ stkR mu R (R.idxOf (mu a) + 1) := by
      rw [stkR_succ (at_idx hma)]
      cases es : stkR mu R (R.idxOf (mu a)) with
      | nil => rw [es] at h4; exact (List.not_mem_nil h4).elim
      | cons t r =>
        rw [es] at h4 h5 hs
        unfold stepR
        dsimp only
        split
        · rename_i ht
          rw [I.inv _ ha] at ht
          subst ht
          rcases List.mem_cons.mp h5 with rfl | h5
          · omega
          · have := (List.pairwise_cons.mp hs.2).1 _ h5
            omega
        · exact List.mem_cons_of_mem _ h4
    have h7 := stk_stays I ha (by omega) h6 (j := R.length) (by omega) (Nat.le_refl _)
    rw [e] at h7
    exact List.not_mem_nil h7
  · intro nc
    cases es : stkR mu R R.length with
    | nil => rfl
    | cons t r =>
      have ht : t ∈ stkR mu R R.length := by rw [es]; exact List.mem_cons_self
      have h1 := stk_only I nc (Nat.le_refl _) t ht
      have h2 := List.idxOf_lt_length_of_mem (I.mem _ ((stk_sorted I (Nat.le_refl _)).1 t ht).1)
      omega
theorem crs_of {p q : Int} (hp : p ∈ R) (hq : q ∈ R) {l r s g : Nat} (e1 : l = min (R.idxOf p) (R.idxOf (mu p))) (e2 : r = max (R.idxOf p) (R.idxOf (mu p))) (e3 : s = min (R.idxOf q) (R.idxOf (mu q))) (e4 : g = max (R.idxOf q) (R.idxOf (mu q)))
    (h : (l < s ∧ s < r) ∧ ¬ (l < g ∧ g < r) ∨ ¬ (l < s ∧ s < r) ∧ (l < g ∧ g < r)) : ∃ a ∈ R, ∃ b ∈ R, Crs mu R a b := by
  -- the lesser end
  have low : ∀ {p : Int}, p ∈ R → ∃ a ∈ R, R.idxOf a = min (R.idxOf p) (R.idxOf (mu p)) ∧ R.idxOf (mu a) = max (R.idxOf p) (R.idxOf (mu p)) := fun {p} hp => by
    by_cases c : R.idxOf p ≤ R.idxOf (mu p)
    · exact ⟨p, hp, by omega, by omega⟩
    · exact ⟨mu p, I.mem _ hp, by omega, by rw [I.inv _ hp]; omega⟩
  obtain ⟨a, ha, a1, a2⟩ := low hp
  obtain ⟨b, hb, b1, b2⟩ := low hq
  have na : R.idxOf a ≠ R.idxOf (mu a) := fun z => I.ne _ ha (idx_inj (I.mem _ ha) ha z.symm)
  have nb : R.idxOf b ≠ R.idxOf (mu b) := fun z => I.ne _ hb (idx_inj (I.mem _ hb) hb z.symm)
  have inj1 : R.idxOf (mu a) = R.idxOf (mu b) → R.idxOf a = R.idxOf b := fun z => by
    have := idx_inj (I.mem _ ha) (I.mem _ hb) z
    rw [← I.inv _ ha, this, I.inv _ hb]
  have inj2 : R.idxOf a = R.idxOf b → R.idxOf (mu a) = R.idxOf (mu b) := fun z => by rw [idx_inj ha hb z]
  rcases h with h | h
  · exact ⟨a, ha, b, hb, by omega, by omega, by omega⟩
  · exact ⟨b, hb, a, ha, by omega, by omega, by omega⟩
end
end MM
namespace MM
open PySem PP L2
def ringI (n m : Int) : List Int := ((List.range (n - 0).toNat).map fun i => 0 + ((i : Nat) : Int)) ++ (List.range (n + m - 1 - (n - 1)).toNat).map fun i => n + m - 1 + ((i : Nat) : Int) * -1
theorem ringI_mem {n m x : Int} (hn : 0 ≤ n) (hm : 0 ≤ m) : x ∈ ringI n m ↔ 0 ≤ x ∧ x < n + m := by
  unfold ringI
  rw [List.mem_append, List.mem_map, List.mem_map]
  constructor
  · rintro (⟨i, hi, rfl⟩ | ⟨i, hi, rfl⟩)
    · have := List.mem_range.mp hi
      omega
    · have := List.mem_range.mp hi
      omega
  · rintro ⟨h1, h2⟩
    by_cases c : x < n
    · exact .inl ⟨x.toNat, List.mem_range.mpr (by omega), by omega⟩
    · exact .inr ⟨(n + m - 1 - x).toNat, List.mem_range.mpr (by omega), by omega⟩
theorem ringI_len {n m : Int} (hn : 0 ≤ n) (hm : 0 ≤ m) : ((ringI n m).length : Int) = n + m := by
  unfold ringI
  rw [List.length_append, List.length_map, List.length_map, List.length_range, List.length_range]
  omega
theorem nodup_map_inj {α β : Type} {f : α → β} {xs : List α} (h : xs.Nodup) (inj : ∀ x ∈ xs, ∀ y ∈ xs, f x = f y → x = y) : (xs.map f).Nodup := by
  induction xs with
  | nil => exact .nil
  | cons x xs ih =>
    rw [List.nodup_cons] at h
    rw [List.map_cons, List.nodup_cons]
    refine ⟨fun z => ?_, ih h.2 fun a ha b hb => inj a (List.mem_cons_of_mem _ ha) b (List.mem_cons_of_mem _ hb)⟩
    obtain ⟨y, hy, e⟩ := List.mem_map.mp z
    exact h.1 (inj y (List.mem_cons_of_mem _ hy) x List.mem_cons_self e ▸ hy)
theorem ringI_nodup {n m : Int} (hn : 0 ≤ n) (hm : 0 ≤ m) : (ringI n m).Nodup := by
  unfold ringI
  refine List.nodup_append.mpr ⟨nodup_map_inj List.nodup_range fun x _ y _ h => by omega, nodup_map_inj List.nodup_range fun x _ y _ h => by omega, fun a ha b hb e => ?_⟩
  obtain ⟨i, hi, rfl⟩ := List.mem_map.mp ha
  obtain ⟨j, hj, e2⟩ := List.mem_map.mp hb
  have := List.mem_range.mp hi
  have := List.mem_range.mp hj
  omega
def mu (ns : List Int) (p : Int) : Int := ns.getD p.toNat 0
def matesAt (ns : List Int) (i : Nat) : Bool := (decide (0 ≤ ns.getD i 0) && decide (ns.getD i 0 < (ns.length : Int))) && (!decide (ns.getD i 0 = (i : Int)) && decide (ns.getD (ns.getD i 0).toNat 0 = (i : Int)))
def matesOk (ns : List Int) : Bool := ((List.range ns.length).map (matesAt ns)).all id
theorem matesOk_iff {ns : List Int} : matesOk ns = true ↔ ∀ i < ns.length, matesAt ns i = true := by
  unfold matesOk
  rw [List.all_eq_true]
  constructor
  · intro h i hi
    exact h _ (List.mem_map.mpr ⟨i, List.mem_range.mpr hi, rfl⟩)
  · intro h x hx
    obtain ⟨i, hi, rfl⟩ := List.mem_map.mp hx
    exact h i (List.mem_range.mp hi)
theorem matesAt_iff {ns : List Int} {i : Nat} : matesAt ns i = true ↔ 0 ≤ ns.getD i 0 ∧ ns.getD i 0 < (ns.length : Int) ∧ ns.getD i 0 ≠ (i : Int) ∧ ns.getD (ns.getD i 0).toNat 0 = (i : Int) := by
  unfold matesAt
  simp only [Bool.and_eq_true, decide_eq_true_eq, Bool.not_eq_true', decide_eq_false_iff_not, and_assoc, ne_eq]
theorem inv_of {ns : List Int} {n m : Int} (hn : 0 ≤ n) (hm : 0 ≤ m) (hl : (ns.length : Int) = n + m) (h : ∀ i < ns.length, matesAt ns i = true) : Inv (mu ns) (ringI n m) := by
  have key : ∀ p ∈ ringI n m, mu ns p ∈ ringI n m ∧ mu ns p ≠ p ∧ mu ns (mu ns p) = p := fun p hp => by
    have hp := (ringI_mem hn hm).mp hp
    obtain ⟨a, b, c, d⟩ := matesAt_iff.mp (h p.toNat (by omega))
    refine ⟨(ringI_mem hn hm).mpr ⟨a, by show ns.getD p.toNat 0 < _; omega⟩, fun e => c (by rw [show ns.getD p.toNat 0 = p from e]; omega), ?_⟩
    show ns.getD (ns.getD p.toNat 0).toNat 0 = p
    rw [d]; omega
  exact ⟨ringI_nodup hn hm, fun p hp => (key p hp).1, fun p hp => (key p hp).2.1, fun p hp => (key p hp).2.2⟩
def isMatB (u d : Int) (ns : List Int) : Bool := !(decide (u < 0) || (decide (d < 0) || (decide (u + d = 0) || !decide ((ns.length : Int) = u + d)))) && (matesOk ns && (stkR (mu ns) (ringI u d) (ringI u d).length).isEmpty)
def loI (ns : List Int) (R : List Int) (i : Nat) : Nat := min (R.idxOf (R.getD i 0)) (R.idxOf (mu ns (R.getD i 0)))
def hiI (ns : List Int) (R : List Int) (i : Nat) : Nat := max (R.idxOf (R.getD i 0)) (R.idxOf (mu ns (R.getD i 0)))
def BadI (ns : List Int) (R : List Int) (i j : Nat) : Prop := (loI ns R i < loI ns R j ∧ loI ns R j < hiI ns R i) ∧ ¬ (loI ns R i < hiI ns R j ∧ hiI ns R j < hiI ns R i) ∨ ¬ (loI ns R i < loI ns R j ∧ loI ns R j < hiI ns R i) ∧ (loI ns R i < hiI ns R j ∧ hiI ns R j < hiI ns R i)
theorem getD_idx {R : List Int} {p : Int} (h : p ∈ R) : R.getD (R.idxOf p) 0 = p := by
  rw [List.getD_eq_getElem?_getD, at_idx h, Option.getD_some]
theorem bad_iff {ns R : List Int} (I : Inv (mu ns) R) : (∀ i < R.length, ∀ j < R.length, ¬ BadI ns R i j) ↔ ∀ a ∈ R, ∀ b ∈ R, ¬ Crs (mu ns) R a b := by
  constructor
  · intro h a ha b hb ⟨h1, h2, h3⟩
    refine h _ (List.idxOf_lt_length_of_mem ha) _ (List.idxOf_lt_length_of_mem hb) (.inl ?_)
    unfold loI hiI
    rw [getD_idx ha, getD_idx hb]
    omega
  · intro h i hi j hj hb
    obtain ⟨a, ha, b, hb, c⟩ := crs_of I (mem_getD hi (d := 0)) (mem_getD hj (d := 0)) rfl rfl rfl rfl hb
    exact h a ha b hb c
theorem isMat_good {u d : Int} {ns : List Int} (hu : 0 ≤ u) (hd : 0 ≤ d) (h0 : 0 < u + d) (hl : (ns.length : Int) = u + d) (hok : ∀ i < ns.length, matesAt ns i = true) (h : ∀ i < (ringI u d).length, ∀ j < (ringI u d).length, ¬ BadI ns (ringI u d) i j) : isMatB u d ns = true := by
  have I := inv_of hu hd hl hok
  have e := (pile_empty I).mpr ((bad_iff I).mp h)
  unfold isMatB
  rw [e, matesOk_iff.mpr hok, show decide (u < 0) = false by simpa using hu, show decide (d < 0) = false by simpa using hd, show decide (u + d = 0) = false by simp; omega, show decide ((ns.length : Int) = u + d) = true by simpa using hl]
  rfl
end MM
namespace MM
open PySem PP L2
def ends (prs : List (Int × Int)) : List Int := prs.flatMap fun p => [p.1, p.2]
theorem mem_ends {prs : List (Int × Int)} {x : Int} : x ∈ ends prs ↔ ∃ p ∈ prs, x = p.1 ∨ x = p.2 := by
  unfold ends
  rw [List.mem_flatMap]
  simp
def Btw (x l h : Nat) : Prop := l < x ∧ x < h
def SepP (a b c d : Nat) : Prop := ¬ (Btw c (min a b) (max a b) ↔ Btw d (min a b) (max a b))
def Sep (R : List Int) (p q : Int × Int) : Prop := SepP (R.idxOf p.1) (R.idxOf p.2) (R.idxOf q.1) (R.idxOf q.2)
structure Match (R : List Int) (prs : List (Int × Int)) : Prop where
  nd : (ends prs).Nodup
  mem : ∀ x, x ∈ ends prs ↔ x ∈ R
  nc : ∀ p ∈ prs, ∀ q ∈ prs, ¬ Sep R p q
theorem sep_self {a b : Nat} : ¬ SepP a b a b := by
  unfold SepP Btw
  omega
theorem ends_apart {prs : List (Int × Int)} (nd : (ends prs).Nodup) {p q : Int × Int} (hp : p ∈ prs) (hq : q ∈ prs) : p = q ∨ (q.1 ≠ p.1 ∧ q.1 ≠ p.2 ∧ q.2 ≠ p.1 ∧ q.2 ≠ p.2) := by
  induction prs with
  | nil => cases hp
  | cons r prs ih =>
    have nd' : (r.1 :: r.2 :: ends prs).Nodup := nd
    rw [List.nodup_cons, List.nodup_cons] at nd'
    obtain ⟨n1, n2, n3⟩ := nd'
    have far : ∀ q ∈ prs, (q.1 ≠ r.1 ∧ q.1 ≠ r.2 ∧ q.2 ≠ r.1 ∧ q.2 ≠ r.2) := fun q hq => by
      have e1 : q.1 ∈ ends prs := mem_ends.mpr ⟨q, hq, .inl rfl⟩
      have e2 : q.2 ∈ ends prs := mem_ends.mpr ⟨q, hq, .inr rfl⟩
      refine ⟨fun z => n1 ?_, fun z => n2 ?_, fun z => n1 ?_, fun z => n2 ?_⟩
      · rw [← z]; exact List.mem_cons_of_mem _ e1
      · rw [← z]; exact e1
      · rw [← z]; exact List.mem_cons_of_mem _ e2
      · rw [← z]; exact e2
    rcases List.mem_cons.mp hp with hp2 | hp2
    · rcases List.mem_cons.mp hq with hq2 | hq2
      · exact .inl (hp2.trans hq2.symm)
      · rw [hp2]; exact .inr (far q hq2)
    · rcases List.mem_cons.mp hq with hq2 | hq2
      · obtain ⟨a, b, c, d⟩ := far p hp2
        rw [hq2]
        exact .inr ⟨fun z => a z.symm, fun z => c z.symm, fun z => b z.symm, fun z => d z.symm⟩
      · exact ih n3 hp2 hq2
theorem Match.lt {R : List Int} {prs : List (Int × Int)} (M : Match R prs) {p : Int × Int} (hp : p ∈ prs) : R.idxOf p.1 < R.length ∧ R.idxOf p.2 < R.length :=
  ⟨List.idxOf_lt_length_of_mem ((M.mem _).mp (mem_ends.mpr ⟨p, hp, .inl rfl⟩)), List.idxOf_lt_length_of_mem ((M.mem _).mp (mem_ends.mpr ⟨p, hp, .inr rfl⟩))⟩
theorem Match.in {R : List Int} {prs : List (Int × Int)} (M : Match R prs) {p : Int × Int} (hp : p ∈ prs) : p.1 ∈ R ∧ p.2 ∈ R :=
  ⟨(M.mem _).mp (mem_ends.mpr ⟨p, hp, .inl rfl⟩), (M.mem _).mp (mem_ends.mpr ⟨p, hp, .inr rfl⟩)⟩
theorem idx_map {f : Int → Int} : ∀ {R : List Int} {x : Int}, (∀ a ∈ R, ∀ b ∈ R, f a = f b → a = b) → x ∈ R → (R.map f).idxOf (f x) = R.idxOf x
  | [], _, _, h => by cases h
  | r :: R, x, inj, h => by
    rw [List.map_cons, List.idxOf_cons, List.idxOf_cons]
    by_cases e : r = x
    · subst e; simp
    · have hx : x ∈ R := (List.mem_cons.mp h).elim (fun z => absurd z.symm e) id
      have e2 : f r ≠ f x := fun z => e (inj r List.mem_cons_self x h z)
      rw [show (r == x) = false by simpa using e, show (f r == f x) = false by simpa using e2]
      simp only [cond_false]
      rw [idx_map (fun a ha b hb => inj a (List.mem_cons_of_mem _ ha) b (List.mem_cons_of_mem _ hb)) hx]
theorem Match.map {R : List Int} {prs : List (Int × Int)} {f : Int → Int} (inj : ∀ a ∈ R, ∀ b ∈ R, f a = f b → a = b) (M : Match R prs) : Match (R.map f) (prs.map fun p => (f p.1, f p.2)) := by
  have ee : ends (prs.map fun p => (f p.1, f p.2)) = (ends prs).map f := by
    unfold ends
    rw [List.flatMap_map, List.map_flatMap]
    rfl
  refine ⟨?_, fun x => ?_, fun p hp q hq => ?_⟩
  · rw [ee]
    exact nodup_map_inj M.nd fun a ha b hb => inj a ((M.mem _).mp ha) b ((M.mem _).mp hb)
  · rw [ee, List.mem_map, List.mem_map]
    constructor
    · rintro ⟨a, ha, rfl⟩; exact ⟨a, (M.mem _).mp ha, rfl⟩
    · rintro ⟨a, ha, rfl⟩; exact ⟨a, (M.mem _).mpr ha, rfl⟩
  · obtain ⟨p0, hp0, rfl⟩ := List.mem_map.mp hp
    obtain ⟨q0, hq0, rfl⟩ := List.mem_map.mp hq
    obtain ⟨h1, h2⟩ := M.in hp0
    obtain ⟨h3, h4⟩ := M.in hq0
    unfold Sep
    rw [idx_map inj h1, idx_map inj h2, idx_map inj h3, idx_map inj h4]
    exact M.nc p0 hp0 q0 hq0
def Row (prs : List (Int × Int)) (ns : List Int) : Prop := ∀ p ∈ prs, mu ns p.1 = p.2 ∧ mu ns p.2 = p.1
theorem match_isMat {u d : Int} {ns : List Int} {prs : List (Int × Int)} (hu : 0 ≤ u) (hd : 0 ≤ d) (h0 : 0 < u + d) (hl : (ns.length : Int) = u + d) (M : Match (ringI u d) prs) (W : Row prs ns) : isMatB u d ns = true := by
  have key : ∀ x ∈ ringI u d, ∃ p ∈ prs, (x = p.1 ∧ mu ns x = p.2) ∨ (x = p.2 ∧ mu ns x = p.1) := fun x hx => by
    obtain ⟨p, hp, e⟩ := mem_ends.mp ((M.mem x).mpr hx)
    obtain ⟨w1, w2⟩ := W p hp
    rcases e with rfl | rfl
    · exact ⟨p, hp, .inl ⟨rfl, w1⟩⟩
    · exact ⟨p, hp, .inr ⟨rfl, w2⟩⟩
  have ne : ∀ p ∈ prs, p.1 ≠ p.2 := fun p hp z => by
    have : ∀ (prs : List (Int × Int)), (ends prs).Nodup → p ∈ prs → p.1 ≠ p.2 := by
      intro prs
      induction prs with
      | nil => intro _ h; cases h
      | cons r prs ih =>
        intro nd h
        have nd' : (r.1 :: r.2 :: ends prs).Nodup := nd
        rw [List.nodup_cons, List.nodup_cons] at nd'
        rcases List.mem_cons.mp h with rfl | h
        · exact fun z => nd'.1 (z ▸ List.mem_cons_self)
        · exact ih nd'.2.2 h
    exact this prs M.nd hp z
  have hok : ∀ i < ns.length, matesAt ns i = true := fun i hi => by
    have hm : ((i : Nat) : Int) ∈ ringI u d := (ringI_mem hu hd).mpr ⟨by omega, by omega⟩
    obtain ⟨p, hp, e⟩ := key _ hm
    obtain ⟨w1, w2⟩ := W p hp
    obtain ⟨r1, r2⟩ := M.in hp
    have r1 := (ringI_mem hu hd).mp r1
    have r2 := (ringI_mem hu hd).mp r2
    have hn := ne p hp
    have ei : mu ns (i : Int) = ns.getD i 0 := by unfold mu; rw [Int.toNat_natCast]
    refine matesAt_iff.mpr ?_
    rcases e with ⟨e1, e2⟩ | ⟨e1, e2⟩
    · rw [← ei, e2]
      exact ⟨r2.1, by omega, fun z => hn (by rw [← e1]; exact z.symm), by show mu ns p.2 = _; rw [w2, ← e1]⟩
    · rw [← ei, e2]
      exact ⟨r1.1, by omega, fun z => hn (by rw [← e1]; exact z), by show mu ns p.1 = _; rw [w1, ← e1]⟩
  have I := inv_of hu hd hl hok
  refine isMat_good hu hd h0 hl hok ((bad_iff I).mpr fun a ha b hb ⟨c1, c2, c3⟩ => ?_)
  obtain ⟨p, hp, ep⟩ := key a ha
  obtain ⟨q, hq, eq⟩ := key b hb
  have hs := M.nc p hp q hq
  unfold Sep SepP Btw at hs
  rcases ep with ⟨e1, e2⟩ | ⟨e1, e2⟩ <;> rcases eq with ⟨e3, e4⟩ | ⟨e3, e4⟩ <;> rw [e2] at c2 c3 <;> rw [e4] at c3 <;> rw [e1] at c1 <;> rw [e3] at c1 c2 <;> omega
end MM
namespace MM
open PySem PP L2
def nest (R : List Int) : List (Int × Int) := (List.range (R.length / 2)).map fun i => (R.getD i 0, R.getD (R.length - 1 - i) 0)
theorem nest_match {R : List Int} (nd : R.Nodup) (he : R.length % 2 = 0) : Match R (nest R) := by
  have pos : ∀ i < R.length, R.idxOf (R.getD i 0) = i := fun i hi => idx_at nd (by rw [List.getD_eq_getElem?_getD, List.getElem?_eq_getElem hi, Option.getD_some])
  have inj : ∀ i < R.length, ∀ j < R.length, R.getD i 0 = R.getD j 0 → i = j := fun i hi j hj e => by rw [← pos i hi, e, pos j hj]
  have hmem : ∀ p ∈ nest R, ∃ i < R.length / 2, p = (R.getD i 0, R.getD (R.length - 1 - i) 0) := fun p hp => by
    obtain ⟨i, hi, e⟩ := List.mem_map.mp hp
    exact ⟨i, List.mem_range.mp hi, e.symm⟩
  refine ⟨?_, fun x => ?_, fun p hp q hq => ?_⟩
  · have gen : ∀ k ≤ R.length / 2, (ends ((List.range k).map fun i => (R.getD i 0, R.getD (R.length - 1 - i) 0))).Nodup := by
      intro k
      induction k with
      | zero => intro _; exact .nil
      | succ k ih =>
        intro hk
        have e : ends ((List.range (k + 1)).map fun i => (R.getD i 0, R.getD (R.length - 1 - i) 0)) = ends ((List.range k).map fun i => (R.getD i 0, R.getD (R.length - 1 - i) 0)) ++ [R.getD k 0, R.getD (R.length - 1 - k) 0] := by
          unfold ends
          rw [List.range_succ, List.map_append, List.flatMap_append]
          rfl
        rw [e, List.nodup_append]
        refine ⟨ih (by omega), ?_, fun a ha b hb z => ?_⟩
        · rw [List.nodup_cons]
          refine ⟨fun z => ?_, List.nodup_cons.mpr ⟨List.not_mem_nil, .nil⟩⟩
          have := inj _ (by omega) _ (by omega) (List.mem_singleton.mp z)
          omega
        · obtain ⟨p, hp, e2⟩ := mem_ends.mp ha
          obtain ⟨i, hi, e3⟩ := List.mem_map.mp hp
          have hi := List.mem_range.mp hi
          subst e3
          rw [z] at e2
          simp only [List.mem_cons, List.not_mem_nil, or_false] at hb
          rcases hb with rfl | rfl <;> rcases e2 with e2 | e2 <;> (have := inj _ (by omega) _ (by omega) e2; omega)
    exact gen _ (Nat.le_refl _)
  · rw [mem_ends]
    constructor
    · rintro ⟨p, hp, e⟩
      obtain ⟨i, hi, rfl⟩ := hmem p hp
      rcases e with rfl | rfl
      · exact mem_getD (by omega)
      · exact mem_getD (by omega)
    · intro hx
      have hl := List.idxOf_lt_length_of_mem hx
      by_cases c : R.idxOf x < R.length / 2
      · exact ⟨_, List.mem_map.mpr ⟨R.idxOf x, List.mem_range.mpr c, rfl⟩, .inl (getD_idx hx).symm⟩
      · refine ⟨_, List.mem_map.mpr ⟨R.length - 1 - R.idxOf x, List.mem_range.mpr (by omega), rfl⟩, .inr ?_⟩
        show x = R.getD (R.length - 1 - (R.length - 1 - R.idxOf x)) 0
        rw [show R.length - 1 - (R.length - 1 - R.idxOf x) = R.idxOf x by omega]
        exact (getD_idx hx).symm
  · obtain ⟨i, hi, rfl⟩ := hmem p hp
    obtain ⟨j, hj, rfl⟩ := hmem q hq
    unfold Sep
    rw [pos i (by omega), pos _ (by omega), pos j (by omega), pos _ (by omega)]
    unfold SepP Btw
    omega
end MM
namespace MM
open PySem PP L2
theorem map_get {α : Type} {f : α → PyData} {prs : List α} {i : Nat} {x : PyData} (h : (prs.map f)[i]? = some x) : ∃ p, prs[i]? = some p ∧ x = f p := by
  rw [List.getElem?_map] at h
  cases e : prs[i]? with
  | none => rw [e] at h; cases h
  | some v => rw [e] at h; exact ⟨v, rfl, (Option.some.inj h).symm⟩
theorem row_nil {ns : List Int} : Row [] ns := fun p hp => by cases hp
end MM
namespace MM
open PySem PP L2
abbrev matD (u d : Int) (ns : List Int) : PyData := .tuple [.int u, .int d, .tuple (ns.map .int)]
def strI (ns : List Int) (i : Nat) : List (Int × Int) := ((List.range i).filter fun j : Nat => decide ((j : Int) < ns.getD j 0)).map fun j : Nat => ((j : Int), ns.getD j 0)
theorem strI_yes {ns : List Int} {i : Nat} (h : (i : Int) < ns.getD i 0) : strI ns (i + 1) = strI ns i ++ [((i : Int), ns.getD i 0)] := by
  unfold strI
  rw [List.range_succ, List.filter_append, List.map_append, List.filter_cons, if_pos (decide_eq_true h), List.filter_nil]
  rfl
theorem strI_no {ns : List Int} {i : Nat} (h : ¬ (i : Int) < ns.getD i 0) : strI ns (i + 1) = strI ns i := by
  unfold strI
  rw [List.range_succ, List.filter_append, List.map_append, List.filter_cons, if_neg (fun z => h (of_decide_eq_true z)), List.filter_nil, List.map_nil, List.append_nil]
theorem strI_mem {ns : List Int} {i : Nat} {p : Int × Int} : p ∈ strI ns i ↔ ∃ j < i, (j : Int) < ns.getD j 0 ∧ p = ((j : Int), ns.getD j 0) := by
  unfold strI
  rw [List.mem_map]
  constructor
  · rintro ⟨j, hj, rfl⟩
    rw [List.mem_filter, List.mem_range] at hj
    exact ⟨j, hj.1, of_decide_eq_true hj.2, rfl⟩
  · rintro ⟨j, hj, hl, rfl⟩
    exact ⟨j, by rw [List.mem_filter, List.mem_range]; exact ⟨hj, decide_eq_true hl⟩, rfl⟩
end MM
namespace MM
open PySem PP L2
theorem isMat_parts {u d : Int} {ns : List Int} (h : isMatB u d ns = true) : 0 ≤ u ∧ 0 ≤ d ∧ 0 < u + d ∧ (ns.length : Int) = u + d ∧ (∀ i < ns.length, matesAt ns i = true) ∧ stkR (mu ns) (ringI u d) (ringI u d).length = [] := by
  unfold isMatB at h
  rw [Bool.and_eq_true, Bool.and_eq_true, Bool.not_eq_true', Bool.or_eq_false_iff, Bool.or_eq_false_iff, Bool.or_eq_false_iff] at h
  obtain ⟨⟨h1, h2, h3, h4⟩, h5, h6⟩ := h
  have h1 := of_decide_eq_false h1
  have h2 := of_decide_eq_false h2
  have h3 := of_decide_eq_false h3
  rw [Bool.not_eq_false'] at h4
  have h4 := of_decide_eq_true h4
  exact ⟨by omega, by omega, by omega, h4, matesOk_iff.mp h5, List.isEmpty_iff.mp h6⟩
theorem mu_nat {ns : List Int} {i : Nat} : mu ns (i : Int) = ns.getD i 0 := by unfold mu; rw [Int.toNat_natCast]
theorem str_row {u d : Int} {ns : List Int} (h : isMatB u d ns = true) : Row (strI ns ns.length) ns := fun p hp => by
  obtain ⟨_, _, _, hl, hok, _⟩ := isMat_parts h
  obtain ⟨j, hj, _, rfl⟩ := strI_mem.mp hp
  obtain ⟨a, b, c, e⟩ := matesAt_iff.mp (hok j hj)
  exact ⟨mu_nat, e⟩
theorem str_ends {u d : Int} {ns : List Int} (h : isMatB u d ns = true) : (ends (strI ns ns.length)).Nodup ∧ ∀ x, x ∈ ends (strI ns ns.length) ↔ 0 ≤ x ∧ x < u + d := by
  obtain ⟨hu, hd, h0, hl, hok, _⟩ := isMat_parts h
  constructor
  · have gen : ∀ k ≤ ns.length, (ends (strI ns k)).Nodup := by
      intro k
      induction k with
      | zero => intro _; exact .nil
      | succ k ih =>
        intro hk
        by_cases c : (k : Int) < ns.getD k 0
        · rw [strI_yes c]
          have e : ends (strI ns k ++ [((k : Int), ns.getD k 0)]) = ends (strI ns k) ++ [(k : Int), ns.getD k 0] := by
            unfold ends
            rw [List.flatMap_append]
            rfl
          rw [e, List.nodup_append]
          refine ⟨ih (by omega), ?_, fun a ha b hb z => ?_⟩
          · rw [List.nodup_cons]
            exact ⟨fun z => by have := List.mem_singleton.mp z; omega, List.nodup_cons.mpr ⟨List.not_mem_nil, .nil⟩⟩
          · obtain ⟨p, hp, e2⟩ := mem_ends.mp ha
            obtain ⟨j, hj, hj2, rfl⟩ := strI_mem.mp hp
            obtain ⟨a1, a2, a3, a4⟩ := matesAt_iff.mp (hok j (by omega))
            obtain ⟨b1, b2, b3, b4⟩ := matesAt_iff.mp (hok k (by omega))
            simp only [List.mem_cons, List.not_mem_nil, or_false] at hb
            subst z
            rcases hb with rfl | rfl <;> rcases e2 with e2 | e2
            · have e2 : (k : Int) = (j : Int) := e2
              omega
            · have e2 : (k : Int) = ns.getD j 0 := e2
              rw [← e2, Int.toNat_natCast] at a4
              omega
            · have e2 : ns.getD k 0 = (j : Int) := e2
              omega
            · have e2 : ns.getD k 0 = ns.getD j 0 := e2
              rw [e2] at b4
              omega
        · rw [strI_no c]
          exact ih (by omega)
    exact gen _ (Nat.le_refl _)
  · intro x
    rw [mem_ends]
    constructor
    · rintro ⟨p, hp, e⟩
      obtain ⟨j, hj, hj2, rfl⟩ := strI_mem.mp hp
      obtain ⟨a1, a2, a3, a4⟩ := matesAt_iff.mp (hok j hj)
      rcases e with rfl | rfl
      · show (0 : Int) ≤ (j : Int) ∧ (j : Int) < u + d
        omega
      · show 0 ≤ ns.getD j 0 ∧ ns.getD j 0 < u + d
        omega
    · rintro ⟨x0, x1⟩
      obtain ⟨j, rfl⟩ : ∃ j : Nat, x = (j : Int) := ⟨x.toNat, by omega⟩
      have hj : j < ns.length := by omega
      obtain ⟨a1, a2, a3, a4⟩ := matesAt_iff.mp (hok j hj)
      by_cases c : (j : Int) < ns.getD j 0
      · exact ⟨_, strI_mem.mpr ⟨j, hj, c, rfl⟩, .inl rfl⟩
      · refine ⟨(((ns.getD j 0).toNat : Int), ns.getD (ns.getD j 0).toNat 0), strI_mem.mpr ⟨(ns.getD j 0).toNat, by omega, by rw [a4]; omega, rfl⟩, .inr ?_⟩
        exact a4.symm
theorem rows_same {N : Int} {ns ks : List Int} (hl : (ns.length : Int) = N) (hk : (ks.length : Int) = N) (h : ∀ x, 0 ≤ x → x < N → mu ns x = mu ks x) : ns = ks := by
  refine List.ext_getElem (by omega) fun i h1 h2 => ?_
  have := h (i : Int) (by omega) (by omega)
  rw [mu_nat, mu_nat, List.getD_eq_getElem?_getD, List.getD_eq_getElem?_getD, List.getElem?_eq_getElem h1, List.getElem?_eq_getElem h2] at this
  exact this
theorem two_at {f g : Nat → Int} {a b : Nat} {x : Nat} (h : x < a + b) : (((List.range a).map f) ++ (List.range b).map g).getD x 0 = if x < a then f x else g (x - a) := by
  rw [List.getD_eq_getElem?_getD]
  by_cases c : x < a
  · rw [if_pos c, List.getElem?_append_left (by rw [List.length_map, List.length_range]; exact c), List.getElem?_map, List.getElem?_range c]
    rfl
  · rw [if_neg c, List.getElem?_append_right (by rw [List.length_map, List.length_range]; omega), List.length_map, List.length_range, List.getElem?_map, List.getElem?_range (by omega)]
    rfl
end MM
namespace MM
open PySem PP L2
end MM
namespace MM
open PySem PP L2
end MM
namespace MM
open PySem PP L2
structure Is (u d : Int) (prs : List (Int × Int)) (ns : List Int) : Prop where
  hu : 0 ≤ u
  hd : 0 ≤ d
  h0 : 0 < u + d
  len : (ns.length : Int) = u + d
  M : Match (ringI u d) prs
  W : Row prs ns
abbrev mapP (f : Int → Int) (prs : List (Int × Int)) : List (Int × Int) := prs.map fun p => (f p.1, f p.2)
section
variable {u d : Int} {prs : List (Int × Int)} {ns ks : List Int}
theorem Is.in (h : Is u d prs ns) : ∀ x ∈ ends prs, 0 ≤ x ∧ x < u + d := fun x hx => (ringI_mem h.hu h.hd).mp ((h.M.mem x).mp hx)
theorem Is.nd (h : Is u d prs ns) : (ends prs).Nodup := h.M.nd
theorem Is.of (h : Is u d prs ns) {qrs : List (Int × Int)} (e : prs = qrs) : Is u d qrs ns := e ▸ h
end
def sg (u d x : Int) : Int := if x < u then x else 2 * u + d - 1 - x
theorem ring_at {u d k : Int} (hu : 0 ≤ u) (hd : 0 ≤ d) (h0 : 0 ≤ k) (h1 : k < u + d) : (ringI u d)[k.toNat]? = some (sg u d k) := by
  have l := ringI_len hu hd
  have := two_at (f := fun i => 0 + ((i : Nat) : Int)) (g := fun i => u + d - 1 + ((i : Nat) : Int) * -1) (a := (u - 0).toNat) (b := (u + d - 1 - (u - 1)).toNat) (x := k.toNat) (by omega)
  have hk : k.toNat < (ringI u d).length := by omega
  rw [List.getElem?_eq_getElem hk]
  have e : (ringI u d).getD k.toNat 0 = (ringI u d)[k.toNat] := by rw [List.getD_eq_getElem?_getD, List.getElem?_eq_getElem hk, Option.getD_some]
  rw [← e]
  refine congrArg some (Eq.trans this ?_)
  unfold sg
  split <;> split <;> omega
theorem ring_idx {u d x : Int} (hu : 0 ≤ u) (hd : 0 ≤ d) (h0 : 0 ≤ x) (h1 : x < u + d) : ((ringI u d).idxOf x : Int) = sg u d x ∧ 0 ≤ sg u d x ∧ sg u d x < u + d := by
  have hs : 0 ≤ sg u d x ∧ sg u d x < u + d := by unfold sg; split <;> omega
  have e := ring_at hu hd hs.1 hs.2
  have e2 : sg u d (sg u d x) = x := by unfold sg; (repeat' split) <;> omega
  rw [e2] at e
  rw [idx_at (ringI_nodup hu hd) e]
  exact ⟨by omega, hs⟩
end MM
namespace MM
open PySem PP L2
theorem Is.same {u d : Int} {P Q : List (Int × Int)} {ns ks : List Int} (h : Is u d P ns) (g : Is u d Q ks) (e : ∀ p ∈ P, p ∈ Q ∨ (p.2, p.1) ∈ Q) : ns = ks := by
  refine rows_same h.len g.len fun x x0 x1 => ?_
  obtain ⟨p, hp, ex⟩ := mem_ends.mp ((h.M.mem x).mpr ((ringI_mem h.hu h.hd).mpr ⟨x0, x1⟩))
  obtain ⟨w1, w2⟩ := h.W p hp
  have v : mu ks p.1 = p.2 ∧ mu ks p.2 = p.1 := by
    rcases e p hp with hq | hq
    · exact g.W p hq
    · exact (g.W _ hq).symm
  rcases ex with rfl | rfl
  · rw [w1, v.1]
  · rw [w2, v.2]
theorem match_sg {u d : Int} {prs : List (Int × Int)} (hu : 0 ≤ u) (hd : 0 ≤ d) (nd : (ends prs).Nodup) (mem : ∀ x, x ∈ ends prs ↔ 0 ≤ x ∧ x < u + d)
    (nc : ∀ p ∈ prs, ∀ q ∈ prs, (min (sg u d p.1) (sg u d p.2) < sg u d q.1 ∧ sg u d q.1 < max (sg u d p.1) (sg u d p.2)) ↔ (min (sg u d p.1) (sg u d p.2) < sg u d q.2 ∧ sg u d q.2 < max (sg u d p.1) (sg u d p.2))) : Match (ringI u d) prs := by
  refine ⟨nd, fun x => by rw [mem, ringI_mem hu hd], fun p hp q hq => ?_⟩
  have i1 := (mem p.1).mp (mem_ends.mpr ⟨p, hp, .inl rfl⟩)
  have i2 := (mem p.2).mp (mem_ends.mpr ⟨p, hp, .inr rfl⟩)
  have i3 := (mem q.1).mp (mem_ends.mpr ⟨q, hq, .inl rfl⟩)
  have i4 := (mem q.2).mp (mem_ends.mpr ⟨q, hq, .inr rfl⟩)
  have e1 := (ring_idx hu hd i1.1 i1.2).1
  have e2 := (ring_idx hu hd i2.1 i2.2).1
  have e3 := (ring_idx hu hd i3.1 i3.2).1
  have e4 := (ring_idx hu hd i4.1 i4.2).1
  have h := nc p hp q hq
  rw [← e1, ← e2, ← e3, ← e4] at h
  unfold Sep SepP Btw
  generalize (ringI u d).idxOf p.1 = a at *
  generalize (ringI u d).idxOf p.2 = b at *
  generalize (ringI u d).idxOf q.1 = c at *
  generalize (ringI u d).idxOf q.2 = d' at *
  omega
theorem Match.sg {u d : Int} {prs : List (Int × Int)} (hu : 0 ≤ u) (hd : 0 ≤ d) (M : Match (ringI u d) prs) {p q : Int × Int} (hp : p ∈ prs) (hq : q ∈ prs) :
    (min (sg u d p.1) (MM.sg u d p.2) < MM.sg u d q.1 ∧ MM.sg u d q.1 < max (MM.sg u d p.1) (MM.sg u d p.2)) ↔ (min (MM.sg u d p.1) (MM.sg u d p.2) < MM.sg u d q.2 ∧ MM.sg u d q.2 < max (MM.sg u d p.1) (MM.sg u d p.2)) := by
  have i1 := (ringI_mem hu hd).mp (M.in hp).1
  have i2 := (ringI_mem hu hd).mp (M.in hp).2
  have i3 := (ringI_mem hu hd).mp (M.in hq).1
  have i4 := (ringI_mem hu hd).mp (M.in hq).2
  have h := M.nc p hp q hq
  unfold Sep SepP Btw at h
  rw [← (ring_idx hu hd i1.1 i1.2).1, ← (ring_idx hu hd i2.1 i2.2).1, ← (ring_idx hu hd i3.1 i3.2).1, ← (ring_idx hu hd i4.1 i4.2).1]
  generalize (ringI u d).idxOf p.1 = a at *
  generalize (ringI u d).idxOf p.2 = b at *
  generalize (ringI u d).idxOf q.1 = c at *
  generalize (ringI u d).idxOf q.2 = d' at *
  omega
theorem match_in {u d : Int} {prs : List (Int × Int)} (hu : 0 ≤ u) (hd : 0 ≤ d) (M : Match (ringI u d) prs) : ∀ x ∈ ends prs, 0 ≤ x ∧ x < u + d := fun x hx => (ringI_mem hu hd).mp ((M.mem x).mp hx)
theorem ends_app {P Q : List (Int × Int)} : ends (P ++ Q) = ends P ++ ends Q := by
  unfold ends
  rw [List.flatMap_append]
theorem sep_no {a b c d : Nat} (ab : a ≠ b) (ca : c ≠ a) (cb : c ≠ b) (da : d ≠ a) (db : d ≠ b) (h1 : ¬ (a < c ∧ c < b ∧ b < d)) (h2 : ¬ (a < d ∧ d < b ∧ b < c)) (h3 : ¬ (b < c ∧ c < a ∧ a < d)) (h4 : ¬ (b < d ∧ d < a ∧ a < c))
    (h5 : ¬ (c < a ∧ a < d ∧ d < b)) (h6 : ¬ (c < b ∧ b < d ∧ d < a)) (h7 : ¬ (d < a ∧ a < c ∧ c < b)) (h8 : ¬ (d < b ∧ b < c ∧ c < a)) : ¬ SepP a b c d := by
  unfold SepP Btw
  intro hs
  apply hs
  have mm : ∀ x : Nat, (min a b < x ∧ x < max a b) ↔ (a < x ∧ x < b) ∨ (b < x ∧ x < a) := fun x => by clear h1 h2 h3 h4 h5 h6 h7 h8 hs; omega
  rw [mm, mm]
  constructor
  · rintro (⟨x, y⟩ | ⟨x, y⟩)
    · rcases Nat.lt_or_gt_of_ne da with z | z
      · exact absurd ⟨z, x, y⟩ h7
      · rcases Nat.lt_or_gt_of_ne db with t | t
        · exact .inl ⟨z, t⟩
        · exact absurd ⟨x, y, t⟩ h1
    · rcases Nat.lt_or_gt_of_ne db with z | z
      · exact absurd ⟨z, x, y⟩ h8
      · rcases Nat.lt_or_gt_of_ne da with t | t
        · exact .inr ⟨z, t⟩
        · exact absurd ⟨x, y, t⟩ h3
  · rintro (⟨x, y⟩ | ⟨x, y⟩)
    · rcases Nat.lt_or_gt_of_ne ca with z | z
      · exact absurd ⟨z, x, y⟩ h5
      · rcases Nat.lt_or_gt_of_ne cb with t | t
        · exact .inl ⟨z, t⟩
        · exact absurd ⟨x, y, t⟩ h2
    · rcases Nat.lt_or_gt_of_ne cb with z | z
      · exact absurd ⟨z, x, y⟩ h6
      · rcases Nat.lt_or_gt_of_ne ca with t | t
        · exact .inr ⟨z, t⟩
        · exact absurd ⟨x, y, t⟩ h4
theorem Is.own {u d : Int} {ns : List Int} (h : isMatB u d ns = true) : Is u d (strI ns ns.length) ns := by
  obtain ⟨hu, hd, h0, hl, hok, hs⟩ := isMat_parts h
  have I := inv_of hu hd hl hok
  obtain ⟨e1, e2⟩ := str_ends h
  refine ⟨hu, hd, h0, hl, ⟨e1, fun x => by rw [e2, ringI_mem hu hd], fun p hp q hq hsep => ?_⟩, str_row h⟩
  have nc := (pile_empty I).mp hs
  have ip : p.1 ∈ ringI u d ∧ p.2 ∈ ringI u d := ⟨(ringI_mem hu hd).mpr ((e2 _).mp (mem_ends.mpr ⟨p, hp, .inl rfl⟩)), (ringI_mem hu hd).mpr ((e2 _).mp (mem_ends.mpr ⟨p, hp, .inr rfl⟩))⟩
  have iq : q.1 ∈ ringI u d ∧ q.2 ∈ ringI u d := ⟨(ringI_mem hu hd).mpr ((e2 _).mp (mem_ends.mpr ⟨q, hq, .inl rfl⟩)), (ringI_mem hu hd).mpr ((e2 _).mp (mem_ends.mpr ⟨q, hq, .inr rfl⟩))⟩
  obtain ⟨w1, w2⟩ := str_row h p hp
  obtain ⟨v1, v2⟩ := str_row h q hq
  have ne1 : (ringI u d).idxOf p.1 ≠ (ringI u d).idxOf p.2 := fun z => I.ne p.1 ip.1 (by rw [w1]; exact (idx_inj ip.1 ip.2 z).symm)
  have ne2 : (ringI u d).idxOf q.1 ≠ (ringI u d).idxOf q.2 := fun z => I.ne q.1 iq.1 (by rw [v1]; exact (idx_inj iq.1 iq.2 z).symm)
  have ap := ends_apart e1 hp hq
  rcases ap with rfl | ⟨n1, n2, n3, n4⟩
  · exact sep_self hsep
  have m1 : (ringI u d).idxOf q.1 ≠ (ringI u d).idxOf p.1 := fun z => n1 (idx_inj iq.1 ip.1 z)
  have m2 : (ringI u d).idxOf q.1 ≠ (ringI u d).idxOf p.2 := fun z => n2 (idx_inj iq.1 ip.2 z)
  have m3 : (ringI u d).idxOf q.2 ≠ (ringI u d).idxOf p.1 := fun z => n3 (idx_inj iq.2 ip.1 z)
  have m4 : (ringI u d).idxOf q.2 ≠ (ringI u d).idxOf p.2 := fun z => n4 (idx_inj iq.2 ip.2 z)
  have c1 := nc p.1 ip.1 q.1 iq.1
  have c2 := nc p.1 ip.1 q.2 iq.2
  have c3 := nc p.2 ip.2 q.1 iq.1
  have c4 := nc p.2 ip.2 q.2 iq.2
  have d1 := nc q.1 iq.1 p.1 ip.1
  have d2 := nc q.1 iq.1 p.2 ip.2
  have d3 := nc q.2 iq.2 p.1 ip.1
  have d4 := nc q.2 iq.2 p.2 ip.2
  unfold Crs at c1 c2 c3 c4 d1 d2 d3 d4
  rw [w1] at c1 c2 d1 d3
  rw [w2] at c3 c4 d2 d4
  rw [v1] at c1 c3 d1 d2
  rw [v2] at c2 c4 d3 d4
  exact sep_no ne1 m1 m2 m3 m4 c1 c2 c3 c4 d1 d2 d3 d4 hsep
end MM
namespace MM
open PySem PP L2
def strP (n : Int) : List (Int × Int) := (List.range n.toNat).map fun i : Nat => ((i : Int), n + (i : Int))
theorem strP_mem {n : Int} {p : Int × Int} : p ∈ strP n ↔ ∃ j : Int, 0 ≤ j ∧ j < n ∧ p = (j, n + j) := by
  unfold strP
  rw [List.mem_map]
  constructor
  · rintro ⟨i, hi, rfl⟩
    have := List.mem_range.mp hi
    exact ⟨i, by omega, by omega, rfl⟩
  · rintro ⟨j, h0, h1, rfl⟩
    exact ⟨j.toNat, List.mem_range.mpr (by omega), by rw [Int.toNat_of_nonneg h0]⟩
theorem strP_nest {n : Int} (hn : 0 ≤ n) : strP n = nest (ringI n n) := by
  have l := ringI_len hn hn
  unfold strP nest
  rw [show (ringI n n).length / 2 = n.toNat by omega]
  refine List.map_congr_left fun i hi => ?_
  have hi := List.mem_range.mp hi
  have g : ∀ k : Int, 0 ≤ k → k < n + n → (ringI n n).getD k.toNat 0 = sg n n k := fun k a b => by
    rw [List.getD_eq_getElem?_getD, ring_at hn hn a b, Option.getD_some]
  have e1 := g (i : Int) (by omega) (by omega)
  have e2 := g (n + n - 1 - i) (by omega) (by omega)
  rw [Int.toNat_natCast] at e1
  rw [show (n + n - 1 - (i : Int)).toNat = (ringI n n).length - 1 - i by omega] at e2
  rw [e1, e2]
  unfold sg
  rw [if_pos (by omega), if_neg (by omega)]
  congr 1
  omega
theorem str_match {n : Int} (hn : 0 ≤ n) : Match (ringI n n) (strP n) := by
  rw [strP_nest hn]
  exact nest_match (ringI_nodup hn hn) (by have := ringI_len hn hn; omega)
def keepP (n i : Int) : List (Int × Int) := (strP n).filter fun p => !decide (p.1 ∈ [i, i + 1])
def hookP (n i : Int) : List (Int × Int) := keepP n i ++ [(i, i + 1), (n + i, n + i + 1)]
theorem keepP_mem {n i : Int} {p : Int × Int} : p ∈ keepP n i ↔ ∃ j : Int, 0 ≤ j ∧ j < n ∧ j ≠ i ∧ j ≠ i + 1 ∧ p = (j, n + j) := by
  unfold keepP
  rw [List.mem_filter, strP_mem]
  constructor
  · rintro ⟨⟨j, h0, h1, rfl⟩, h2⟩
    have h2 : ¬ j ∈ [i, i + 1] := by simpa using h2
    simp only [List.mem_cons, List.not_mem_nil, or_false, not_or] at h2
    exact ⟨j, h0, h1, h2.1, h2.2, rfl⟩
  · rintro ⟨j, h0, h1, h2, h3, rfl⟩
    refine ⟨⟨j, h0, h1, rfl⟩, ?_⟩
    simp [h2, h3]
theorem hookP_mem {n i : Int} {p : Int × Int} : p ∈ hookP n i ↔ (∃ j : Int, 0 ≤ j ∧ j < n ∧ j ≠ i ∧ j ≠ i + 1 ∧ p = (j, n + j)) ∨ p = (i, i + 1) ∨ p = (n + i, n + i + 1) := by
  unfold hookP
  rw [List.mem_append, keepP_mem]
  simp
theorem ends_keepP {n i x : Int} (h : x ∈ ends (keepP n i)) : 0 ≤ x ∧ x < n + n ∧ x ≠ i ∧ x ≠ i + 1 ∧ x ≠ n + i ∧ x ≠ n + i + 1 ∨ (0 ≤ x ∧ x < n + n ∧ (i < 0 ∨ n ≤ i + 1)) := by
  obtain ⟨p, hp, e⟩ := mem_ends.mp h
  obtain ⟨j, h0, h1, h2, h3, rfl⟩ := keepP_mem.mp hp
  rcases e with e | e <;> dsimp only at e <;> omega
theorem hook_match {n i : Int} (h0 : 0 ≤ i) (h1 : i < n - 1) : Match (ringI n n) (hookP n i) := by
  have hn : 0 ≤ n := by omega
  refine match_sg hn hn ?_ (fun x => ?_) fun p hp q hq => ?_
  · unfold hookP
    rw [ends_app, List.nodup_append]
    have s : (ends (keepP n i)).Sublist (ends (strP n)) := by
      have : ∀ (qs rs : List (Int × Int)), qs.Sublist rs → (ends qs).Sublist (ends rs) := by
        intro qs rs h
        induction h with
        | slnil => exact List.Sublist.refl _
        | cons a _ ih => exact (ih.cons _).cons _
        | cons_cons a _ ih => exact (ih.cons_cons _).cons_cons _
      exact this _ _ List.filter_sublist
    refine ⟨List.Nodup.sublist s (str_match hn).nd, ?_, fun x hx y hy e => ?_⟩
    · show ([i, i + 1, n + i, n + i + 1] : List Int).Nodup
      simp only [List.nodup_cons, List.mem_cons, List.not_mem_nil, or_false, not_or, List.nodup_nil, not_false_eq_true, and_true]
      omega
    · have hy : y ∈ ([i, i + 1, n + i, n + i + 1] : List Int) := hy
      simp only [List.mem_cons, List.not_mem_nil, or_false] at hy
      have := ends_keepP hx
      omega
  · rw [mem_ends]
    constructor
    · rintro ⟨p, hp, e⟩
      rcases hookP_mem.mp hp with ⟨j, a, b, c, d, rfl⟩ | rfl | rfl <;> rcases e with e | e <;> dsimp only at e <;> omega
    · rintro ⟨a, b⟩
      by_cases c1 : x = i
      · exact ⟨(i, i + 1), hookP_mem.mpr (.inr (.inl rfl)), .inl c1⟩
      by_cases c2 : x = i + 1
      · exact ⟨(i, i + 1), hookP_mem.mpr (.inr (.inl rfl)), .inr c2⟩
      by_cases c3 : x = n + i
      · exact ⟨(n + i, n + i + 1), hookP_mem.mpr (.inr (.inr rfl)), .inl c3⟩
      by_cases c4 : x = n + i + 1
      · exact ⟨(n + i, n + i + 1), hookP_mem.mpr (.inr (.inr rfl)), .inr c4⟩
      by_cases c5 : x < n
      · exact ⟨(x, n + x), hookP_mem.mpr (.inl ⟨x, a, c5, c1, c2, rfl⟩), .inl rfl⟩
      · exact ⟨(x - n, n + (x - n)), hookP_mem.mpr (.inl ⟨x - n, by omega, by omega, by omega, by omega, rfl⟩), .inr (by show x = n + (x - n); omega)⟩
  · have sl : ∀ j, j < n → sg n n j = j := fun j h => by unfold sg; rw [if_pos h]
    have sr : ∀ j, 0 ≤ j → sg n n (n + j) = 2 * n - 1 - j := fun j h => by unfold sg; rw [if_neg (by omega)]; omega
    have sr1 : sg n n (n + i + 1) = 2 * n - 2 - i := by unfold sg; rw [if_neg (by omega)]; omega
    rcases hookP_mem.mp hp with ⟨j, a, b, c, d, rfl⟩ | rfl | rfl <;> rcases hookP_mem.mp hq with ⟨k, a', b', c', d', rfl⟩ | rfl | rfl <;> dsimp only
    · rw [sl j b, sr j a, sl k b', sr k a']; omega
    · rw [sl j b, sr j a, sl i (by omega), sl (i + 1) (by omega)]; omega
    · rw [sl j b, sr j a, sr i h0, sr1]; omega
    · rw [sl k b', sr k a', sl i (by omega), sl (i + 1) (by omega)]; omega
    · rw [sl i (by omega), sl (i + 1) (by omega)]; omega
    · rw [sl i (by omega), sl (i + 1) (by omega), sr i h0, sr1]; omega
    · rw [sl k b', sr k a', sr i h0, sr1]; omega
    · rw [sl i (by omega), sl (i + 1) (by omega), sr i h0, sr1]; omega
    · rw [sr i h0, sr1]; omega
structure Mt (u d : Int) (P : List (Int × Int)) : Prop where
  hu : 0 ≤ u
  hd : 0 ≤ d
  h0 : 0 < u + d
  M : Match (ringI u d) P
theorem Mt.in {u d : Int} {P : List (Int × Int)} (h : Mt u d P) : ∀ x ∈ ends P, 0 ≤ x ∧ x < u + d := match_in h.hu h.hd h.M
def spFrom : FSp := fun pvs m q => ∃ a b : Int, pvs = [.d (.int a), .d (.int b)] ∧ m = [] ∧ b ≤ a ∧ q (.d .none) []
end MM
namespace JJ
open PySem PP L2 MM
structure Sg (N : Int) (s : Int → Int) : Prop where
  into : ∀ x, 0 ≤ x → x < N → 0 ≤ s x ∧ s x < N
  ne : ∀ x, 0 ≤ x → x < N → s x ≠ x
  inv : ∀ x, 0 ≤ x → x < N → s (s x) = x
structure Rm (n m N : Int) (l : List Int) (x : Int) : Prop where
  lo : 0 ≤ x
  hi : x < N
  far : ∀ i ∈ l, x ≠ n + i ∧ x ≠ n + m + i
def El (n m : Int) (s : Int → Int) : List Int → Int → Int
  | [] => s
  | i :: l => fun x => if El n m s l (n + i) = n + m + i then El n m s l x else if x = El n m s l (n + i) then El n m s l (n + m + i) else if x = El n m s l (n + m + i) then El n m s l (n + i) else El n m s l x
theorem El_cons {n m : Int} {s : Int → Int} {i : Int} {l : List Int} {x : Int} : El n m s (i :: l) x = if El n m s l (n + i) = n + m + i then El n m s l x else if x = El n m s l (n + i) then El n m s l (n + m + i) else if x = El n m s l (n + m + i) then El n m s l (n + i) else El n m s l x := rfl
def tau (n m x : Int) : Int := if n ≤ x ∧ x < n + m then x + m else if n + m ≤ x ∧ x < n + 2 * m then x - m else x
def wlk (n m : Int) (s : Int → Int) (x : Int) : Nat → Int
  | 0 => s x
  | j + 1 => s (tau n m (wlk n m s x j))
def isM (n m : Int) (l : List Int) (y : Int) : Prop := ∃ i ∈ l, y = n + i ∨ y = n + m + i
structure Ls (m : Int) (l : List Int) : Prop where
  nd : l.Nodup
  r : ∀ i ∈ l, 0 ≤ i ∧ i < m
theorem Ls.tl {m i : Int} {l : List Int} (h : Ls m (i :: l)) : Ls m l := ⟨(List.nodup_cons.mp h.nd).2, fun j hj => h.r j (List.mem_cons_of_mem _ hj)⟩
section
variable {n m N : Int} {s : Int → Int} (hn : 0 ≤ n) (hm : 0 ≤ m) (hN : n + 2 * m ≤ N) (S : Sg N s)
include hn hm hN S
theorem El_inv : ∀ {l : List Int}, Ls m l → ∀ x, Rm n m N l x → Rm n m N l (El n m s l x) ∧ El n m s l x ≠ x ∧ El n m s l (El n m s l x) = x
  | [], _, x, r => by
    have a := S.into x r.lo r.hi
    exact ⟨⟨a.1, a.2, fun i hi => by cases hi⟩, S.ne x r.lo r.hi, S.inv x r.lo r.hi⟩
  | i :: l, h, x, r => by
    have IH := El_inv h.tl
    have hi := h.r i List.mem_cons_self
    have hil := (List.nodup_cons.mp h.nd).1
    have fa : Rm n m N l (n + i) := ⟨by omega, by omega, fun j hj => ⟨fun z => hil (by rw [show i = j by omega]; exact hj), by have := h.r j (List.mem_cons_of_mem _ hj); omega⟩⟩
    have fb : Rm n m N l (n + m + i) := ⟨by omega, by omega, fun j hj => ⟨by have := h.r j (List.mem_cons_of_mem _ hj); omega, fun z => hil (by rw [show i = j by omega]; exact hj)⟩⟩
    have rl : Rm n m N l x := ⟨r.lo, r.hi, fun j hj => r.far j (List.mem_cons_of_mem _ hj)⟩
    have xa := (r.far i List.mem_cons_self).1
    have xb := (r.far i List.mem_cons_self).2
    obtain ⟨ra, na, ia⟩ := IH _ fa
    obtain ⟨rb, nb, ib⟩ := IH _ fb
    obtain ⟨rx, nx, ix⟩ := IH _ rl
    have up : ∀ {y}, Rm n m N l y → y ≠ n + i → y ≠ n + m + i → Rm n m N (i :: l) y := fun {y} q h1 h2 => ⟨q.lo, q.hi, fun j hj => by
      rcases List.mem_cons.mp hj with rfl | hj
      · exact ⟨h1, h2⟩
      · exact q.far j hj⟩
    generalize hE : El n m s l = E at *
    have e : ∀ y, El n m s (i :: l) y = if E (n + i) = n + m + i then E y else if y = E (n + i) then E (n + m + i) else if y = E (n + m + i) then E (n + i) else E y := fun y => by
      show (if El n m s l (n + i) = n + m + i then El n m s l y else if y = El n m s l (n + i) then El n m s l (n + m + i) else if y = El n m s l (n + m + i) then El n m s l (n + i) else El n m s l y) = _
      rw [hE]
    rw [e]
    by_cases c : E (n + i) = n + m + i
    · have eb : E (n + m + i) = n + i := by rw [← c]; exact ia
      rw [if_pos c]
      refine ⟨up rx (fun z => xb ?_) (fun z => xa ?_), nx, ?_⟩
      · rw [← ix, z]; exact c
      · rw [← ix, z]; exact eb
      · rw [e, if_pos c]; exact ix
    · have dc : E (n + m + i) ≠ n + i := fun z => c (by rw [← z]; exact ib)
      have cd : E (n + i) ≠ E (n + m + i) := fun z => by
        have : n + i = n + m + i := by rw [← ia, z]; exact ib
        rw [this] at c
        have hm0 : m = 0 := by omega
        omega
      by_cases c1 : x = E (n + i)
      · rw [if_neg c, if_pos c1]
        refine ⟨up rb dc nb, fun z => cd (by rw [← c1, z]), ?_⟩
        rw [e, if_neg c, if_neg (fun z => cd z.symm), if_pos rfl, c1]
      · by_cases c2 : x = E (n + m + i)
        · rw [if_neg c, if_neg c1, if_pos c2]
          refine ⟨up ra na c, fun z => cd (by rw [z, c2]), ?_⟩
          rw [e, if_neg c, if_pos rfl, c2]
        · rw [if_neg c, if_neg c1, if_neg c2]
          refine ⟨up rx (fun z => c1 ?_) (fun z => c2 ?_), nx, ?_⟩
          · rw [← ix, z]
          · rw [← ix, z]
          · rw [e, if_neg c, if_neg (fun z => xa ?_), if_neg (fun z => xb ?_)]
            · exact ix
            · rw [← ix, z]; exact ib
            · rw [← ix, z]; exact ia
omit hn hm hN S in
theorem wlk_add {x : Int} {j c : Nat} : wlk n m s x (j + 1 + c) = wlk n m s (tau n m (wlk n m s x j)) c := by
  induction c with
  | zero => rfl
  | succ c ih => show s (tau n m (wlk n m s x (j + 1 + c))) = s (tau n m (wlk n m s (tau n m (wlk n m s x j)) c)); rw [ih]
omit hn hm hN S in
theorem isM_mono {i : Int} {l : List Int} {y : Int} (h : isM n m l y) : isM n m (i :: l) y := let ⟨j, hj, e⟩ := h; ⟨j, List.mem_cons_of_mem _ hj, e⟩
theorem El_walk : ∀ {l : List Int}, Ls m l → ∀ x, Rm n m N l x → ∃ j : Nat, wlk n m s x j = El n m s l x ∧ (∀ i < j, isM n m l (wlk n m s x i)) ∧ j + 1 ≤ 2 ^ l.length
  | [], _, x, r => ⟨0, rfl, fun i hi => absurd hi (Nat.not_lt_zero i), by simp⟩
  | i :: l, h, x, r => by
    have IH := El_walk h.tl
    have V := El_inv hn hm hN S h.tl
    have hi := h.r i List.mem_cons_self
    have hil := (List.nodup_cons.mp h.nd).1
    have fa : Rm n m N l (n + i) := ⟨by omega, by omega, fun j hj => ⟨fun z => hil (by rw [show i = j by omega]; exact hj), by have := h.r j (List.mem_cons_of_mem _ hj); omega⟩⟩
    have fb : Rm n m N l (n + m + i) := ⟨by omega, by omega, fun j hj => ⟨by have := h.r j (List.mem_cons_of_mem _ hj); omega, fun z => hil (by rw [show i = j by omega]; exact hj)⟩⟩
    have rl : Rm n m N l x := ⟨r.lo, r.hi, fun j hj => r.far j (List.mem_cons_of_mem _ hj)⟩
    have ta : tau n m (n + i) = n + m + i := by unfold tau; rw [if_pos (by omega)]; omega
    have tb : tau n m (n + m + i) = n + i := by unfold tau; rw [if_neg (by omega), if_pos (by omega)]; omega
    have two : ∀ {y z : Int}, El n m s l x = y → tau n m y = z → Rm n m N l z → (y = n + i ∨ y = n + m + i) → ∃ j : Nat, wlk n m s x j = El n m s l z ∧ (∀ c < j, isM n m (i :: l) (wlk n m s x c)) ∧ j + 1 ≤ 2 ^ (i :: l).length := fun {y z} e1 e2 rz ey => by
      obtain ⟨j1, w1, a1, b1⟩ := IH x rl
      obtain ⟨j2, w2, a2, b2⟩ := IH z rz
      have wy : wlk n m s x j1 = y := w1.trans e1
      refine ⟨j1 + 1 + j2, by rw [wlk_add, wy, e2]; exact w2, fun c hc => ?_, ?_⟩
      · rcases Nat.lt_trichotomy c j1 with h1 | h1 | h1
        · exact isM_mono (a1 c h1)
        · rw [h1, wy]; exact ⟨i, List.mem_cons_self, ey⟩
        · obtain ⟨c', rfl⟩ : ∃ c', c = j1 + 1 + c' := ⟨c - j1 - 1, by omega⟩
          rw [wlk_add, wy, e2]
          exact isM_mono (a2 c' (by omega))
      · rw [List.length_cons, Nat.pow_succ]
        omega
    have one : ∃ j : Nat, wlk n m s x j = El n m s l x ∧ (∀ c < j, isM n m (i :: l) (wlk n m s x c)) ∧ j + 1 ≤ 2 ^ (i :: l).length := by
      obtain ⟨j, w1, a1, b1⟩ := IH x rl
      refine ⟨j, w1, fun c hc => isM_mono (a1 c hc), ?_⟩
      rw [List.length_cons, Nat.pow_succ]
      omega
    rw [El_cons]
    by_cases c : El n m s l (n + i) = n + m + i
    · rw [if_pos c]; exact one
    · rw [if_neg c]
      by_cases c1 : x = El n m s l (n + i)
      · rw [if_pos c1]
        exact two (by rw [c1]; exact (V _ fa).2.2) ta fb (.inl rfl)
      · rw [if_neg c1]
        by_cases c2 : x = El n m s l (n + m + i)
        · rw [if_pos c2]
          exact two (by rw [c2]; exact (V _ fb).2.2) tb fa (.inr rfl)
        · rw [if_neg c2]; exact one
end
def Cn (n m N : Int) (s : Int → Int) (x y : Int) : Prop := ∀ P : Int → Prop, (∀ z, 0 ≤ z → z < N → P z → P (s z) ∧ P (tau n m z)) → P x → P y
section
variable {n m N : Int} {s : Int → Int}
theorem Cn.refl {x : Int} : Cn n m N s x x := fun _ _ h => h
theorem Cn.trans {x y z : Int} (h : Cn n m N s x y) (g : Cn n m N s y z) : Cn n m N s x z := fun P c p => g P c (h P c p)
theorem Cn.s1 {x : Int} (h0 : 0 ≤ x) (h1 : x < N) : Cn n m N s x (s x) := fun P c p => (c x h0 h1 p).1
theorem Cn.t1 {x : Int} (h0 : 0 ≤ x) (h1 : x < N) : Cn n m N s x (tau n m x) := fun P c p => (c x h0 h1 p).2
theorem tau_in {x : Int} (hn : 0 ≤ n) (hm : 0 ≤ m) (hN : n + 2 * m ≤ N) (h0 : 0 ≤ x) (h1 : x < N) : 0 ≤ tau n m x ∧ tau n m x < N := by
  unfold tau
  (repeat' split) <;> omega
theorem tau_tau {x : Int} (hm : 0 ≤ m) : tau n m (tau n m x) = x := by
  unfold tau
  (repeat' split) <;> omega
variable (hn : 0 ≤ n) (hm : 0 ≤ m) (hN : n + 2 * m ≤ N) (S : Sg N s)
include hn hm hN S
theorem Cn.in {x y : Int} (h : Cn n m N s x y) (h0 : 0 ≤ x) (h1 : x < N) : 0 ≤ y ∧ y < N := h (fun z => 0 ≤ z ∧ z < N) (fun z a b _ => ⟨S.into z a b, tau_in hn hm hN a b⟩) ⟨h0, h1⟩
theorem Cn.symm {x y : Int} (h : Cn n m N s x y) (h0 : 0 ≤ x) (h1 : x < N) : Cn n m N s y x := by
  refine (h (fun z => (0 ≤ z ∧ z < N) ∧ Cn n m N s z x) (fun z a b ⟨_, p⟩ => ⟨⟨S.into z a b, ?_⟩, tau_in hn hm hN a b, ?_⟩) ⟨⟨h0, h1⟩, Cn.refl⟩).2
  · have i := S.into z a b
    have q : Cn n m N s (s z) (s (s z)) := Cn.s1 i.1 i.2
    rw [S.inv z a b] at q
    exact q.trans p
  · have i := tau_in (m := m) hn hm hN a b
    have q : Cn n m N s (tau n m z) (tau n m (tau n m z)) := Cn.t1 i.1 i.2
    rw [tau_tau hm] at q
    exact q.trans p
theorem wlk_in {x : Int} (h0 : 0 ≤ x) (h1 : x < N) : ∀ j, 0 ≤ wlk n m s x j ∧ wlk n m s x j < N
  | 0 => S.into x h0 h1
  | j + 1 => by
    have i := wlk_in h0 h1 j
    have t := tau_in (m := m) hn hm hN i.1 i.2
    exact S.into _ t.1 t.2
theorem wlk_cn {x : Int} (h0 : 0 ≤ x) (h1 : x < N) : ∀ j, Cn n m N s x (wlk n m s x j)
  | 0 => Cn.s1 h0 h1
  | j + 1 => by
    have i := wlk_in hn hm hN S h0 h1 j
    have t := tau_in (m := m) hn hm hN i.1 i.2
    exact ((wlk_cn h0 h1 j).trans (Cn.t1 i.1 i.2)).trans (Cn.s1 t.1 t.2)
def Vis (n m : Int) (s : Int → Int) (x : Int) (J : Nat) (y : Int) : Prop := y = x ∨ ∃ j ≤ J, y = wlk n m s x j ∨ y = tau n m (wlk n m s x j)
theorem vis_all {x : Int} {J : Nat} (h0 : 0 ≤ x) (h1 : x < N) (ends : (tau n m x = x ∧ tau n m (wlk n m s x J) = wlk n m s x J) ∨ wlk n m s x J = tau n m x) {y : Int} (h : Cn n m N s x y) : Vis n m s x J y := by
  refine h _ (fun z a b hz => ?_) (.inl rfl)
  have back : ∀ j ≤ J, Vis n m s x J (s (wlk n m s x j)) := fun j hj => by
    cases j with
    | zero => exact .inl (S.inv x h0 h1)
    | succ j =>
      have i := wlk_in hn hm hN S h0 h1 j
      have t := tau_in (m := m) hn hm hN i.1 i.2
      exact .inr ⟨j, by omega, .inr (S.inv _ t.1 t.2)⟩
  rcases hz with rfl | ⟨j, hj, rfl | rfl⟩
  · refine ⟨.inr ⟨0, Nat.zero_le _, .inl rfl⟩, ?_⟩
    rcases ends with ⟨e, _⟩ | e
    · rw [e]; exact .inl rfl
    · exact .inr ⟨J, Nat.le_refl _, .inl e.symm⟩
  · exact ⟨back j hj, .inr ⟨j, hj, .inr rfl⟩⟩
  · refine ⟨?_, .inr ⟨j, hj, .inl (tau_tau hm)⟩⟩
    by_cases c : j < J
    · exact .inr ⟨j + 1, c, .inl rfl⟩
    · have : j = J := by omega
      subst this
      rcases ends with ⟨_, e⟩ | e
      · rw [e]; exact back _ (Nat.le_refl _)
      · rw [e, tau_tau hm]; exact .inr ⟨0, Nat.zero_le _, .inl rfl⟩
def outer (n m x : Int) : Prop := x < n ∨ n + 2 * m ≤ x
def down : Nat → List Int
  | 0 => []
  | i + 1 => (i : Int) :: down i
omit hn hm hN S in
theorem down_mem : ∀ {i : Nat} {x : Int}, x ∈ down i ↔ 0 ≤ x ∧ x < i
  | 0, x => by
    show x ∈ [] ↔ _
    simp
  | i + 1, x => by
    show x ∈ (i : Int) :: down i ↔ _
    rw [List.mem_cons, down_mem]
    omega
omit hn hm hN S in
theorem down_nd : ∀ i : Nat, (down i).Nodup
  | 0 => .nil
  | i + 1 => List.nodup_cons.mpr ⟨fun z => by have := down_mem.mp z; omega, down_nd i⟩
omit hn hm hN S in
theorem down_ls {i : Nat} (h : (i : Int) ≤ m) : Ls m (down i) := ⟨down_nd i, fun j hj => by have := down_mem.mp hj; omega⟩
omit hn hm hN S in
theorem down_len : ∀ i : Nat, (down i).length = i
  | 0 => rfl
  | i + 1 => by show (down i).length + 1 = _; rw [down_len i]
omit S in
theorem tau_mid {i : Int} (h0 : 0 ≤ i) (h1 : i < m) : tau n m (n + i) = n + m + i ∧ tau n m (n + m + i) = n + i := by
  constructor
  · unfold tau; rw [if_pos (by omega)]; omega
  · unfold tau; rw [if_neg (by omega), if_pos (by omega)]; omega
def Ring (n m N : Int) (s : Int → Int) (i : Int) : Prop := ∀ o, 0 ≤ o → o < N → outer n m o → ¬ Cn n m N s (n + i) o
def IsMax (n m N : Int) (s : Int → Int) (i : Int) : Prop := Ring n m N s i ∧ ∀ j, i < j → j < m → ¬ Cn n m N s (n + i) (n + j)
omit S in
theorem mid_of {y : Int} (h0 : 0 ≤ y) (h1 : y < N) (h : ¬ outer n m y) : ∃ j, 0 ≤ j ∧ j < m ∧ (y = n + j ∨ y = n + m + j) := by
  unfold outer at h
  by_cases c : y < n + m
  · exact ⟨y - n, by omega, by omega, .inl (by omega)⟩
  · exact ⟨y - n - m, by omega, by omega, .inr (by omega)⟩
theorem cn_mid {x j : Int} (h0 : 0 ≤ j) (h1 : j < m) (h : Cn n m N s x (n + m + j)) : Cn n m N s x (n + j) := by
  have q : Cn n m N s (n + m + j) (tau n m (n + m + j)) := Cn.t1 (by omega) (by omega)
  rw [(tau_mid hn hm hN h0 h1).2] at q
  exact h.trans q
theorem max_iff {i : Nat} (hi : (i : Int) < m) : El n m s (down i) (n + i) = n + m + i ↔ IsMax n m N s i := by
  have L := down_ls (m := m) (i := i) (by omega)
  have ra : Rm n m N (down i) (n + i) := ⟨by omega, by omega, fun j hj => by have := down_mem.mp hj; omega⟩
  obtain ⟨J, w, v, _⟩ := El_walk hn hm hN S L _ ra
  obtain ⟨e1, e2, e3⟩ := El_inv hn hm hN S L _ ra
  have tm := tau_mid hn hm hN (i := (i : Int)) (by omega) hi
  constructor
  · intro e
    have key : ∀ y, Cn n m N s (n + i) y → ∃ j, 0 ≤ j ∧ j ≤ (i : Int) ∧ (y = n + j ∨ y = n + m + j) := fun y hy => by
      have tw : ∀ z j, 0 ≤ j → j ≤ (i : Int) → (z = n + j ∨ z = n + m + j) → ∃ j, 0 ≤ j ∧ j ≤ (i : Int) ∧ (tau n m z = n + j ∨ tau n m z = n + m + j) := fun z j a b c => by
        obtain ⟨t1, t2⟩ := tau_mid hn hm hN (i := j) a (by omega)
        rcases c with rfl | rfl
        · exact ⟨j, a, b, .inr t1⟩
        · exact ⟨j, a, b, .inl t2⟩
      have at_ : ∀ j ≤ J, ∃ c, 0 ≤ c ∧ c ≤ (i : Int) ∧ (wlk n m s (n + i) j = n + c ∨ wlk n m s (n + i) j = n + m + c) := fun j hj => by
        by_cases c : j < J
        · obtain ⟨c, hc, e⟩ := v j c
          have := down_mem.mp hc
          exact ⟨c, by omega, by omega, e⟩
        · have : j = J := by omega
          subst this
          exact ⟨i, by omega, by omega, .inr (w.trans e)⟩
      rcases vis_all hn hm hN S (J := J) (by omega) (by omega) (.inr ((w.trans e).trans tm.1.symm)) hy with rfl | ⟨j, hj, rfl | rfl⟩
      · exact ⟨i, by omega, by omega, .inl rfl⟩
      · exact at_ j hj
      · obtain ⟨c, a, b, e⟩ := at_ j hj
        exact tw _ c a b e
    refine ⟨fun o o0 o1 ho h => ?_, fun j j0 j1 h => ?_⟩
    · obtain ⟨c, a, b, e⟩ := key o h
      unfold outer at ho
      omega
    · obtain ⟨c, a, b, e⟩ := key _ h
      omega
  · rintro ⟨h1, h2⟩
    have hc : Cn n m N s (n + i) (El n m s (down i) (n + i)) := by rw [← w]; exact wlk_cn hn hm hN S (by omega) (by omega) J
    have no := h1 _ e1.lo e1.hi
    by_cases ho : outer n m (El n m s (down i) (n + i))
    · exact absurd hc (no ho)
    · obtain ⟨j, j0, j1, e⟩ := mid_of hn hm hN e1.lo e1.hi ho
      have hj : Cn n m N s (n + i) (n + j) := by
        rcases e with e | e
        · rw [← e]; exact hc
        · exact cn_mid hn hm hN S j0 j1 (by rw [← e]; exact hc)
      have c1 : ¬ (i : Int) < j := fun z => h2 j z j1 hj
      have c2 : ¬ j < (i : Int) := fun z => by
        have := e1.far j (down_mem.mpr ⟨j0, z⟩)
        rcases e with e | e
        · exact this.1 e
        · exact this.2 e
      have : j = i := by omega
      subst this
      rcases e with e | e
      · exact absurd e e2
      · exact e
end
end JJ
namespace JJ
open PySem PP L2 MM
def ps (n m y : Int) : Int := if y < n + m then y else y - m
section
variable {n m N : Int} {s : Int → Int} (hn : 0 ≤ n) (hm : 0 ≤ m) (hN : n + 2 * m ≤ N) (S : Sg N s)
include hn hm hN S
theorem El_all {x : Int} (h0 : 0 ≤ x) (h1 : x < N) (ho : outer n m x) : Rm n m N (down m.toNat) x := ⟨h0, h1, fun i hi => by
  have := down_mem.mp hi
  unfold outer at ho
  omega⟩
omit S in
theorem rm_outer {x : Int} (h : Rm n m N (down m.toNat) x) : outer n m x := by
  have := h.lo
  have := h.hi
  by_cases c : outer n m x
  · exact c
  · obtain ⟨j, j0, j1, e⟩ := mid_of hn hm hN h.lo h.hi c
    have := h.far j (down_mem.mpr ⟨j0, by omega⟩)
    rcases e with e | e
    · exact absurd e this.1
    · exact absurd e this.2
theorem open_walk {x : Int} (h0 : 0 ≤ x) (h1 : x < N) (ho : outer n m x) : ∃ J : Nat, wlk n m s x J = El n m s (down m.toNat) x ∧ outer n m (El n m s (down m.toNat) x) ∧ El n m s (down m.toNat) x ≠ x ∧ (∀ i < J, ¬ outer n m (wlk n m s x i)) ∧ J + 1 ≤ 2 ^ m.toNat := by
  have L := down_ls (m := m) (i := m.toNat) (by omega)
  have r := El_all hn hm hN S h0 h1 ho
  obtain ⟨J, w, v, b⟩ := El_walk hn hm hN S L x r
  obtain ⟨e1, e2, e3⟩ := El_inv hn hm hN S L x r
  rw [down_len] at b
  refine ⟨J, w, rm_outer hn hm hN e1, e2, fun i hi => ?_, b⟩
  obtain ⟨c, hc, e⟩ := v i hi
  have := down_mem.mp hc
  unfold outer
  omega
end
def rgs (n m : Int) (s : Int → Int) : Nat → Int
  | 0 => 0
  | i + 1 => rgs n m s i + (if El n m s (down i) (n + (i : Int)) = n + m + (i : Int) then 1 else 0)
end JJ
namespace JJ
open PySem PP L2 MM
def cs (n m : Int) (ns ks : List Int) (x : Int) : Int := if x < n + m then mu ns x else n + m + mu ks (x - (n + m))
structure Rw (N : Int) (ns : List Int) : Prop where
  len : (ns.length : Int) = N
  sg : Sg N (mu ns)
theorem cs_sg {n m k : Int} {ns ks : List Int} (hn : 0 ≤ n) (hm : 0 ≤ m) (hk : 0 ≤ k) (A : Rw (n + m) ns) (B : Rw (m + k) ks) : Sg (n + m + (m + k)) (cs n m ns ks) := by
  refine ⟨fun x h0 h1 => ?_, fun x h0 h1 => ?_, fun x h0 h1 => ?_⟩
  · unfold cs
    by_cases c : x < n + m
    · rw [if_pos c]; have := A.sg.into x h0 c; omega
    · rw [if_neg c]; have := B.sg.into (x - (n + m)) (by omega) (by omega); omega
  · unfold cs
    by_cases c : x < n + m
    · rw [if_pos c]; exact A.sg.ne x h0 c
    · rw [if_neg c]; have := B.sg.ne (x - (n + m)) (by omega) (by omega); omega
  · unfold cs
    by_cases c : x < n + m
    · rw [if_pos c, if_pos (A.sg.into x h0 c).2]; exact A.sg.inv x h0 c
    · rw [if_neg c]
      have a := B.sg.into (x - (n + m)) (by omega) (by omega)
      have b := B.sg.inv (x - (n + m)) (by omega) (by omega)
      rw [if_neg (by omega), show n + m + mu ks (x - (n + m)) - (n + m) = mu ks (x - (n + m)) by omega, b]; omega
structure Ends (n m : Int) (s : Int → Int) (x : Int) (J : Nat) : Prop where
  go : ∀ j < J, ¬ outer n m (wlk n m s x j) ∧ ps n m (wlk n m s x j) ≠ ps n m x
  stop : outer n m (wlk n m s x J) ∨ ps n m (wlk n m s x J) = ps n m x
theorem Ends.at {n m : Int} {s : Int → Int} {x : Int} {J j : Nat} (E : Ends n m s x J) (hj : j ≤ J) (h : outer n m (wlk n m s x j) ∨ ps n m (wlk n m s x j) = ps n m x) : j = J := by
  rcases Nat.lt_or_eq_of_le hj with c | c
  · have := E.go j c
    rcases h with z | z
    · exact absurd z this.1
    · exact absurd z this.2
  · exact c
structure Two (n m k : Int) (ns ks : List Int) : Prop where
  n0 : 0 ≤ n
  m0 : 0 ≤ m
  k0 : 0 ≤ k
  n1 : n ≤ 1000
  m1 : m ≤ 16
  k1 : k ≤ 1000
  A : Rw (n + m) ns
  B : Rw (m + k) ks
end JJ
namespace JJ
open PySem PP L2 MM
section
variable {n m k : Int} {ns ks : List Int} (W : Two n m k ns ks)
include W
theorem Two.sg : Sg (n + m + (m + k)) (cs n m ns ks) := cs_sg W.n0 W.m0 W.k0 W.A W.B
end
def outs (n m k : Int) : List Int := ((List.range n.toNat).map fun i => 0 + ((i : Nat) : Int)) ++ (List.range k.toNat).map fun i => n + 2 * m + ((i : Nat) : Int)
theorem outs_len {n m k : Int} (hn : 0 ≤ n) (hk : 0 ≤ k) : ((outs n m k).length : Int) = n + k := by
  unfold outs
  rw [List.length_append, List.length_map, List.length_map, List.length_range, List.length_range]; omega
def bk (n m z : Int) : Int := if z < n then z else z - 2 * m
def jn (n m k : Int) (ns ks : List Int) : List Int := (outs n m k).map fun x => bk n m (El n m (cs n m ns ks) (down m.toNat) x)
theorem map_at {α β : Type} {f : α → β} {l : List α} {i : Nat} {y : β} (h : (l.map f)[i]? = some y) : ∃ x, l[i]? = some x ∧ y = f x := by
  rw [List.getElem?_map] at h
  cases e : l[i]? with
  | none => rw [e] at h; cases h
  | some x => rw [e] at h; cases h; exact ⟨x, rfl, rfl⟩
end JJ
namespace JJ
open PySem PP L2 MM
structure M3 where
  n : Int
  m : Int
  ns : List Int
def matT (a : M3) : PyData := matD a.n a.m a.ns
structure Sm (a : M3) : Prop where
  n0 : 0 ≤ a.n
  m0 : 0 ≤ a.m
  n1 : a.n ≤ 16
  m1 : a.m ≤ 16
  R : Rw (a.n + a.m) a.ns
theorem rw_of {u d : Int} {ns : List Int} (h : isMatB u d ns = true) : Rw (u + d) ns ∧ 0 ≤ u ∧ 0 ≤ d := by
  unfold isMatB at h
  simp only [Bool.and_eq_true, Bool.not_eq_true', Bool.or_eq_false_iff, decide_eq_false_iff_not, Bool.not_eq_false', decide_eq_true_eq] at h
  obtain ⟨⟨h1, h2, h3, h4⟩, h5, _⟩ := h
  have g := matesOk_iff.mp h5
  have at_ : ∀ x, 0 ≤ x → x < u + d → 0 ≤ mu ns x ∧ mu ns x < u + d ∧ mu ns x ≠ x ∧ mu ns (mu ns x) = x := fun x a b => by
    have z := matesAt_iff.mp (g x.toNat (by omega))
    rw [show ((x.toNat : Nat) : Int) = x by omega, h4] at z
    exact ⟨z.1, z.2.1, z.2.2.1, z.2.2.2⟩
  exact ⟨⟨h4, ⟨fun x a b => ⟨(at_ x a b).1, (at_ x a b).2.1⟩, fun x a b => (at_ x a b).2.2.1, fun x a b => (at_ x a b).2.2.2⟩⟩, by omega, by omega⟩
def rg2 (a b : M3) : Int := rgs a.n a.m (cs a.n a.m a.ns b.ns) a.m.toNat
def jn2 (a b : M3) : M3 := ⟨a.n, b.m, jn a.n a.m b.m a.ns b.ns⟩
theorem bk_in {n m k z : Int} (hn : 0 ≤ n) (hk : 0 ≤ k) (h0 : 0 ≤ z) (h1 : z < n + m + (m + k)) (hm : 0 ≤ m) (ho : outer n m z) : 0 ≤ bk n m z ∧ bk n m z < n + k := by
  unfold outer at ho
  unfold bk
  split <;> omega
theorem outs_at {n m k y : Int} (hn : 0 ≤ n) (hk : 0 ≤ k) (h0 : 0 ≤ y) (h1 : y < n + k) : (outs n m k).getD y.toNat 0 = if y < n then y else y + 2 * m := by
  unfold outs
  rw [List.getD_eq_getElem?_getD]
  by_cases c : y < n
  · rw [if_pos c, List.getElem?_append_left (by rw [List.length_map, List.length_range]; omega), List.getElem?_map, List.getElem?_range (by omega)]
    simp; omega
  · rw [if_neg c, List.getElem?_append_right (by rw [List.length_map, List.length_range]; omega), List.length_map, List.length_range, List.getElem?_map, List.getElem?_range (by omega)]
    simp; omega
theorem jn_at {n m k : Int} {ns ks : List Int} (hn : 0 ≤ n) (hk : 0 ≤ k) {y : Int} (h0 : 0 ≤ y) (h1 : y < n + k) : mu (jn n m k ns ks) y = bk n m (El n m (cs n m ns ks) (down m.toNat) (if y < n then y else y + 2 * m)) := by
  have l := outs_len (n := n) (m := m) (k := k) hn hk
  rw [← outs_at (m := m) hn hk h0 h1]
  unfold mu jn
  rw [List.getD_eq_getElem?_getD, List.getElem?_map, List.getElem?_eq_getElem (by omega), Option.map_some, Option.getD_some, List.getD_eq_getElem?_getD, List.getElem?_eq_getElem (by omega), Option.getD_some]
end JJ
namespace JJ
open PySem PP L2 MM
structure W2 (ns : List Int) (xs : List PyData) : Prop where
  len : ns.length ≤ 63
  bits : ∀ z ∈ ns, Builtin.Int.intBits z ≤ 1048576
  ex : ∃ p a b : Int, xs = [.list (ns.map .int), .int p, .int a, .int b] ∧ 0 ≤ p ∧ p ≤ ns.length ∧ 0 ≤ a ∧ Bd 1048577 a ∧ 0 ≤ b ∧ b < 2147483647
def spDip : FSp := fun pvs m q => ∃ (ns : List Int) (xs : List PyData) (lim : Int), pvs = [.ref 0, .d (.int lim)] ∧ m = [some (.lst xs)] ∧ W2 ns xs ∧ 0 < lim ∧ lim ≤ 1000000 ∧ ∀ r xs', 0 ≤ r → r < lim → W2 ns xs' → q (.d (.int r)) [some (.lst xs')]
def spWel2 : FSp := fun pvs m q => ∃ (ns : List Int), pvs = [.raw (ns.map .int)] ∧ m = [] ∧ ns.length ≤ 63 ∧ (∀ z ∈ ns, Builtin.Int.intBits z ≤ 1048576) ∧ ∀ xs, W2 ns xs → q (.ref 0) [some (.lst xs)]
theorem inl_ne {x y : Int} (h : x ≠ y) : (Sum.inl x : Key) ≠ .inl y := fun z => h (by cases z; rfl)
theorem rm_next {n m N : Int} {i : Nat} {x : Int} (h : Rm n m N (down (i + 1)) x) : Rm n m N (down i) x ∧ x ≠ n + i ∧ x ≠ n + m + i :=
  ⟨⟨h.lo, h.hi, fun j hj => h.far j (List.mem_cons_of_mem _ hj)⟩, h.far _ List.mem_cons_self⟩
def Told (n m N : Int) (s : Int → Int) (i : Nat) (kvs : List (Key × PyData)) : Prop := ∀ x, Rm n m N (down i) x → valD kvs (.inl x) = some (.int (El n m s (down i) x))
theorem Told.drop {n m N : Int} {s : Int → Int} {i : Nat} {kvs : List (Key × PyData)} (h : Told n m N s i kvs) {x : Int} (r : Rm n m N (down (i + 1)) x) : valD (dropD (dropD kvs (.inl (n + i))) (.inl (n + m + i))) (.inl x) = some (.int (El n m s (down i) x)) := by
  obtain ⟨r1, r2, r3⟩ := rm_next r
  rw [valD_drop, if_neg (inl_ne (Ne.symm r3)), valD_drop, if_neg (inl_ne (Ne.symm r2))]
  exact h x r1
theorem rgs_yes {n m : Int} {s : Int → Int} {i : Nat} (h : El n m s (down i) (n + (i : Int)) = n + m + (i : Int)) : rgs n m s (i + 1) = rgs n m s i + 1 := by
  show rgs n m s i + (if _ then 1 else 0) = _
  rw [if_pos h]
theorem rgs_no {n m : Int} {s : Int → Int} {i : Nat} (h : El n m s (down i) (n + (i : Int)) ≠ n + m + (i : Int)) : rgs n m s (i + 1) = rgs n m s i := by
  show rgs n m s i + (if _ then 1 else 0) = _
  rw [if_neg h, Int.add_zero]
end JJ
namespace JJ
open PySem PP L2 MM
structure Dr (u d : Int) (i : Nat) (ws : List Int) (fs : List (Int × Int)) (ns : List Int) : Prop where
  go : ∀ more, Match (ws ++ (ringI u d).drop i) more → Match (ringI u d) (fs ++ more)
  nd : (ws ++ (ringI u d).drop i).Nodup
  rg : ∀ x ∈ ws, 0 ≤ x ∧ x < u + d
  far : ∀ p ∈ fs, 0 ≤ p.1 ∧ 0 ≤ p.2 ∧ p.1 ∉ ws ++ (ringI u d).drop i ∧ p.2 ∉ ws ++ (ringI u d).drop i
  row : Row fs ns
  len : (ns.length : Int) = u + d
  sm : (ws.length : Int) ≤ u + d - i
  par : ((ws.length : Int) + (u + d - i)) % 2 = 0
section
variable {u d : Int} {i : Nat} {ws : List Int} {fs : List (Int × Int)} {ns : List Int} (hu : 0 ≤ u) (hd : 0 ≤ d)
include hu hd
theorem Dr.start (he : (u + d) % 2 = 0) : Dr u d 0 [] [] (List.replicate (u + d).toNat 0) :=
  ⟨fun more h => h, ringI_nodup hu hd, fun x hx => (by cases hx), fun p hp => (by cases hp), row_nil, by rw [List.length_replicate]; omega, by simp; omega, by simpa using he⟩
end
theorem eqv_nil {xs : List PyData} : PyData.eqv (.list xs) (.list []) = xs.isEmpty := by
  cases xs <;> rfl
end JJ
namespace JJ
open PySem PySem.Spec PyProof.Rows PP L2 MM
inductive Dl : Nat → PyData → Prop
  | sc {n : Nat} {d : PyData} : isSc d = true → d.canLay0 = true → d.depth ≤ 64 → Dl n d
  | lst {n : Nat} {xs : List PyData} : xs.length ≤ 100000 → (∀ x ∈ xs, Dl n x) → Dl (n + 1) (.list xs)
  | tup {n : Nat} {xs : List PyData} : xs.length ≤ 100000 → (∀ x ∈ xs, Dl n x) → Dl (n + 1) (.tuple xs)
theorem Dl.dq {n : Nat} {d : PyData} (h : Dl n d) : Dq n d := by
  induction h with
  | sc a b c => exact .sc a b c
  | lst _ _ ih => exact .lst ih
  | tup _ _ ih => exact .tup ih
theorem dl_seq {n : Nat} {d : PyData} (h : Dl n d) (g : (isT "list" d || isT "tuple" d) = true) : ∃ j xs, n = j + 1 ∧ (d = .list xs ∨ d = .tuple xs) ∧ xs.length ≤ 100000 ∧ ∀ x ∈ xs, Dl j x := by
  cases h with
  | sc h _ _ => cases d <;> first | (cases h; done) | (exfalso; simp only [isT, tyD] at g; revert g; decide +kernel)
  | lst l h => exact ⟨_, _, rfl, .inl rfl, l, h⟩
  | tup l h => exact ⟨_, _, rfl, .inr rfl, l, h⟩
theorem dl_int {n : Nat} {i : Int} : Dl n (.int i) := .sc rfl rfl (Nat.zero_le _)
theorem seq_must {n : Nat} {d : PyData} (hD : Dl n d) (h1 : isNoneD d = false) (h2 : isT "bool" d = false) (h3 : isT "int" d = false) (h4 : isT "str" d = false) : (isT "list" d || isT "tuple" d) = true := by
  cases d with
  | none => cases h1
  | bool b => exfalso; simp only [isT, tyD] at h2; revert h2; decide +kernel
  | int b => exfalso; simp only [isT, tyD] at h3; revert h3; decide +kernel
  | str b => exfalso; simp only [isT, tyD] at h4; revert h4; decide +kernel
  | list xs => simp only [isT, tyD]; decide +kernel
  | tuple xs => simp only [isT, tyD]; decide +kernel
  | dict kvs => cases hD with | sc h _ _ => cases h
def spSam (n : Nat) : FSp := fun pvs m q => ∃ (d : PyData) (k : Int), pvs = [.d d, .d d, .d (.int k)] ∧ m = [] ∧ Dl n d ∧ (n : Int) < k ∧ k ≤ 1000 ∧ q (.d (.bool true)) []
def spSamC : FSp := fun pvs m q => ∃ (xs : List PyData) (k : Int), pvs = [.ref 0, .d (.list xs), .d (.int k)] ∧ m = [some (.lst xs)] ∧ (∀ x ∈ xs, Dl 3 x) ∧ xs.length ≤ 100000 ∧ 5 < k ∧ k ≤ 1000 ∧ q (.d (.bool true)) m
theorem sc_not {d : PyData} {s : String} (h : isT s d = true) (hs : s = "bool" ∨ s = "int" ∨ s = "str") : (isT "list" d || isT "tuple" d) = false := by
  rcases hs with rfl | rfl | rfl <;> cases d <;> first | (simp only [isT, tyD]; decide +kernel) | (exfalso; simp only [isT, tyD] at h; revert h; decide +kernel)
theorem dq_refl {n : Nat} {d : PyData} (h0 : Dl n d) (g : (isT "list" d || isT "tuple" d) = false) : shp d ∧ PyData.eqv d d = true := by
  obtain ⟨h1, h2, h3⟩ := dq_sc h0.dq g
  exact ⟨Sd.shp (n := 64) ⟨h2, h3⟩, SeqAt.eqv_refl d h2⟩
theorem eqvB {b : Bool} : PyData.eqv (.bool b) (.bool b) = true := by cases b <;> rfl
theorem fnok_up {P : Program} {w : World} {K : PySem.W.Frag} {mg : Str → Option Value} {base : Heap} {CX : CXT} {k k' : Nat} {f : Addr} {fd : FuncData} {ps : List Str} {sp : Sp} (A : FnOk P w K mg base CX k f fd ps sp) (h : k ≤ k') : FnOk P w K mg base CX k' f fd ps sp :=
  ⟨A.len, fun Ar outer s H args us vs Q E hr he hb hv hs => A.run Ar outer s H args us vs Q E (hr.mono h) he hb hv hs⟩
theorem dl_mat {n : Nat} {a : M3} (h : a.ns.length ≤ 100000) : Dl (n + 2) (matT a) := .tup (by simp) (fun x hx => by
  rcases List.mem_cons.mp hx with rfl | hx
  · exact dl_int
  rcases List.mem_cons.mp hx with rfl | hx
  · exact dl_int
  rcases List.mem_cons.mp hx with rfl | hx
  · exact .tup (by rw [List.length_map]; exact h) fun y hy => by
      obtain ⟨z, _, rfl⟩ := List.mem_map.mp hy
      exact dl_int
  · cases hx)
theorem Sm.ln {a : M3} (h : Sm a) : a.ns.length ≤ 100000 := by
  have := h.R.len
  have := h.n1
  have := h.m1
  omega
end JJ
namespace JJ
open PySem PySem.Spec PP L2 MM
structure Sz (odd : Int) (ss : List Int) : Prop where
  in_ : ∀ s ∈ ss, 0 ≤ s ∧ s ≤ 14 + odd ∧ s % 2 = odd
  go : ∀ (j : Nat) (s t : Int), ss[j]? = some s → ss[j + 1]? = some t → 0 < s + t
theorem Sz.nil {odd : Int} : Sz odd [] := ⟨fun s h => (by cases h), fun j s t h => (by simp at h)⟩
end JJ
namespace JJ
open PySem PP L2 MM
def E1 (s : Int → Int) (p q x : Int) : Int := if s p = q then s x else if x = s p then s q else if x = s q then s p else s x
def r1 (s : Int → Int) (p q : Int) : Int := if s p = q then 1 else 0
structure Iv (D : Int → Prop) (s : Int → Int) : Prop where
  into : ∀ x, D x → D (s x)
  ne : ∀ x, D x → s x ≠ x
  inv : ∀ x, D x → s (s x) = x
theorem e1_comm {D : Int → Prop} {s : Int → Int} (S : Iv D s) {p q p' q' x : Int} (dp : D p) (dq : D q) (dp' : D p') (dq' : D q') (dx : D x)
    (h1 : p ≠ q) (h2 : p ≠ p') (h3 : p ≠ q') (h4 : q ≠ p') (h5 : q ≠ q') (h6 : p' ≠ q') (x1 : x ≠ p) (x2 : x ≠ q) (x3 : x ≠ p') (x4 : x ≠ q') :
    E1 (E1 s p q) p' q' x = E1 (E1 s p' q') p q x := by
  have i1 := S.inv p dp
  have i2 := S.inv q dq
  have i3 := S.inv p' dp'
  have i4 := S.inv q' dq'
  have i5 := S.inv x dx
  clear S dp dq dp' dq' dx
  unfold E1
  grind (splits := 60)
theorem r1_comm {D : Int → Prop} {s : Int → Int} (S : Iv D s) {p q p' q' : Int} (dp : D p) (dq : D q) (dp' : D p') (dq' : D q')
    (h1 : p ≠ q) (h2 : p ≠ p') (h3 : p ≠ q') (h4 : q ≠ p') (h5 : q ≠ q') (h6 : p' ≠ q') :
    r1 s p q + r1 (E1 s p q) p' q' = r1 s p' q' + r1 (E1 s p' q') p q := by
  have i1 := S.inv p dp
  have i2 := S.inv q dq
  have i3 := S.inv p' dp'
  have i4 := S.inv q' dq'
  clear S dp dq dp' dq'
  unfold r1 E1
  grind (splits := 60)
theorem e1_iv {D : Int → Prop} {s : Int → Int} (S : Iv D s) {p q : Int} (dp : D p) (dq : D q) (h1 : p ≠ q) : Iv (fun x => D x ∧ x ≠ p ∧ x ≠ q) (E1 s p q) := by
  have i1 := S.inv p dp
  have i2 := S.inv q dq
  have j1 := S.into p dp
  have j2 := S.into q dq
  have k1 := S.ne p dp
  have k2 := S.ne q dq
  refine ⟨fun x ⟨dx, a, b⟩ => ?_, fun x ⟨dx, a, b⟩ => ?_, fun x ⟨dx, a, b⟩ => ?_⟩
  · have i3 := S.inv x dx
    have j3 := S.into x dx
    unfold E1
    clear S
    grind
  · have i3 := S.inv x dx
    have k3 := S.ne x dx
    unfold E1
    clear S
    grind
  · have i3 := S.inv x dx
    unfold E1
    clear S
    grind
def Off (D : Int → Prop) (l : List (Int × Int)) (x : Int) : Prop := D x ∧ x ∉ ends l
theorem ends_cons {p : Int × Int} {l : List (Int × Int)} : ends (p :: l) = p.1 :: p.2 :: ends l := by
  unfold ends; rw [List.flatMap_cons]; rfl
structure Ap (D : Int → Prop) (l : List (Int × Int)) : Prop where
  nd : (ends l).Nodup
  in_ : ∀ x ∈ ends l, D x
theorem Ap.tl {D : Int → Prop} {p : Int × Int} {l : List (Int × Int)} (h : Ap D (p :: l)) : Ap D l ∧ Off D l p.1 ∧ Off D l p.2 ∧ p.1 ≠ p.2 := by
  obtain ⟨nd, i⟩ := h
  rw [ends_cons, List.nodup_cons, List.nodup_cons] at nd
  rw [ends_cons] at i
  refine ⟨⟨nd.2.2, fun x hx => i x (List.mem_cons_of_mem _ (List.mem_cons_of_mem _ hx))⟩, ⟨i _ List.mem_cons_self, fun z => nd.1 (List.mem_cons_of_mem _ z)⟩, ⟨i _ (List.mem_cons_of_mem _ List.mem_cons_self), nd.2.1⟩, fun z => nd.1 (by rw [z]; exact List.mem_cons_self)⟩
theorem e1_congr {f g : Int → Int} {p q x : Int} (a : f p = g p) (b : f q = g q) (c : f x = g x) : E1 f p q x = E1 g p q x := by
  unfold E1; rw [a, b, c]
section
variable {n m k : Int} {ns ks : List Int} (n0 : 0 ≤ n) (m0 : 0 ≤ m) (k0 : 0 ≤ k) (A : Rw (n + m) ns) (B : Rw (m + k) ks)
include n0 m0 k0 A B
theorem jn_rw0 : Rw (n + k) (jn n m k ns ks) := by
  have S := cs_sg n0 m0 k0 A B
  have l := outs_len (n := n) (m := m) (k := k) n0 k0
  have ll : ((jn n m k ns ks).length : Int) = n + k := by unfold jn; rw [List.length_map]; exact l
  have pt : ∀ y, 0 ≤ y → y < n + k → 0 ≤ (if y < n then y else y + 2 * m) ∧ (if y < n then y else y + 2 * m) < n + m + (m + k) ∧ outer n m (if y < n then y else y + 2 * m) := fun y a b => by
    unfold outer; split <;> omega
  have el : ∀ x, 0 ≤ x → x < n + m + (m + k) → outer n m x → 0 ≤ El n m (cs n m ns ks) (down m.toNat) x ∧ El n m (cs n m ns ks) (down m.toNat) x < n + m + (m + k) ∧ outer n m (El n m (cs n m ns ks) (down m.toNat) x) ∧ El n m (cs n m ns ks) (down m.toNat) x ≠ x ∧ El n m (cs n m ns ks) (down m.toNat) (El n m (cs n m ns ks) (down m.toNat) x) = x := fun x a b c => by
    have r := El_all n0 m0 (by omega) S a b c
    obtain ⟨z1, z2, z3⟩ := El_inv n0 m0 (by omega) S (down_ls (by omega)) x r
    exact ⟨z1.lo, z1.hi, rm_outer n0 m0 (by omega) z1, z2, z3⟩
  have px : ∀ y, (y < n ∧ (if y < n then y else y + 2 * m) = y) ∨ (n ≤ y ∧ (if y < n then y else y + 2 * m) = y + 2 * m) := fun y => by split <;> omega
  refine ⟨ll, ⟨fun y a b => ?_, fun y a b => ?_, fun y a b => ?_⟩⟩
  · rw [jn_at n0 k0 a b]
    obtain ⟨p1, p2, p3⟩ := pt y a b
    obtain ⟨q1, q2, q3, _⟩ := el _ p1 p2 p3
    exact bk_in n0 k0 q1 q2 m0 q3
  · rw [jn_at n0 k0 a b]
    obtain ⟨p1, p2, p3⟩ := pt y a b
    obtain ⟨q1, q2, q3, q4, _⟩ := el _ p1 p2 p3
    have hx := px y
    generalize (if y < n then y else y + 2 * m) = x at *
    generalize El n m (cs n m ns ks) (down m.toNat) x = z at *
    intro e
    apply q4
    unfold bk at e
    unfold outer at q3
    split at e <;> omega
  · obtain ⟨p1, p2, p3⟩ := pt y a b
    obtain ⟨q1, q2, q3, q4, q5⟩ := el _ p1 p2 p3
    have i := bk_in (k := k) n0 k0 q1 q2 m0 q3
    rw [jn_at n0 k0 a b, jn_at n0 k0 i.1 i.2]
    have hx := px y
    have hw := px (bk n m (El n m (cs n m ns ks) (down m.toNat) (if y < n then y else y + 2 * m)))
    generalize (if y < n then y else y + 2 * m) = x at *
    generalize hz : El n m (cs n m ns ks) (down m.toNat) x = z at *
    have e : (if bk n m z < n then bk n m z else bk n m z + 2 * m) = z := by
      generalize (if bk n m z < n then bk n m z else bk n m z + 2 * m) = v at *
      unfold bk at hw
      unfold outer at q3
      split at hw <;> omega
    rw [e, q5]
    unfold bk
    unfold outer at p3
    split <;> omega
end
end JJ
namespace JJ
open PySem PP L2 MM
theorem sg_iv {N : Int} {s : Int → Int} (S : Sg N s) : Iv (fun x => 0 ≤ x ∧ x < N) s := ⟨fun x h => S.into x h.1 h.2, fun x h => S.ne x h.1 h.2, fun x h => S.inv x h.1 h.2⟩
end JJ
namespace JJ
open PySem PP L2 MM
section
variable {n m N : Int} {s : Int → Int} (hn : 0 ≤ n) (hm : 0 ≤ m) (hN : n + 2 * m ≤ N) (S : Sg N s)
include hn hm hN S
theorem cn_out {x y : Int} (h0 : 0 ≤ x) (h1 : x < N) (ho : outer n m x) (oy : outer n m y) (ne : y ≠ x) (c : Cn n m N s x y) : El n m s (down m.toNat) x = y := by
  obtain ⟨J, e1, e2, e3, e4, e5⟩ := open_walk hn hm hN S h0 h1 ho
  have tx : tau n m x = x := by unfold outer at ho; unfold tau; rw [if_neg (by omega), if_neg (by omega)]
  have te : tau n m (wlk n m s x J) = wlk n m s x J := by rw [e1]; unfold outer at e2; unfold tau; rw [if_neg (by omega), if_neg (by omega)]
  rcases vis_all hn hm hN S h0 h1 (J := J) (.inl ⟨tx, te⟩) c with z | ⟨j, hj, z⟩
  · exact absurd z ne
  · by_cases hjJ : j = J
    · subst hjJ
      rcases z with z | z
      · rw [z, e1]
      · rw [z, te, e1]
    · have w := e4 j (by omega)
      exfalso
      unfold outer at oy w
      rcases z with z | z
      · rw [z] at oy; omega
      · unfold tau at z
        split at z
        · omega
        · split at z <;> omega
end
section
variable {n i : Int} {ns hs : List Int} (i0 : 0 ≤ i) (i1 : i < n - 1) (A : Rw (n + n) ns) (H : Rw (n + n) hs) (Q : Row (hookP n i) hs)
include i0 i1 A H Q
omit A H in
theorem hook_at : (∀ p, 0 ≤ p → p < n → p ≠ i → p ≠ i + 1 → mu hs p = n + p ∧ mu hs (n + p) = p) ∧ mu hs i = i + 1 ∧ mu hs (i + 1) = i ∧ mu hs (n + i) = n + i + 1 ∧ mu hs (n + i + 1) = n + i := by
  have q1 := Q (i, i + 1) (by unfold hookP; simp)
  have q2 := Q (n + i, n + i + 1) (by unfold hookP; simp)
  refine ⟨fun p a b c d => Q (p, n + p) ?_, q1.1, q1.2, q2.1, q2.2⟩
  unfold hookP keepP strP
  refine List.mem_append_left _ (List.mem_filter.mpr ⟨List.mem_map.mpr ⟨p.toNat, List.mem_range.mpr (by omega), by rw [show ((p.toNat : Nat) : Int) = p by omega]⟩, ?_⟩)
  simp [c, d]
abbrev hN (n : Int) : Int := n + n + (n + n)
theorem hk_sg : Sg (hN n) (cs n n ns hs) := cs_sg (by omega) (by omega) (by omega) A H
theorem hk_s {x : Int} (h0 : 0 ≤ x) (h1 : x < n + n) : cs n n ns hs x = mu ns x := by unfold cs; rw [if_pos h1]
theorem hk_h {x : Int} (h0 : 0 ≤ x) : cs n n ns hs (n + n + x) = n + n + mu hs x := by unfold cs; rw [if_neg (by omega), show n + n + x - (n + n) = x by omega]
theorem hk_down {p : Int} (a : 0 ≤ p) (b : p < n) (c : p ≠ i) (d : p ≠ i + 1) : Cn n n (hN n) (cs n n ns hs) (n + p) (3 * n + p) := by
  have S := hk_sg i0 i1 A H Q
  have t := Cn.t1 (n := n) (m := n) (N := hN n) (s := cs n n ns hs) (x := n + p) (by omega) (by unfold hN; omega)
  rw [(tau_mid (by omega) (by omega) (show n + 2 * n ≤ hN n by unfold hN; omega) a b).1] at t
  have u := Cn.s1 (n := n) (m := n) (N := hN n) (s := cs n n ns hs) (x := n + n + p) (by omega) (by unfold hN; omega)
  rw [hk_h i0 i1 A H Q a, ((hook_at i0 i1 Q).1 p a b c d).1] at u
  have e : n + n + (n + p) = 3 * n + p := by omega
  rw [e] at u
  exact t.trans u
theorem hk_turn : Cn n n (hN n) (cs n n ns hs) (n + i) (n + (i + 1)) ∧ Cn n n (hN n) (cs n n ns hs) (n + (i + 1)) (n + i) := by
  have h := hook_at i0 i1 Q
  have go : ∀ u v : Int, 0 ≤ u → u < n → 0 ≤ v → v < n → mu hs u = v → Cn n n (hN n) (cs n n ns hs) (n + u) (n + v) := fun u v u0 u1 v0 v1 e => by
    have t := Cn.t1 (n := n) (m := n) (N := hN n) (s := cs n n ns hs) (x := n + u) (by omega) (by unfold hN; omega)
    rw [(tau_mid (by omega) (by omega) (show n + 2 * n ≤ hN n by unfold hN; omega) u0 u1).1] at t
    have w := Cn.s1 (n := n) (m := n) (N := hN n) (s := cs n n ns hs) (x := n + n + u) (by omega) (by unfold hN; omega)
    rw [hk_h i0 i1 A H Q u0, e] at w
    have t2 := Cn.t1 (n := n) (m := n) (N := hN n) (s := cs n n ns hs) (x := n + n + v) (by omega) (by unfold hN; omega)
    rw [(tau_mid (by omega) (by omega) (show n + 2 * n ≤ hN n by unfold hN; omega) v0 v1).2] at t2
    exact (t.trans w).trans t2
  exact ⟨go i (i + 1) i0 (by omega) (by omega) (by omega) h.2.1, go (i + 1) i (by omega) (by omega) i0 (by omega) h.2.2.1⟩
def be (n y : Int) : Int := if y < n then y else y + 2 * n
theorem hk_out {y : Int} (a : 0 ≤ y) (b : y < n + n) (c : y ≠ n + i) (d : y ≠ n + (i + 1)) : Cn n n (hN n) (cs n n ns hs) y (be n y) := by
  unfold be
  by_cases h : y < n
  · rw [if_pos h]; exact Cn.refl
  · rw [if_neg h]
    have := hk_down i0 i1 A H Q (p := y - n) (by omega) (by omega) (by omega) (by omega)
    rw [show n + (y - n) = y by omega, show 3 * n + (y - n) = y + 2 * n by omega] at this
    exact this
theorem hk_s1 {y : Int} (a : 0 ≤ y) (b : y < n + n) : Cn n n (hN n) (cs n n ns hs) y (mu ns y) := by
  have t := Cn.s1 (n := n) (m := n) (N := hN n) (s := cs n n ns hs) (x := y) a (by unfold hN; omega)
  rw [hk_s i0 i1 A H Q a b] at t
  exact t
theorem hk_row (ne : mu ns (n + i) ≠ n + (i + 1)) {y : Int} (a : 0 ≤ y) (b : y < n + n) :
    mu (jn n n n ns hs) y = if y = n + i then n + (i + 1) else if y = n + (i + 1) then n + i else if mu ns y = n + i then mu ns (n + (i + 1)) else if mu ns y = n + (i + 1) then mu ns (n + i) else mu ns y := by
  have S := hk_sg i0 i1 A H Q
  have hh := hook_at i0 i1 Q
  have sg := A.sg
  have iy := sg.into y a b
  have ny := sg.ne y a b
  have vy := sg.inv y a b
  have iL := sg.into (n + i) (by omega) (by omega)
  have iR := sg.into (n + (i + 1)) (by omega) (by omega)
  have nL := sg.ne (n + i) (by omega) (by omega)
  have nR := sg.ne (n + (i + 1)) (by omega) (by omega)
  have vL := sg.inv (n + i) (by omega) (by omega)
  have vR := sg.inv (n + (i + 1)) (by omega) (by omega)
  have neR : mu ns (n + (i + 1)) ≠ n + i := fun z => by rw [z] at vR; exact ne vR
  rw [jn_at (by omega) (by omega) a (by omega)]
  have tgt : ∀ w, 0 ≤ w → w < n + n → w ≠ y → Cn n n (hN n) (cs n n ns hs) (be n y) (be n w) → bk n n (El n n (cs n n ns hs) (down n.toNat) (if y < n then y else y + 2 * n)) = w := fun w w0 w1 wy c => by
    have e := cn_out (by omega) (by omega) (show n + 2 * n ≤ hN n by unfold hN; omega) S (x := be n y) (y := be n w) (by unfold be; split <;> omega) (by unfold be hN; split <;> omega) (by unfold be outer; split <;> omega) (by unfold be outer; split <;> omega) (by unfold be; split <;> split <;> omega) c
    unfold be at e
    rw [e]
    unfold bk
    repeat' split
    all_goals omega
  by_cases c1 : y = n + i
  · rw [if_pos c1]
    refine tgt _ (by omega) (by omega) (by omega) ?_
    have t := Cn.s1 (n := n) (m := n) (N := hN n) (s := cs n n ns hs) (x := n + n + (n + i)) (by omega) (by unfold hN; omega)
    rw [hk_h i0 i1 A H Q (by omega), hh.2.2.2.1] at t
    unfold be
    rw [if_neg (by omega), if_neg (by omega), c1, show n + i + 2 * n = n + n + (n + i) by omega, show n + (i + 1) + 2 * n = n + n + (n + i + 1) by omega]
    exact t
  · rw [if_neg c1]
    by_cases c2 : y = n + (i + 1)
    · rw [if_pos c2]
      refine tgt _ (by omega) (by omega) (by omega) ?_
      have t := Cn.s1 (n := n) (m := n) (N := hN n) (s := cs n n ns hs) (x := n + n + (n + i + 1)) (by omega) (by unfold hN; omega)
      rw [hk_h i0 i1 A H Q (by omega), hh.2.2.2.2] at t
      unfold be
      rw [if_neg (by omega), if_neg (by omega), c2, show n + i + 2 * n = n + n + (n + i) by omega, show n + (i + 1) + 2 * n = n + n + (n + i + 1) by omega]
      exact t
    · rw [if_neg c2]
      have o := hk_out i0 i1 A H Q a b c1 c2
      have back := o.symm (by omega) (by omega) (show n + 2 * n ≤ hN n by unfold hN; omega) S a (by unfold hN; omega)
      have st := back.trans (hk_s1 i0 i1 A H Q a b)
      by_cases c3 : mu ns y = n + i
      · rw [if_pos c3]
        have eL : mu ns (n + i) = y := by rw [← c3, vy]
        refine tgt _ iR.1 iR.2 (fun z => ?_) ?_
        · have : mu ns (mu ns (n + (i + 1))) = mu ns y := by rw [z]
          rw [vR, c3] at this
          omega
        · rw [c3] at st
          exact ((st.trans (hk_turn i0 i1 A H Q).1).trans (hk_s1 i0 i1 A H Q (by omega) (by omega))).trans (hk_out i0 i1 A H Q iR.1 iR.2 neR nR)
      · rw [if_neg c3]
        by_cases c4 : mu ns y = n + (i + 1)
        · rw [if_pos c4]
          refine tgt _ iL.1 iL.2 (fun z => ?_) ?_
          · have : mu ns (mu ns (n + i)) = mu ns y := by rw [z]
            rw [vL, c4] at this
            omega
          · rw [c4] at st
            exact ((st.trans (hk_turn i0 i1 A H Q).2).trans (hk_s1 i0 i1 A H Q (by omega) (by omega))).trans (hk_out i0 i1 A H Q iL.1 iL.2 nL ne)
        · rw [if_neg c4]
          exact tgt _ iy.1 iy.2 ny (st.trans (hk_out i0 i1 A H Q iy.1 iy.2 c3 c4))
theorem hk_ring (eq : mu ns (n + i) = n + (i + 1)) {y : Int} (a : 0 ≤ y) (b : y < n + n) : mu (jn n n n ns hs) y = mu ns y := by
  have S := hk_sg i0 i1 A H Q
  have hh := hook_at i0 i1 Q
  have sg := A.sg
  have iy := sg.into y a b
  have ny := sg.ne y a b
  have vy := sg.inv y a b
  have vL := sg.inv (n + i) (by omega) (by omega)
  have eq2 : mu ns (n + (i + 1)) = n + i := by rw [← eq, vL]
  rw [jn_at (by omega) (by omega) a (by omega)]
  have tgt : ∀ w, 0 ≤ w → w < n + n → w ≠ y → Cn n n (hN n) (cs n n ns hs) (be n y) (be n w) → bk n n (El n n (cs n n ns hs) (down n.toNat) (if y < n then y else y + 2 * n)) = w := fun w w0 w1 wy c => by
    have e := cn_out (by omega) (by omega) (show n + 2 * n ≤ hN n by unfold hN; omega) S (x := be n y) (y := be n w) (by unfold be; split <;> omega) (by unfold be hN; split <;> omega) (by unfold be outer; split <;> omega) (by unfold be outer; split <;> omega) (by unfold be; split <;> split <;> omega) c
    unfold be at e
    rw [e]
    unfold bk
    repeat' split
    all_goals omega
  refine tgt _ iy.1 iy.2 ny ?_
  by_cases c1 : y = n + i
  · have t := Cn.s1 (n := n) (m := n) (N := hN n) (s := cs n n ns hs) (x := n + n + (n + i)) (by omega) (by unfold hN; omega)
    rw [hk_h i0 i1 A H Q (by omega), hh.2.2.2.1] at t
    rw [c1, eq]
    unfold be
    rw [if_neg (by omega), if_neg (by omega), show n + i + 2 * n = n + n + (n + i) by omega, show n + (i + 1) + 2 * n = n + n + (n + i + 1) by omega]
    exact t
  · by_cases c2 : y = n + (i + 1)
    · have t := Cn.s1 (n := n) (m := n) (N := hN n) (s := cs n n ns hs) (x := n + n + (n + i + 1)) (by omega) (by unfold hN; omega)
      rw [hk_h i0 i1 A H Q (by omega), hh.2.2.2.2] at t
      rw [c2, eq2]
      unfold be
      rw [if_neg (by omega), if_neg (by omega), show n + i + 2 * n = n + n + (n + i) by omega, show n + (i + 1) + 2 * n = n + n + (n + i + 1) by omega]
      exact t
    · have o := hk_out i0 i1 A H Q a b c1 c2
      have back := o.symm (by omega) (by omega) (show n + 2 * n ≤ hN n by unfold hN; omega) S a (by unfold hN; omega)
      have st := back.trans (hk_s1 i0 i1 A H Q a b)
      refine st.trans (hk_out i0 i1 A H Q iy.1 iy.2 (fun z => ?_) fun z => ?_)
      · rw [z, eq] at vy; exact c2 vy.symm
      · rw [z, eq2] at vy; exact c1 vy.symm
theorem hk_far {p : Int} (a : 0 ≤ p) (b : p < n) (c : p ≠ i) (d : p ≠ i + 1) : ¬ Ring n n (hN n) (cs n n ns hs) p := fun r =>
  r (3 * n + p) (by omega) (by unfold hN; omega) (by unfold outer; omega) (hk_down i0 i1 A H Q a b c d)
theorem hk_rgs : rgs n n (cs n n ns hs) n.toNat = if mu ns (n + i) = n + (i + 1) then 1 else 0 := by
  have S := hk_sg i0 i1 A H Q
  have hh := hook_at i0 i1 Q
  have sg := A.sg
  have mx : ∀ t : Nat, (t : Int) < n → (El n n (cs n n ns hs) (down t) (n + t) = n + n + t ↔ IsMax n n (hN n) (cs n n ns hs) t) := fun t h => max_iff (by omega) (by omega) (show n + 2 * n ≤ hN n by unfold hN; omega) S h
  by_cases c : mu ns (n + i) = n + (i + 1)
  · rw [if_pos c]
    have vL := sg.inv (n + i) (by omega) (by omega)
    have c2 : mu ns (n + (i + 1)) = n + i := by rw [← c, vL]
    have cl : ∀ o, Cn n n (hN n) (cs n n ns hs) (n + (i + 1)) o → o = n + i ∨ o = n + (i + 1) ∨ o = n + n + i ∨ o = n + n + (i + 1) := fun o h => by
      refine h (fun z => z = n + i ∨ z = n + (i + 1) ∨ z = n + n + i ∨ z = n + n + (i + 1)) (fun z z0 z1 hz => ?_) (.inr (.inl rfl))
      have tm1 := tau_mid (n := n) (m := n) (N := hN n) (by omega) (by omega) (by unfold hN; omega) i0 (by omega)
      have tm2 := tau_mid (n := n) (m := n) (N := hN n) (i := i + 1) (by omega) (by omega) (by unfold hN; omega) (by omega) (by omega)
      rcases hz with rfl | rfl | rfl | rfl
      · rw [hk_s i0 i1 A H Q z0 (by omega), c, tm1.1]; exact ⟨.inr (.inl rfl), .inr (.inr (.inl rfl))⟩
      · rw [hk_s i0 i1 A H Q z0 (by omega), c2, tm2.1]; exact ⟨.inl rfl, .inr (.inr (.inr rfl))⟩
      · rw [hk_h i0 i1 A H Q i0, hh.2.1, tm1.2]; exact ⟨.inr (.inr (.inr rfl)), .inl rfl⟩
      · rw [hk_h i0 i1 A H Q (by omega), hh.2.2.1, tm2.2]; exact ⟨.inr (.inr (.inl rfl)), .inr (.inl rfl)⟩
    have m1 : IsMax n n (hN n) (cs n n ns hs) (i + 1) := ⟨fun o o0 o1 oo h => by have := cl o h; unfold outer at oo; omega, fun j j0 j1 h => by have := cl _ h; omega⟩
    have m0 : ¬ IsMax n n (hN n) (cs n n ns hs) i := fun h => h.2 (i + 1) (by omega) (by omega) (hk_turn i0 i1 A H Q).1
    have key : ∀ t : Nat, (t : Int) ≤ n → rgs n n (cs n n ns hs) t = if i + 2 ≤ (t : Int) then 1 else 0 := fun t => by
      induction t with
      | zero => intro _; show (0 : Int) = _; rw [if_neg (by omega)]
      | succ t ih =>
        intro ht
        have ih := ih (by omega)
        by_cases e : (t : Int) = i + 1
        · rw [rgs_yes ((mx t (by omega)).mpr (by rw [e]; exact m1)), ih, if_neg (by omega), if_pos (by omega)]; rfl
        · rw [rgs_no (fun z => ?_), ih]
          · by_cases h : i + 2 ≤ (t : Int)
            · rw [if_pos h, if_pos (by omega)]
            · rw [if_neg h, if_neg (by omega)]
          · have z := (mx t (by omega)).mp z
            by_cases e2 : (t : Int) = i
            · rw [e2] at z; exact m0 z
            · exact hk_far i0 i1 A H Q (by omega) (by omega) e2 e z.1
    rw [key _ (by omega), if_pos (by omega)]
  · rw [if_neg c]
    have iL := sg.into (n + i) (by omega) (by omega)
    have nL := sg.ne (n + i) (by omega) (by omega)
    have r0 : ¬ Ring n n (hN n) (cs n n ns hs) i := fun r => by
      refine r (be n (mu ns (n + i))) ?_ ?_ ?_ ((hk_s1 i0 i1 A H Q (by omega) (by omega)).trans (hk_out i0 i1 A H Q iL.1 iL.2 nL c))
      · unfold be; split <;> omega
      · unfold be hN; split <;> omega
      · unfold be outer; split <;> omega
    have r1' : ¬ Ring n n (hN n) (cs n n ns hs) (i + 1) := fun r => r0 fun o o0 o1 oo h => r o o0 o1 oo ((hk_turn i0 i1 A H Q).2.trans h)
    have key : ∀ t : Nat, (t : Int) ≤ n → rgs n n (cs n n ns hs) t = 0 := fun t => by
      induction t with
      | zero => intro _; rfl
      | succ t ih =>
        intro ht
        rw [rgs_no (fun z => ?_), ih (by omega)]
        have z := (mx t (by omega)).mp z
        by_cases e2 : (t : Int) = i
        · rw [e2] at z; exact r0 z.1
        · by_cases e : (t : Int) = i + 1
          · rw [e] at z; exact r1' z.1
          · exact hk_far i0 i1 A H Q (by omega) (by omega) e2 e z.1
    exact key _ (by omega)
end
end JJ
namespace JJ
open PySem PP L2 MM
theorem row_ext {N : Int} {a b : List Int} (ha : (a.length : Int) = N) (hb : (b.length : Int) = N) (h : ∀ y, 0 ≤ y → y < N → mu a y = mu b y) : a = b := by
  apply List.ext_getElem?
  intro i
  by_cases hi : i < a.length
  · have key := h (i : Int) (by omega) (by omega)
    unfold mu at key
    rw [Int.toNat_natCast, List.getD_eq_getElem?_getD, List.getD_eq_getElem?_getD, List.getElem?_eq_getElem hi, List.getElem?_eq_getElem (by omega), Option.getD_some, Option.getD_some] at key
    rw [List.getElem?_eq_getElem hi, List.getElem?_eq_getElem (by omega), key]
  · rw [List.getElem?_eq_none (by omega), List.getElem?_eq_none (by omega)]
def stR (n : Int) : List Int := ((List.range n.toNat).map fun i => n + ((i : Nat) : Int)) ++ (List.range n.toNat).map fun i => 0 + ((i : Nat) : Int)
theorem stR_len {n : Int} (h : 0 ≤ n) : ((stR n).length : Int) = n + n := by unfold stR; rw [List.length_append, List.length_map, List.length_map, List.length_range]; omega
theorem stR_at {n y : Int} (h : 0 ≤ n) (a : 0 ≤ y) (b : y < n + n) : mu (stR n) y = if y < n then n + y else y - n := by
  unfold mu stR
  rw [List.getD_eq_getElem?_getD]
  by_cases c : y < n
  · rw [if_pos c, List.getElem?_append_left (by rw [List.length_map, List.length_range]; omega), List.getElem?_map, List.getElem?_range (by omega)]
    simp; omega
  · rw [if_neg c, List.getElem?_append_right (by rw [List.length_map, List.length_range]; omega), List.length_map, List.length_range, List.getElem?_map, List.getElem?_range (by omega)]
    simp; omega
theorem stR_rw {n : Int} (h : 0 < n) : Rw (n + n) (stR n) := by
  refine ⟨stR_len (by omega), ⟨fun x a b => ?_, fun x a b => ?_, fun x a b => ?_⟩⟩
  · rw [stR_at (by omega) a b]; split <;> omega
  · rw [stR_at (by omega) a b]; split <;> omega
  · have e := stR_at (n := n) (y := x) (by omega) a b
    rw [e, stR_at (by omega) (by split <;> omega) (by split <;> omega)]
    split <;> split <;> omega
def hkRow (n i : Int) (ns : List Int) : List Int := (((ns.set (mu ns (n + i)).toNat (mu ns (n + i + 1))).set (mu ns (n + i + 1)).toNat (mu ns (n + i))).set (n + i).toNat (n + i + 1)).set (n + i + 1).toNat (n + i)
def hkd (n : Int) (a : M3) (i : Int) : Int × M3 := if mu a.ns (n + i) = n + i + 1 then (1, a) else (0, ⟨n, n, hkRow n i a.ns⟩)
theorem mu_set {l : List Int} {j v y : Int} (j0 : 0 ≤ j) (j1 : j < l.length) (y0 : 0 ≤ y) : mu (l.set j.toNat v) y = if y = j then v else mu l y := by
  unfold mu
  rw [List.getD_eq_getElem?_getD, List.getD_eq_getElem?_getD]
  by_cases c : y = j
  · subst c; rw [if_pos rfl, List.getElem?_set_self (by omega)]; rfl
  · rw [if_neg c, List.getElem?_set_ne (by omega)]
theorem hkd_ok {n i : Int} {ns hs : List Int} (i0 : 0 ≤ i) (i1 : i < n - 1) (A : Rw (n + n) ns) (H : Rw (n + n) hs) (Q : Row (hookP n i) hs) : hkd n ⟨n, n, ns⟩ i = (rg2 ⟨n, n, ns⟩ ⟨n, n, hs⟩, jn2 ⟨n, n, ns⟩ ⟨n, n, hs⟩) := by
  have rg := hk_rgs i0 i1 A H Q
  have sg := A.sg
  have len := A.len
  have e1 : n + (i + 1) = n + i + 1 := by omega
  have iL := sg.into (n + i) (by omega) (by omega)
  have iR := sg.into (n + i + 1) (by omega) (by omega)
  have vL := sg.inv (n + i) (by omega) (by omega)
  have vR := sg.inv (n + i + 1) (by omega) (by omega)
  have nL := sg.ne (n + i) (by omega) (by omega)
  unfold hkd rg2 jn2
  dsimp only
  rw [e1] at rg
  by_cases c : mu ns (n + i) = n + i + 1
  · rw [if_pos c] at rg
    rw [if_pos c, rg]
    congr 2
    exact row_ext (N := n + n) len (jn_rw0 (by omega) (by omega) (by omega) A H).len fun y a b => (hk_ring i0 i1 A H Q (by rw [e1]; exact c) a b).symm
  · rw [if_neg c] at rg
    rw [if_neg c, rg]
    congr 2
    refine row_ext (N := n + n) (by unfold hkRow; rw [List.length_set, List.length_set, List.length_set, List.length_set]; exact len) (jn_rw0 (by omega) (by omega) (by omega) A H).len fun y a b => ?_
    rw [hk_row i0 i1 A H Q (by rw [e1]; exact c) a b, e1]
    unfold hkRow
    rw [mu_set (by omega) (by rw [List.length_set, List.length_set, List.length_set]; omega) a, mu_set (by omega) (by rw [List.length_set, List.length_set]; omega) a, mu_set iR.1 (by rw [List.length_set]; omega) a, mu_set iL.1 (by omega) a]
    have l1 : mu ns y = n + i ↔ y = mu ns (n + i) := ⟨fun z => by rw [← z, sg.inv y a b], fun z => by rw [z, vL]⟩
    have l2 : mu ns y = n + i + 1 ↔ y = mu ns (n + i + 1) := ⟨fun z => by rw [← z, sg.inv y a b], fun z => by rw [z, vR]⟩
    simp only [l1, l2]
    have ne : mu ns (n + i) ≠ mu ns (n + i + 1) := fun z => by
      have := congrArg (mu ns) z
      rw [vL, vR] at this
      omega
    by_cases d1 : y = n + i
    · rw [if_pos d1, if_neg (by omega), if_pos d1]
    · rw [if_neg d1]
      by_cases d2 : y = n + i + 1
      · rw [if_pos d2, if_neg d1, if_pos d2]
      · rw [if_neg d2, if_neg d2, if_neg d1]
        by_cases d3 : y = mu ns (n + i)
        · rw [if_pos d3, if_neg (by rw [d3]; exact ne), if_pos d3]
        · rw [if_neg d3, if_neg d3]
def stH (n : Int) (x : Int × M3) (i : Int) : Int × M3 := (x.1 + (hkd n x.2 i).1, (hkd n x.2 i).2)
def valJ (n : Int) (ws : List Int) : Int × M3 := ws.foldl (stH n) (0, ⟨n, n, stR n⟩)
def Wok (n : Int) (ws : List Int) : Prop := ∀ w ∈ ws, 0 ≤ w ∧ w < n - 1
theorem hook_row {n i : Int} (i0 : 0 ≤ i) (i1 : i < n - 1) : ∃ hs, Rw (n + n) hs ∧ Row (hookP n i) hs := by
  have M := hook_match i0 i1
  have len := stR_len (n := n) (by omega)
  have l1 : mu (stR n) (n + i) = i := by rw [stR_at (by omega) (by omega) (by omega), if_neg (by omega)]; omega
  have l2 : mu (stR n) (n + i + 1) = i + 1 := by rw [stR_at (by omega) (by omega) (by omega), if_neg (by omega)]; omega
  have at_ : ∀ y, 0 ≤ y → mu (hkRow n i (stR n)) y = if y = n + i + 1 then n + i else if y = n + i then n + i + 1 else if y = i + 1 then i else if y = i then i + 1 else mu (stR n) y := fun y a => by
    unfold hkRow
    rw [l1, l2]
    rw [mu_set (by omega) (by rw [List.length_set, List.length_set, List.length_set]; omega) a, mu_set (by omega) (by rw [List.length_set, List.length_set]; omega) a, mu_set (by omega) (by rw [List.length_set]; omega) a, mu_set (by omega) (by omega) a]
  have hl : ((hkRow n i (stR n)).length : Int) = n + n := by unfold hkRow; rw [List.length_set, List.length_set, List.length_set, List.length_set]; exact len
  have W : Row (hookP n i) (hkRow n i (stR n)) := fun p hp => by
    unfold hookP at hp
    rcases List.mem_append.mp hp with hp | hp
    · unfold keepP strP at hp
      obtain ⟨hp1, hp2⟩ := List.mem_filter.mp hp
      obtain ⟨t, ht, rfl⟩ := List.mem_map.mp hp1
      have ht := List.mem_range.mp ht
      have hp2 : ¬ ((t : Int) = i) ∧ ¬ ((t : Int) = i + 1) := by simpa using hp2
      dsimp only
      rw [at_ _ (by omega), at_ _ (by omega), stR_at (by omega) (by omega) (by omega), stR_at (by omega) (by omega) (by omega), if_neg (by omega), if_neg (by omega), if_neg (by omega), if_neg (by omega), if_pos (by omega), if_neg (by omega), if_neg (by omega), if_neg (by omega), if_neg (by omega), if_neg (by omega)]
      omega
    · rcases List.mem_cons.mp hp with rfl | hp
      · dsimp only
        rw [at_ _ (by omega), at_ _ (by omega), if_neg (by omega), if_neg (by omega), if_neg (by omega), if_pos rfl, if_neg (by omega), if_neg (by omega), if_pos rfl]
        exact ⟨rfl, rfl⟩
      · rw [List.mem_singleton.mp hp]
        dsimp only
        rw [at_ _ (by omega), at_ _ (by omega), if_neg (by omega), if_pos rfl, if_pos rfl]
        exact ⟨rfl, rfl⟩
  exact ⟨_, (rw_of (match_isMat (by omega) (by omega) (by omega) hl M W)).1, W⟩
theorem hkd_rw {n i : Int} {ns : List Int} (i0 : 0 ≤ i) (i1 : i < n - 1) (A : Rw (n + n) ns) : ∃ rs, (hkd n ⟨n, n, ns⟩ i).2 = ⟨n, n, rs⟩ ∧ Rw (n + n) rs := by
  obtain ⟨hs, H, Q⟩ := hook_row i0 i1
  rw [hkd_ok i0 i1 A H Q]
  exact ⟨_, rfl, jn_rw0 (n := n) (m := n) (k := n) (by omega) (by omega) (by omega) A H⟩
theorem valJ_app {n : Int} {u : List Int} {i : Int} : valJ n (u ++ [i]) = stH n (valJ n u) i := by unfold valJ; rw [List.foldl_append]; rfl
theorem val_rw {n : Int} (h : 0 < n) : ∀ (k : Nat) {ws : List Int}, ws.length = k → Wok n ws → ∃ rs, (valJ n ws).2 = ⟨n, n, rs⟩ ∧ Rw (n + n) rs
  | 0, ws, e, _ => by
    have : ws = [] := List.length_eq_zero_iff.mp e
    subst this
    exact ⟨_, rfl, stR_rw h⟩
  | k + 1, ws, e, w => by
    rcases List.eq_nil_or_concat ws with z | ⟨u, i, z⟩
    · subst z; simp at e
    · have z : ws = u ++ [i] := by simpa using z
      subst z
      obtain ⟨rs, e1, R⟩ := val_rw h k (ws := u) (by simpa using e) (fun x hx => w x (List.mem_append_left _ hx))
      have hi := w i (List.mem_append_right _ List.mem_cons_self)
      rw [valJ_app]
      unfold stH
      rw [e1]
      exact hkd_rw hi.1 hi.2 R
theorem val_next {n v : Int} {ws : List Int} {i : Nat} (h : ws[i]? = some v) : valJ n (ws.take (i + 1)) = stH n (valJ n (ws.take i)) v := by
  rw [List.take_succ, h]; exact valJ_app
theorem val_dl {n : Int} {ws : List Int} (h : 0 < n) (h8 : n ≤ 8) (w : Wok n ws) (k : Nat) : Dl (k + 3) (.tuple [.int (valJ n ws).1, matT (valJ n ws).2]) := by
  obtain ⟨rs, e, R⟩ := val_rw h _ rfl w
  have := R.len
  rw [e]
  exact .tup (by simp) fun x hx => by
    rcases List.mem_cons.mp hx with rfl | hx
    · exact dl_int
    rcases List.mem_cons.mp hx with rfl | hx
    · exact dl_mat (by dsimp only; omega)
    · cases hx
def spHooks : FSp := fun pvs m q => ∃ (n : Int) (ws : List Int), pvs = [.d (.int n), .d (.tuple (ws.map .int))] ∧ m = [] ∧ 1 ≤ n ∧ Wok n ws ∧ q (.d .none) []
def spVal : FSp := fun pvs m q => ∃ (n : Int) (ws : List Int), pvs = [.d (.int n), .d (.tuple (ws.map .int))] ∧ m = [] ∧ 1 ≤ n ∧ n ≤ 8 ∧ Wok n ws ∧ q (.d (.tuple [.int (valJ n ws).1, matT (valJ n ws).2])) []
def spLst : FSp := fun pvs m q => ∃ n : Int, pvs = [.d (.int n)] ∧ m = [] ∧ 1 ≤ n ∧ n ≤ 8 ∧ q (.d (matT ⟨n, n, stR n⟩)) []
def spHkd : FSp := fun pvs m q => ∃ (n i : Int) (ns : List Int), pvs = [.d (matT ⟨n, n, ns⟩), .d (.int i)] ∧ m = [] ∧ Rw (n + n) ns ∧ 0 ≤ i ∧ i < n - 1 ∧ n ≤ 8 ∧ q (.d (.tuple [.int (hkd n ⟨n, n, ns⟩ i).1, matT (hkd n ⟨n, n, ns⟩ i).2])) []
def spWord : FSp := fun pvs m q => ∃ (src : List Int) (xs : List PyData) (n most : Int), pvs = [.ref 0, .d (.int n), .d (.int most)] ∧ m = [some (.lst xs)] ∧ W2 src xs ∧ 1 ≤ n ∧ n ≤ 8 ∧ 0 ≤ most ∧ most ≤ 100 ∧ ∀ xs' ws, W2 src xs' → Wok n ws → (ws.length : Int) ≤ most → q (.d (.tuple (ws.map .int))) [some (.lst xs')]
end JJ
namespace JJ
open PySem PP L2 MM
theorem cut_to {ws : List Int} {k : Int} (h0 : 0 ≤ k) (h1 : k ≤ ws.length) : PP.cutD (ws.map .int) none (some k) = (ws.take k.toNat).map .int := by
  unfold PP.cutD HT.sIx
  dsimp only
  rw [List.length_map, if_neg (by omega), List.drop_zero, Nat.sub_zero, ← List.map_take, Nat.min_eq_left (by omega)]
theorem cut_from {ws : List Int} {k : Int} (h0 : 0 ≤ k) (h1 : k ≤ ws.length) : PP.cutD (ws.map .int) (some k) none = (ws.drop k.toNat).map .int := by
  unfold PP.cutD HT.sIx
  dsimp only
  rw [List.length_map, if_neg (by omega), Nat.min_eq_left (by omega), ← List.map_drop, List.take_of_length_le (by rw [List.length_map, List.length_drop]; omega)]
theorem atI_last {ws : List Int} {z : Int} : atI ((ws ++ [z]).map PyData.int) (-1) = some (.int z) := by
  rw [atI_gdn (by omega) (by simp; omega)]
  congr 1
  rw [List.length_map, List.length_append, List.length_singleton, show (-1 + (((ws.length + 1 : Nat) : Int))).toNat = ws.length by omega, List.map_append, List.getD_eq_getElem?_getD, List.getElem?_append_right (by rw [List.length_map]; omega), List.length_map]
  simp
end JJ
namespace JJ
open PySem PySem.Spec PP L2 MM
abbrev sTwo : Str := "two"
abbrev sFar : Str := "far"
abbrev sNb : Str := "neighbours"
def absI (x : Int) : Int := if x < 0 then -x else x
def apt (ws : List Int) (i : Nat) : Int := absI (ws.getD i 0 - ws.getD (i + 1) 0)
structure Stp (ws : List Int) (k : Str) (i : Nat) : Prop where
  lt : i + 1 < ws.length
  h : (k = sTwo ∧ apt ws i = 0) ∨ (k = sFar ∧ 1 < apt ws i) ∨ (k = sNb ∧ apt ws i = 1 ∧ i + 2 < ws.length ∧ ws.getD (i + 2) 0 = ws.getD i 0)
def stpD (k : Str) (i : Int) : PyData := .tuple [.str k, .int i]
def stpsAt (ws : List Int) (i : Nat) : List PyData :=
  ((if apt ws i = 0 then [stpD sTwo i] else []) ++ (if 1 < apt ws i then [stpD sFar i] else [])) ++ (if apt ws i = 1 ∧ i + 2 < ws.length ∧ ws.getD (i + 2) 0 = ws.getD i 0 then [stpD sNb i] else [])
def stps (ws : List Int) : Nat → List PyData
  | 0 => []
  | i + 1 => stps ws i ++ stpsAt ws i
theorem stps_next {ws : List Int} {i : Nat} : stps ws (i + 1) = stps ws i ++ stpsAt ws i := rfl
theorem stpsAt_eq {ws : List Int} {i : Nat} : stpsAt ws i = ((if apt ws i = 0 then [stpD sTwo i] else []) ++ (if 1 < apt ws i then [stpD sFar i] else [])) ++ (if apt ws i = 1 ∧ i + 2 < ws.length ∧ ws.getD (i + 2) 0 = ws.getD i 0 then [stpD sNb i] else []) := rfl
theorem shp_str {k : Str} (h : (PyData.str k).canLay0 = true) : shp (.str k) := Sd.shp (n := 0) ⟨h, by simp [PyData.depth]⟩
theorem okTwo : (PyData.str sTwo).canLay0 = true := by decide +kernel
theorem okFar : (PyData.str sFar).canLay0 = true := by decide +kernel
theorem okNb : (PyData.str sNb).canLay0 = true := by decide +kernel
theorem shpTwo : shp (.str "two") := shp_str okTwo
theorem shpFar : shp (.str "far") := shp_str okFar
theorem shpNb : shp (.str "neighbours") := shp_str okNb
theorem Stp.ok {ws : List Int} {k : Str} {i : Nat} (S : Stp ws k i) : (PyData.str k).canLay0 = true := by
  rcases S.h with ⟨rfl, _⟩ | ⟨rfl, _⟩ | ⟨rfl, _⟩
  · exact okTwo
  · exact okFar
  · exact okNb
theorem Stp.shp {ws : List Int} {k : Str} {i : Nat} (S : Stp ws k i) : PP.shp (.str k) := shp_str S.ok
theorem eqv_nilL {X : List PyData} : PyData.eqv (.list X) (.list []) = X.isEmpty := by cases X <;> rfl
theorem eqv_nilT {X : List PyData} : PyData.eqv (.tuple X) (.tuple []) = X.isEmpty := by cases X <;> rfl
theorem stps_mem {ws : List Int} {d : PyData} : ∀ {j : Nat}, j + 1 ≤ ws.length ∨ j = 0 → (d ∈ stps ws j ↔ ∃ k i, i < j ∧ Stp ws k i ∧ d = stpD k i)
  | 0, _ => by
    constructor
    · intro h; cases h
    · rintro ⟨k, i, h, _⟩; omega
  | j + 1, hj => by
    unfold stps
    rw [List.mem_append, stps_mem (j := j) (.inl (by omega))]
    constructor
    · rintro (⟨k, i, h1, h2, h3⟩ | h)
      · exact ⟨k, i, by omega, h2, h3⟩
      · unfold stpsAt at h
        rcases List.mem_append.mp h with h | h
        · rcases List.mem_append.mp h with h | h
          · split at h
            · rename_i c
              rw [List.mem_singleton] at h
              exact ⟨_, j, by omega, ⟨by omega, .inl ⟨rfl, c⟩⟩, h⟩
            · cases h
          · split at h
            · rename_i c
              rw [List.mem_singleton] at h
              exact ⟨_, j, by omega, ⟨by omega, .inr (.inl ⟨rfl, c⟩)⟩, h⟩
            · cases h
        · split at h
          · rename_i c
            rw [List.mem_singleton] at h
            exact ⟨_, j, by omega, ⟨by omega, .inr (.inr ⟨rfl, c⟩)⟩, h⟩
          · cases h
    · rintro ⟨k, i, h1, h2, rfl⟩
      by_cases c : i < j
      · exact .inl ⟨k, i, c, h2, rfl⟩
      · have e : i = j := by omega
        subst e
        refine .inr ?_
        unfold stpsAt
        rcases h2.h with ⟨rfl, h⟩ | ⟨rfl, h⟩ | ⟨rfl, h⟩
        · rw [if_pos h]
          exact List.mem_append_left _ (List.mem_append_left _ List.mem_cons_self)
        · rw [if_pos h]
          exact List.mem_append_left _ (List.mem_append_right _ List.mem_cons_self)
        · rw [if_pos h]
          exact List.mem_append_right _ List.mem_cons_self
theorem stps_len {ws : List Int} : ∀ j, (stps ws j).length ≤ 3 * j
  | 0 => Nat.le_refl _
  | j + 1 => by
    unfold stps stpsAt
    have := stps_len (ws := ws) j
    simp only [List.length_append]
    (repeat' split) <;> simp only [List.length_cons, List.length_nil] <;> omega
theorem stps_form {ws : List Int} {j : Nat} (h : j + 1 ≤ ws.length ∨ j = 0) : ∀ d ∈ stps ws j, ∃ k i, d = stpD k i := fun d hd => by
  obtain ⟨k, i, _, _, e⟩ := (stps_mem h).mp hd
  exact ⟨k, i, e⟩
open PySem.W (AllAlike Sortable) in
theorem stps_sort {ws : List Int} {j : Nat} (h : j + 1 ≤ ws.length ∨ j = 0) : AllAlike (stps ws j) ∧ Sortable (stps ws j) ∧ ∀ d ∈ stps ws j, d.depth ≤ 60 := by
  refine ⟨fun d hd d' hd' => ?_, .inl fun d hd => ?_, fun d hd => ?_⟩
  · obtain ⟨k, i, rfl⟩ := stps_form h d hd
    obtain ⟨k', i', rfl⟩ := stps_form h d' hd'
    rfl
  · obtain ⟨k, i, rfl⟩ := stps_form h d hd
    exact ⟨_, _, rfl⟩
  · obtain ⟨k, i, rfl⟩ := stps_form h d hd
    show PyData.depth (.tuple [.str k, .int i]) ≤ 60
    simp [PyData.depth, PyData.depthAll]
def stepW (ws : List Int) (k : Str) (i : Nat) : List Int :=
  if k = sTwo then ws.take i ++ ws.drop (i + 1) else if k = sNb then (ws.take i ++ [ws.getD i 0]) ++ ws.drop (i + 3) else (ws.take i ++ [ws.getD (i + 1) 0, ws.getD i 0]) ++ ws.drop (i + 2)
theorem wok_get {n : Int} {ws : List Int} (W : Wok n ws) {i : Nat} (h : i < ws.length) : 0 ≤ ws.getD i 0 ∧ ws.getD i 0 < n - 1 := W _ (by
  rw [List.getD_eq_getElem?_getD, List.getElem?_eq_getElem h, Option.getD_some]; exact List.getElem_mem _)
theorem wok_app {n : Int} {a b : List Int} (A : Wok n a) (B : Wok n b) : Wok n (a ++ b) := fun x hx => (List.mem_append.mp hx).elim (A x) (B x)
theorem wok_take {n : Int} {a : List Int} (A : Wok n a) (k : Nat) : Wok n (a.take k) := fun x hx => A x (List.mem_of_mem_take hx)
theorem wok_drop {n : Int} {a : List Int} (A : Wok n a) (k : Nat) : Wok n (a.drop k) := fun x hx => A x (List.mem_of_mem_drop hx)
theorem wok_one {n x : Int} (h : 0 ≤ x ∧ x < n - 1) : Wok n [x] := fun y hy => by rw [List.mem_singleton.mp hy]; exact h
theorem wok_two {n x y : Int} (h : 0 ≤ x ∧ x < n - 1) (g : 0 ≤ y ∧ y < n - 1) : Wok n [x, y] := fun z hz => by
  rcases List.mem_cons.mp hz with rfl | hz
  · exact h
  · rw [List.mem_singleton.mp hz]; exact g
theorem wok_nil {n : Int} : Wok n [] := fun x h => (by cases h)
theorem step_wok {n : Int} {ws : List Int} {k : Str} {i : Nat} (W : Wok n ws) (S : Stp ws k i) : Wok n (stepW ws k i) ∧ (stepW ws k i).length ≤ ws.length := by
  have lt := S.lt
  have a := wok_get W (i := i) (by omega)
  have b := wok_get W (i := i + 1) (by omega)
  unfold stepW
  split
  · exact ⟨wok_app (wok_take W _) (wok_drop W _), by rw [List.length_append, List.length_take, List.length_drop]; omega⟩
  · split
    · rename_i c d
      have h3 : i + 2 < ws.length := by
        rcases S.h with ⟨e, _⟩ | ⟨e, _⟩ | ⟨_, _, h, _⟩
        · exact absurd e c
        · rw [d] at e; exact absurd e (by decide)
        · exact h
      exact ⟨wok_app (wok_app (wok_take W _) (wok_one a)) (wok_drop W _), by rw [List.length_append, List.length_append, List.length_take, List.length_drop, List.length_singleton]; omega⟩
    · exact ⟨wok_app (wok_app (wok_take W _) (wok_two b a)) (wok_drop W _), by rw [List.length_append, List.length_append, List.length_take, List.length_drop]; simp; omega⟩
def nearL (n v : Int) : List Int := [v - 1, v + 1].filter fun z => decide (0 ≤ z) && decide (z < n - 1)
theorem near_ok {n v z : Int} (h : z ∈ nearL n v) : 0 ≤ z ∧ z < n - 1 := by
  unfold nearL at h
  have := (List.mem_filter.mp h).2
  simpa using this
def spSteps : FSp := fun pvs m q => ∃ ws : List Int, pvs = [.d (.tuple (ws.map .int))] ∧ m = [] ∧ ws.length ≤ 1000 ∧ q (.ref 0) [some (.lst (srtD (stps ws (ws.length - 1))))]
def spStep2 : FSp := fun pvs m q => ∃ (ws : List Int) (k : Str) (i : Nat), pvs = [.d (.tuple (ws.map .int)), .d (stpD k i)] ∧ m = [] ∧ ws.length ≤ 1000 ∧ Stp ws k i ∧ q (.d (.tuple ((stepW ws k i).map .int))) []
def spStir : FSp := fun pvs m q => ∃ (src : List Int) (xs : List PyData) (n many most : Int) (ws : List Int), pvs = [.ref 0, .d (.int n), .d (.tuple (ws.map .int)), .d (.int many), .d (.int most)] ∧ m = [some (.lst xs)] ∧ W2 src xs ∧ 1 ≤ n ∧ n ≤ 8 ∧ 0 ≤ many ∧ many ≤ 1000 ∧ most ≤ 100 ∧ Wok n ws ∧ (ws.length : Int) ≤ most ∧
  ∀ xs' us, W2 src xs' → Wok n us → (us.length : Int) ≤ most → q (.d (.tuple (us.map .int))) [some (.lst xs')]
theorem stp_of {ws : List Int} {d : PyData} (h : d ∈ srtD (stps ws (ws.length - 1))) : ∃ k i, Stp ws k i ∧ d = stpD k i := by
  obtain ⟨k, i, _, S, e⟩ := (stps_mem (by omega)).mp (srt_mem.mp h)
  exact ⟨k, i, S, e⟩
theorem sd_stpD {k : Str} {i : Int} (h : (PyData.str k).canLay0 = true) : Sd 1 (stpD k i) := sd_tuple (n := 0) fun x hx => by
  rcases List.mem_cons.mp hx with rfl | hx
  · exact ⟨h, by simp [PyData.depth]⟩
  · rw [List.mem_singleton.mp hx]; exact sd_int
theorem shp_stps {ws : List Int} : shp (.list (srtD (stps ws (ws.length - 1)))) := (sd_list (n := 1) fun d hd => by
  obtain ⟨k, i, S, rfl⟩ := stp_of hd
  exact sd_stpD S.ok).shp
theorem getD_in {l : List Int} {i : Nat} (h : i < l.length) : l.getD i 0 ∈ l := by
  rw [List.getD_eq_getElem?_getD, List.getElem?_eq_getElem h, Option.getD_some]; exact List.getElem_mem _
theorem getD_inD {l : List PyData} {i : Nat} (h : i < l.length) : l.getD i .none ∈ l := by
  rw [List.getD_eq_getElem?_getD, List.getElem?_eq_getElem h, Option.getD_some]; exact List.getElem_mem _
theorem stps_nil {ws : List Int} (h : ws.length ≤ 1) : srtD (stps ws (ws.length - 1)) = [] := by
  rw [show ws.length - 1 = 0 by omega]
  show srtD [] = []
  exact List.mergeSort_nil
end JJ
namespace JJ
open PySem PySem.Spec PP L2 MM
def isStB (ws : List Int) (k : Str) (a : Int) : Bool :=
  if a < 0 ∨ (ws.length : Int) ≤ a + 1 then false else if k = sTwo then decide (apt ws a.toNat = 0) else if k = sFar then decide (2 ≤ apt ws a.toNat) else
    decide (k = sNb) && (decide (a + 2 < ws.length) && (decide (ws.getD a.toNat 0 = ws.getD (a.toNat + 2) 0) && decide (apt ws a.toNat = 1)))
theorem isStB_iff {ws : List Int} {k : Str} {a : Int} : isStB ws k a = true ↔ 0 ≤ a ∧ Stp ws k a.toNat := by
  unfold isStB
  by_cases c : a < 0 ∨ (ws.length : Int) ≤ a + 1
  · rw [if_pos c]
    constructor
    · intro h; cases h
    · rintro ⟨h0, S⟩
      have := S.lt
      omega
  · rw [if_neg c]
    have hl : a.toNat + 1 < ws.length := by omega
    by_cases c1 : k = sTwo
    · rw [if_pos c1, decide_eq_true_eq]
      constructor
      · intro h; exact ⟨by omega, hl, .inl ⟨c1, h⟩⟩
      · rintro ⟨h0, S⟩
        rcases S.h with ⟨_, h⟩ | ⟨e, _⟩ | ⟨e, _⟩
        · exact h
        · rw [c1] at e; exact absurd e (by decide)
        · rw [c1] at e; exact absurd e (by decide)
    · rw [if_neg c1]
      by_cases c2 : k = sFar
      · rw [if_pos c2, decide_eq_true_eq]
        constructor
        · intro h; exact ⟨by omega, hl, .inr (.inl ⟨c2, by omega⟩)⟩
        · rintro ⟨h0, S⟩
          rcases S.h with ⟨e, _⟩ | ⟨_, h⟩ | ⟨e, _⟩
          · exact absurd e c1
          · omega
          · rw [c2] at e; exact absurd e (by decide)
      · rw [if_neg c2]
        simp only [Bool.and_eq_true, decide_eq_true_eq]
        constructor
        · rintro ⟨e, h1, h2, h3⟩; exact ⟨by omega, hl, .inr (.inr ⟨e, h3, by omega, h2.symm⟩)⟩
        · rintro ⟨h0, S⟩
          rcases S.h with ⟨e, _⟩ | ⟨e, _⟩ | ⟨e, h1, h2, h3⟩
          · exact absurd e c1
          · exact absurd e c2
          · exact ⟨e, by omega, h3.symm, h1⟩
theorem nb_same {ws : List Int} {i : Nat} (S : Stp ws sNb i) : (ws.take i ++ [ws.getD i 0]) ++ ws.drop (i + 3) = ws.take i ++ ws.drop (i + 2) := by
  obtain ⟨h1, h2⟩ : i + 2 < ws.length ∧ ws.getD (i + 2) 0 = ws.getD i 0 := by
    rcases S.h with ⟨e, _⟩ | ⟨e, _⟩ | ⟨_, _, h⟩
    · exact absurd e (by decide)
    · exact absurd e (by decide)
    · exact h
  have e : ws.drop (i + 2) = ws.getD i 0 :: ws.drop (i + 3) := by
    rw [List.drop_eq_getElem_cons h1, ← h2, List.getD_eq_getElem?_getD, List.getElem?_eq_getElem h1, Option.getD_some]
  rw [e, List.append_assoc]
  rfl
abbrev mvD (p : Str × Int) : PyData := stpD p.1 p.2
def MvOk (ms : List (Str × Int)) : Prop := ∀ p ∈ ms, (PyData.str p.1).canLay0 = true
theorem mv_dl {p : Str × Int} (h : (PyData.str p.1).canLay0 = true) : Dl 3 (mvD p) := .tup (by simp) fun x hx => by
  rcases List.mem_cons.mp hx with rfl | hx
  · exact .sc rfl h (by simp [PyData.depth])
  · rw [List.mem_singleton.mp hx]; exact dl_int
def spApt : FSp := fun pvs m q => ∃ (ws : List Int) (i : Nat), pvs = [.d (.tuple (ws.map .int)), .d (.int i)] ∧ m = [] ∧ i + 1 < ws.length ∧ q (.d (.int (apt ws i))) []
def spIsStep : FSp := fun pvs m q => ∃ (ws : List Int) (k : Str) (a : Int), pvs = [.d (.tuple (ws.map .int)), .d (stpD k a)] ∧ m = [] ∧ ws.length ≤ 1000 ∧ (PyData.str k).canLay0 = true ∧ q (.d (.bool (isStB ws k a))) []
end JJ
namespace JJ
open PySem PySem.Spec PP L2 MM
theorem isStB_dec {ws : List Int} {k : Str} {a : Int} (c1 : ¬ a < 0) (c2 : ¬ (ws.length : Int) ≤ a + 1) : isStB ws k a = if k = sTwo then decide (apt ws a.toNat = 0) else if k = sFar then decide (2 ≤ apt ws a.toNat) else
    decide (k = sNb) && (decide (a + 2 < ws.length) && (decide (ws.getD a.toNat 0 = ws.getD (a.toNat + 2) 0) && decide (apt ws a.toNat = 1))) := by unfold isStB; rw [if_neg (by omega)]
theorem isStB_no {ws : List Int} {k : Str} {a : Int} (c : a < 0 ∨ (ws.length : Int) ≤ a + 1) : isStB ws k a = false := by unfold isStB; rw [if_pos c]
end JJ
namespace JJ
open PySem PySem.Spec PP L2 MM
def spSamE4 : FSp := fun pvs m q => spSam 4 pvs m q ∨ spSamC pvs m q
end JJ
namespace JJ
open PySem PySem.Spec PP L2 MM
def HK (s : Int → Int) (p q y : Int) : Int := if y = p then q else if y = q then p else E1 s p q y
theorem hk_mu {n i : Int} {ns : List Int} (i0 : 0 ≤ i) (i1 : i < n - 1) (R : Rw (n + n) ns) {y : Int} (y0 : 0 ≤ y) (y1 : y < n + n) : mu (hkd n ⟨n, n, ns⟩ i).2.ns y = HK (mu ns) (n + i) (n + i + 1) y := by
  have hl := R.len
  have a := R.sg.into (n + i) (by omega) (by omega)
  have b := R.sg.into (n + i + 1) (by omega) (by omega)
  unfold hkd HK E1
  by_cases c : mu ns (n + i) = n + i + 1
  · rw [if_pos c, if_pos c]
    have e := R.sg.inv (n + i) (by omega) (by omega)
    rw [c] at e
    dsimp only
    split
    · rename_i h; rw [h, c]
    · split
      · rename_i h; rw [h, e]
      · rfl
  · rw [if_neg c]
    dsimp only
    unfold hkRow
    rw [mu_set (by omega) (by simp only [List.length_set]; omega) y0, mu_set (by omega) (by simp only [List.length_set]; omega) y0, mu_set b.1 (by simp only [List.length_set]; omega) y0, mu_set a.1 (by omega) y0]
    have sa := R.sg.inv (n + i) (by omega) (by omega)
    have sb := R.sg.inv (n + i + 1) (by omega) (by omega)
    have na := R.sg.ne (n + i) (by omega) (by omega)
    rw [if_neg c]
    generalize mu ns (n + i) = z at *
    generalize hw : mu ns (n + i + 1) = w at *
    by_cases h1 : y = n + i
    · have h2 : ¬ y = n + i + 1 := by omega
      simp only [if_pos h1, if_neg h2]
    · by_cases h2 : y = n + i + 1
      · simp only [if_pos h2, if_neg h1]
      · by_cases h3 : y = z
        · have h4 : ¬ y = w := fun h4 => by
            rw [← h3, h4, sb] at sa
            omega
          simp only [if_neg h1, if_neg h2, if_pos h3, if_neg h4]
        · by_cases h4 : y = w
          · simp only [if_neg h1, if_neg h2, if_neg h3, if_pos h4]
          · simp only [if_neg h1, if_neg h2, if_neg h3, if_neg h4]
theorem hk_one {n i : Int} {ns : List Int} : (hkd n ⟨n, n, ns⟩ i).1 = r1 (mu ns) (n + i) (n + i + 1) := by
  unfold hkd r1
  split <;> rfl
theorem hk_two {n i : Int} {ns : List Int} (i0 : 0 ≤ i) (i1 : i < n - 1) (R : Rw (n + n) ns) : ∃ rs, hkd n ⟨n, n, ns⟩ i = (r1 (mu ns) (n + i) (n + i + 1), ⟨n, n, rs⟩) ∧ Rw (n + n) rs ∧ ∀ y, 0 ≤ y → y < n + n → mu rs y = HK (mu ns) (n + i) (n + i + 1) y := by
  obtain ⟨rs, e, R2⟩ := hkd_rw i0 i1 R
  refine ⟨rs, Prod.ext hk_one e, R2, fun y y0 y1 => ?_⟩
  rw [← hk_mu i0 i1 R y0 y1, e]
def foldH (n : Int) (M : M3) (l : List Int) : Int × M3 := l.foldl (stH n) (0, M)
theorem foldH_from {n : Int} : ∀ {l : List Int} {r : Int} {M : M3}, l.foldl (stH n) (r, M) = (r + (foldH n M l).1, (foldH n M l).2)
  | [], r, M => by show (r, M) = (r + 0, M); rw [Int.add_zero]
  | i :: l, r, M => by
    show l.foldl (stH n) (r + (hkd n M i).1, (hkd n M i).2) = (r + (l.foldl (stH n) (0 + (hkd n M i).1, (hkd n M i).2)).1, (l.foldl (stH n) (0 + (hkd n M i).1, (hkd n M i).2)).2)
    rw [foldH_from (l := l) (r := r + _), foldH_from (l := l) (r := 0 + _)]
    refine Prod.ext ?_ rfl
    dsimp only
    omega
theorem val_three {n : Int} {u x v : List Int} : valJ n ((u ++ x) ++ v) = ((valJ n u).1 + (foldH n (valJ n u).2 x).1 + (foldH n (foldH n (valJ n u).2 x).2 v).1, (foldH n (foldH n (valJ n u).2 x).2 v).2) := by
  unfold valJ
  rw [List.foldl_append, List.foldl_append]
  generalize u.foldl (stH n) (0, ⟨n, n, stR n⟩) = a
  obtain ⟨r, M⟩ := a
  rw [foldH_from (l := x), foldH_from (l := v)]
theorem foldH_cons {n i : Int} {M : M3} {l : List Int} : foldH n M (i :: l) = ((hkd n M i).1 + (foldH n (hkd n M i).2 l).1, (foldH n (hkd n M i).2 l).2) := by
  show l.foldl (stH n) (0 + (hkd n M i).1, (hkd n M i).2) = _
  rw [foldH_from]
  refine Prod.ext ?_ rfl
  dsimp only
  omega
theorem foldH_nil {n : Int} {M : M3} : foldH n M [] = (0, M) := rfl
section
variable {n a b : Int} {ns : List Int} (a0 : 0 ≤ a) (a1 : a < n - 1) (b0 : 0 ≤ b) (b1 : b < n - 1) (R : Rw (n + n) ns)
include a0 a1 R
theorem mid_two : foldH n ⟨n, n, ns⟩ [a, a] = ((foldH n ⟨n, n, ns⟩ [a]).1 + 1, (foldH n ⟨n, n, ns⟩ [a]).2) := by
  obtain ⟨rs, e, R2, h⟩ := hk_two a0 a1 R
  have e2 : mu rs (n + a) = n + a + 1 := by
    rw [h _ (by omega) (by omega)]
    unfold HK
    rw [if_pos rfl]
  have e3 : hkd n ⟨n, n, rs⟩ a = (1, ⟨n, n, rs⟩) := by
    show (if mu rs (n + a) = n + a + 1 then _ else _) = _
    rw [if_pos e2]
  simp only [e, e3, foldH_cons, foldH_nil]
  refine Prod.ext ?_ rfl
  dsimp only
  omega
include b0 b1
theorem mid_far (hab : 1 < absI (a - b)) : foldH n ⟨n, n, ns⟩ [a, b] = foldH n ⟨n, n, ns⟩ [b, a] := by
  have hd : a + 1 < b ∨ b + 1 < a := by unfold absI at hab; split at hab <;> omega
  obtain ⟨r1_, e1, R1, h1⟩ := hk_two a0 a1 R
  obtain ⟨r2_, e2, R2, h2⟩ := hk_two b0 b1 R
  obtain ⟨r3_, e3, R3, h3⟩ := hk_two b0 b1 R1
  obtain ⟨r4_, e4, R4, h4⟩ := hk_two a0 a1 R2
  rw [foldH_cons, foldH_cons, e1, foldH_cons (i := b), foldH_cons (i := a), e2, e3, e4, foldH_nil, foldH_nil]
  have S := sg_iv R.sg
  have dp : 0 ≤ n + a ∧ n + a < n + n := by omega
  have dq : 0 ≤ n + a + 1 ∧ n + a + 1 < n + n := by omega
  have dp' : 0 ≤ n + b ∧ n + b < n + n := by omega
  have dq' : 0 ≤ n + b + 1 ∧ n + b + 1 < n + n := by omega
  have at1 : ∀ y, y ≠ n + a → y ≠ n + a + 1 → HK (mu ns) (n + a) (n + a + 1) y = E1 (mu ns) (n + a) (n + a + 1) y := fun y u v => by unfold HK; rw [if_neg u, if_neg v]
  have at2 : ∀ y, y ≠ n + b → y ≠ n + b + 1 → HK (mu ns) (n + b) (n + b + 1) y = E1 (mu ns) (n + b) (n + b + 1) y := fun y u v => by unfold HK; rw [if_neg u, if_neg v]
  have V1 := e1_iv S dp dq (by omega)
  have V2 := e1_iv S dp' dq' (by omega)
  refine Prod.ext ?_ ?_
  · dsimp only
    have c := r1_comm S dp dq dp' dq' (by omega) (by omega) (by omega) (by omega) (by omega) (by omega)
    have x1 : r1 (mu r1_) (n + b) (n + b + 1) = r1 (E1 (mu ns) (n + a) (n + a + 1)) (n + b) (n + b + 1) := by unfold r1; rw [h1 _ dp'.1 dp'.2, at1 _ (by omega) (by omega)]
    have x2 : r1 (mu r2_) (n + a) (n + a + 1) = r1 (E1 (mu ns) (n + b) (n + b + 1)) (n + a) (n + a + 1) := by unfold r1; rw [h2 _ dp.1 dp.2, at2 _ (by omega) (by omega)]
    rw [x1, x2]
    omega
  · have e9 : r3_ = r4_ := row_ext R3.len R4.len fun y y0 y1 => by
      rw [h3 y y0 y1, h4 y y0 y1]
      by_cases c1 : y = n + b
      · subst c1
        have g1 : mu r2_ (n + b) = n + b + 1 := by rw [h2 _ dp'.1 dp'.2]; unfold HK; rw [if_pos rfl]
        have g2 := (V2.into (n + a) ⟨dp, by omega, by omega⟩).2
        have g3 := (V2.into (n + a + 1) ⟨dq, by omega, by omega⟩).2
        unfold HK
        rw [if_pos rfl, if_neg (by omega), if_neg (by omega)]
        unfold E1
        rw [h2 _ dp.1 dp.2, h2 _ dq.1 dq.2, at2 _ (by omega) (by omega), at2 _ (by omega) (by omega), g1, if_neg (Ne.symm g2.1), if_neg (Ne.symm g3.1)]
        split <;> rfl
      by_cases c2 : y = n + b + 1
      · subst c2
        have g1 : mu r2_ (n + b + 1) = n + b := by rw [h2 _ dq'.1 dq'.2]; unfold HK; rw [if_neg (by omega), if_pos rfl]
        have g2 := (V2.into (n + a) ⟨dp, by omega, by omega⟩).2
        have g3 := (V2.into (n + a + 1) ⟨dq, by omega, by omega⟩).2
        unfold HK
        rw [if_neg (by omega), if_pos rfl, if_neg (by omega), if_neg (by omega)]
        unfold E1
        rw [h2 _ dp.1 dp.2, h2 _ dq.1 dq.2, at2 _ (by omega) (by omega), at2 _ (by omega) (by omega), g1, if_neg (Ne.symm g2.2), if_neg (Ne.symm g3.2)]
        split <;> rfl
      by_cases c3 : y = n + a
      · subst c3
        have g1 : mu r1_ (n + a) = n + a + 1 := by rw [h1 _ dp.1 dp.2]; unfold HK; rw [if_pos rfl]
        have g2 := (V1.into (n + b) ⟨dp', by omega, by omega⟩).2
        have g3 := (V1.into (n + b + 1) ⟨dq', by omega, by omega⟩).2
        unfold HK
        rw [if_neg (by omega), if_neg (by omega), if_pos rfl]
        unfold E1
        rw [h1 _ dp'.1 dp'.2, h1 _ dq'.1 dq'.2, at1 _ (by omega) (by omega), at1 _ (by omega) (by omega), g1, if_neg (Ne.symm g2.1), if_neg (Ne.symm g3.1)]
        split <;> rfl
      by_cases c4 : y = n + a + 1
      · subst c4
        have g1 : mu r1_ (n + a + 1) = n + a := by rw [h1 _ dq.1 dq.2]; unfold HK; rw [if_neg (by omega), if_pos rfl]
        have g2 := (V1.into (n + b) ⟨dp', by omega, by omega⟩).2
        have g3 := (V1.into (n + b + 1) ⟨dq', by omega, by omega⟩).2
        unfold HK
        rw [if_neg (by omega), if_neg (by omega), if_neg (by omega), if_pos rfl]
        unfold E1
        rw [h1 _ dp'.1 dp'.2, h1 _ dq'.1 dq'.2, at1 _ (by omega) (by omega), at1 _ (by omega) (by omega), g1, if_neg (Ne.symm g2.2), if_neg (Ne.symm g3.2)]
        split <;> rfl
      have c := e1_comm S dp dq dp' dq' (x := y) ⟨y0, y1⟩ (by omega) (by omega) (by omega) (by omega) (by omega) (by omega) c3 c4 c1 c2
      have x1 : HK (mu r1_) (n + b) (n + b + 1) y = E1 (E1 (mu ns) (n + a) (n + a + 1)) (n + b) (n + b + 1) y := by
        unfold HK
        rw [if_neg c1, if_neg c2]
        rw [show E1 (mu r1_) (n + b) (n + b + 1) y = E1 (E1 (mu ns) (n + a) (n + a + 1)) (n + b) (n + b + 1) y from e1_congr (by rw [h1 _ dp'.1 dp'.2, at1 _ (by omega) (by omega)]) (by rw [h1 _ dq'.1 dq'.2, at1 _ (by omega) (by omega)]) (by rw [h1 _ y0 y1, at1 _ c3 c4])]
      have x2 : HK (mu r2_) (n + a) (n + a + 1) y = E1 (E1 (mu ns) (n + b) (n + b + 1)) (n + a) (n + a + 1) y := by
        unfold HK
        rw [if_neg c3, if_neg c4]
        rw [show E1 (mu r2_) (n + a) (n + a + 1) y = E1 (E1 (mu ns) (n + b) (n + b + 1)) (n + a) (n + a + 1) y from e1_congr (by rw [h2 _ dp.1 dp.2, at2 _ (by omega) (by omega)]) (by rw [h2 _ dq.1 dq.2, at2 _ (by omega) (by omega)]) (by rw [h2 _ y0 y1, at2 _ c1 c2])]
      rw [x1, x2, c]
    dsimp only
    rw [e9]
theorem mid_nb (hab : absI (a - b) = 1) : foldH n ⟨n, n, ns⟩ [a, b, a] = foldH n ⟨n, n, ns⟩ [a] := by
  have hd : b = a + 1 ∨ a = b + 1 := by unfold absI at hab; split at hab <;> omega
  obtain ⟨r1_, e1, R1, h1⟩ := hk_two a0 a1 R
  obtain ⟨r2_, e2, R2, h2⟩ := hk_two b0 b1 R1
  obtain ⟨r3_, e3, R3, h3⟩ := hk_two a0 a1 R2
  have g1 : mu r1_ (n + a) = n + a + 1 := by rw [h1 _ (by omega) (by omega)]; unfold HK; rw [if_pos rfl]
  have g2 : mu r1_ (n + a + 1) = n + a := by rw [h1 _ (by omega) (by omega)]; unfold HK; rw [if_neg (by omega), if_pos rfl]
  have I := R1.sg
  rcases hd with rfl | rfl
  · have q1 : mu r2_ (n + a) = mu r1_ (n + a + 2) := by
      rw [h2 _ (by omega) (by omega)]
      unfold HK E1
      rw [if_neg (by omega), if_neg (by omega), show n + (a + 1) = n + a + 1 by omega, g2, if_neg (by omega), if_pos rfl, show n + a + 1 + 1 = n + a + 2 by omega]
    have q2 : mu r2_ (n + a + 1) = n + a + 2 := by
      rw [h2 _ (by omega) (by omega)]
      unfold HK
      rw [if_pos (by omega)]; omega
    have t0 := I.into (n + a + 2) (by omega) (by omega)
    have t1 := I.ne (n + a + 2) (by omega) (by omega)
    have t2 := I.inv (n + a + 2) (by omega) (by omega)
    have t3 : mu r1_ (n + a + 2) ≠ n + a + 1 := fun z => by rw [z, g2] at t2; omega
    have t4 : mu r1_ (n + a + 2) ≠ n + a := fun z => by rw [z, g1] at t2; omega
    rw [foldH_cons, foldH_cons, e1, e2, foldH_cons, e3, foldH_nil, foldH_cons, e1, foldH_nil]
    have z1 : r1 (mu r1_) (n + (a + 1)) (n + (a + 1) + 1) = 0 := by unfold r1; rw [show n + (a + 1) = n + a + 1 by omega, g2, if_neg (by omega)]
    have z2 : r1 (mu r2_) (n + a) (n + a + 1) = 0 := by unfold r1; rw [q1, if_neg t3]
    refine Prod.ext ?_ ?_
    · dsimp only
      rw [z1, z2]
      omega
    · have e9 : r3_ = r1_ := row_ext R3.len R1.len fun y y0 y1 => by
        rw [h3 y y0 y1]
        unfold HK E1
        by_cases c1 : y = n + a
        · rw [if_pos c1, c1, g1]
        rw [if_neg c1]
        by_cases c2 : y = n + a + 1
        · rw [if_pos c2, c2, g2]
        rw [if_neg c2, q1, q2, if_neg t3]
        by_cases c3 : y = mu r1_ (n + a + 2)
        · rw [if_pos c3, c3, t2]
        rw [if_neg c3]
        by_cases c4 : y = n + a + 2
        · rw [if_pos c4, c4]
        rw [if_neg c4, h2 y y0 y1]
        unfold HK E1
        rw [if_neg (by omega), if_neg (by omega), show n + (a + 1) = n + a + 1 by omega, g2, if_neg (by omega), if_neg c1, show n + a + 1 + 1 = n + a + 2 by omega, if_neg c3]
      dsimp only
      rw [e9]
  · have q1 : mu r2_ (n + (b + 1) + 1) = mu r1_ (n + b) := by
      rw [h2 _ (by omega) (by omega)]
      unfold HK E1
      have g3 : mu r1_ (n + b + 1) = n + (b + 1) + 1 := by rw [← g1]; congr 1; omega
      have w1 : mu r1_ (n + b) ≠ n + b + 1 := fun z => by
        have w := I.inv (n + b) (by omega) (by omega)
        rw [z, g3] at w
        omega
      rw [if_neg (by omega), if_neg (by omega), g3, if_neg w1]
      by_cases w2 : n + (b + 1) + 1 = mu r1_ (n + b)
      · exfalso
        have w := I.inv (n + b) (by omega) (by omega)
        rw [← w2, g2] at w
        omega
      · rw [if_neg w2, if_pos rfl]
    have q2 : mu r2_ (n + (b + 1)) = n + b := by
      rw [h2 _ (by omega) (by omega)]
      unfold HK
      rw [if_neg (by omega), if_pos (by omega)]
    have t0 := I.into (n + b) (by omega) (by omega)
    have t1 := I.ne (n + b) (by omega) (by omega)
    have t2 := I.inv (n + b) (by omega) (by omega)
    have t3 : mu r1_ (n + b) ≠ n + (b + 1) + 1 := fun z => by rw [z, g2] at t2; omega
    have t4 : mu r1_ (n + b) ≠ n + (b + 1) := fun z => by rw [z, g1] at t2; omega
    rw [foldH_cons, foldH_cons, e1, e2, foldH_cons, e3, foldH_nil, foldH_cons, e1, foldH_nil]
    have z1 : r1 (mu r1_) (n + b) (n + b + 1) = 0 := by unfold r1; rw [if_neg (by omega)]
    have z2 : r1 (mu r2_) (n + (b + 1)) (n + (b + 1) + 1) = 0 := by unfold r1; rw [q2, if_neg (by omega)]
    refine Prod.ext ?_ ?_
    · dsimp only
      rw [z1, z2]
      omega
    · have e9 : r3_ = r1_ := row_ext R3.len R1.len fun y y0 y1 => by
        rw [h3 y y0 y1]
        unfold HK E1
        by_cases c1 : y = n + (b + 1)
        · rw [if_pos c1, c1, g1]
        rw [if_neg c1]
        by_cases c2 : y = n + (b + 1) + 1
        · rw [if_pos c2, c2, g2]
        rw [if_neg c2, q1, q2, if_neg (by omega)]
        by_cases c3 : y = n + b
        · rw [if_pos c3, c3]
        rw [if_neg c3]
        by_cases c4 : y = mu r1_ (n + b)
        · rw [if_pos c4, c4, t2]
        rw [if_neg c4, h2 y y0 y1]
        have g3 : mu r1_ (n + b + 1) = n + (b + 1) + 1 := by rw [← g1]; congr 1; omega
        unfold HK E1
        rw [if_neg c3, if_neg (by omega), g3, if_neg (by omega), if_neg c4, if_neg c2]
      dsimp only
      rw [e9]
end
theorem step_val {n : Int} {ws : List Int} {k : Str} {i : Nat} (h : 0 < n) (W : Wok n ws) (S : Stp ws k i) : valJ n (stepW ws k i) = ((valJ n ws).1 - (if k = sTwo then 1 else 0), (valJ n ws).2) := by
  have lt := S.lt
  have wa := wok_get W (i := i) (by omega)
  have wb := wok_get W (i := i + 1) (by omega)
  obtain ⟨rs, eu, R⟩ := val_rw h _ rfl (wok_take W i)
  have d1 : ws.drop i = ws.getD i 0 :: ws.drop (i + 1) := by rw [List.drop_eq_getElem_cons (by omega), List.getD_eq_getElem?_getD, List.getElem?_eq_getElem (by omega), Option.getD_some]
  have d2 : ws.drop (i + 1) = ws.getD (i + 1) 0 :: ws.drop (i + 2) := by rw [List.drop_eq_getElem_cons (by omega), List.getD_eq_getElem?_getD, List.getElem?_eq_getElem (by omega), Option.getD_some]
  have e2 : ws = (ws.take i ++ [ws.getD i 0, ws.getD (i + 1) 0]) ++ ws.drop (i + 2) := by
    rw [List.append_assoc, show [ws.getD i 0, ws.getD (i + 1) 0] ++ ws.drop (i + 2) = ws.drop i by rw [d1, d2]; rfl, List.take_append_drop]
  unfold stepW
  rcases S.h with ⟨rfl, ha⟩ | ⟨rfl, ha⟩ | ⟨rfl, ha, h3, h4⟩
  · rw [if_pos rfl, if_pos rfl]
    have eab : ws.getD (i + 1) 0 = ws.getD i 0 := by unfold apt absI at ha; split at ha <;> omega
    have e3 : ws.take i ++ ws.drop (i + 1) = (ws.take i ++ [ws.getD i 0]) ++ ws.drop (i + 2) := by rw [d2, eab, List.append_assoc]; rfl
    rw [e3, val_three]
    conv => rhs; rw [e2, val_three]
    rw [eab, eu, mid_two wa.1 wa.2 R]
    refine Prod.ext ?_ rfl
    dsimp only
    omega
  · rw [if_neg (by decide), if_neg (by decide), if_neg (by decide), val_three]
    conv => rhs; rw [e2, val_three]
    rw [eu, mid_far wa.1 wa.2 wb.1 wb.2 R ha]
    refine Prod.ext ?_ rfl
    dsimp only
    omega
  · rw [if_neg (by decide), if_pos rfl, if_neg (by decide), val_three]
    have d3 : ws.drop (i + 2) = ws.getD i 0 :: ws.drop (i + 3) := by rw [List.drop_eq_getElem_cons h3, ← h4, List.getD_eq_getElem?_getD, List.getElem?_eq_getElem h3, Option.getD_some]
    have e3 : ws = (ws.take i ++ [ws.getD i 0, ws.getD (i + 1) 0, ws.getD i 0]) ++ ws.drop (i + 3) := by
      conv => lhs; rw [e2, d3]
      rw [List.append_assoc, List.append_assoc]
      rfl
    conv => rhs; rw [e3, val_three]
    rw [eu, mid_nb wa.1 wa.2 wb.1 wb.2 R ha]
    refine Prod.ext ?_ rfl
    dsimp only
    omega
end JJ
namespace JJ
open PySem PySem.Spec PP L2 MM
open PySem.W (AllAlike Sortable dataLe dataLt alike)
def toldK (k : Str) (n : Nat) : List (Str × Int) := (List.range n).map fun i : Nat => (k, (i : Int))
def kindAt (i : Nat) : Str := if i = 0 then sFar else if i = 1 then sNb else sTwo
def told (n i : Nat) : List (Str × Int) := (List.range i).flatMap fun a => toldK (kindAt a) n
theorem told_next {n i : Nat} : told n (i + 1) = told n i ++ toldK (kindAt i) n := by
  unfold told
  rw [List.range_succ, List.flatMap_append, List.flatMap_singleton]
theorem toldK_next {k : Str} {n : Nat} : toldK k (n + 1) = toldK k n ++ [(k, (n : Int))] := by
  unfold toldK
  rw [List.range_succ, List.map_append]
  rfl
theorem toldK_len {k : Str} {n : Nat} : (toldK k n).length = n := by unfold toldK; rw [List.length_map, List.length_range]
theorem told_len {n : Nat} : ∀ {i : Nat}, (told n i).length = i * n
  | 0 => by rw [Nat.zero_mul]; rfl
  | i + 1 => by rw [told_next, List.length_append, told_len, toldK_len, Nat.succ_mul]
def Knd (k : Str) : Prop := k = sFar ∨ k = sNb ∨ k = sTwo
theorem kind_knd {i : Nat} : Knd (kindAt i) := by
  unfold kindAt
  split
  · exact .inl rfl
  · split
    · exact .inr (.inl rfl)
    · exact .inr (.inr rfl)
theorem told_mem {n i : Nat} {p : Str × Int} : p ∈ told n i ↔ ∃ a j : Nat, a < i ∧ j < n ∧ p = (kindAt a, (j : Int)) := by
  unfold told toldK
  simp only [List.mem_flatMap, List.mem_map, List.mem_range]
  constructor
  · rintro ⟨a, ha, j, hj, rfl⟩; exact ⟨a, j, ha, hj, rfl⟩
  · rintro ⟨a, j, ha, hj, rfl⟩; exact ⟨a, ha, j, hj, rfl⟩
theorem told_ok {n i : Nat} : MvOk (told n i) := fun p hp => by
  obtain ⟨a, j, _, _, rfl⟩ := told_mem.mp hp
  rcases kind_knd (i := a) with e | e | e <;> dsimp only <;> rw [e]
  · exact okFar
  · exact okNb
  · exact okTwo
def pStps (ws : List Int) : List (Str × Int) := (told ws.length 3).filter fun p => isStB ws p.1 p.2
theorem alike_int {a b : Int} : alike (.int a) (.int b) = true := rfl
theorem alike_str {a b : Str} : alike (.str a) (.str b) = true := rfl
theorem lt_stp {k k' : Str} {a b : Int} : dataLt (stpD k a) (stpD k' b) = if k = k' then decide (a < b) else dataLt (.str k) (.str k') := by
  unfold stpD
  rw [PySem.W.dataLt_pair alike_str alike_int]
  rw [show PyData.eqv (.str k) (.str k') = decide (k = k') from by rw [Bool.eq_iff_iff, decide_eq_true_eq]; exact beq_iff_eq]
  rw [show PyData.eqv (.int a) (.int b) = decide (a = b) from by rw [Bool.eq_iff_iff, decide_eq_true_eq]; exact beq_iff_eq]
  rw [PySem.W.dataLt_int]
  simp only [decide_eq_true_eq]
  split
  · split
    · symm; rw [decide_eq_false_iff_not]; omega
    · rfl
  · rfl
theorem kl1 : dataLt (.str sFar) (.str sNb) = true := by rw [PySem.W.dataLt_str]; decide +kernel
theorem kl2 : dataLt (.str sFar) (.str sTwo) = true := by rw [PySem.W.dataLt_str]; decide +kernel
theorem kl3 : dataLt (.str sNb) (.str sTwo) = true := by rw [PySem.W.dataLt_str]; decide +kernel
theorem kg1 : dataLt (.str sNb) (.str sFar) = false := by rw [PySem.W.dataLt_str]; decide +kernel
theorem kg2 : dataLt (.str sTwo) (.str sFar) = false := by rw [PySem.W.dataLt_str]; decide +kernel
theorem kg3 : dataLt (.str sTwo) (.str sNb) = false := by rw [PySem.W.dataLt_str]; decide +kernel
theorem kn12 : ¬ sFar = sNb := by decide
theorem kn13 : ¬ sFar = sTwo := by decide
theorem kn23 : ¬ sNb = sTwo := by decide
theorem lt_tri {k k' : Str} {a b : Int} (h : Knd k) (g : Knd k') (x : dataLt (stpD k a) (stpD k' b) = false) (y : dataLt (stpD k' b) (stpD k a) = false) : k = k' ∧ a = b := by
  rw [lt_stp] at x y
  by_cases e : k = k'
  · subst e
    rw [if_pos rfl, decide_eq_false_iff_not] at x y
    exact ⟨rfl, by omega⟩
  · exfalso
    rw [if_neg e] at x
    rw [if_neg (fun z => e z.symm)] at y
    rcases h with rfl | rfl | rfl <;> rcases g with rfl | rfl | rfl
    · exact e rfl
    · rw [kl1] at x; cases x
    · rw [kl2] at x; cases x
    · rw [kl1] at y; cases y
    · exact e rfl
    · rw [kl3] at x; cases x
    · rw [kl2] at y; cases y
    · rw [kl3] at y; cases y
    · exact e rfl
theorem lt_not {k k' : Str} {a b : Int} (h : Knd k) (g : Knd k') (x : dataLt (stpD k a) (stpD k' b) = true) : dataLt (stpD k' b) (stpD k a) = false := by
  rw [lt_stp] at x ⊢
  by_cases e : k = k'
  · subst e
    rw [if_pos rfl] at x ⊢
    rw [decide_eq_true_eq] at x
    rw [decide_eq_false_iff_not]
    omega
  · rw [if_neg e] at x
    rw [if_neg (fun z => e z.symm)]
    rcases h with rfl | rfl | rfl <;> rcases g with rfl | rfl | rfl
    · exact absurd rfl e
    · exact kg1
    · exact kg2
    · rw [kg1] at x; cases x
    · exact absurd rfl e
    · exact kg3
    · rw [kg2] at x; cases x
    · rw [kg3] at x; cases x
    · exact absurd rfl e
def LtM (p q : Str × Int) : Prop := dataLt (mvD p) (mvD q) = true
theorem ltK {k : Str} {n : Nat} : (toldK k n).Pairwise LtM := by
  unfold toldK
  rw [List.pairwise_map]
  refine List.pairwise_lt_range.imp fun {i j} h => ?_
  show dataLt (stpD k i) (stpD k j) = true
  rw [lt_stp, if_pos rfl, decide_eq_true_eq]
  omega
theorem ltKK {k k' : Str} {n : Nat} (h : dataLt (.str k) (.str k') = true) (ne : ¬ k = k') : ∀ p ∈ toldK k n, ∀ q ∈ toldK k' n, LtM p q := fun p hp q hq => by
  unfold toldK at hp hq
  obtain ⟨i, _, rfl⟩ := List.mem_map.mp hp
  obtain ⟨j, _, rfl⟩ := List.mem_map.mp hq
  show dataLt (stpD k i) (stpD k' j) = true
  rw [lt_stp, if_neg ne]
  exact h
theorem told_lt {n : Nat} : (told n 3).Pairwise LtM := by
  have e : told n 3 = (toldK sFar n ++ toldK sNb n) ++ toldK sTwo n := by
    rw [told_next, told_next, told_next]
    rfl
  rw [e]
  refine List.pairwise_append.mpr ⟨List.pairwise_append.mpr ⟨ltK, ltK, ltKK kl1 kn12⟩, ltK, fun p hp q hq => ?_⟩
  rcases List.mem_append.mp hp with hp | hp
  · exact ltKK kl2 kn13 p hp q hq
  · exact ltKK kl3 kn23 p hp q hq
theorem pStps_lt {ws : List Int} : (pStps ws).Pairwise LtM := told_lt.filter _
theorem pStps_mem {ws : List Int} {p : Str × Int} : p ∈ pStps ws ↔ ∃ i : Nat, Stp ws p.1 i ∧ p.2 = i := by
  unfold pStps
  rw [List.mem_filter, isStB_iff, told_mem]
  constructor
  · rintro ⟨⟨a, j, _, _, rfl⟩, h0, S⟩
    exact ⟨j, by dsimp only at S ⊢; rwa [Int.toNat_natCast] at S, rfl⟩
  · rintro ⟨i, S, e⟩
    obtain ⟨k, x⟩ := p
    dsimp only at S e ⊢
    subst e
    refine ⟨?_, by omega, by rw [Int.toNat_natCast]; exact S⟩
    have := S.lt
    rcases S.h with ⟨rfl, _⟩ | ⟨rfl, _⟩ | ⟨rfl, _⟩
    · exact ⟨2, i, by omega, by omega, rfl⟩
    · exact ⟨0, i, by omega, by omega, rfl⟩
    · exact ⟨1, i, by omega, by omega, rfl⟩
theorem stp_knd {ws : List Int} {k : Str} {i : Nat} (S : Stp ws k i) : Knd k := by
  rcases S.h with ⟨rfl, _⟩ | ⟨rfl, _⟩ | ⟨rfl, _⟩
  · exact .inr (.inr rfl)
  · exact .inl rfl
  · exact .inr (.inl rfl)
theorem stp_inj {k k' : Str} {a b : Int} (e : stpD k a = stpD k' b) : k = k' ∧ a = b := by
  unfold stpD at e
  injection e with e
  injection e with e1 e2
  injection e1 with e1
  injection e2 with e2 _
  injection e2 with e2
  exact ⟨e1, e2⟩
theorem stpsAt_nd {ws : List Int} {i : Nat} : (stpsAt ws i).Nodup := by
  unfold stpsAt
  by_cases a : apt ws i = 0
  · rw [if_pos a, if_neg (by omega), if_neg (by omega)]
    simp
  · rw [if_neg a]
    by_cases b : 1 < apt ws i
    · rw [if_pos b, if_neg (by omega)]
      simp
    · rw [if_neg b]
      split <;> simp
theorem stpsAt_mem {ws : List Int} {i : Nat} {d : PyData} (h : d ∈ stpsAt ws i) : ∃ k, d = stpD k i := by
  unfold stpsAt at h
  rcases List.mem_append.mp h with h | h
  · rcases List.mem_append.mp h with h | h
    · split at h
      · rw [List.mem_singleton] at h; exact ⟨_, h⟩
      · cases h
    · split at h
      · rw [List.mem_singleton] at h; exact ⟨_, h⟩
      · cases h
  · split at h
    · rw [List.mem_singleton] at h; exact ⟨_, h⟩
    · cases h
theorem stps_nd {ws : List Int} : ∀ {j : Nat}, (stps ws j).Nodup ∧ ∀ d ∈ stps ws j, ∃ k i, d = stpD k ((i : Nat) : Int) ∧ i < j
  | 0 => ⟨List.nodup_nil, fun d hd => by cases hd⟩
  | j + 1 => by
    obtain ⟨h1, h2⟩ := stps_nd (ws := ws) (j := j)
    unfold stps
    refine ⟨List.nodup_append.mpr ⟨h1, stpsAt_nd, fun x hx y hy e => ?_⟩, fun d hd => ?_⟩
    · obtain ⟨k, i, rfl, hi⟩ := h2 x hx
      obtain ⟨k', e'⟩ := stpsAt_mem hy
      have := (stp_inj (e.trans e')).2
      omega
    · rcases List.mem_append.mp hd with hd | hd
      · obtain ⟨k, i, e, hi⟩ := h2 d hd
        exact ⟨k, i, e, by omega⟩
      · obtain ⟨k, e⟩ := stpsAt_mem hd
        exact ⟨k, j, e, by omega⟩
theorem srt_steps {ws : List Int} : srtD (stps ws (ws.length - 1)) = (pStps ws).map mvD := by
  have T := PySem.W.sortLe_total (PyProof.Rows.listOrd PyProof.Rows.itemOrd) false (fun b : PyData => PySem.W.keyToks b)
  have P1 : (srtD (stps ws (ws.length - 1))).Pairwise fun a b => dataLe false id a b = true := List.pairwise_mergeSort (fun a b c => T.trans a b c) (fun a b => by have := T.total a b; simpa using this) _
  have kn : ∀ p ∈ pStps ws, Knd p.1 := fun p hp => by
    obtain ⟨i, S, _⟩ := pStps_mem.mp hp
    exact stp_knd S
  have P2 : ((pStps ws).map mvD).Pairwise fun a b => dataLe false id a b = true := by
    rw [List.pairwise_map]
    refine pStps_lt.imp_of_mem fun {p q} hp hq h => ?_
    show (!dataLt (mvD q) (mvD p)) = true
    rw [show dataLt (mvD q) (mvD p) = false from lt_not (kn p hp) (kn q hq) h]
    rfl
  have N2 : ((pStps ws).map mvD).Nodup := by
    unfold List.Nodup
    rw [List.pairwise_map]
    refine pStps_lt.imp_of_mem fun {p q} hp hq h e => ?_
    have l : dataLt (mvD p) (mvD q) = true := h
    have l2 : dataLt (mvD q) (mvD p) = false := lt_not (kn p hp) (kn q hq) l
    have e2 : mvD p = mvD q := e
    rw [e2] at l l2
    rw [l] at l2
    cases l2
  have N1 : (srtD (stps ws (ws.length - 1))).Nodup := ((List.mergeSort_perm _ _).nodup_iff).mpr stps_nd.1
  have mem : ∀ d, d ∈ srtD (stps ws (ws.length - 1)) ↔ d ∈ (pStps ws).map mvD := fun d => by
    rw [srt_mem, stps_mem (by omega), List.mem_map]
    constructor
    · rintro ⟨k, i, hi, S, rfl⟩
      exact ⟨(k, (i : Int)), pStps_mem.mpr ⟨i, S, rfl⟩, rfl⟩
    · rintro ⟨p, hp, rfl⟩
      obtain ⟨i, S, e⟩ := pStps_mem.mp hp
      refine ⟨p.1, i, by have := S.lt; omega, S, ?_⟩
      show stpD p.1 p.2 = _
      rw [e]
  refine List.Perm.eq_of_pairwise (fun a b ha hb x y => ?_) P1 P2 ((List.perm_ext_iff_of_nodup N1 N2).mpr mem)
  obtain ⟨p, hp, rfl⟩ := List.mem_map.mp ((mem a).mp ha)
  obtain ⟨q, hq, rfl⟩ := List.mem_map.mp hb
  have x1 : (!dataLt (mvD q) (mvD p)) = true := x
  have y1 : (!dataLt (mvD p) (mvD q)) = true := y
  obtain ⟨e1, e2⟩ := lt_tri (kn p hp) (kn q hq) (by simpa using y1) (by simpa using x1)
  show stpD p.1 p.2 = stpD q.1 q.2
  rw [e1, e2]
def spPSteps : FSp := fun pvs m q => ∃ (n : Int) (ws : List Int), pvs = [.d (.int n), .d (.tuple (ws.map .int))] ∧ m = [] ∧ 1 ≤ n ∧ Wok n ws ∧ ws.length ≤ 1000 ∧ q (.ref 0) [some (.lst (srtD (stps ws (ws.length - 1))))]
def spAfter : FSp := fun pvs m q => ∃ (n : Int) (ws : List Int) (k : Str) (i : Nat), pvs = [.d (.int n), .d (.tuple (ws.map .int)), .d (stpD k i)] ∧ m = [] ∧ 1 ≤ n ∧ Wok n ws ∧ ws.length ≤ 1000 ∧ Stp ws k i ∧ q (.d (.tuple ((stepW ws k i).map .int))) []
theorem cut_toZ {ws : List Int} {k : Int} (h0 : 0 ≤ k) : PP.cutD (ws.map .int) none (some k) = (ws.take k.toNat).map .int := by
  by_cases h1 : k ≤ ws.length
  · exact cut_to h0 h1
  · unfold PP.cutD HT.sIx
    dsimp only
    rw [List.length_map, if_neg (by omega), List.drop_zero, Nat.sub_zero, ← List.map_take, Nat.min_eq_right (by omega), List.take_of_length_le (Nat.le_refl _), List.take_of_length_le (by omega)]
theorem steps_dl {ws : List Int} : ∀ x ∈ srtD (stps ws (ws.length - 1)), Dl 3 x := fun x hx => by
  obtain ⟨k, i, S, rfl⟩ := stp_of hx
  exact mv_dl (p := (k, (i : Int))) S.ok
theorem steps_dlL {ws : List Int} (h : ws.length ≤ 1000) : Dl 4 (.list (srtD (stps ws (ws.length - 1)))) := .lst (by rw [srt_len]; have := stps_len (ws := ws) (ws.length - 1); omega) steps_dl
theorem dl_wordT {n : Nat} {ws : List Int} (h : ws.length ≤ 1000) : Dl (n + 1) (.tuple (ws.map .int)) := .tup (by rw [List.length_map]; omega) fun x hx => by
  obtain ⟨i, _, rfl⟩ := List.mem_map.mp hx
  exact dl_int
theorem two_if {k : Str} : (if k = sTwo then (1 : Int) else 0) = if PyData.eqv (.str k) (.str "two") = true then 1 else 0 := by
  have e : PyData.eqv (.str k) (.str "two") = true ↔ k = sTwo := beq_iff_eq
  by_cases c : k = sTwo
  · rw [if_pos c, if_pos (e.mpr c)]
  · rw [if_neg c, if_neg (fun z => c (e.mp z))]
theorem step_val2 {n : Int} {ws : List Int} {k : Str} {i : Nat} (h : 0 < n) (W : Wok n ws) (S : Stp ws k i) : valJ n (stepW ws k i) = ((valJ n ws).1 - (if PyData.eqv (.str k) (.str "two") = true then 1 else 0), (valJ n ws).2) := by
  rw [step_val h W S, two_if]
theorem step_dl {n : Int} {ws : List Int} {k : Str} {i : Nat} (h : 0 < n) (h8 : n ≤ 8) (W : Wok n ws) (S : Stp ws k i) : Dl 4 (.tuple [.int ((valJ n ws).1 - (if PyData.eqv (.str k) (.str "two") = true then 1 else 0)), matT (valJ n ws).2]) := by
  have := val_dl h h8 (step_wok W S).1 1
  rw [step_val2 h W S] at this
  exact this
end JJ
namespace K22
open PySem PySem.Spec PyProof.Rows L2 PP
def topS (i : Nat) : Stmt := PySem.Challenge.pw_hookmats_k22_whole_steps_and_words_behin.main.body.getD i (.Pass ⟨0, 0, 0, 0⟩)
abbrev s_check_from : Stmt := topS 6
theorem sc_check_from : FnScope ["number", "least"] ["number", "least"] (defScope s_check_from) := ⟨rfl, rfl, rfl, by decide +kernel, rfl, by decide +kernel, by decide +kernel⟩
abbrev s_p_check_hooks : Stmt := topS 8
theorem sc_p_check_hooks : FnScope ["n", "word", "index"] ["n", "word"] (defScope s_p_check_hooks) := ⟨rfl, rfl, rfl, by decide +kernel, rfl, by decide +kernel, by decide +kernel⟩
abbrev s_check_word : Stmt := topS 9
theorem sc_check_word : FnScope ["n", "word"] ["n", "word"] (defScope s_check_word) := ⟨rfl, rfl, rfl, by decide +kernel, rfl, by decide +kernel, by decide +kernel⟩
abbrev s_p_apart : Stmt := topS 10
theorem sc_p_apart : FnScope ["word", "at"] ["word", "at"] (defScope s_p_apart) := ⟨rfl, rfl, rfl, by decide +kernel, rfl, by decide +kernel, by decide +kernel⟩
abbrev s_p_is_step : Stmt := topS 11
theorem sc_p_is_step : FnScope ["word", "step", "kind", "at"] ["word", "step"] (defScope s_p_is_step) := ⟨rfl, rfl, rfl, by decide +kernel, rfl, by decide +kernel, by decide +kernel⟩
abbrev s_p_stepped : Stmt := topS 12
theorem sc_p_stepped : FnScope ["word", "step", "kind", "at"] ["word", "step"] (defScope s_p_stepped) := ⟨rfl, rfl, rfl, by decide +kernel, rfl, by decide +kernel, by decide +kernel⟩
abbrev s_steps : Stmt := topS 13
theorem sc_steps : FnScope ["n", "word", "told", "kind", "at", "step"] ["n", "word"] (defScope s_steps) := ⟨rfl, rfl, rfl, by decide +kernel, rfl, by decide +kernel, by decide +kernel⟩
abbrev s_after_step : Stmt := topS 14
theorem sc_after_step : FnScope ["n", "word", "step"] ["n", "word", "step"] (defScope s_after_step) := ⟨rfl, rfl, rfl, by decide +kernel, rfl, by decide +kernel, by decide +kernel⟩
abbrev s_l_well : Stmt := topS 16
theorem sc_l_well : FnScope ["_law_script"] ["_law_script"] (defScope s_l_well) := ⟨rfl, rfl, rfl, by decide +kernel, rfl, by decide +kernel, by decide +kernel⟩
abbrev s_l_dip : Stmt := topS 17
theorem sc_l_dip : FnScope ["_law_well_here", "_law_many", "_law_cell", "_law_digit"] ["_law_well_here", "_law_many"] (defScope s_l_dip) := ⟨rfl, rfl, rfl, by decide +kernel, rfl, by decide +kernel, by decide +kernel⟩
abbrev s_l_straight : Stmt := topS 18
theorem sc_l_straight : FnScope ["_law_n"] ["_law_n"] (defScope s_l_straight) := ⟨rfl, rfl, rfl, by decide +kernel, rfl, by decide +kernel, by decide +kernel⟩
abbrev s_l_hooked : Stmt := topS 19
theorem sc_l_hooked : FnScope ["_law_mat", "_law_index", "_law_n", "_law_mates", "_law_left", "_law_right"] ["_law_mat", "_law_index"] (defScope s_l_hooked) := ⟨rfl, rfl, rfl, by decide +kernel, rfl, by decide +kernel, by decide +kernel⟩
abbrev s_l_value : Stmt := topS 20
theorem sc_l_value : FnScope ["_law_n", "_law_word_here", "_law_rings", "_law_mat", "_law_index", "_law_more"] ["_law_n", "_law_word_here"] (defScope s_l_value) := ⟨rfl, rfl, rfl, by decide +kernel, rfl, by decide +kernel, by decide +kernel⟩
abbrev s_l_word : Stmt := topS 21
theorem sc_l_word : FnScope ["_law_well_here", "_law_n", "_law_most", "_law_word_here", "_law_k", "_law_index", "_law_way"] ["_law_well_here", "_law_n", "_law_most"] (defScope s_l_word) := ⟨rfl, rfl, rfl, by decide +kernel, rfl, by decide +kernel, by decide +kernel⟩
abbrev s_l_steps : Stmt := topS 22
theorem sc_l_steps : FnScope ["_law_word_here", "_law_found", "_law_at", "_law_apart"] ["_law_word_here"] (defScope s_l_steps) := ⟨rfl, rfl, rfl, by decide +kernel, rfl, by decide +kernel, by decide +kernel⟩
abbrev s_l_step : Stmt := topS 23
theorem sc_l_step : FnScope ["_law_word_here", "_law_step_here", "_law_at"] ["_law_word_here", "_law_step_here"] (defScope s_l_step) := ⟨rfl, rfl, rfl, by decide +kernel, rfl, by decide +kernel, by decide +kernel⟩
abbrev s_l_stirred : Stmt := topS 24
theorem sc_l_stirred : FnScope ["_law_well_here", "_law_n", "_law_word_here", "_law_many", "_law_most", "_law_k", "_law_way", "_law_at", "_law_near", "_law_steps_here", "_law_index"] ["_law_well_here", "_law_n", "_law_word_here", "_law_many", "_law_most"] (defScope s_l_stirred) := ⟨rfl, rfl, rfl, by decide +kernel, rfl, by decide +kernel, by decide +kernel⟩
abbrev s_l_same : Stmt := topS 25
theorem sc_l_same : FnScope ["_law_told", "_law_due", "_law_depth", "_law_k"] ["_law_told", "_law_due", "_law_depth"] (defScope s_l_same) := ⟨rfl, rfl, rfl, by decide +kernel, rfl, by decide +kernel, by decide +kernel⟩
abbrev s_law : Stmt := topS 26
theorem sc_law : FnScope ["_law_script", "_law_well_here", "_law_k", "_law_n", "_law_word_here", "_law_due", "_law_told", "_law_again", "_law_rings", "_law_mat", "_law_spot", "_law_step_here", "_law_made", "_law_less"] ["_law_script"] (defScope s_law) := ⟨rfl, rfl, rfl, by decide +kernel, rfl, by decide +kernel, by decide +kernel⟩
section
variable {P : Program} {w : World} {K : PySem.W.Frag} {mg : Str → Option Value} {base : Heap}
theorem ok_check_from {f : Addr} {fd : FuncData} (F : Fun K "check_from" "check_from" s_check_from f fd) : FnOk P w K mg base CX0 1 f fd ["number", "least"] (toSp K MM.spFrom) := by
  have sc := sc_check_from
  refine fn_pp F sc (fun pvs m q h => ?_) (fun cdv A outer s H E hr pvs m q h => ?_)
  · first | (obtain ⟨_, _, rfl, _⟩ := h; rfl) | (obtain ⟨_, _, _, rfl, _⟩ := h; rfl) | (obtain ⟨_, _, _, _, rfl, _⟩ := h; rfl) | (obtain ⟨_, _, _, _, _, rfl, _⟩ := h; rfl) | (obtain ⟨_, _, _, _, _, _, rfl, _⟩ := h; rfl) | (obtain ⟨_, rfl, _⟩ := h; rfl)
  obtain ⟨a, b, rfl, rfl, hab, kq⟩ := h
  change WSs _ _ [_, _] [] _
  refine wss_one ?_
  refine ws_if ?_
  refine wt_lt ?_
  refine we_name 0 rfl (.inl rfl) rfl ?_
  refine we_name 1 rfl (.inl rfl) rfl ?_
  refine ⟨_, _, rfl, rfl, ?_⟩
  refine ⟨fun hif1 => ?_, fun hif1 => ?_⟩
  ·
    exfalso
    have := of_decide_eq_true hif1
    omega --done
  ·
    refine wss_nil ?_
    exact ⟨Nat.zero_le _, .inl ⟨_, rfl, kq⟩⟩
end
section
variable {P : Program} {w : World} {K : PySem.W.Frag} {mg : Str → Option Value} {base : Heap}
theorem ok_l_well {f : Addr} {fd : FuncData} (F : Fun K "_law_well" "_law_well" s_l_well f fd) (m_list : mg "list" = none) : FnOk P w K mg base CX0 1 f fd ["_law_script"] (toSp K JJ.spWel2) := by
  have sc := sc_l_well
  refine fn_pp F sc (fun pvs m q h => ?_) (fun cdv A outer s H E hr pvs m q h => ?_)
  · obtain ⟨_, rfl, _⟩ := h
    rfl
  obtain ⟨ns, rfl, rfl, hl, hb, kq⟩ := h
  change WSs _ _ [_] [] _
  refine wss_one ?_
  refine ws_retF ?_
  refine wf_lst ?_
  refine wd_cons ?_
  refine we_wf ?_
  refine wf_list1 m_list ?_
  refine wv_name 0 rfl (.inl rfl) rfl ?_
  refine ⟨_, rfl, ?_⟩
  refine wd_cons ?_
  refine we_int ?_
  refine wd_cons ?_
  refine we_int ?_
  refine wd_cons ?_
  refine we_int ?_
  refine wd_nil ?_
  refine ⟨szl (by simp), ?_⟩
  exact ⟨Nat.zero_le _, .inr (.inr ⟨_, _, rfl, Nat.le_refl _, rfl, kq _ ⟨hl, hb, 0, 0, 90001, rfl, by omega, by omega, by omega, Bd.lit, by omega, by omega⟩⟩)⟩
end
section
variable {P : Program} {w : World} {K : PySem.W.Frag} {mg : Str → Option Value} {base : Heap}
theorem ok_l_dip {f : Addr} {fd : FuncData} (F : Fun K "_law_dip" "_law_dip" s_l_dip f fd) (m_int : mg "int" = none) (m_len : mg "len" = none) : FnOk P w K mg base CX0 1 f fd ["_law_well_here", "_law_many"] (toSp K JJ.spDip) := by
  have sc := sc_l_dip
  refine fn_pp F sc (fun pvs m q h => ?_) (fun cdv A outer s H E hr pvs m q h => ?_)
  · first | (obtain ⟨_, _, rfl, _⟩ := h; rfl) | (obtain ⟨_, _, _, rfl, _⟩ := h; rfl) | (obtain ⟨_, _, _, _, rfl, _⟩ := h; rfl) | (obtain ⟨_, _, _, _, _, rfl, _⟩ := h; rfl) | (obtain ⟨_, _, _, _, _, _, rfl, _⟩ := h; rfl) | (obtain ⟨_, rfl, _⟩ := h; rfl)
  obtain ⟨ns, xs, lim, rfl, rfl, ⟨hl, hb, p, a, b, rfl, hp0, hp1, ha0, ha, hb0, hb1⟩, hl0, hl1, kq⟩ := h
  have hpw : (10 : Int) ^ (18 : Int).toNat = 10 ^ 18 := rfl
  have hlm : (ns.map PyData.int).length = ns.length := List.length_map ..
  have hbb : Bd 31 b := Bd.of hb0 (by omega)
  change WSs _ _ [_, _, _, _] [_] _
  refine wss_cons ?_
  refine ws_join (fun L m => ∃ (p2 a2 b2 : Int) (y2 : Option PV), L = [some (.ref 0), some (.d (.int lim)), y2, none] ∧ m = [some (.lst [.list (ns.map .int), .int p2, .int a2, .int b2])] ∧ 0 ≤ p2 ∧ p2 ≤ ns.length ∧ 0 ≤ a2 ∧ Bd 1048577 a2 ∧ 0 ≤ b2 ∧ b2 < 2147483647) ?_ ?_
  ·
    refine ws_if ?_
    apply VT.use
    ·
      apply VW.vt
      apply vw_and
      ·
        intro Q hQ
        refine wt_lt ?_
        refine we_ix ?_
        refine wv_name 0 rfl (.inl rfl) rfl ?_
        refine we_int ?_
        refine ⟨_, _, _, rfl, rfl, rfl, ?_⟩
        refine we_int ?_
        refine ⟨_, _, rfl, rfl, ?_⟩
        exact hQ
      intro hg1
      apply vw_and1
      intro Q hQ
      refine wt_lt ?_
      refine we_ix ?_
      refine wv_name 0 rfl (.inl rfl) rfl ?_
      refine we_int ?_
      refine ⟨_, _, _, rfl, rfl, rfl, ?_⟩
      refine we_len m_len ?_
      refine wv_we ?_
      refine we_ix ?_
      refine wv_name 0 rfl (.inl rfl) rfl ?_
      refine we_int ?_
      refine ⟨_, _, _, rfl, rfl, rfl, ?_⟩
      refine ⟨_, rfl, ?_⟩
      rw [hlm]
      refine ⟨_, _, rfl, rfl, ?_⟩
      exact hQ
    refine ⟨fun hif1 => ?_, fun hif1 => ?_⟩
    ·
      simp only [Bool.and_eq_true, decide_eq_true_eq] at hif1
      have hcb : Bd 1048577 (ns.getD p.toNat 0) := by
        rw [List.getD_eq_getElem?_getD, List.getElem?_eq_getElem (by omega), Option.getD_some]
        exact bits_bd (hb _ (List.getElem_mem _))
      change WSs _ _ [_, _, _, _] [_] _
      refine wss_cons ?_
      refine ws_set 2 sc.nd rfl (.inl rfl) ?_
      refine we_ix ?_
      refine wv_we ?_
      refine we_ix ?_
      refine wv_name 0 rfl (.inl rfl) rfl ?_
      refine we_int ?_
      refine ⟨_, _, _, rfl, rfl, rfl, ?_⟩
      refine we_ix ?_
      refine wv_name 0 rfl (.inl rfl) rfl ?_
      refine we_int ?_
      refine ⟨_, _, _, rfl, rfl, rfl, ?_⟩
      refine ⟨_, _, _, rfl, rfl, atI_ints hp0 (by omega), ?_⟩
      change WSs _ _ [_, _, _, _] [_] _
      refine wss_cons ?_
      refine ws_asg ?_
      refine we_add ?_
      refine we_ix ?_
      refine wv_name 0 rfl (.inl rfl) rfl ?_
      refine we_int ?_
      refine ⟨_, _, _, rfl, rfl, rfl, ?_⟩
      refine we_int ?_
      refine ⟨_, _, rfl, rfl, ?_⟩
      refine wg_sub ?_
      refine wv_name 0 rfl (.inl rfl) rfl ?_
      refine we_int ?_
      refine ⟨_, _, _, _, rfl, rfl, rfl, rfl, ?_⟩
      change WSs _ _ [_, _, _, _] [_] _
      refine wss_one ?_
      refine ws_if ?_
      refine wt_ge ?_
      refine we_name 2 rfl (.inl rfl) rfl ?_
      refine we_pow ?_
      refine we_int ?_
      refine we_int ?_
      refine ⟨_, _, rfl, rfl, ⟨by decide, by decide⟩, ?_⟩
      refine ⟨_, _, rfl, rfl, ?_⟩
      refine ⟨fun hif2 => ?_, fun hif2 => ?_⟩
      ·
        change WSs _ _ [_, _, _, _] [_] _
        refine wss_one ?_
        refine ws_asg ?_
        refine we_name 2 rfl (.inl rfl) rfl ?_
        refine wg_sub ?_
        refine wv_name 0 rfl (.inl rfl) rfl ?_
        refine we_int ?_
        refine ⟨_, _, _, _, rfl, rfl, rfl, rfl, ?_⟩
        first
        | exact ⟨_, _, _, _, rfl, rfl, by omega, by omega, by have := of_decide_eq_true hif2; omega, hcb, hb0, hb1⟩
        | exact ⟨_, _, _, _, rfl, rfl, by omega, by omega, ha0, ha, Int.emod_nonneg _ (by omega), Int.emod_lt_of_pos _ (by omega)⟩
      ·
        change WSs _ _ [_, _, _, _] [_] _
        refine wss_one ?_
        refine ws_asg ?_
        refine we_mod ?_
        refine we_int1 m_int ?_
        refine we_add ?_
        refine we_add ?_
        refine we_mul ?_
        refine we_ix ?_
        refine wv_name 0 rfl (.inl rfl) rfl ?_
        refine we_int ?_
        refine ⟨_, _, _, rfl, rfl, rfl, ?_⟩
        refine we_int ?_
        refine ⟨_, _, rfl, rfl, cmul_of (k := 18) hbb Bd.lit, ?_⟩
        refine we_pow ?_
        refine we_mod ?_
        refine we_int1 m_int ?_
        refine we_name 2 rfl (.inl rfl) rfl ?_
        refine .inl ⟨_, rfl, ?_⟩
        refine we_int ?_
        refine ⟨_, _, rfl, rfl, by decide +kernel, ?_⟩
        refine we_int ?_
        refine ⟨_, _, rfl, rfl, cpow_of (Bd.mod (k := 31) (by decide +kernel) (by decide +kernel)) (by decide) (by decide), ?_⟩
        refine ⟨_, _, rfl, rfl, ?_⟩
        refine we_mul ?_
        refine we_int ?_
        refine we_ix ?_
        refine wv_name 0 rfl (.inl rfl) rfl ?_
        refine we_int ?_
        refine ⟨_, _, _, rfl, rfl, rfl, ?_⟩
        refine ⟨_, _, rfl, rfl, cmul_of (j := 14) Bd.lit (Bd.of (k := 20) (by omega) (by omega)), ?_⟩
        refine ⟨_, _, rfl, rfl, ?_⟩
        refine .inl ⟨_, rfl, ?_⟩
        refine we_int ?_
        refine ⟨_, _, rfl, rfl, by decide +kernel, ?_⟩
        refine wg_sub ?_
        refine wv_name 0 rfl (.inl rfl) rfl ?_
        refine we_int ?_
        refine ⟨_, _, _, _, rfl, rfl, rfl, rfl, ?_⟩
        first
        | exact ⟨_, _, _, _, rfl, rfl, by omega, by omega, by have := of_decide_eq_true hif2; omega, hcb, hb0, hb1⟩
        | exact ⟨_, _, _, _, rfl, rfl, by omega, by omega, ha0, ha, Int.emod_nonneg _ (by omega), Int.emod_lt_of_pos _ (by omega)⟩
    ·
      refine wss_nil ?_
      exact ⟨_, _, _, _, rfl, rfl, hp0, hp1, ha0, ha, hb0, hb1⟩
  rintro L m ⟨p2, a2, b2, y2, rfl, rfl, hp2, hp3, ha2, ha3, hb2, hb3⟩
  have hbb : Bd 31 b2 := Bd.of hb2 (by omega)
  change WSs _ _ [_, _, _, _] [_] _
  refine wss_cons ?_
  refine ws_if ?_
  refine wt_gt ?_
  refine we_ix ?_
  refine wv_name 0 rfl (.inl rfl) rfl ?_
  refine we_int ?_
  refine ⟨_, _, _, rfl, rfl, rfl, ?_⟩
  refine we_int ?_
  refine ⟨_, _, rfl, rfl, ?_⟩
  refine ⟨fun hif3 => ?_, fun hif3 => ?_⟩
  ·
    change WSs _ _ [_, _, _, _] [_] _
    refine wss_cons ?_
    refine ws_set 3 sc.nd rfl (.inl rfl) ?_
    refine we_mod ?_
    refine we_int1 m_int ?_
    refine we_ix ?_
    refine wv_name 0 rfl (.inl rfl) rfl ?_
    refine we_int ?_
    refine ⟨_, _, _, rfl, rfl, rfl, ?_⟩
    refine .inl ⟨_, rfl, ?_⟩
    refine we_name 1 rfl (.inl rfl) rfl ?_
    refine ⟨_, _, rfl, rfl, by omega, ?_⟩
    change WSs _ _ [_, _, _, _] [_] _
    refine wss_cons ?_
    refine ws_asg ?_
    refine we_fdiv ?_
    refine we_ix ?_
    refine wv_name 0 rfl (.inl rfl) rfl ?_
    refine we_int ?_
    refine ⟨_, _, _, rfl, rfl, rfl, ?_⟩
    refine we_name 1 rfl (.inl rfl) rfl ?_
    refine ⟨_, _, rfl, rfl, cdiv_of hl0 (Bd.of (k := 20) (Int.le_of_lt hl0) (by omega)), ?_⟩
    refine wg_sub ?_
    refine wv_name 0 rfl (.inl rfl) rfl ?_
    refine we_int ?_
    refine ⟨_, _, _, _, rfl, rfl, rfl, rfl, ?_⟩
    change WSs _ _ [_, _, _, _] [_] _
    refine wss_one ?_
    refine ws_ret ?_
    refine we_name 3 rfl (.inl rfl) rfl ?_
    exact ⟨Nat.le_refl _, .inl ⟨_, rfl, kq _ _ (Int.emod_nonneg _ (by omega)) (Int.emod_lt_of_pos _ hl0) ⟨hl, hb, _, _, _, rfl, hp2, hp3, Int.ediv_nonneg ha2 (by omega), ha3.div ha2 hl0, hb2, hb3⟩⟩⟩
  ·
    refine wss_nil ?_
    change WSs _ _ [_, _, _, _] [_] _
    refine wss_cons ?_
    refine ws_asg ?_
    refine we_mod ?_
    refine we_int1 m_int ?_
    refine we_add ?_
    refine we_mul ?_
    refine we_ix ?_
    refine wv_name 0 rfl (.inl rfl) rfl ?_
    refine we_int ?_
    refine ⟨_, _, _, rfl, rfl, rfl, ?_⟩
    refine we_int ?_
    refine ⟨_, _, rfl, rfl, cmul_of (k := 18) hbb Bd.lit, ?_⟩
    refine we_int ?_
    refine ⟨_, _, rfl, rfl, ?_⟩
    refine .inl ⟨_, rfl, ?_⟩
    refine we_int ?_
    refine ⟨_, _, rfl, rfl, by decide +kernel, ?_⟩
    refine wg_sub ?_
    refine wv_name 0 rfl (.inl rfl) rfl ?_
    refine we_int ?_
    refine ⟨_, _, _, _, rfl, rfl, rfl, rfl, ?_⟩
    change WSs _ _ [_, _, _, _] [_] _
    refine wss_one ?_
    refine ws_ret ?_
    refine we_mod ?_
    refine we_fdiv ?_
    refine we_mod ?_
    refine we_int1 m_int ?_
    refine we_mul ?_
    refine we_ix ?_
    refine wv_name 0 rfl (.inl rfl) rfl ?_
    refine we_int ?_
    refine ⟨_, _, _, rfl, rfl, rfl, ?_⟩
    refine we_ix ?_
    refine wv_name 0 rfl (.inl rfl) rfl ?_
    refine we_int ?_
    refine ⟨_, _, _, rfl, rfl, rfl, ?_⟩
    refine ⟨_, _, rfl, rfl, cmul_of (Bd.mod (k := 31) (by decide +kernel) (by decide +kernel)) (Bd.mod (k := 31) (by decide +kernel) (by decide +kernel)), ?_⟩
    refine .inl ⟨_, rfl, ?_⟩
    refine we_int ?_
    refine ⟨_, _, rfl, rfl, by decide +kernel, ?_⟩
    refine we_int ?_
    refine ⟨_, _, rfl, rfl, cdiv_of (k := 7) (by decide +kernel) Bd.lit, ?_⟩
    refine we_name 1 rfl (.inl rfl) rfl ?_
    refine ⟨_, _, rfl, rfl, by omega, ?_⟩
    exact ⟨Nat.le_refl _, .inl ⟨_, rfl, kq _ _ (Int.emod_nonneg _ (by omega)) (Int.emod_lt_of_pos _ hl0) ⟨hl, hb, _, _, _, rfl, hp2, hp3, ha2, ha3, Int.emod_nonneg _ (by omega), Int.emod_lt_of_pos _ (by omega)⟩⟩⟩
end
section
variable {P : Program} {w : World} {K : PySem.W.Frag} {mg : Str → Option Value} {base : Heap} {T : Addr}
theorem ok_l_same {f : Addr} {fd : FuncData} (F : FunD K "_law_same" "_law_same" s_l_same f fd T) (m__law_same : mg "_law_same" = some (.ref f)) (k__law_same : PySem.W.keepIn K (.ref f) = true) (b__law_same : Binds K fd ["_law_told", "_law_due", "_law_depth"] []) (m_range : mg "range" = none) (m_isinstance : mg "isinstance" = none) (m_bool : mg "bool" = none) (m_int : mg "int" = none) (m_str : mg "str" = none) (m_len : mg "len" = none) (m_tuple : mg "tuple" = none) (m_list : mg "list" = none) : ∀ n : Nat, FnOk P w K mg base CX0 (n + 1) f fd ["_law_told", "_law_due", "_law_depth"] (toSp K (JJ.spSam n)) := by
  intro n
  induction n using Nat.strongRecOn with
  | _ n ih =>
  have sc := sc_l_same
  refine fnD_pp F sc (fun pvs m q h => ?_) (fun cdv A outer s H E hr pvs m q h => ?_)
  · obtain ⟨_, _, rfl, _⟩ := h
    rfl
  obtain ⟨d, k, rfl, rfl, hD, hk0, hk1, kq⟩ := h
  change WSs _ _ [_, _, _, _] [] _
  refine wss_cons ?_
  refine ws_if ?_
  apply VT.use
  ·
    apply VW.vt
    apply vw_or
    ·
      intro Q hQ
      refine wt_eqI ?_
      refine we_name 2 rfl (.inl rfl) rfl ?_
      refine we_int ?_
      refine ⟨_, _, rfl, rfl, ?_⟩
      exact hQ
    intro hg1
    apply vw_or
    ·
      intro Q hQ
      refine wt_isNone ?_
      refine we_name 0 rfl (.inl rfl) rfl ?_
      refine we_none ?_
      refine ⟨rfl, ?_⟩
      exact hQ
    intro hg2
    apply vw_or1
    intro Q hQ
    refine wt_isNone ?_
    refine we_name 1 rfl (.inl rfl) rfl ?_
    refine we_none ?_
    refine ⟨rfl, ?_⟩
    exact hQ
  refine ⟨fun hif1 => ?_, fun hif1 => ?_⟩
  ·
    have hkp : ¬ k = 0 := by omega
    have e1 : isNoneD d = true := by simpa [hkp] using hif1
    have e2 : decide (0 < k) = true := decide_eq_true (by omega)
    change WSs _ _ [_, _, _, _] [] _
    refine wss_one ?_
    refine ws_ret ?_
    apply VE.use
    ·
      apply ve_and
      ·
        intro Q hQ
        refine we_gt ?_
        refine we_name 2 rfl (.inl rfl) rfl ?_
        refine we_int ?_
        refine ⟨_, _, rfl, rfl, ?_⟩
        exact hQ
      intro hg3
      apply ve_and
      ·
        intro Q hQ
        refine we_isNone ?_
        refine we_name 0 rfl (.inl rfl) rfl ?_
        refine we_none ?_
        refine ⟨rfl, ?_⟩
        exact hQ
      intro hg4
      apply ve_one
      intro Q hQ
      refine we_isNone ?_
      refine we_name 1 rfl (.inl rfl) rfl ?_
      refine we_none ?_
      refine ⟨rfl, ?_⟩
      exact hQ
    rw [e1, e2]
    exact ⟨Nat.zero_le _, .inl ⟨_, rfl, kq⟩⟩
  ·
    refine wss_nil ?_
    change WSs _ _ [_, _, _, _] [] _
    refine wss_cons ?_
    refine ws_if ?_
    apply VT.use
    ·
      apply VW.vt
      apply vw_or
      ·
        intro Q hQ
        refine wt_val ?_
        refine we_isinst (T := "bool") m_isinstance m_bool (by decide +kernel) ?_
        refine we_name 0 rfl (.inl rfl) rfl ?_
        refine ⟨_, kit_bool, ?_⟩
        refine ⟨_, rfl, ?_⟩
        exact hQ
      intro hg5
      apply vw_or1
      intro Q hQ
      refine wt_val ?_
      refine we_isinst (T := "bool") m_isinstance m_bool (by decide +kernel) ?_
      refine we_name 1 rfl (.inl rfl) rfl ?_
      refine ⟨_, kit_bool, ?_⟩
      refine ⟨_, rfl, ?_⟩
      exact hQ
    refine ⟨fun hif2 => ?_, fun hif2 => ?_⟩
    ·
      have hsq := JJ.sc_not (s := "bool") (by simpa using hif2) (by simp)
      obtain ⟨hs, he⟩ := JJ.dq_refl hD hsq
      have hst : isT "bool" d = true := by simpa using hif2
      change WSs _ _ [_, _, _, _] [] _
      refine wss_one ?_
      refine ws_ret ?_
      apply VE.use
      ·
        apply ve_and
        ·
          intro Q hQ
          refine we_isinst (T := "bool") m_isinstance m_bool (by decide +kernel) ?_
          refine we_name 0 rfl (.inl rfl) rfl ?_
          refine ⟨_, kit_bool, ?_⟩
          exact hQ
        intro hg6
        apply ve_and
        ·
          intro Q hQ
          refine we_isinst (T := "bool") m_isinstance m_bool (by decide +kernel) ?_
          refine we_name 1 rfl (.inl rfl) rfl ?_
          refine ⟨_, kit_bool, ?_⟩
          exact hQ
        intro hg7
        apply ve_one
        intro Q hQ
        refine we_eq (by (first | exact hr.units | exact units65 hr | exact units1 hr)) ?_
        refine we_name 0 rfl (.inl rfl) rfl ?_
        refine we_name 1 rfl (.inl rfl) rfl ?_
        refine ⟨hs, hs, ?_⟩
        exact hQ
      rw [hst, he]
      exact ⟨Nat.zero_le _, .inl ⟨_, rfl, kq⟩⟩
    ·
      refine wss_nil ?_
      change WSs _ _ [_, _, _, _] [] _
      refine wss_cons ?_
      refine ws_if ?_
      apply VT.use
      ·
        apply VW.vt
        apply vw_or
        ·
          intro Q hQ
          refine wt_val ?_
          refine we_isinst (T := "int") m_isinstance m_int (by decide +kernel) ?_
          refine we_name 1 rfl (.inl rfl) rfl ?_
          refine ⟨_, kit_int, ?_⟩
          refine ⟨_, rfl, ?_⟩
          exact hQ
        intro hg8
        apply vw_or1
        intro Q hQ
        refine wt_val ?_
        refine we_isinst (T := "int") m_isinstance m_int (by decide +kernel) ?_
        refine we_name 0 rfl (.inl rfl) rfl ?_
        refine ⟨_, kit_int, ?_⟩
        refine ⟨_, rfl, ?_⟩
        exact hQ
      refine ⟨fun hif3 => ?_, fun hif3 => ?_⟩
      ·
        have hb : isT "bool" d = false := by simpa using hif2
        have hsq := JJ.sc_not (s := "int") (by simpa [hb] using hif3) (by simp)
        obtain ⟨hs, he⟩ := JJ.dq_refl hD hsq
        have hst : isT "int" d = true := by simpa [hb] using hif3
        change WSs _ _ [_, _, _, _] [] _
        refine wss_one ?_
        refine ws_ret ?_
        apply VE.use
        ·
          apply ve_and
          ·
            intro Q hQ
            refine we_isinst (T := "int") m_isinstance m_int (by decide +kernel) ?_
            refine we_name 1 rfl (.inl rfl) rfl ?_
            refine ⟨_, kit_int, ?_⟩
            exact hQ
          intro hg9
          apply ve_and
          ·
            intro Q hQ
            refine we_isinst (T := "int") m_isinstance m_int (by decide +kernel) ?_
            refine we_name 0 rfl (.inl rfl) rfl ?_
            refine ⟨_, kit_int, ?_⟩
            exact hQ
          intro hg10
          apply ve_one
          intro Q hQ
          refine we_eq (by (first | exact hr.units | exact units65 hr | exact units1 hr)) ?_
          refine we_name 0 rfl (.inl rfl) rfl ?_
          refine we_name 1 rfl (.inl rfl) rfl ?_
          refine ⟨hs, hs, ?_⟩
          exact hQ
        rw [hb, hst, he]
        exact ⟨Nat.zero_le _, .inl ⟨_, rfl, kq⟩⟩
      ·
        refine wss_nil ?_
        change WSs _ _ [_, _, _, _] [] _
        refine wss_cons ?_
        refine ws_if ?_
        apply VT.use
        ·
          apply VW.vt
          apply vw_or
          ·
            intro Q hQ
            refine wt_val ?_
            refine we_isinst (T := "str") m_isinstance m_str (by decide +kernel) ?_
            refine we_name 1 rfl (.inl rfl) rfl ?_
            refine ⟨_, kit_str, ?_⟩
            refine ⟨_, rfl, ?_⟩
            exact hQ
          intro hg11
          apply vw_or1
          intro Q hQ
          refine wt_val ?_
          refine we_isinst (T := "str") m_isinstance m_str (by decide +kernel) ?_
          refine we_name 0 rfl (.inl rfl) rfl ?_
          refine ⟨_, kit_str, ?_⟩
          refine ⟨_, rfl, ?_⟩
          exact hQ
        refine ⟨fun hif4 => ?_, fun hif4 => ?_⟩
        ·
          have hsq := JJ.sc_not (s := "str") (by simpa using hif4) (by simp)
          obtain ⟨hs, he⟩ := JJ.dq_refl hD hsq
          have hst : isT "str" d = true := by simpa using hif4
          change WSs _ _ [_, _, _, _] [] _
          refine wss_one ?_
          refine ws_ret ?_
          apply VE.use
          ·
            apply ve_and
            ·
              intro Q hQ
              refine we_isinst (T := "str") m_isinstance m_str (by decide +kernel) ?_
              refine we_name 1 rfl (.inl rfl) rfl ?_
              refine ⟨_, kit_str, ?_⟩
              exact hQ
            intro hg12
            apply ve_and
            ·
              intro Q hQ
              refine we_isinst (T := "str") m_isinstance m_str (by decide +kernel) ?_
              refine we_name 0 rfl (.inl rfl) rfl ?_
              refine ⟨_, kit_str, ?_⟩
              exact hQ
            intro hg13
            apply ve_one
            intro Q hQ
            refine we_eq (by (first | exact hr.units | exact units65 hr | exact units1 hr)) ?_
            refine we_name 0 rfl (.inl rfl) rfl ?_
            refine we_name 1 rfl (.inl rfl) rfl ?_
            refine ⟨hs, hs, ?_⟩
            exact hQ
          rw [hst, he]
          exact ⟨Nat.zero_le _, .inl ⟨_, rfl, kq⟩⟩
        ·
          refine wss_nil ?_
          change WSs _ _ [_, _, _, _] [] _
          refine wss_cons ?_
          refine ws_if ?_
          apply VT.use
          ·
            apply VW.vt
            apply vw_or
            ·
              intro Q hQ
              refine wt_ne (by (first | exact hr.units | exact units65 hr | exact units1 hr)) ?_
              refine we_isinst (T := "tuple") m_isinstance m_tuple (by decide +kernel) ?_
              refine we_name 1 rfl (.inl rfl) rfl ?_
              refine ⟨_, kit_tuple, ?_⟩
              refine we_isinst (T := "tuple") m_isinstance m_tuple (by decide +kernel) ?_
              refine we_name 0 rfl (.inl rfl) rfl ?_
              refine ⟨_, kit_tuple, ?_⟩
              refine ⟨by (first | rfl | assumption), by (first | rfl | assumption), ?_⟩
              exact hQ
            intro hg14
            apply vw_or1
            intro Q hQ
            refine wt_ne (by (first | exact hr.units | exact units65 hr | exact units1 hr)) ?_
            refine we_isinst (T := "list") m_isinstance m_list (by decide +kernel) ?_
            refine we_name 1 rfl (.inl rfl) rfl ?_
            refine ⟨_, kit_list, ?_⟩
            refine we_isinst (T := "list") m_isinstance m_list (by decide +kernel) ?_
            refine we_name 0 rfl (.inl rfl) rfl ?_
            refine ⟨_, kit_list, ?_⟩
            refine ⟨by (first | rfl | assumption), by (first | rfl | assumption), ?_⟩
            exact hQ
          refine ⟨fun hif5 => ?_, fun hif5 => ?_⟩
          ·
            exfalso
            simp [JJ.eqvB] at hif5 --done
          ·
            have hno : isNoneD d = false := by
              rw [Bool.or_eq_false_iff] at hif1
              simpa using hif1.2
            have hb3 : isT "int" d = false := by
              have hb : isT "bool" d = false := by simpa using hif2
              simpa [hb] using hif3
            have hg90 := JJ.seq_must hD hno (by simpa using hif2) hb3 (by simpa using hif4)
            obtain ⟨j, xs, hnj, hx, hxl, hxs⟩ := JJ.dl_seq hD hg90
            have F__law_same := ih j (by omega)
            refine wss_nil ?_
            change WSs _ _ [_, _, _, _] [] _
            refine wss_cons ?_
            refine ws_if ?_
            apply VT.use
            ·
              apply VW.vt
              apply vw_or
              ·
                apply vt_not
                intro Q hQ
                refine wt_val ?_
                refine we_isinst2 (S := "tuple") (T := "list") m_isinstance m_tuple m_list (by decide +kernel) (by decide +kernel) ?_
                refine we_name 0 rfl (.inl rfl) rfl ?_
                refine ⟨_, _, kit_tuple, kit_list, ?_⟩
                refine ⟨_, rfl, ?_⟩
                exact hQ
              intro hg15
              apply vw_or1
              intro Q hQ
              refine wt_neI ?_
              refine we_len m_len ?_
              refine wv_name 0 rfl (.inl rfl) rfl ?_
              refine ⟨_, seq_of hx _, ?_⟩
              refine we_len m_len ?_
              refine wv_name 1 rfl (.inl rfl) rfl ?_
              refine ⟨_, seq_of hx _, ?_⟩
              refine ⟨_, _, rfl, rfl, ?_⟩
              exact hQ
            refine ⟨fun hif6 => ?_, fun hif6 => ?_⟩
            ·
              exfalso
              rw [Bool.or_comm] at hg90
              rw [hg90] at hif6
              simp at hif6 --done
            ·
              refine wss_nil ?_
              change WSs _ _ [_, _, _, _] [] _
              refine wss_cons ?_
              refine ws_for PassesOwn.never rfl ?_
              refine wi_rng1 m_range ?_
              refine we_len m_len ?_
              refine wv_name 1 rfl (.inl rfl) rfl ?_
              refine ⟨_, seq_of hx _, ?_⟩
              refine ⟨_, rfl, by omega, by omega, ?_⟩
              refine ⟨fun i L m => ∃ y3, L = [some (.d d), some (.d d), some (.d (.int k)), y3] ∧ m = [], ?_, fun i x L m hx2 hI => ?_, fun L m hI => ?_⟩
              ·
                exact ⟨_, rfl, rfl⟩
              ·
                obtain ⟨y3, rfl, rfl⟩ := hI
                obtain ⟨hi, rfl⟩ := rgD_get hx2
                have hzi : xs.getD (0 + (i : Int)).toNat .none ∈ xs := by
                  rw [List.getD_eq_getElem?_getD, List.getElem?_eq_getElem (by omega), Option.getD_some]
                  exact List.getElem_mem _
                refine ⟨trivial, ?_⟩
                refine wg_name 3 sc.nd rfl (.inl rfl) ?_
                change WSs _ _ [_, _, _, _] [] _
                refine wss_one ?_
                refine ws_if ?_
                refine wt_not ?_
                refine wt_val ?_
                refine we_call [] F__law_same (hr.mono (by omega)) m__law_same k__law_same b__law_same ?_
                refine wa_d ?_
                refine we_ix ?_
                refine wv_name 0 rfl (.inl rfl) rfl ?_
                refine we_name 3 rfl (.inl rfl) rfl ?_
                refine ⟨_, _, _, rfl, seq_of hx _, atI_gd (by omega) (by omega), ?_⟩
                refine wa_d ?_
                refine we_ix ?_
                refine wv_name 1 rfl (.inl rfl) rfl ?_
                refine we_name 3 rfl (.inl rfl) rfl ?_
                refine ⟨_, _, _, rfl, seq_of hx _, atI_gd (by omega) (by omega), ?_⟩
                refine wa_d ?_
                refine we_sub ?_
                refine we_name 2 rfl (.inl rfl) rfl ?_
                refine we_int ?_
                refine ⟨_, _, rfl, rfl, ?_⟩
                refine wa_nil ?_
                refine ⟨by decide, by (simp [setAll_len, setAll_nil]), by (simp [refsIn, setAll_len, setAll_nil, permL]), _, k - 1, rfl, rfl, hxs _ hzi, by omega, by omega, _, rfl, rfl, ?_⟩
                refine ⟨_, rfl, ?_⟩
                refine ⟨fun hif7 => ?_, fun hif7 => ?_⟩
                ·
                  exfalso
                  cases hif7 --done
                ·
                  refine wss_nil ?_
                  exact ⟨_, _, .same (by (repeat (first | exact WkL.nil | refine WkL.kd ?_ | (refine WkL.kr ?_ ?_; focus (simp [setAll_len, setAll_nil]; done)) | refine WkL.kw ?_ | refine WkL.drop ?_))) (by simp), _, rfl, rfl⟩
              obtain ⟨y3, rfl, rfl⟩ := hI
              refine ⟨trivial, ?_⟩
              change WSs _ _ [_, _, _, _] [] _
              refine wss_one ?_
              refine ws_ret ?_
              refine we_bool ?_
              exact ⟨Nat.zero_le _, .inl ⟨_, rfl, kq⟩⟩
end
section
variable {P : Program} {w : World} {K : PySem.W.Frag} {mg : Str → Option Value} {base : Heap} {T : Addr}
theorem ok_l_same_C {f : Addr} {fd : FuncData} (F : FunD K "_law_same" "_law_same" s_l_same f fd T) (F__law_same : FnOk P w K mg base CX0 4 f fd ["_law_told", "_law_due", "_law_depth"] (toSp K (JJ.spSam 3))) (m__law_same : mg "_law_same" = some (.ref f)) (k__law_same : PySem.W.keepIn K (.ref f) = true) (b__law_same : Binds K fd ["_law_told", "_law_due", "_law_depth"] []) (m_range : mg "range" = none) (m_isinstance : mg "isinstance" = none) (m_bool : mg "bool" = none) (m_int : mg "int" = none) (m_str : mg "str" = none) (m_len : mg "len" = none) (m_tuple : mg "tuple" = none) (m_list : mg "list" = none) : FnOk P w K mg base CX0 5 f fd ["_law_told", "_law_due", "_law_depth"] (toSp K JJ.spSamC) := by
  have sc := sc_l_same
  refine fnD_pp F sc (fun pvs m q h => ?_) (fun cdv A outer s H E hr pvs m q h => ?_)
  · obtain ⟨_, _, rfl, _⟩ := h
    rfl
  obtain ⟨xs, k, rfl, rfl, hxs, hxl, hk0, hk1, kq⟩ := h
  change WSs _ _ [_, _, _, _] [_] _
  refine wss_cons ?_
  refine ws_if ?_
  apply VT.use
  ·
    apply VW.vt
    apply vw_or
    ·
      intro Q hQ
      refine wt_eqI ?_
      refine we_name 2 rfl (.inl rfl) rfl ?_
      refine we_int ?_
      refine ⟨_, _, rfl, rfl, ?_⟩
      exact hQ
    intro hg1
    apply vw_or
    ·
      intro Q hQ
      refine wt_isNoneV ?_
      refine wv_name 0 rfl (.inl rfl) rfl ?_
      refine ⟨⟨_, rfl⟩, ?_⟩
      refine we_none ?_
      refine ⟨rfl, ?_⟩
      exact hQ
    intro hg2
    apply vw_or1
    intro Q hQ
    refine wt_isNone ?_
    refine we_name 1 rfl (.inl rfl) rfl ?_
    refine we_none ?_
    refine ⟨rfl, ?_⟩
    exact hQ
  refine ⟨fun hif1 => ?_, fun hif1 => ?_⟩
  ·
    exfalso
    have hkp : ¬ k = 0 := by omega
    simp [isNoneD, hkp] at hif1 --done
  ·
    refine wss_nil ?_
    change WSs _ _ [_, _, _, _] [_] _
    refine wss_cons ?_
    refine ws_if ?_
    apply VT.use
    ·
      apply VW.vt
      apply vw_or
      ·
        intro Q hQ
        refine wt_val ?_
        refine we_isinstV (T := "bool") m_isinstance m_bool (by decide +kernel) ?_
        refine wv_name 0 rfl (.inl rfl) rfl ?_
        refine ⟨⟨_, rfl⟩, _, kit_bool (d := .list []), ?_⟩
        refine ⟨_, rfl, ?_⟩
        exact hQ
      intro hg3
      apply vw_or1
      intro Q hQ
      refine wt_val ?_
      refine we_isinst (T := "bool") m_isinstance m_bool (by decide +kernel) ?_
      refine we_name 1 rfl (.inl rfl) rfl ?_
      refine ⟨_, kit_bool, ?_⟩
      refine ⟨_, rfl, ?_⟩
      exact hQ
    refine ⟨fun hif2 => ?_, fun hif2 => ?_⟩
    ·
      exfalso
      revert hif2
      simp only [isT, tyD]
      decide +kernel --done
    ·
      refine wss_nil ?_
      change WSs _ _ [_, _, _, _] [_] _
      refine wss_cons ?_
      refine ws_if ?_
      apply VT.use
      ·
        apply VW.vt
        apply vw_or
        ·
          intro Q hQ
          refine wt_val ?_
          refine we_isinst (T := "int") m_isinstance m_int (by decide +kernel) ?_
          refine we_name 1 rfl (.inl rfl) rfl ?_
          refine ⟨_, kit_int, ?_⟩
          refine ⟨_, rfl, ?_⟩
          exact hQ
        intro hg4
        apply vw_or1
        intro Q hQ
        refine wt_val ?_
        refine we_isinstV (T := "int") m_isinstance m_int (by decide +kernel) ?_
        refine wv_name 0 rfl (.inl rfl) rfl ?_
        refine ⟨⟨_, rfl⟩, _, kit_int (d := .list []), ?_⟩
        refine ⟨_, rfl, ?_⟩
        exact hQ
      refine ⟨fun hif3 => ?_, fun hif3 => ?_⟩
      ·
        exfalso
        revert hif3
        simp only [isT, tyD]
        decide +kernel --done
      ·
        refine wss_nil ?_
        change WSs _ _ [_, _, _, _] [_] _
        refine wss_cons ?_
        refine ws_if ?_
        apply VT.use
        ·
          apply VW.vt
          apply vw_or
          ·
            intro Q hQ
            refine wt_val ?_
            refine we_isinst (T := "str") m_isinstance m_str (by decide +kernel) ?_
            refine we_name 1 rfl (.inl rfl) rfl ?_
            refine ⟨_, kit_str, ?_⟩
            refine ⟨_, rfl, ?_⟩
            exact hQ
          intro hg5
          apply vw_or1
          intro Q hQ
          refine wt_val ?_
          refine we_isinstV (T := "str") m_isinstance m_str (by decide +kernel) ?_
          refine wv_name 0 rfl (.inl rfl) rfl ?_
          refine ⟨⟨_, rfl⟩, _, kit_str (d := .list []), ?_⟩
          refine ⟨_, rfl, ?_⟩
          exact hQ
        refine ⟨fun hif4 => ?_, fun hif4 => ?_⟩
        ·
          exfalso
          revert hif4
          simp only [isT, tyD]
          decide +kernel --done
        ·
          refine wss_nil ?_
          change WSs _ _ [_, _, _, _] [_] _
          refine wss_cons ?_
          refine ws_if ?_
          apply VT.use
          ·
            apply VW.vt
            apply vw_or
            ·
              intro Q hQ
              refine wt_ne (by (first | exact hr.units | exact units65 hr | exact units1 hr)) ?_
              refine we_isinst (T := "tuple") m_isinstance m_tuple (by decide +kernel) ?_
              refine we_name 1 rfl (.inl rfl) rfl ?_
              refine ⟨_, kit_tuple, ?_⟩
              refine we_isinstV (T := "tuple") m_isinstance m_tuple (by decide +kernel) ?_
              refine wv_name 0 rfl (.inl rfl) rfl ?_
              refine ⟨⟨_, rfl⟩, _, kit_tuple (d := .list []), ?_⟩
              refine ⟨by (first | rfl | assumption), by (first | rfl | assumption), ?_⟩
              exact hQ
            intro hg6
            apply vw_or1
            intro Q hQ
            refine wt_ne (by (first | exact hr.units | exact units65 hr | exact units1 hr)) ?_
            refine we_isinst (T := "list") m_isinstance m_list (by decide +kernel) ?_
            refine we_name 1 rfl (.inl rfl) rfl ?_
            refine ⟨_, kit_list, ?_⟩
            refine we_isinstV (T := "list") m_isinstance m_list (by decide +kernel) ?_
            refine wv_name 0 rfl (.inl rfl) rfl ?_
            refine ⟨⟨_, rfl⟩, _, kit_list (d := .list []), ?_⟩
            refine ⟨by (first | rfl | assumption), by (first | rfl | assumption), ?_⟩
            exact hQ
          refine ⟨fun hif5 => ?_, fun hif5 => ?_⟩
          ·
            exfalso
            simp [isT, tyD, JJ.eqvB] at hif5 --done
          ·
            refine wss_nil ?_
            change WSs _ _ [_, _, _, _] [_] _
            refine wss_cons ?_
            refine ws_if ?_
            apply VT.use
            ·
              apply VW.vt
              apply vw_or
              ·
                apply vt_not
                intro Q hQ
                refine wt_val ?_
                refine we_isinstV2 (S := "tuple") (T := "list") m_isinstance m_tuple m_list (by decide +kernel) (by decide +kernel) ?_
                refine wv_name 0 rfl (.inl rfl) rfl ?_
                refine ⟨⟨_, rfl⟩, _, _, kit_tuple (d := .list []), kit_list (d := .list []), ?_⟩
                refine ⟨_, rfl, ?_⟩
                exact hQ
              intro hg7
              apply vw_or1
              intro Q hQ
              refine wt_neI ?_
              refine we_len m_len ?_
              refine wv_name 0 rfl (.inl rfl) rfl ?_
              refine ⟨_, rfl, ?_⟩
              refine we_len m_len ?_
              refine wv_name 1 rfl (.inl rfl) rfl ?_
              refine ⟨_, rfl, ?_⟩
              refine ⟨_, _, rfl, rfl, ?_⟩
              exact hQ
            refine ⟨fun hif6 => ?_, fun hif6 => ?_⟩
            ·
              exfalso
              revert hif6
              simp only [isT, tyD]
              simp --done
            ·
              refine wss_nil ?_
              change WSs _ _ [_, _, _, _] [_] _
              refine wss_cons ?_
              refine ws_for PassesOwn.never rfl ?_
              refine wi_rng1 m_range ?_
              refine we_len m_len ?_
              refine wv_name 1 rfl (.inl rfl) rfl ?_
              refine ⟨_, rfl, ?_⟩
              refine ⟨_, rfl, by omega, by omega, ?_⟩
              refine ⟨fun i L m => ∃ y3, L = [some (.ref 0), some (.d (.list xs)), some (.d (.int k)), y3] ∧ m = [some (.lst xs)], ?_, fun i x L m hx2 hI => ?_, fun L m hI => ?_⟩
              ·
                exact ⟨_, rfl, rfl⟩
              ·
                obtain ⟨y3, rfl, rfl⟩ := hI
                obtain ⟨hi, rfl⟩ := rgD_get hx2
                have hzi : xs.getD (0 + (i : Int)).toNat .none ∈ xs := by
                  rw [List.getD_eq_getElem?_getD, List.getElem?_eq_getElem (by omega), Option.getD_some]
                  exact List.getElem_mem _
                refine ⟨trivial, ?_⟩
                refine wg_name 3 sc.nd rfl (.inl rfl) ?_
                change WSs _ _ [_, _, _, _] [_] _
                refine wss_one ?_
                refine ws_if ?_
                refine wt_not ?_
                refine wt_val ?_
                refine we_call [] F__law_same (hr.mono (by omega)) m__law_same k__law_same b__law_same ?_
                refine wa_d ?_
                refine we_ix ?_
                refine wv_name 0 rfl (.inl rfl) rfl ?_
                refine we_name 3 rfl (.inl rfl) rfl ?_
                refine ⟨_, _, _, rfl, rfl, atI_gd (by omega) (by omega), ?_⟩
                refine wa_d ?_
                refine we_ix ?_
                refine wv_name 1 rfl (.inl rfl) rfl ?_
                refine we_name 3 rfl (.inl rfl) rfl ?_
                refine ⟨_, _, _, rfl, rfl, atI_gd (by omega) (by omega), ?_⟩
                refine wa_d ?_
                refine we_sub ?_
                refine we_name 2 rfl (.inl rfl) rfl ?_
                refine we_int ?_
                refine ⟨_, _, rfl, rfl, ?_⟩
                refine wa_nil ?_
                refine ⟨by decide, by (simp [setAll_len, setAll_nil]), by (simp [refsIn, setAll_len, setAll_nil, permL]), _, k - 1, rfl, rfl, hxs _ hzi, by omega, by omega, _, rfl, rfl, ?_⟩
                refine ⟨_, rfl, ?_⟩
                refine ⟨fun hif7 => ?_, fun hif7 => ?_⟩
                ·
                  exfalso
                  cases hif7 --done
                ·
                  refine wss_nil ?_
                  exact ⟨_, _, .same (by (repeat (first | exact WkL.nil | refine WkL.kd ?_ | (refine WkL.kr ?_ ?_; focus (simp [setAll_len, setAll_nil]; done)) | refine WkL.kw ?_ | refine WkL.drop ?_))) (by simp [setAll_len]), _, rfl, rfl⟩
              obtain ⟨y3, rfl, rfl⟩ := hI
              refine ⟨trivial, ?_⟩
              change WSs _ _ [_, _, _, _] [_] _
              refine wss_one ?_
              refine ws_ret ?_
              refine we_bool ?_
              exact ⟨by simp, .inl ⟨_, rfl, kq⟩⟩
end
section
variable {P : Program} {w : World} {K : PySem.W.Frag} {mg : Str → Option Value} {base : Heap} {T : Addr}
theorem ok_l_sameE {f : Addr} {fd : FuncData} (F : FunD K "_law_same" "_law_same" s_l_same f fd T) (m__law_same : mg "_law_same" = some (.ref f)) (k__law_same : PySem.W.keepIn K (.ref f) = true) (b__law_same : Binds K fd ["_law_told", "_law_due", "_law_depth"] []) (m_range : mg "range" = none) (m_isinstance : mg "isinstance" = none) (m_bool : mg "bool" = none) (m_int : mg "int" = none) (m_str : mg "str" = none) (m_len : mg "len" = none) (m_tuple : mg "tuple" = none) (m_list : mg "list" = none) : FnOk P w K mg base CX0 6 f fd ["_law_told", "_law_due", "_law_depth"] (toSp K JJ.spSamE4) :=
  have A := ok_l_same (P := P) (w := w) (base := base) F m__law_same k__law_same b__law_same m_range m_isinstance m_bool m_int m_str m_len m_tuple m_list
  fnok_or (JJ.fnok_up (A 4) (by omega)) (JJ.fnok_up (ok_l_same_C F (A 3) m__law_same k__law_same b__law_same m_range m_isinstance m_bool m_int m_str m_len m_tuple m_list) (by omega))
end
section
variable {P : Program} {w : World} {K : PySem.W.Frag} {mg : Str → Option Value} {base : Heap}
theorem ok_l_straight {f : Addr} {fd : FuncData} (F : Fun K "_law_straight" "_law_straight" s_l_straight f fd) (m_tuple : mg "tuple" = none) (m_list : mg "list" = none) (m_range : mg "range" = none) : FnOk P w K mg base CX0 1 f fd ["_law_n"] (toSp K JJ.spLst) := by
  have sc := sc_l_straight
  refine fn_pp F sc (fun pvs m q h => ?_) (fun cdv A outer s H E hr pvs m q h => ?_)
  · obtain ⟨_, rfl, _⟩ := h
    rfl
  obtain ⟨n, rfl, rfl, hn, hn8, kq⟩ := h
  change WSs _ _ [_] [] _
  refine wss_one ?_
  refine ws_ret ?_
  refine we_tup ?_
  refine wd_cons ?_
  refine we_name 0 rfl (.inl rfl) rfl ?_
  refine wd_cons ?_
  refine we_name 0 rfl (.inl rfl) rfl ?_
  refine wd_cons ?_
  refine we_tuple1 m_tuple ?_
  refine wv_we ?_
  refine we_wf ?_
  refine wf_cat ?_
  refine wv_we ?_
  refine we_wf ?_
  refine wf_listRg2 rfl m_list m_range ?_
  refine we_name 0 rfl (.inl rfl) rfl ?_
  refine we_mul ?_
  refine we_int ?_
  refine we_name 0 rfl (.inl rfl) rfl ?_
  refine ⟨_, _, rfl, rfl, cmul_of (j := 3) Bd.lit (Bd.of (k := 6) (by omega) (by omega)), ?_⟩
  refine ⟨_, _, rfl, rfl, RgOk.of_le (by omega) (by omega) (by omega) (by omega), ?_⟩
  refine wv_we ?_
  refine we_wf ?_
  refine wf_listRg1 rfl m_list m_range ?_
  refine we_name 0 rfl (.inl rfl) rfl ?_
  refine ⟨_, rfl, RgOk.of_le (by omega) (by omega) (by omega) (by omega), ?_⟩
  refine ⟨_, _, rfl, rfl, szl (by rw [rgD_len, rgD_len]; omega), ?_⟩
  have e9 : rgD n (2 * n) ++ rgD 0 n = (JJ.stR n).map .int := by
    unfold rgD JJ.stR
    rw [show (2 * n - n).toNat = n.toNat by omega, show (n - 0).toNat = n.toNat by omega, List.map_append, List.map_map, List.map_map]
    rfl
  rw [e9]
  refine ⟨_, rfl, ?_⟩
  refine wd_nil ?_
  refine ⟨szl (by simp), ?_⟩
  exact ⟨Nat.zero_le _, .inl ⟨_, rfl, kq⟩⟩
end
section
variable {P : Program} {w : World} {K : PySem.W.Frag} {mg : Str → Option Value} {base : Heap}
theorem ok_l_hooked {f : Addr} {fd : FuncData} (F : Fun K "_law_hooked" "_law_hooked" s_l_hooked f fd) (m_list : mg "list" = none) (m_tuple : mg "tuple" = none) : FnOk P w K mg base CX0 1 f fd ["_law_mat", "_law_index"] (toSp K JJ.spHkd) := by
  have sc := sc_l_hooked
  refine fn_pp F sc (fun pvs m q h => ?_) (fun cdv A outer s H E hr pvs m q h => ?_)
  · obtain ⟨_, _, _, rfl, _⟩ := h
    rfl
  obtain ⟨n, i, ns, rfl, rfl, R, i0, i1, hn8, kq⟩ := h
  have hnl := R.len
  have iL := R.sg.into (n + i) (by omega) (by omega)
  have iR := R.sg.into (n + i + 1) (by omega) (by omega)
  change WSs _ _ [_, _, _, _, _, _] [] _
  refine wss_cons ?_
  refine ws_set 2 sc.nd rfl (.inl rfl) ?_
  refine we_ix ?_
  refine wv_name 0 rfl (.inl rfl) rfl ?_
  refine we_int ?_
  refine ⟨_, [.int n, .int n, .tuple (ns.map .int)], .int n, rfl, rfl, rfl, ?_⟩
  change WSs _ _ [_, _, _, _, _, _] [] _
  refine wss_cons ?_
  refine ws_setF 3 sc.nd rfl (.inl rfl) ?_
  refine wf_list1 m_list ?_
  refine wv_we ?_
  refine we_ix ?_
  refine wv_name 0 rfl (.inl rfl) rfl ?_
  refine we_int ?_
  refine ⟨_, [.int n, .int n, .tuple (ns.map .int)], .tuple (ns.map .int), rfl, rfl, rfl, ?_⟩
  refine ⟨_, rfl, ?_⟩
  change WSs _ _ [_, _, _, _, _, _] [_] _
  refine wss_cons ?_
  refine ws_par 4 5 rfl sc.nd rfl rfl (by decide) rfl rfl ?_
  refine wa_d ?_
  refine we_ix ?_
  refine wv_name 3 rfl (.inl rfl) rfl ?_
  refine we_add ?_
  refine we_name 2 rfl (.inl rfl) rfl ?_
  refine we_name 1 rfl (.inl rfl) rfl ?_
  refine ⟨_, _, rfl, rfl, ?_⟩
  refine ⟨_, _, _, rfl, rfl, atI_ints (by omega) (by omega), ?_⟩
  rw [show ns.getD (n + i).toNat 0 = MM.mu ns (n + i) from rfl]
  refine wa_d ?_
  refine we_ix ?_
  refine wv_name 3 rfl (.inl rfl) rfl ?_
  refine we_add ?_
  refine we_add ?_
  refine we_name 2 rfl (.inl rfl) rfl ?_
  refine we_name 1 rfl (.inl rfl) rfl ?_
  refine ⟨_, _, rfl, rfl, ?_⟩
  refine we_int ?_
  refine ⟨_, _, rfl, rfl, ?_⟩
  refine ⟨_, _, _, rfl, rfl, atI_ints (by omega) (by omega), ?_⟩
  rw [show ns.getD (n + i + 1).toNat 0 = MM.mu ns (n + i + 1) from rfl]
  refine wa_nil ?_
  refine ⟨_, _, rfl, ?_⟩
  change WSs _ _ [_, _, _, _, _, _] [_] _
  refine wss_cons ?_
  refine ws_if ?_
  refine wt_eqI ?_
  refine we_name 4 rfl (.inl rfl) rfl ?_
  refine we_add ?_
  refine we_add ?_
  refine we_name 2 rfl (.inl rfl) rfl ?_
  refine we_name 1 rfl (.inl rfl) rfl ?_
  refine ⟨_, _, rfl, rfl, ?_⟩
  refine we_int ?_
  refine ⟨_, _, rfl, rfl, ?_⟩
  refine ⟨_, _, rfl, rfl, ?_⟩
  refine ⟨fun hif1 => ?_, fun hif1 => ?_⟩
  ·
    have hk : JJ.hkd n ⟨n, n, ns⟩ i = (1, ⟨n, n, ns⟩) := by unfold JJ.hkd; rw [if_pos (of_decide_eq_true hif1)]
    rw [hk] at kq
    change WSs _ _ [_, _, _, _, _, _] [_] _
    refine wss_one ?_
    refine ws_ret ?_
    refine we_tup ?_
    refine wd_cons ?_
    refine we_int ?_
    refine wd_cons ?_
    refine we_name 0 rfl (.inl rfl) rfl ?_
    refine wd_nil ?_
    refine ⟨szl (by simp), ?_⟩
    exact ⟨by simp, .inl ⟨_, rfl, kq⟩⟩
  ·
    have hk : JJ.hkd n ⟨n, n, ns⟩ i = (0, ⟨n, n, JJ.hkRow n i ns⟩) := by unfold JJ.hkd; rw [if_neg (of_decide_eq_false hif1)]
    rw [hk] at kq
    refine wss_nil ?_
    change WSs _ _ [_, _, _, _, _, _] [_] _
    refine wss_cons ?_
    refine ws_asg ?_
    refine we_name 5 rfl (.inl rfl) rfl ?_
    refine wg_sub ?_
    refine wv_name 3 rfl (.inl rfl) rfl ?_
    refine we_name 4 rfl (.inl rfl) rfl ?_
    refine ⟨_, _, _, _, rfl, rfl, rfl, ixN_of iL.1 (by rw [List.length_map]; omega), ?_⟩
    change WSs _ _ [_, _, _, _, _, _] [_] _
    refine wss_cons ?_
    refine ws_asg ?_
    refine we_name 4 rfl (.inl rfl) rfl ?_
    refine wg_sub ?_
    refine wv_name 3 rfl (.inl rfl) rfl ?_
    refine we_name 5 rfl (.inl rfl) rfl ?_
    refine ⟨_, _, _, _, rfl, rfl, rfl, ixN_of iR.1 (by rw [List.length_set, List.length_map]; omega), ?_⟩
    change WSs _ _ [_, _, _, _, _, _] [_] _
    refine wss_cons ?_
    refine ws_asg ?_
    refine we_add ?_
    refine we_add ?_
    refine we_name 2 rfl (.inl rfl) rfl ?_
    refine we_name 1 rfl (.inl rfl) rfl ?_
    refine ⟨_, _, rfl, rfl, ?_⟩
    refine we_int ?_
    refine ⟨_, _, rfl, rfl, ?_⟩
    refine wg_sub ?_
    refine wv_name 3 rfl (.inl rfl) rfl ?_
    refine we_add ?_
    refine we_name 2 rfl (.inl rfl) rfl ?_
    refine we_name 1 rfl (.inl rfl) rfl ?_
    refine ⟨_, _, rfl, rfl, ?_⟩
    refine ⟨_, _, _, _, rfl, rfl, rfl, ixN_of (by omega) (by rw [List.length_set, List.length_set, List.length_map]; omega), ?_⟩
    change WSs _ _ [_, _, _, _, _, _] [_] _
    refine wss_cons ?_
    refine ws_asg ?_
    refine we_add ?_
    refine we_name 2 rfl (.inl rfl) rfl ?_
    refine we_name 1 rfl (.inl rfl) rfl ?_
    refine ⟨_, _, rfl, rfl, ?_⟩
    refine wg_sub ?_
    refine wv_name 3 rfl (.inl rfl) rfl ?_
    refine we_add ?_
    refine we_add ?_
    refine we_name 2 rfl (.inl rfl) rfl ?_
    refine we_name 1 rfl (.inl rfl) rfl ?_
    refine ⟨_, _, rfl, rfl, ?_⟩
    refine we_int ?_
    refine ⟨_, _, rfl, rfl, ?_⟩
    refine ⟨_, _, _, _, rfl, rfl, rfl, ixN_of (by omega) (by rw [List.length_set, List.length_set, List.length_set, List.length_map]; omega), ?_⟩
    change WSs _ _ [_, _, _, _, _, _] [_] _
    refine wss_one ?_
    refine ws_ret ?_
    refine we_tup ?_
    refine wd_cons ?_
    refine we_int ?_
    refine wd_cons ?_
    refine we_tup ?_
    refine wd_cons ?_
    refine we_name 2 rfl (.inl rfl) rfl ?_
    refine wd_cons ?_
    refine we_name 2 rfl (.inl rfl) rfl ?_
    refine wd_cons ?_
    refine we_tuple1 m_tuple ?_
    refine wv_name 3 rfl (.inl rfl) rfl ?_
    refine ⟨_, rfl, ?_⟩
    have e7 : (((((ns.map PyData.int).set (MM.mu ns (n + i)).toNat (.int (MM.mu ns (n + i + 1)))).set (MM.mu ns (n + i + 1)).toNat (.int (MM.mu ns (n + i)))).set (n + i).toNat (.int (n + i + 1))).set (n + i + 1).toNat (.int (n + i))) = (JJ.hkRow n i ns).map .int := by
      unfold JJ.hkRow
      simp only [List.map_set]
    rw [e7]
    refine wd_nil ?_
    refine ⟨szl (by simp), ?_⟩
    refine wd_nil ?_
    refine ⟨szl (by simp), ?_⟩
    exact ⟨by simp, .inl ⟨_, rfl, kq⟩⟩
end
section
variable {P : Program} {w : World} {K : PySem.W.Frag} {mg : Str → Option Value} {base : Heap}
theorem ok_l_value {f : Addr} {fd : FuncData} (F : Fun K "_law_value" "_law_value" s_l_value f fd) {f__law_straight : Addr} {fd__law_straight : FuncData} (F__law_straight : FnOk P w K mg base CX0 1 f__law_straight fd__law_straight ["_law_n"] (toSp K JJ.spLst)) (m__law_straight : mg "_law_straight" = some (.ref f__law_straight)) (k__law_straight : PySem.W.keepIn K (.ref f__law_straight) = true) (b__law_straight : Binds K fd__law_straight ["_law_n"] []) {f__law_hooked : Addr} {fd__law_hooked : FuncData} (F__law_hooked : FnOk P w K mg base CX0 1 f__law_hooked fd__law_hooked ["_law_mat", "_law_index"] (toSp K JJ.spHkd)) (m__law_hooked : mg "_law_hooked" = some (.ref f__law_hooked)) (k__law_hooked : PySem.W.keepIn K (.ref f__law_hooked) = true) (b__law_hooked : Binds K fd__law_hooked ["_law_mat", "_law_index"] []) : FnOk P w K mg base CX0 2 f fd ["_law_n", "_law_word_here"] (toSp K JJ.spVal) := by
  have sc := sc_l_value
  refine fn_pp F sc (fun pvs m q h => ?_) (fun cdv A outer s H E hr pvs m q h => ?_)
  · obtain ⟨_, _, rfl, _⟩ := h
    rfl
  obtain ⟨n, ws, rfl, rfl, hn, hn8, W, kq⟩ := h
  change WSs _ _ [_, _, _, _, _, _] [] _
  refine wss_cons ?_
  refine ws_par 2 3 rfl sc.nd rfl rfl (by decide) rfl rfl ?_
  refine wa_d ?_
  refine we_int ?_
  refine wa_d ?_
  refine we_call [] F__law_straight (hr.mono (by omega)) m__law_straight k__law_straight b__law_straight ?_
  refine wa_d ?_
  refine we_name 0 rfl (.inl rfl) rfl ?_
  refine wa_nil ?_
  refine ⟨by decide, by (simp [setAll_len, setAll_nil]), by (simp [refsIn, setAll_len, setAll_nil, permL]), n, rfl, rfl, hn, hn8, _, rfl, rfl, ?_⟩
  refine wa_nil ?_
  refine ⟨_, _, rfl, ?_⟩
  change WSs _ _ [_, _, _, _, _, _] [] _
  refine wss_cons ?_
  refine ws_for PassesOwn.never rfl ?_
  refine wi_tup ?_
  refine we_name 1 rfl (.inl rfl) rfl ?_
  refine ⟨_, rfl, ?_⟩
  refine ⟨fun i L m => ∃ r w y4 y5, L = [some (.d (.int n)), some (.d (.tuple (ws.map .int))), some (.d (.int r)), some (.d (JJ.matT w)), y4, y5] ∧ (r, w) = JJ.valJ n (ws.take i) ∧ m = [], ?_, fun i x L m hx hI => ?_, fun L m hI => ?_⟩
  ·
    exact ⟨0, ⟨n, n, JJ.stR n⟩, _, _, rfl, rfl, rfl⟩
  ·
    obtain ⟨r, w, y4, y5, rfl, hrw, rfl⟩ := hI
    obtain ⟨v, hv, rfl⟩ := JJ.map_at hx
    have hW := W v (List.mem_of_getElem? hv)
    have hnx := JJ.val_next (n := n) hv
    rw [← hrw] at hnx
    obtain ⟨rs, ers, R⟩ := JJ.val_rw (n := n) (by omega) _ rfl (fun x hx => W x (List.mem_of_mem_take hx) : JJ.Wok n (ws.take i))
    rw [← hrw] at ers
    have ers : w = ⟨n, n, rs⟩ := ers
    subst ers
    refine ⟨trivial, ?_⟩
    refine wg_name 4 sc.nd rfl (.inl rfl) ?_
    change WSs _ _ [_, _, _, _, _, _] [] _
    refine wss_cons ?_
    refine ws_asg ?_
    refine we_call [] F__law_hooked (hr.mono (by omega)) m__law_hooked k__law_hooked b__law_hooked ?_
    refine wa_d ?_
    refine we_name 3 rfl (.inl rfl) rfl ?_
    refine wa_d ?_
    refine we_name 4 rfl (.inl rfl) rfl ?_
    refine wa_nil ?_
    refine ⟨by decide, by (simp [setAll_len, setAll_nil]), by (simp [refsIn, setAll_len, setAll_nil, permL]), n, v, rs, rfl, rfl, R, hW.1, hW.2, hn8, _, rfl, rfl, ?_⟩
    refine wg_tup rfl ?_
    refine ⟨_, rfl, rfl, ?_⟩
    refine wgn_cons ?_
    refine wg_name 5 sc.nd rfl (.inl rfl) ?_
    refine wgn_cons ?_
    refine wg_name 3 sc.nd rfl (.inl rfl) ?_
    refine wgn_nil ?_
    change WSs _ _ [_, _, _, _, _, _] [] _
    refine wss_one ?_
    refine ws_set 2 sc.nd rfl (.inl rfl) ?_
    refine we_add ?_
    refine we_name 2 rfl (.inl rfl) rfl ?_
    refine we_name 5 rfl (.inl rfl) rfl ?_
    refine ⟨_, _, rfl, rfl, ?_⟩
    refine ⟨_, _, .same (by (repeat (first | exact WkL.nil | refine WkL.kd ?_ | (refine WkL.kr ?_ ?_; focus (simp [setAll_len, setAll_nil]; done)) | refine WkL.kw ?_ | refine WkL.drop ?_))) (by simp), _, (JJ.hkd n ⟨n, n, rs⟩ v).2, _, _, rfl, ?_, rfl⟩
    rw [hnx]
    rfl
  rw [List.length_map] at hI
  obtain ⟨r, w, y4, y5, rfl, hrw, rfl⟩ := hI
  rw [List.take_length] at hrw
  refine ⟨trivial, ?_⟩
  change WSs _ _ [_, _, _, _, _, _] [] _
  refine wss_one ?_
  refine ws_ret ?_
  refine we_tup ?_
  refine wd_cons ?_
  refine we_name 2 rfl (.inl rfl) rfl ?_
  refine wd_cons ?_
  refine we_name 3 rfl (.inl rfl) rfl ?_
  refine wd_nil ?_
  refine ⟨szl (by simp), ?_⟩
  rw [← hrw] at kq
  exact ⟨Nat.zero_le _, .inl ⟨_, rfl, kq⟩⟩
end
section
variable {P : Program} {w : World} {K : PySem.W.Frag} {mg : Str → Option Value} {base : Heap}
theorem ok_p_check_hooks {f : Addr} {fd : FuncData} (F : Fun K "_check_hooks" "_check_hooks" s_p_check_hooks f fd) : FnOk P w K mg base CX0 1 f fd ["n", "word"] (toSp K JJ.spHooks) := by
  have sc := sc_p_check_hooks
  refine fn_pp F sc (fun pvs m q h => ?_) (fun cdv A outer s H E hr pvs m q h => ?_)
  · obtain ⟨_, _, rfl, _⟩ := h
    rfl
  obtain ⟨n, ws, rfl, rfl, hn, W, kq⟩ := h
  change WSs _ _ [_, _, _] [] _
  refine wss_one ?_
  refine ws_for PassesOwn.never rfl ?_
  refine wi_tup ?_
  refine we_name 1 rfl (.inl rfl) rfl ?_
  refine ⟨_, rfl, ?_⟩
  refine ⟨fun i L m => ∃ y2, L = [some (.d (.int n)), some (.d (.tuple (ws.map .int))), y2] ∧ m = [], ?_, fun i x L m hx hI => ?_, fun L m hI => ?_⟩
  ·
    exact ⟨_, rfl, rfl⟩
  ·
    obtain ⟨y2, rfl, rfl⟩ := hI
    obtain ⟨v, hv, rfl⟩ := JJ.map_at hx
    have hW := W v (List.mem_of_getElem? hv)
    refine ⟨trivial, ?_⟩
    refine wg_name 2 sc.nd rfl (.inl rfl) ?_
    change WSs _ _ [_, _, _] [] _
    refine wss_one ?_
    refine ws_if ?_
    refine wt_not ?_
    apply VT.use
    ·
      apply vt_chain op_le op_lt (by rfl)
      ·
        intro Q hQ
        refine we_int ?_
        exact hQ
      ·
        intro Q hQ
        refine we_name 2 rfl (.inl rfl) rfl ?_
        exact hQ
      intro hg1
      intro Q hQ
      refine we_sub ?_
      refine we_name 0 rfl (.inl rfl) rfl ?_
      refine we_int ?_
      refine ⟨_, _, rfl, rfl, ?_⟩
      exact hQ
    refine ⟨fun hif1 => ?_, fun hif1 => ?_⟩
    ·
      exfalso
      simp only [Bool.not_eq_true', Bool.and_eq_false_iff, decide_eq_false_iff_not] at hif1
      omega --done
    ·
      refine wss_nil ?_
      exact ⟨_, _, .same (by (repeat (first | exact WkL.nil | refine WkL.kd ?_ | (refine WkL.kr ?_ ?_; focus (simp [setAll_len, setAll_nil]; done)) | refine WkL.kw ?_ | refine WkL.drop ?_))) (by simp), _, rfl, rfl⟩
  obtain ⟨y2, rfl, rfl⟩ := hI
  refine ⟨trivial, ?_⟩
  exact ⟨Nat.zero_le _, .inl ⟨_, rfl, kq⟩⟩
end
section
variable {P : Program} {w : World} {K : PySem.W.Frag} {mg : Str → Option Value} {base : Heap}
theorem ok_check_word {f : Addr} {fd : FuncData} (F : Fun K "check_word" "check_word" s_check_word f fd) {f_check_from : Addr} {fd_check_from : FuncData} (F_check_from : FnOk P w K mg base CX0 1 f_check_from fd_check_from ["number", "least"] (toSp K MM.spFrom)) (m_check_from : mg "check_from" = some (.ref f_check_from)) (k_check_from : PySem.W.keepIn K (.ref f_check_from) = true) (b_check_from : Binds K fd_check_from ["number", "least"] []) {f__check_hooks : Addr} {fd__check_hooks : FuncData} (F__check_hooks : FnOk P w K mg base CX0 1 f__check_hooks fd__check_hooks ["n", "word"] (toSp K JJ.spHooks)) (m__check_hooks : mg "_check_hooks" = some (.ref f__check_hooks)) (k__check_hooks : PySem.W.keepIn K (.ref f__check_hooks) = true) (b__check_hooks : Binds K fd__check_hooks ["n", "word"] []) : FnOk P w K mg base CX0 2 f fd ["n", "word"] (toSp K JJ.spHooks) := by
  have sc := sc_check_word
  refine fn_pp F sc (fun pvs m q h => ?_) (fun cdv A outer s H E hr pvs m q h => ?_)
  · obtain ⟨_, _, rfl, _⟩ := h
    rfl
  obtain ⟨n, ws, rfl, rfl, hn, W, kq⟩ := h
  change WSs _ _ [_, _] [] _
  refine wss_cons ?_
  refine ws_expr ?_
  refine we_call [] F_check_from (hr.mono (by omega)) m_check_from k_check_from b_check_from ?_
  refine wa_d ?_
  refine we_name 0 rfl (.inl rfl) rfl ?_
  refine wa_d ?_
  refine we_int ?_
  refine wa_nil ?_
  refine ⟨by decide, by (simp [setAll_len, setAll_nil]), by (simp [refsIn, setAll_len, setAll_nil, permL]), n, 1, rfl, rfl, hn, _, rfl, rfl, ?_⟩
  change WSs _ _ [_, _] [] _
  refine wss_one ?_
  refine ws_expr ?_
  refine we_call [] F__check_hooks (hr.mono (by omega)) m__check_hooks k__check_hooks b__check_hooks ?_
  refine wa_d ?_
  refine we_name 0 rfl (.inl rfl) rfl ?_
  refine wa_d ?_
  refine we_name 1 rfl (.inl rfl) rfl ?_
  refine wa_nil ?_
  refine ⟨by decide, by (simp [setAll_len, setAll_nil]), by (simp [refsIn, setAll_len, setAll_nil, permL]), n, ws, rfl, rfl, hn, W, _, rfl, rfl, ?_⟩
  exact ⟨Nat.zero_le _, .inl ⟨_, rfl, kq⟩⟩
end
section
variable {P : Program} {w : World} {K : PySem.W.Frag} {mg : Str → Option Value} {base : Heap}
theorem ok_l_word {f : Addr} {fd : FuncData} (F : Fun K "_law_word" "_law_word" s_l_word f fd) {f__law_dip : Addr} {fd__law_dip : FuncData} (F__law_dip : FnOk P w K mg base CX0 1 f__law_dip fd__law_dip ["_law_well_here", "_law_many"] (toSp K JJ.spDip)) (m__law_dip : mg "_law_dip" = some (.ref f__law_dip)) (k__law_dip : PySem.W.keepIn K (.ref f__law_dip) = true) (b__law_dip : Binds K fd__law_dip ["_law_well_here", "_law_many"] []) (m_range : mg "range" = none) (m_tuple : mg "tuple" = none) (m_min : mg "min" = none) (m_max : mg "max" = none) (m_len : mg "len" = none) : FnOk P w K mg base CX0 2 f fd ["_law_well_here", "_law_n", "_law_most"] (toSp K JJ.spWord) := by
  have sc := sc_l_word
  refine fn_pp F sc (fun pvs m q h => ?_) (fun cdv A outer s H E hr pvs m q h => ?_)
  · first | (obtain ⟨_, _, rfl, _⟩ := h; rfl) | (obtain ⟨_, _, _, rfl, _⟩ := h; rfl) | (obtain ⟨_, _, _, _, rfl, _⟩ := h; rfl) | (obtain ⟨_, _, _, _, _, rfl, _⟩ := h; rfl) | (obtain ⟨_, _, _, _, _, _, rfl, _⟩ := h; rfl) | (obtain ⟨_, rfl, _⟩ := h; rfl)
  obtain ⟨src, xs, n, most, rfl, rfl, hw, hn, hn8, hm0, hm1, kq⟩ := h
  change WSs _ _ [_, _, _, _, _, _, _] [_] _
  refine wss_cons ?_
  refine ws_if ?_
  refine wt_lt ?_
  refine we_name 1 rfl (.inl rfl) rfl ?_
  refine we_int ?_
  refine ⟨_, _, rfl, rfl, ?_⟩
  refine ⟨fun hif1 => ?_, fun hif1 => ?_⟩
  ·
    change WSs _ _ [_, _, _, _, _, _, _] [_] _
    refine wss_one ?_
    refine ws_ret ?_
    refine we_tup ?_
    refine wd_nil ?_
    refine ⟨szl (by simp), ?_⟩
    exact ⟨by simp, .inl ⟨_, rfl, kq _ [] hw (fun x h => (by cases h)) (by simpa using hm0)⟩⟩
  ·
    have hn2 := of_decide_eq_false hif1
    refine wss_nil ?_
    change WSs _ _ [_, _, _, _, _, _, _] [_] _
    refine wss_cons ?_
    refine ws_setF 3 sc.nd rfl (.inl rfl) ?_
    refine wf_lst ?_
    refine wd_nil ?_
    refine ⟨szl (by simp), ?_⟩
    change WSs _ _ [_, _, _, _, _, _, _] [_, _] _
    refine wss_cons ?_
    refine ws_for PassesOwn.never rfl ?_
    refine wi_rng1 m_range ?_
    refine we_call [0] F__law_dip (hr.mono (by omega)) m__law_dip k__law_dip b__law_dip ?_
    refine wa_cons ?_
    refine wv_name 0 rfl (.inl rfl) rfl ?_
    refine wa_d ?_
    refine we_add ?_
    refine we_name 2 rfl (.inl rfl) rfl ?_
    refine we_int ?_
    refine ⟨_, _, rfl, rfl, ?_⟩
    refine wa_nil ?_
    refine ⟨by decide, by (simp [setAll_len, setAll_nil]), by (simp [refsIn, setAll_len, setAll_nil, permL]), src, _, _, rfl, rfl, hw, by omega, by omega, fun r1 xsr1 hr1a hr1b hr1 => ⟨_, rfl, rfl, ?_⟩⟩
    refine ⟨_, rfl, by omega, by omega, ?_⟩
    refine ⟨fun i L m => ∃ xs ws y4 y5 y6, L = [some (.ref 0), some (.d (.int n)), some (.d (.int most)), some (.ref 1), y4, y5, y6] ∧ m = [some (.lst xs), some (.lst (ws.map .int))] ∧ JJ.W2 src xs ∧ JJ.Wok n ws ∧ ws.length = i, ?_, fun i x L m hx hI => ?_, fun L m hI => ?_⟩
    ·
      exact ⟨_, [], _, _, _, rfl, rfl, hr1, fun x h => (by cases h), rfl⟩
    ·
      obtain ⟨xs, ws, y4, y5, y6, rfl, rfl, hw3, W, hwl⟩ := hI
      obtain ⟨hi, rfl⟩ := rgD_get hx
      have hwm : (ws.map PyData.int).length = ws.length := List.length_map ..
      refine ⟨trivial, ?_⟩
      refine wg_name 4 sc.nd rfl (.inl rfl) ?_
      change WSs _ _ [_, _, _, _, _, _, _] [_, _] _
      refine wss_cons ?_
      refine ws_set 5 sc.nd rfl (.inl rfl) ?_
      refine we_call [0] F__law_dip (hr.mono (by omega)) m__law_dip k__law_dip b__law_dip ?_
      refine wa_cons ?_
      refine wv_name 0 rfl (.inl rfl) rfl ?_
      refine wa_d ?_
      refine we_sub ?_
      refine we_name 1 rfl (.inl rfl) rfl ?_
      refine we_int ?_
      refine ⟨_, _, rfl, rfl, ?_⟩
      refine wa_nil ?_
      refine ⟨by decide, by (simp [setAll_len, setAll_nil]), by (simp [refsIn, setAll_len, setAll_nil, permL]), src, _, _, rfl, rfl, hw3, by omega, by omega, fun r2 xsr2 hr2a hr2b hr2 => ⟨_, rfl, rfl, ?_⟩⟩
      change WSs _ _ [_, _, _, _, _, _, _] [_, _] _
      refine wss_cons ?_
      refine ws_set 6 sc.nd rfl (.inl rfl) ?_
      refine we_call [0] F__law_dip (hr.mono (by omega)) m__law_dip k__law_dip b__law_dip ?_
      refine wa_cons ?_
      refine wv_name 0 rfl (.inl rfl) rfl ?_
      refine wa_d ?_
      refine we_int ?_
      refine wa_nil ?_
      refine ⟨by decide, by (simp [setAll_len, setAll_nil]), by (simp [refsIn, setAll_len, setAll_nil, permL]), src, _, 4, rfl, rfl, hr2, by omega, by omega, fun r3 xsr3 hr3a hr3b hr3 => ⟨_, rfl, rfl, ?_⟩⟩
      change WSs _ _ [_, _, _, _, _, _, _] [_, _] _
      refine wss_cons ?_
      refine ws_join (fun L m => ∃ xs idx, L = [some (.ref 0), some (.d (.int n)), some (.d (.int most)), some (.ref 1), some (.d (.int (0 + (i : Int)))), some (.d (.int idx)), some (.d (.int r3))] ∧ m = [some (.lst xs), some (.lst (ws.map .int))] ∧ JJ.W2 src xs ∧ 0 ≤ idx ∧ idx < n - 1) ?_ ?_
      ·
        refine ws_if ?_
        apply VT.use
        ·
          apply VW.vt
          apply vw_and
          ·
            intro Q hQ
            refine wt_gt ?_
            refine we_name 6 rfl (.inl rfl) rfl ?_
            refine we_int ?_
            refine ⟨_, _, rfl, rfl, ?_⟩
            exact hQ
          intro hg1
          apply vw_and1
          intro Q hQ
          refine wt_neV (by (first | exact hr.units | exact units65 hr | exact units1 hr)) ?_
          refine wv_name 3 rfl (.inl rfl) rfl ?_
          refine wv_we ?_
          refine we_wf ?_
          refine wf_lst ?_
          refine wd_nil ?_
          refine ⟨szl (by simp), ?_⟩
          refine ⟨_, _, rfl, rfl, shp_ints, by (first | rfl | assumption), ?_⟩
          rw [JJ.eqv_nil]
          exact hQ
        refine ⟨fun hif2 => ?_, fun hif2 => ?_⟩
        ·
          simp only [Bool.and_eq_true, decide_eq_true_eq] at hif2
          have h23 : r3 = 2 ∨ r3 = 3 := by omega
          obtain ⟨ws1, z, rfl⟩ : ∃ ws1 z, ws = ws1 ++ [z] := by
            rcases List.eq_nil_or_concat ws with h | ⟨t, z, h⟩
            · subst h
              exact absurd hif2.2 (by simp)
            · exact ⟨t, z, by simpa using h⟩
          change WSs _ _ [_, _, _, _, _, _, _] [_, _] _
          refine wss_one ?_
          refine ws_set 5 sc.nd rfl (.inl rfl) ?_
          refine we_min2 rfl m_min ?_
          refine we_sub ?_
          refine we_name 1 rfl (.inl rfl) rfl ?_
          refine we_int ?_
          refine ⟨_, _, rfl, rfl, ?_⟩
          refine we_max2 rfl m_max ?_
          refine we_int ?_
          refine we_add ?_
          refine we_ix ?_
          refine wv_name 3 rfl (.inl rfl) rfl ?_
          refine we_neg ?_
          refine we_int ?_
          refine ⟨_, rfl, ?_⟩
          refine ⟨_, _, .int z, rfl, rfl, JJ.atI_last, ?_⟩
          refine we_ix ?_
          refine wv_we ?_
          refine we_wf ?_
          refine wf_lst ?_
          refine wd_cons ?_
          refine we_neg ?_
          refine we_int ?_
          refine ⟨_, rfl, ?_⟩
          refine wd_cons ?_
          refine we_int ?_
          refine wd_nil ?_
          refine ⟨szl (by simp), ?_⟩
          refine we_sub ?_
          refine we_name 6 rfl (.inl rfl) rfl ?_
          refine we_int ?_
          refine ⟨_, _, rfl, rfl, ?_⟩
          refine ⟨_, _, .int (if r3 = 2 then -1 else 1), rfl, rfl, ?_, ?_⟩
          · rcases h23 with h | h <;> subst h <;> rfl
          refine ⟨_, _, rfl, rfl, ?_⟩
          refine ⟨_, _, rfl, rfl, ?_⟩
          refine ⟨_, _, rfl, rfl, ?_⟩
          refine ⟨_, _, rfl, rfl, hr3, ?_, ?_⟩
          · repeat' split
            all_goals omega
          · repeat' split
            all_goals omega
        ·
          change WSs _ _ [_, _, _, _, _, _, _] [_, _] _
          refine wss_one ?_
          refine ws_if ?_
          apply VT.use
          ·
            apply VW.vt
            apply vw_and
            ·
              intro Q hQ
              refine wt_eqI ?_
              refine we_name 6 rfl (.inl rfl) rfl ?_
              refine we_int ?_
              refine ⟨_, _, rfl, rfl, ?_⟩
              exact hQ
            intro hg2
            apply vw_and1
            intro Q hQ
            refine wt_neV (by (first | exact hr.units | exact units65 hr | exact units1 hr)) ?_
            refine wv_name 3 rfl (.inl rfl) rfl ?_
            refine wv_we ?_
            refine we_wf ?_
            refine wf_lst ?_
            refine wd_nil ?_
            refine ⟨szl (by simp), ?_⟩
            refine ⟨_, _, rfl, rfl, shp_ints, by (first | rfl | assumption), ?_⟩
            rw [JJ.eqv_nil]
            exact hQ
          refine ⟨fun hif3 => ?_, fun hif3 => ?_⟩
          ·
            simp only [Bool.and_eq_true, decide_eq_true_eq] at hif3
            have hne : 0 < ws.length := by
              cases ws with
              | nil => exact absurd hif3.2 (by simp)
              | cons a t => simp
            change WSs _ _ [_, _, _, _, _, _, _] [_, _] _
            refine wss_one ?_
            refine ws_set 5 sc.nd rfl (.inl rfl) ?_
            refine we_ix ?_
            refine wv_name 3 rfl (.inl rfl) rfl ?_
            refine we_call [0] F__law_dip (hr.mono (by omega)) m__law_dip k__law_dip b__law_dip ?_
            refine wa_cons ?_
            refine wv_name 0 rfl (.inl rfl) rfl ?_
            refine wa_d ?_
            refine we_len m_len ?_
            refine wv_name 3 rfl (.inl rfl) rfl ?_
            refine ⟨_, rfl, ?_⟩
            rw [hwm]
            refine wa_nil ?_
            refine ⟨by decide, by (simp [setAll_len, setAll_nil]), by (simp [refsIn, setAll_len, setAll_nil, permL]), src, _, _, rfl, rfl, hr3, by omega, by omega, fun r4 xsr4 hr4a hr4b hr4 => ⟨_, rfl, rfl, ?_⟩⟩
            refine ⟨_, _, _, rfl, rfl, atI_ints hr4a (by omega), ?_⟩
            have hmm := W (ws.getD r4.toNat 0) (by rw [List.getD_eq_getElem?_getD, List.getElem?_eq_getElem (by omega), Option.getD_some]; exact List.getElem_mem _)
            first
            | exact ⟨_, _, rfl, rfl, hr4, hmm.1, hmm.2⟩
            | exact ⟨_, _, rfl, rfl, hr3, by omega, by omega⟩
          ·
            refine wss_nil ?_
            first
            | exact ⟨_, _, rfl, rfl, hr4, hmm.1, hmm.2⟩
            | exact ⟨_, _, rfl, rfl, hr3, by omega, by omega⟩
      rintro L m ⟨xs, idx, rfl, rfl, hw5, hx0, hx1⟩
      change WSs _ _ [_, _, _, _, _, _, _] [_, _] _
      refine wss_one ?_
      refine ws_expr ?_
      refine we_append ?_
      refine wv_name 3 rfl (.inl rfl) rfl ?_
      refine ⟨_, _, rfl, rfl, ?_⟩
      refine we_name 5 rfl (.inl rfl) rfl ?_
      refine ⟨_, rfl, szlt (by omega), ?_⟩
      refine ⟨_, _, .same (by (repeat (first | exact WkL.nil | refine WkL.kd ?_ | (refine WkL.kr ?_ ?_; focus (simp [setAll_len, setAll_nil]; done)) | refine WkL.kw ?_ | refine WkL.drop ?_))) (by simp [setAll_len]), _, ws ++ [idx], _, _, _, rfl, by rw [List.map_append]; rfl, hw5, fun x hx => ?_, by rw [List.length_append, List.length_singleton, hwl]⟩
      rcases List.mem_append.mp hx with c | c
      · exact W x c
      · rw [List.mem_singleton.mp c]
        exact ⟨hx0, hx1⟩
    obtain ⟨xs, ws, y4, y5, y6, rfl, rfl, hw3, W, hwl⟩ := hI
    rw [rgD_len] at hwl
    refine ⟨trivial, ?_⟩
    change WSs _ _ [_, _, _, _, _, _, _] [_, _] _
    refine wss_one ?_
    refine ws_ret ?_
    refine we_tuple1 m_tuple ?_
    refine wv_name 3 rfl (.inl rfl) rfl ?_
    refine ⟨_, rfl, ?_⟩
    exact ⟨by simp [setAll_len], .inl ⟨_, rfl, kq _ ws hw3 W (by omega)⟩⟩
end
section
variable {P : Program} {w : World} {K : PySem.W.Frag} {mg : Str → Option Value} {base : Heap}
theorem ok_l_steps {f : Addr} {fd : FuncData} (F : Fun K "_law_steps" "_law_steps" s_l_steps f fd) (m_range : mg "range" = none) (m_sorted : mg "sorted" = none) (m_abs : mg "abs" = none) (m_len : mg "len" = none) : FnOk P w K mg base CX0 1 f fd ["_law_word_here"] (toSp K JJ.spSteps) := by
  have sc := sc_l_steps
  refine fn_pp F sc (fun pvs m q h => ?_) (fun cdv A outer s H E hr pvs m q h => ?_)
  · obtain ⟨_, rfl, _⟩ := h
    rfl
  obtain ⟨ws, rfl, rfl, hl, kq⟩ := h
  have hlm : (ws.map PyData.int).length = ws.length := List.length_map ..
  have h9 : ws.length - 1 + 1 ≤ ws.length ∨ ws.length - 1 = 0 := by omega
  change WSs _ _ [_, _, _, _] [] _
  refine wss_cons ?_
  refine ws_setF 1 sc.nd rfl (.inl rfl) ?_
  refine wf_lst ?_
  refine wd_nil ?_
  refine ⟨szl (by simp), ?_⟩
  change WSs _ _ [_, _, _, _] [_] _
  refine wss_cons ?_
  refine ws_for PassesOwn.never rfl ?_
  refine wi_rng1 m_range ?_
  refine we_sub ?_
  refine we_len m_len ?_
  refine wv_name 0 rfl (.inl rfl) rfl ?_
  refine ⟨_, rfl, ?_⟩
  rw [hlm]
  refine we_int ?_
  refine ⟨_, _, rfl, rfl, ?_⟩
  refine ⟨_, rfl, by omega, by omega, ?_⟩
  refine ⟨fun i L m => ∃ y2 y3, L = [some (.d (.tuple (ws.map .int))), some (.ref 0), y2, y3] ∧ m = [some (.lst (JJ.stps ws i))], ?_, fun i x L m hx hI => ?_, fun L m hI => ?_⟩
  ·
    exact ⟨_, _, rfl, rfl⟩
  ·
    obtain ⟨y2, y3, rfl, rfl⟩ := hI
    obtain ⟨hi, rfl⟩ := rgD_get hx
    rw [show (0 : Int) + (i : Int) = i by omega]
    have e1 : ((i : Int)).toNat = i := by omega
    have e2 : ((i : Int) + 1).toNat = i + 1 := by omega
    have e3 : ((i : Int) + 2).toNat = i + 2 := by omega
    refine ⟨trivial, ?_⟩
    refine wg_name 2 sc.nd rfl (.inl rfl) ?_
    change WSs _ _ [_, _, _, _] [_] _
    refine wss_cons ?_
    refine ws_set 3 sc.nd rfl (.inl rfl) ?_
    refine we_abs m_abs ?_
    refine we_sub ?_
    refine we_ix ?_
    refine wv_name 0 rfl (.inl rfl) rfl ?_
    refine we_name 2 rfl (.inl rfl) rfl ?_
    refine ⟨_, _, _, rfl, rfl, atI_ints (by omega) (by omega), ?_⟩
    rw [e1]
    refine we_ix ?_
    refine wv_name 0 rfl (.inl rfl) rfl ?_
    refine we_add ?_
    refine we_name 2 rfl (.inl rfl) rfl ?_
    refine we_int ?_
    refine ⟨_, _, rfl, rfl, ?_⟩
    refine ⟨_, _, _, rfl, rfl, atI_ints (by omega) (by omega), ?_⟩
    rw [e2]
    refine ⟨_, _, rfl, rfl, ?_⟩
    refine ⟨_, rfl, ?_⟩
    rw [show (if ws.getD i 0 - ws.getD (i + 1) 0 < 0 then -(ws.getD i 0 - ws.getD (i + 1) 0) else ws.getD i 0 - ws.getD (i + 1) 0) = JJ.apt ws i from rfl]
    change WSs _ _ [_, _, _, _] [_] _
    refine wss_cons ?_
    refine ws_join (fun L m => L = [some (.d (.tuple (ws.map .int))), some (.ref 0), some (.d (.int (i : Int))), some (.d (.int (JJ.apt ws i)))] ∧ m = [some (.lst (JJ.stps ws i ++ (if JJ.apt ws i = 0 then [JJ.stpD JJ.sTwo i] else [])))]) ?_ ?_
    ·
      refine ws_if ?_
      refine wt_eqI ?_
      refine we_name 3 rfl (.inl rfl) rfl ?_
      refine we_int ?_
      refine ⟨_, _, rfl, rfl, ?_⟩
      refine ⟨fun hif1 => ?_, fun hif1 => ?_⟩
      ·
        change WSs _ _ [_, _, _, _] [_] _
        refine wss_one ?_
        refine ws_expr ?_
        refine we_append ?_
        refine wv_name 1 rfl (.inl rfl) rfl ?_
        refine ⟨_, _, rfl, rfl, ?_⟩
        refine we_tup ?_
        refine wd_cons ?_
        refine we_str ?_
        refine wd_cons ?_
        refine we_name 2 rfl (.inl rfl) rfl ?_
        refine wd_nil ?_
        refine ⟨szl (by simp), ?_⟩
        refine ⟨_, rfl, szlt (by have := JJ.stps_len (ws := ws) i; omega), ?_⟩
        refine ⟨rfl, ?_⟩
        rw [if_pos (of_decide_eq_true hif1)]
        rfl
      ·
        refine wss_nil ?_
        refine ⟨rfl, ?_⟩
        rw [if_neg (of_decide_eq_false hif1), List.append_nil]
    rintro L m ⟨rfl, rfl⟩
    change WSs _ _ [_, _, _, _] [_] _
    refine wss_cons ?_
    refine ws_join (fun L m => L = [some (.d (.tuple (ws.map .int))), some (.ref 0), some (.d (.int (i : Int))), some (.d (.int (JJ.apt ws i)))] ∧ m = [some (.lst ((JJ.stps ws i ++ (if JJ.apt ws i = 0 then [JJ.stpD JJ.sTwo i] else [])) ++ (if 1 < JJ.apt ws i then [JJ.stpD JJ.sFar i] else [])))]) ?_ ?_
    ·
      refine ws_if ?_
      refine wt_gt ?_
      refine we_name 3 rfl (.inl rfl) rfl ?_
      refine we_int ?_
      refine ⟨_, _, rfl, rfl, ?_⟩
      refine ⟨fun hif2 => ?_, fun hif2 => ?_⟩
      ·
        change WSs _ _ [_, _, _, _] [_] _
        refine wss_one ?_
        refine ws_expr ?_
        refine we_append ?_
        refine wv_name 1 rfl (.inl rfl) rfl ?_
        refine ⟨_, _, rfl, rfl, ?_⟩
        refine we_tup ?_
        refine wd_cons ?_
        refine we_str ?_
        refine wd_cons ?_
        refine we_name 2 rfl (.inl rfl) rfl ?_
        refine wd_nil ?_
        refine ⟨szl (by simp), ?_⟩
        refine ⟨_, rfl, szlt (by have := JJ.stps_len (ws := ws) i; simp only [List.length_append]; (repeat' split) <;> simp only [List.length_cons, List.length_nil] <;> omega), ?_⟩
        refine ⟨rfl, ?_⟩
        rw [if_pos (of_decide_eq_true hif2)]
        rfl
      ·
        refine wss_nil ?_
        refine ⟨rfl, ?_⟩
        rw [if_neg (of_decide_eq_false hif2), List.append_nil]
    rintro L m ⟨rfl, rfl⟩
    change WSs _ _ [_, _, _, _] [_] _
    refine wss_one ?_
    refine ws_if ?_
    apply VT.use
    ·
      apply VW.vt
      apply vw_and
      ·
        intro Q hQ
        refine wt_eqI ?_
        refine we_name 3 rfl (.inl rfl) rfl ?_
        refine we_int ?_
        refine ⟨_, _, rfl, rfl, ?_⟩
        exact hQ
      intro hg1
      have hb1 := of_decide_eq_true hg1
      apply vw_and
      ·
        intro Q hQ
        refine wt_lt ?_
        refine we_add ?_
        refine we_name 2 rfl (.inl rfl) rfl ?_
        refine we_int ?_
        refine ⟨_, _, rfl, rfl, ?_⟩
        refine we_len m_len ?_
        refine wv_name 0 rfl (.inl rfl) rfl ?_
        refine ⟨_, rfl, ?_⟩
        rw [hlm]
        refine ⟨_, _, rfl, rfl, ?_⟩
        exact hQ
      intro hg2
      have hb2 := of_decide_eq_true hg2
      apply vw_and1
      intro Q hQ
      refine wt_eqI ?_
      refine we_ix ?_
      refine wv_name 0 rfl (.inl rfl) rfl ?_
      refine we_add ?_
      refine we_name 2 rfl (.inl rfl) rfl ?_
      refine we_int ?_
      refine ⟨_, _, rfl, rfl, ?_⟩
      refine ⟨_, _, _, rfl, rfl, atI_ints (by omega) (by omega), ?_⟩
      rw [e3]
      refine we_ix ?_
      refine wv_name 0 rfl (.inl rfl) rfl ?_
      refine we_name 2 rfl (.inl rfl) rfl ?_
      refine ⟨_, _, _, rfl, rfl, atI_ints (by omega) (by omega), ?_⟩
      rw [e1]
      refine ⟨_, _, rfl, rfl, ?_⟩
      exact hQ
    refine ⟨fun hif3 => ?_, fun hif3 => ?_⟩
    ·
      have hc3 : JJ.apt ws i = 1 ∧ i + 2 < ws.length ∧ ws.getD (i + 2) 0 = ws.getD i 0 := by
        simp only [Bool.and_eq_true, decide_eq_true_eq] at hif3
        omega
      change WSs _ _ [_, _, _, _] [_] _
      refine wss_one ?_
      refine ws_expr ?_
      refine we_append ?_
      refine wv_name 1 rfl (.inl rfl) rfl ?_
      refine ⟨_, _, rfl, rfl, ?_⟩
      refine we_tup ?_
      refine wd_cons ?_
      refine we_str ?_
      refine wd_cons ?_
      refine we_name 2 rfl (.inl rfl) rfl ?_
      refine wd_nil ?_
      refine ⟨szl (by simp), ?_⟩
      refine ⟨_, rfl, szlt (by have := JJ.stps_len (ws := ws) i; simp only [List.length_append]; (repeat' split) <;> simp only [List.length_cons, List.length_nil] <;> omega), ?_⟩
      first
      | (refine ⟨_, _, .same (by (repeat (first | exact WkL.nil | refine WkL.kd ?_ | (refine WkL.kr ?_ ?_; focus (simp [setAll_len, setAll_nil]; done)) | refine WkL.kw ?_ | refine WkL.drop ?_))) (by simp [setAll_len]), _, _, rfl, ?_⟩; rw [JJ.stps_next, JJ.stpsAt_eq, if_pos hc3, ← List.append_assoc, ← List.append_assoc]; rfl)
      | (refine ⟨_, _, .same (by (repeat (first | exact WkL.nil | refine WkL.kd ?_ | (refine WkL.kr ?_ ?_; focus (simp [setAll_len, setAll_nil]; done)) | refine WkL.kw ?_ | refine WkL.drop ?_))) (by simp [setAll_len]), _, _, rfl, ?_⟩; rw [JJ.stps_next, JJ.stpsAt_eq, if_neg hc3, List.append_nil, ← List.append_assoc])
    ·
      have hc3 : ¬ (JJ.apt ws i = 1 ∧ i + 2 < ws.length ∧ ws.getD (i + 2) 0 = ws.getD i 0) := by
        simp only [Bool.and_eq_false_iff, decide_eq_false_iff_not] at hif3
        omega
      refine wss_nil ?_
      first
      | (refine ⟨_, _, .same (by (repeat (first | exact WkL.nil | refine WkL.kd ?_ | (refine WkL.kr ?_ ?_; focus (simp [setAll_len, setAll_nil]; done)) | refine WkL.kw ?_ | refine WkL.drop ?_))) (by simp [setAll_len]), _, _, rfl, ?_⟩; rw [JJ.stps_next, JJ.stpsAt_eq, if_pos hc3, ← List.append_assoc, ← List.append_assoc]; rfl)
      | (refine ⟨_, _, .same (by (repeat (first | exact WkL.nil | refine WkL.kd ?_ | (refine WkL.kr ?_ ?_; focus (simp [setAll_len, setAll_nil]; done)) | refine WkL.kw ?_ | refine WkL.drop ?_))) (by simp [setAll_len]), _, _, rfl, ?_⟩; rw [JJ.stps_next, JJ.stpsAt_eq, if_neg hc3, List.append_nil, ← List.append_assoc])
  rw [rgD_len, show ((ws.length : Int) - 1 - 0).toNat = ws.length - 1 by omega] at hI
  obtain ⟨y2, y3, rfl, rfl⟩ := hI
  refine ⟨trivial, ?_⟩
  change WSs _ _ [_, _, _, _] [_] _
  refine wss_one ?_
  refine ws_retF ?_
  refine wf_sortedD (by (first | exact hr.units | exact units65 hr | exact units1 hr)) m_sorted ?_
  refine wv_name 1 rfl (.inl rfl) rfl ?_
  refine ⟨_, rfl, (JJ.stps_sort h9).1, (JJ.stps_sort h9).2.1, (JJ.stps_sort h9).2.2, ?_⟩
  exact ⟨by simp, .inr (.inr ⟨1, _, rfl, by simp, rfl, kq⟩)⟩
end
section
variable {P : Program} {w : World} {K : PySem.W.Frag} {mg : Str → Option Value} {base : Heap}
theorem ok_l_step {f : Addr} {fd : FuncData} (F : Fun K "_law_step" "_law_step" s_l_step f fd) : FnOk P w K mg base CX0 1 f fd ["_law_word_here", "_law_step_here"] (toSp K JJ.spStep2) := by
  have sc := sc_l_step
  refine fn_pp F sc (fun pvs m q h => ?_) (fun cdv A outer s H E hr pvs m q h => ?_)
  · obtain ⟨_, _, _, rfl, _⟩ := h
    rfl
  obtain ⟨ws, k, i, rfl, rfl, hl, S, kq⟩ := h
  have hlm : (ws.map PyData.int).length = ws.length := List.length_map ..
  have lt := S.lt
  have e1 : ((i : Int)).toNat = i := by omega
  have e2 : ((i : Int) + 1).toNat = i + 1 := by omega
  have e3 : ((i : Int) + 3).toNat = i + 3 := by omega
  have e4 : ((i : Int) + 2).toNat = i + 2 := by omega
  change WSs _ _ [_, _, _] [] _
  refine wss_cons ?_
  refine ws_set 2 sc.nd rfl (.inl rfl) ?_
  refine we_ix ?_
  refine wv_name 1 rfl (.inl rfl) rfl ?_
  refine we_int ?_
  refine ⟨_, _, _, rfl, rfl, rfl, ?_⟩
  change WSs _ _ [_, _, _] [] _
  refine wss_cons ?_
  refine ws_if ?_
  refine wt_eq (by (first | exact hr.units | exact units65 hr | exact units1 hr)) ?_
  refine we_ix ?_
  refine wv_name 1 rfl (.inl rfl) rfl ?_
  refine we_int ?_
  refine ⟨_, _, _, rfl, rfl, rfl, ?_⟩
  refine we_str ?_
  refine ⟨S.shp, JJ.shpTwo, ?_⟩
  refine ⟨fun hif1 => ?_, fun hif1 => ?_⟩
  ·
    have hk : k = JJ.sTwo := beq_iff_eq.mp hif1
    unfold JJ.stepW at kq
    rw [if_pos hk] at kq
    change WSs _ _ [_, _, _] [] _
    refine wss_one ?_
    refine ws_ret ?_
    refine we_catT ?_
    refine we_sliceT ?_
    refine we_name 0 rfl (.inl rfl) rfl ?_
    refine wo_none ?_
    refine wo_some ?_
    refine we_name 2 rfl (.inl rfl) rfl ?_
    refine ⟨_, rfl, ?_⟩
    refine ⟨_, rfl, ?_⟩
    rw [JJ.cut_to (by omega) (by omega), e1]
    refine we_sliceT ?_
    refine we_name 0 rfl (.inl rfl) rfl ?_
    refine wo_some ?_
    refine we_add ?_
    refine we_name 2 rfl (.inl rfl) rfl ?_
    refine we_int ?_
    refine ⟨_, _, rfl, rfl, ?_⟩
    refine ⟨_, rfl, ?_⟩
    refine wo_none ?_
    refine ⟨_, rfl, ?_⟩
    rw [JJ.cut_from (by omega) (by omega), e2]
    refine ⟨_, _, rfl, rfl, szl (by simp only [List.length_map, List.length_take, List.length_drop, List.length_append, List.length_cons, List.length_nil]; omega), ?_⟩
    rw [← List.map_append]
    exact ⟨Nat.zero_le _, .inl ⟨_, rfl, kq⟩⟩
  ·
    have hk : ¬ k = JJ.sTwo := fun z => by rw [z] at hif1; exact absurd hif1 (by decide)
    refine wss_nil ?_
    change WSs _ _ [_, _, _] [] _
    refine wss_cons ?_
    refine ws_if ?_
    refine wt_eq (by (first | exact hr.units | exact units65 hr | exact units1 hr)) ?_
    refine we_ix ?_
    refine wv_name 1 rfl (.inl rfl) rfl ?_
    refine we_int ?_
    refine ⟨_, _, _, rfl, rfl, rfl, ?_⟩
    refine we_str ?_
    refine ⟨S.shp, JJ.shpNb, ?_⟩
    refine ⟨fun hif2 => ?_, fun hif2 => ?_⟩
    ·
      have hk2 : k = JJ.sNb := beq_iff_eq.mp hif2
      unfold JJ.stepW at kq
      rw [if_neg hk, if_pos hk2] at kq
      have h3 : i + 2 < ws.length := by
        rcases S.h with ⟨e, _⟩ | ⟨e, _⟩ | ⟨_, _, h, _⟩
        · exact absurd e hk
        · rw [hk2] at e; exact absurd e (by decide)
        · exact h
      change WSs _ _ [_, _, _] [] _
      refine wss_one ?_
      refine ws_ret ?_
      refine we_catT ?_
      refine we_catT ?_
      refine we_sliceT ?_
      refine we_name 0 rfl (.inl rfl) rfl ?_
      refine wo_none ?_
      refine wo_some ?_
      refine we_name 2 rfl (.inl rfl) rfl ?_
      refine ⟨_, rfl, ?_⟩
      refine ⟨_, rfl, ?_⟩
      rw [JJ.cut_to (by omega) (by omega), e1]
      refine we_tup ?_
      refine wd_cons ?_
      refine we_ix ?_
      refine wv_name 0 rfl (.inl rfl) rfl ?_
      refine we_name 2 rfl (.inl rfl) rfl ?_
      refine ⟨_, _, _, rfl, rfl, atI_ints (by omega) (by omega), ?_⟩
      rw [e1]
      refine wd_nil ?_
      refine ⟨szl (by simp), ?_⟩
      refine ⟨_, _, rfl, rfl, szl (by simp only [List.length_map, List.length_take, List.length_drop, List.length_append, List.length_cons, List.length_nil]; omega), ?_⟩
      refine we_sliceT ?_
      refine we_name 0 rfl (.inl rfl) rfl ?_
      refine wo_some ?_
      refine we_add ?_
      refine we_name 2 rfl (.inl rfl) rfl ?_
      refine we_int ?_
      refine ⟨_, _, rfl, rfl, ?_⟩
      refine ⟨_, rfl, ?_⟩
      refine wo_none ?_
      refine ⟨_, rfl, ?_⟩
      rw [JJ.cut_from (by omega) (by omega), e3]
      refine ⟨_, _, rfl, rfl, szl (by simp only [List.length_map, List.length_take, List.length_drop, List.length_append, List.length_cons, List.length_nil]; omega), ?_⟩
      rw [show [PyData.int (ws.getD i 0)] = [ws.getD i 0].map .int from rfl, ← List.map_append, ← List.map_append]
      exact ⟨Nat.zero_le _, .inl ⟨_, rfl, kq⟩⟩
    ·
      have hk2 : ¬ k = JJ.sNb := fun z => by rw [z] at hif2; exact absurd hif2 (by decide)
      unfold JJ.stepW at kq
      rw [if_neg hk, if_neg hk2] at kq
      refine wss_nil ?_
      change WSs _ _ [_, _, _] [] _
      refine wss_one ?_
      refine ws_ret ?_
      refine we_catT ?_
      refine we_catT ?_
      refine we_sliceT ?_
      refine we_name 0 rfl (.inl rfl) rfl ?_
      refine wo_none ?_
      refine wo_some ?_
      refine we_name 2 rfl (.inl rfl) rfl ?_
      refine ⟨_, rfl, ?_⟩
      refine ⟨_, rfl, ?_⟩
      rw [JJ.cut_to (by omega) (by omega), e1]
      refine we_tup ?_
      refine wd_cons ?_
      refine we_ix ?_
      refine wv_name 0 rfl (.inl rfl) rfl ?_
      refine we_add ?_
      refine we_name 2 rfl (.inl rfl) rfl ?_
      refine we_int ?_
      refine ⟨_, _, rfl, rfl, ?_⟩
      refine ⟨_, _, _, rfl, rfl, atI_ints (by omega) (by omega), ?_⟩
      rw [e2]
      refine wd_cons ?_
      refine we_ix ?_
      refine wv_name 0 rfl (.inl rfl) rfl ?_
      refine we_name 2 rfl (.inl rfl) rfl ?_
      refine ⟨_, _, _, rfl, rfl, atI_ints (by omega) (by omega), ?_⟩
      rw [e1]
      refine wd_nil ?_
      refine ⟨szl (by simp), ?_⟩
      refine ⟨_, _, rfl, rfl, szl (by simp only [List.length_map, List.length_take, List.length_drop, List.length_append, List.length_cons, List.length_nil]; omega), ?_⟩
      refine we_sliceT ?_
      refine we_name 0 rfl (.inl rfl) rfl ?_
      refine wo_some ?_
      refine we_add ?_
      refine we_name 2 rfl (.inl rfl) rfl ?_
      refine we_int ?_
      refine ⟨_, _, rfl, rfl, ?_⟩
      refine ⟨_, rfl, ?_⟩
      refine wo_none ?_
      refine ⟨_, rfl, ?_⟩
      rw [JJ.cut_from (by omega) (by omega), e4]
      refine ⟨_, _, rfl, rfl, szl (by simp only [List.length_map, List.length_take, List.length_drop, List.length_append, List.length_cons, List.length_nil]; omega), ?_⟩
      rw [show [PyData.int (ws.getD (i + 1) 0), PyData.int (ws.getD i 0)] = [ws.getD (i + 1) 0, ws.getD i 0].map .int from rfl, ← List.map_append, ← List.map_append]
      exact ⟨Nat.zero_le _, .inl ⟨_, rfl, kq⟩⟩
end
section
variable {P : Program} {w : World} {K : PySem.W.Frag} {mg : Str → Option Value} {base : Heap}
theorem ok_l_stirred {f : Addr} {fd : FuncData} (F : Fun K "_law_stirred" "_law_stirred" s_l_stirred f fd) {f__law_dip : Addr} {fd__law_dip : FuncData} (F__law_dip : FnOk P w K mg base CX0 1 f__law_dip fd__law_dip ["_law_well_here", "_law_many"] (toSp K JJ.spDip)) (m__law_dip : mg "_law_dip" = some (.ref f__law_dip)) (k__law_dip : PySem.W.keepIn K (.ref f__law_dip) = true) (b__law_dip : Binds K fd__law_dip ["_law_well_here", "_law_many"] []) {f__law_steps : Addr} {fd__law_steps : FuncData} (F__law_steps : FnOk P w K mg base CX0 1 f__law_steps fd__law_steps ["_law_word_here"] (toSp K JJ.spSteps)) (m__law_steps : mg "_law_steps" = some (.ref f__law_steps)) (k__law_steps : PySem.W.keepIn K (.ref f__law_steps) = true) (b__law_steps : Binds K fd__law_steps ["_law_word_here"] []) {f__law_step : Addr} {fd__law_step : FuncData} (F__law_step : FnOk P w K mg base CX0 1 f__law_step fd__law_step ["_law_word_here", "_law_step_here"] (toSp K JJ.spStep2)) (m__law_step : mg "_law_step" = some (.ref f__law_step)) (k__law_step : PySem.W.keepIn K (.ref f__law_step) = true) (b__law_step : Binds K fd__law_step ["_law_word_here", "_law_step_here"] []) (m_range : mg "range" = none) (m_max : mg "max" = none) (m_len : mg "len" = none) : FnOk P w K mg base CX0 2 f fd ["_law_well_here", "_law_n", "_law_word_here", "_law_many", "_law_most"] (toSp K JJ.spStir) := by
  have sc := sc_l_stirred
  refine fn_pp F sc (fun pvs m q h => ?_) (fun cdv A outer s H E hr pvs m q h => ?_)
  · obtain ⟨_, _, _, _, _, _, rfl, _⟩ := h
    rfl
  obtain ⟨src, xs, n, many, most, ws0, rfl, rfl, hw, hn, hn8, ha0, ha1, hm1, W0, hl0, kq⟩ := h
  change WSs _ _ [_, _, _, _, _, _, _, _, _, _, _] [_] _
  refine wss_cons ?_
  refine ws_for PassesOwn.never rfl ?_
  refine wi_rng1 m_range ?_
  refine we_name 3 rfl (.inl rfl) rfl ?_
  refine ⟨_, rfl, by omega, by omega, ?_⟩
  refine ⟨fun i L m => ∃ xs ws y5 y6 y7 y8 y9 y10, L = [some (.ref 0), some (.d (.int n)), some (.d (.tuple (ws.map .int))), some (.d (.int many)), some (.d (.int most)), y5, y6, y7, y8, y9, y10] ∧ m = [some (.lst xs)] ∧ JJ.W2 src xs ∧ JJ.Wok n ws ∧ (ws.length : Int) ≤ most, ?_, fun i x L m hx hI => ?_, fun L m hI => ?_⟩
  ·
    exact ⟨_, ws0, _, _, _, _, _, _, rfl, rfl, hw, W0, hl0⟩
  ·
    obtain ⟨xs, ws, y5, y6, y7, y8, y9, y10, rfl, rfl, hw3, W, hwl⟩ := hI
    obtain ⟨hi, rfl⟩ := rgD_get hx
    have hlm : (ws.map PyData.int).length = ws.length := List.length_map ..
    refine ⟨trivial, ?_⟩
    refine wg_name 5 sc.nd rfl (.inl rfl) ?_
    change WSs _ _ [_, _, _, _, _, _, _, _, _, _, _] [_] _
    refine wss_cons ?_
    refine ws_set 6 sc.nd rfl (.inl rfl) ?_
    refine we_call [0] F__law_dip (hr.mono (by omega)) m__law_dip k__law_dip b__law_dip ?_
    refine wa_cons ?_
    refine wv_name 0 rfl (.inl rfl) rfl ?_
    refine wa_d ?_
    refine we_int ?_
    refine wa_nil ?_
    refine ⟨by decide, by (simp [setAll_len, setAll_nil]), by (simp [refsIn, setAll_len, setAll_nil, permL]), src, _, 4, rfl, rfl, hw3, by omega, by omega, fun r1 xsr1 hr1a hr1b hr1 => ⟨_, rfl, rfl, ?_⟩⟩
    change WSs _ _ [_, _, _, _, _, _, _, _, _, _, _] [_] _
    refine wss_cons ?_
    refine ws_set 7 sc.nd rfl (.inl rfl) ?_
    refine we_call [0] F__law_dip (hr.mono (by omega)) m__law_dip k__law_dip b__law_dip ?_
    refine wa_cons ?_
    refine wv_name 0 rfl (.inl rfl) rfl ?_
    refine wa_d ?_
    refine we_max2 rfl m_max ?_
    refine we_int ?_
    refine we_len m_len ?_
    refine wv_name 2 rfl (.inl rfl) rfl ?_
    refine ⟨_, rfl, ?_⟩
    rw [hlm]
    refine ⟨_, _, rfl, rfl, ?_⟩
    refine wa_nil ?_
    refine ⟨by decide, by (simp [setAll_len, setAll_nil]), by (simp [refsIn, setAll_len, setAll_nil, permL]), src, _, _, rfl, rfl, hr1, by split <;> omega, by split <;> omega, fun r2 xsr2 hr2a hr2b hr2 => ⟨_, rfl, rfl, ?_⟩⟩
    change WSs _ _ [_, _, _, _, _, _, _, _, _, _, _] [_] _
    refine wss_cons ?_
    refine ws_set 8 sc.nd rfl (.inl rfl) ?_
    refine we_wf ?_
    refine wf_if ?_
    refine wt_ne (by (first | exact hr.units | exact units65 hr | exact units1 hr)) ?_
    refine we_name 2 rfl (.inl rfl) rfl ?_
    refine we_tup ?_
    refine wd_nil ?_
    refine ⟨szl (by simp), ?_⟩
    refine ⟨shp_intsT, by (first | rfl | assumption), ?_⟩
    rw [JJ.eqv_nilT]
    refine ⟨fun hif1 => ?_, fun hif1 => ?_⟩
    ·
      have hne : ws ≠ [] := fun z => by rw [z] at hif1; exact absurd hif1 (by decide)
      have hwp : 0 < ws.length := List.length_pos_iff.mpr hne
      have hrl : r2 < ws.length := by split at hr2b <;> omega
      have hv := JJ.wok_get W (i := r2.toNat) (by omega)
      refine wf_lc1 [("_law_index", 10)] (.nm 10) rfl sc.nd (blkOk_by (own := [("_law_index", 10)]) (N := ["_law_well_here", "_law_n", "_law_word_here", "_law_many", "_law_most", "_law_k", "_law_way", "_law_at", "_law_near", "_law_steps_here", "_law_index"]) (by rfl)) (fun _ _ _ _ _ => pg_nm sc.nd rfl (.inl rfl) (.inr rfl)) (by decide) ?_
      refine wi_new ?_
      refine wf_lst ?_
      refine wd_cons ?_
      refine we_sub ?_
      refine we_ix ?_
      refine wv_name 2 rfl (.inl rfl) rfl ?_
      refine we_name 7 rfl (.inl rfl) rfl ?_
      refine ⟨_, _, _, rfl, rfl, atI_ints (by omega) (by omega), ?_⟩
      refine we_int ?_
      refine ⟨_, _, rfl, rfl, ?_⟩
      refine wd_cons ?_
      refine we_add ?_
      refine we_ix ?_
      refine wv_name 2 rfl (.inl rfl) rfl ?_
      refine we_name 7 rfl (.inl rfl) rfl ?_
      refine ⟨_, _, _, rfl, rfl, atI_ints (by omega) (by omega), ?_⟩
      refine we_int ?_
      refine ⟨_, _, rfl, rfl, ?_⟩
      refine wd_nil ?_
      refine ⟨szl (by simp), ?_⟩
      refine ⟨szl (by simp), fun i ys m => m = [some (.lst xsr2)] ∧ ys = ((([ws.getD r2.toNat 0 - 1, ws.getD r2.toNat 0 + 1].take i).filter fun z => decide (0 ≤ z) && decide (z < n - 1))).map .int, ?_, fun i x ys m hx hy hI => ?_, fun ys m hy hI => ?_⟩
      ·
        exact ⟨rfl, rfl⟩
      ·
        obtain ⟨rfl, rfl⟩ := hI
        obtain ⟨z, hz, rfl⟩ := JJ.map_at (l := [ws.getD r2.toNat 0 - 1, ws.getD r2.toNat 0 + 1]) hx
        refine ⟨trivial, _, rfl, ?_⟩
        intro sb Hb Cb clb fpb
        apply VT.use
        ·
          apply VW.vt
          apply vw_and
          ·
            intro Q hQ
            refine wt_le ?_
            refine we_int ?_
            refine we_name 10 rfl (.inl rfl) rfl ?_
            refine ⟨_, _, rfl, rfl, ?_⟩
            exact hQ
          intro hg1
          apply vw_and1
          intro Q hQ
          refine wt_lt ?_
          refine we_name 10 rfl (.inl rfl) rfl ?_
          refine we_sub ?_
          refine we_name 1 rfl (by first | exact .inr (.inl rfl) | exact .inr (.inr rfl)) rfl ?_
          refine we_int ?_
          refine ⟨_, _, rfl, rfl, ?_⟩
          refine ⟨_, _, rfl, rfl, ?_⟩
          exact hQ
        refine ⟨fun hlcif1 => ?_, fun hlcif1 => ?_⟩
        ·
          intro sb Hb Cb clb fpb
          refine we_name 10 rfl (.inl rfl) rfl ?_
          refine ⟨rfl, ?_⟩
          rw [List.take_succ, hz, List.filter_append, List.map_append]
          congr 1
          rw [Option.toList_some, List.filter_cons, if_pos hlcif1]
          rfl
        ·
          refine ⟨rfl, ?_⟩
          rw [List.take_succ, hz, List.filter_append, List.map_append, Option.toList_some, List.filter_cons, if_neg (by rw [hlcif1]; exact Bool.false_ne_true)]
          exact (List.append_nil _).symm
      obtain ⟨rfl, rfl⟩ := hI
      rw [show (([ws.getD r2.toNat 0 - 1, ws.getD r2.toNat 0 + 1].take [PyData.int (ws.getD r2.toNat 0 - 1), PyData.int (ws.getD r2.toNat 0 + 1)].length).filter fun z => decide (0 ≤ z) && decide (z < n - 1)) = JJ.nearL n (ws.getD r2.toNat 0) from rfl]
      have hnm : ((JJ.nearL n (ws.getD r2.toNat 0)).map PyData.int).length = (JJ.nearL n (ws.getD r2.toNat 0)).length := List.length_map ..
      refine ⟨trivial, ?_⟩
      change WSs _ _ [_, _, _, _, _, _, _, _, _, _, _] [_] _
      refine wss_cons ?_
      refine ws_set 9 sc.nd rfl (.inl rfl) ?_
      refine we_wf ?_
      refine wf_call [] F__law_steps (hr.mono (by omega)) m__law_steps k__law_steps b__law_steps ?_
      refine wa_d ?_
      refine we_name 2 rfl (.inl rfl) rfl ?_
      refine wa_nil ?_
      refine ⟨by decide, by (simp [setAll_len, setAll_nil]), by (simp [refsIn, setAll_len, setAll_nil, permL]), ws, rfl, rfl, by omega, [], _, rfl, rfl, rfl, ?_⟩
      change WSs _ _ [_, _, _, _, _, _, _, _, _, _, _] [_] _
      refine wss_one ?_
      refine ws_if ?_
      apply VT.use
      ·
        apply VW.vt
        apply vw_and
        ·
          intro Q hQ
          refine wt_eqI ?_
          refine we_name 6 rfl (.inl rfl) rfl ?_
          refine we_int ?_
          refine ⟨_, _, rfl, rfl, ?_⟩
          exact hQ
        intro hg2
        apply vw_and
        ·
          intro Q hQ
          refine wt_ne (by (first | exact hr.units | exact units65 hr | exact units1 hr)) ?_
          refine we_name 2 rfl (.inl rfl) rfl ?_
          refine we_tup ?_
          refine wd_nil ?_
          refine ⟨szl (by simp), ?_⟩
          refine ⟨shp_intsT, by (first | rfl | assumption), ?_⟩
          rw [JJ.eqv_nilT]
          exact hQ
        intro hg3
        apply vw_and1
        intro Q hQ
        refine wt_lt ?_
        refine we_len m_len ?_
        refine wv_name 2 rfl (.inl rfl) rfl ?_
        refine ⟨_, rfl, ?_⟩
        rw [hlm]
        refine we_name 4 rfl (.inl rfl) rfl ?_
        refine ⟨_, _, rfl, rfl, ?_⟩
        exact hQ
      refine ⟨fun hif2 => ?_, fun hif2 => ?_⟩
      ·
        have hm2 : (ws.length : Int) < most := by simp only [Bool.and_eq_true, decide_eq_true_eq] at hif2; omega
        change WSs _ _ [_, _, _, _, _, _, _, _, _, _, _] [_] _
        refine wss_one ?_
        refine ws_set 2 sc.nd rfl (.inl rfl) ?_
        refine we_catT ?_
        refine we_catT ?_
        refine we_sliceT ?_
        refine we_name 2 rfl (.inl rfl) rfl ?_
        refine wo_none ?_
        refine wo_some ?_
        refine we_name 7 rfl (.inl rfl) rfl ?_
        refine ⟨_, rfl, ?_⟩
        refine ⟨_, rfl, ?_⟩
        rw [JJ.cut_to (by omega) (by omega)]
        refine we_tup ?_
        refine wd_cons ?_
        refine we_ix ?_
        refine wv_name 2 rfl (.inl rfl) rfl ?_
        refine we_name 7 rfl (.inl rfl) rfl ?_
        refine ⟨_, _, _, rfl, rfl, atI_ints (by omega) (by omega), ?_⟩
        refine wd_nil ?_
        refine ⟨szl (by simp), ?_⟩
        refine ⟨_, _, rfl, rfl, szl (by simp only [List.length_map, List.length_take, List.length_drop, List.length_append, List.length_cons, List.length_nil]; omega), ?_⟩
        refine we_sliceT ?_
        refine we_name 2 rfl (.inl rfl) rfl ?_
        refine wo_some ?_
        refine we_name 7 rfl (.inl rfl) rfl ?_
        refine ⟨_, rfl, ?_⟩
        refine wo_none ?_
        refine ⟨_, rfl, ?_⟩
        rw [JJ.cut_from (by omega) (by omega)]
        refine ⟨_, _, rfl, rfl, szl (by simp only [List.length_map, List.length_take, List.length_drop, List.length_append, List.length_cons, List.length_nil]; omega), ?_⟩
        rw [show [PyData.int (ws.getD r2.toNat 0)] = [ws.getD r2.toNat 0].map .int from rfl, ← List.map_append, ← List.map_append]
        first
        | exact ⟨_, _, .same (by (repeat (first | exact WkL.nil | refine WkL.kd ?_ | (refine WkL.kr ?_ ?_; focus (simp [setAll_len, setAll_nil]; done)) | refine WkL.kw ?_ | refine WkL.drop ?_))) (by simp [setAll_len]), _, _, _, _, _, _, _, _, rfl, rfl, hr2, JJ.wok_app (JJ.wok_app (JJ.wok_take W _) (JJ.wok_one hv)) (JJ.wok_drop W _), by simp only [List.length_append, List.length_take, List.length_drop, List.length_cons, List.length_nil]; omega⟩
        | exact ⟨_, _, .same (by (repeat (first | exact WkL.nil | refine WkL.kd ?_ | (refine WkL.kr ?_ ?_; focus (simp [setAll_len, setAll_nil]; done)) | refine WkL.kw ?_ | refine WkL.drop ?_))) (by simp [setAll_len]), _, _, _, _, _, _, _, _, rfl, rfl, hr5, JJ.wok_app (JJ.wok_app (JJ.wok_take W _) (JJ.wok_two hv hz)) (JJ.wok_drop W _), by simp only [List.length_append, List.length_take, List.length_drop, List.length_cons, List.length_nil]; omega⟩
        | exact ⟨_, _, .same (by (repeat (first | exact WkL.nil | refine WkL.kd ?_ | (refine WkL.kr ?_ ?_; focus (simp [setAll_len, setAll_nil]; done)) | refine WkL.kw ?_ | refine WkL.drop ?_))) (by simp [setAll_len]), _, _, _, _, _, _, _, _, rfl, rfl, hr6, (JJ.step_wok W S).1, by have := (JJ.step_wok W S).2; omega⟩
        | exact ⟨_, _, .same (by (repeat (first | exact WkL.nil | refine WkL.kd ?_ | (refine WkL.kr ?_ ?_; focus (simp [setAll_len, setAll_nil]; done)) | refine WkL.kw ?_ | refine WkL.drop ?_))) (by simp [setAll_len]), _, ws, _, _, _, _, _, _, rfl, rfl, hr2, W, hwl⟩
        | exact ⟨_, _, .same (by (repeat (first | exact WkL.nil | refine WkL.kd ?_ | (refine WkL.kr ?_ ?_; focus (simp [setAll_len, setAll_nil]; done)) | refine WkL.kw ?_ | refine WkL.drop ?_))) (by simp [setAll_len]), _, [], _, _, _, _, _, _, rfl, rfl, hr2, JJ.wok_nil, hwl⟩
      ·
        change WSs _ _ [_, _, _, _, _, _, _, _, _, _, _] [_] _
        refine wss_one ?_
        refine ws_if ?_
        apply VT.use
        ·
          apply VW.vt
          apply vw_and
          ·
            intro Q hQ
            refine wt_eqI ?_
            refine we_name 6 rfl (.inl rfl) rfl ?_
            refine we_int ?_
            refine ⟨_, _, rfl, rfl, ?_⟩
            exact hQ
          intro hg4
          apply vw_and
          ·
            intro Q hQ
            refine wt_ne (by (first | exact hr.units | exact units65 hr | exact units1 hr)) ?_
            refine we_name 8 rfl (.inl rfl) rfl ?_
            refine we_wf ?_
            refine wf_lst ?_
            refine wd_nil ?_
            refine ⟨szl (by simp), ?_⟩
            refine ⟨shp_ints, by (first | rfl | assumption), ?_⟩
            rw [JJ.eqv_nilL]
            exact hQ
          intro hg5
          apply vw_and1
          intro Q hQ
          refine wt_lt ?_
          refine we_add ?_
          refine we_len m_len ?_
          refine wv_name 2 rfl (.inl rfl) rfl ?_
          refine ⟨_, rfl, ?_⟩
          rw [hlm]
          refine we_int ?_
          refine ⟨_, _, rfl, rfl, ?_⟩
          refine we_name 4 rfl (.inl rfl) rfl ?_
          refine ⟨_, _, rfl, rfl, ?_⟩
          exact hQ
        refine ⟨fun hif3 => ?_, fun hif3 => ?_⟩
        ·
          have hnb : (JJ.nearL n (ws.getD r2.toNat 0)).length ≤ 2 := List.length_filter_le ..
          have hm2 : (ws.length : Int) + 1 < most := by simp only [Bool.and_eq_true, decide_eq_true_eq] at hif3; omega
          have hnl : 0 < (JJ.nearL n (ws.getD r2.toNat 0)).length := by
            rw [List.length_pos_iff]
            intro z
            rw [z] at hif3
            simp at hif3
          change WSs _ _ [_, _, _, _, _, _, _, _, _, _, _] [_] _
          refine wss_one ?_
          refine ws_set 2 sc.nd rfl (.inl rfl) ?_
          refine we_catT ?_
          refine we_catT ?_
          refine we_sliceT ?_
          refine we_name 2 rfl (.inl rfl) rfl ?_
          refine wo_none ?_
          refine wo_some ?_
          refine we_name 7 rfl (.inl rfl) rfl ?_
          refine ⟨_, rfl, ?_⟩
          refine ⟨_, rfl, ?_⟩
          rw [JJ.cut_to (by omega) (by omega)]
          refine we_tup ?_
          refine wd_cons ?_
          refine we_ix ?_
          refine wv_name 2 rfl (.inl rfl) rfl ?_
          refine we_name 7 rfl (.inl rfl) rfl ?_
          refine ⟨_, _, _, rfl, rfl, atI_ints (by omega) (by omega), ?_⟩
          refine wd_cons ?_
          refine we_ix ?_
          refine wv_name 8 rfl (.inl rfl) rfl ?_
          refine we_call [0] F__law_dip (hr.mono (by omega)) m__law_dip k__law_dip b__law_dip ?_
          refine wa_cons ?_
          refine wv_name 0 rfl (.inl rfl) rfl ?_
          refine wa_d ?_
          refine we_len m_len ?_
          refine wv_name 8 rfl (.inl rfl) rfl ?_
          refine ⟨_, rfl, ?_⟩
          rw [hnm]
          refine wa_nil ?_
          refine ⟨by decide, by (simp [setAll_len, setAll_nil]), by (simp [refsIn, setAll_len, setAll_nil, permL]), src, _, _, rfl, rfl, hr2, by omega, by omega, fun r5 xsr5 hr5a hr5b hr5 => ⟨_, rfl, rfl, ?_⟩⟩
          refine ⟨_, _, _, rfl, rfl, atI_ints (by omega) (by omega), ?_⟩
          have hz := JJ.near_ok (JJ.getD_in (l := JJ.nearL n (ws.getD r2.toNat 0)) (i := r5.toNat) (by omega))
          refine wd_nil ?_
          refine ⟨szl (by simp), ?_⟩
          refine ⟨_, _, rfl, rfl, szl (by simp only [List.length_map, List.length_take, List.length_drop, List.length_append, List.length_cons, List.length_nil]; omega), ?_⟩
          refine we_sliceT ?_
          refine we_name 2 rfl (.inl rfl) rfl ?_
          refine wo_some ?_
          refine we_name 7 rfl (.inl rfl) rfl ?_
          refine ⟨_, rfl, ?_⟩
          refine wo_none ?_
          refine ⟨_, rfl, ?_⟩
          rw [JJ.cut_from (by omega) (by omega)]
          refine ⟨_, _, rfl, rfl, szl (by simp only [List.length_map, List.length_take, List.length_drop, List.length_append, List.length_cons, List.length_nil]; omega), ?_⟩
          rw [show [PyData.int (ws.getD r2.toNat 0), PyData.int ((JJ.nearL n (ws.getD r2.toNat 0)).getD r5.toNat 0)] = [ws.getD r2.toNat 0, (JJ.nearL n (ws.getD r2.toNat 0)).getD r5.toNat 0].map .int from rfl, ← List.map_append, ← List.map_append]
          first
          | exact ⟨_, _, .same (by (repeat (first | exact WkL.nil | refine WkL.kd ?_ | (refine WkL.kr ?_ ?_; focus (simp [setAll_len, setAll_nil]; done)) | refine WkL.kw ?_ | refine WkL.drop ?_))) (by simp [setAll_len]), _, _, _, _, _, _, _, _, rfl, rfl, hr2, JJ.wok_app (JJ.wok_app (JJ.wok_take W _) (JJ.wok_one hv)) (JJ.wok_drop W _), by simp only [List.length_append, List.length_take, List.length_drop, List.length_cons, List.length_nil]; omega⟩
          | exact ⟨_, _, .same (by (repeat (first | exact WkL.nil | refine WkL.kd ?_ | (refine WkL.kr ?_ ?_; focus (simp [setAll_len, setAll_nil]; done)) | refine WkL.kw ?_ | refine WkL.drop ?_))) (by simp [setAll_len]), _, _, _, _, _, _, _, _, rfl, rfl, hr5, JJ.wok_app (JJ.wok_app (JJ.wok_take W _) (JJ.wok_two hv hz)) (JJ.wok_drop W _), by simp only [List.length_append, List.length_take, List.length_drop, List.length_cons, List.length_nil]; omega⟩
          | exact ⟨_, _, .same (by (repeat (first | exact WkL.nil | refine WkL.kd ?_ | (refine WkL.kr ?_ ?_; focus (simp [setAll_len, setAll_nil]; done)) | refine WkL.kw ?_ | refine WkL.drop ?_))) (by simp [setAll_len]), _, _, _, _, _, _, _, _, rfl, rfl, hr6, (JJ.step_wok W S).1, by have := (JJ.step_wok W S).2; omega⟩
          | exact ⟨_, _, .same (by (repeat (first | exact WkL.nil | refine WkL.kd ?_ | (refine WkL.kr ?_ ?_; focus (simp [setAll_len, setAll_nil]; done)) | refine WkL.kw ?_ | refine WkL.drop ?_))) (by simp [setAll_len]), _, ws, _, _, _, _, _, _, rfl, rfl, hr2, W, hwl⟩
          | exact ⟨_, _, .same (by (repeat (first | exact WkL.nil | refine WkL.kd ?_ | (refine WkL.kr ?_ ?_; focus (simp [setAll_len, setAll_nil]; done)) | refine WkL.kw ?_ | refine WkL.drop ?_))) (by simp [setAll_len]), _, [], _, _, _, _, _, _, rfl, rfl, hr2, JJ.wok_nil, hwl⟩
        ·
          change WSs _ _ [_, _, _, _, _, _, _, _, _, _, _] [_] _
          refine wss_one ?_
          refine ws_if ?_
          refine wt_ne (by (first | exact hr.units | exact units65 hr | exact units1 hr)) ?_
          refine we_name 9 rfl (.inl rfl) rfl ?_
          refine we_wf ?_
          refine wf_lst ?_
          refine wd_nil ?_
          refine ⟨szl (by simp), ?_⟩
          refine ⟨JJ.shp_stps, by (first | rfl | assumption), ?_⟩
          rw [JJ.eqv_nilL]
          refine ⟨fun hif4 => ?_, fun hif4 => ?_⟩
          ·
            have hsp : 0 < (srtD (JJ.stps ws (ws.length - 1))).length := by
              rw [List.length_pos_iff]
              intro z
              rw [z] at hif4
              exact absurd hif4 (by decide)
            have hsq : (srtD (JJ.stps ws (ws.length - 1))).length ≤ 3 * (ws.length - 1) := by rw [srt_len]; exact JJ.stps_len _
            change WSs _ _ [_, _, _, _, _, _, _, _, _, _, _] [_] _
            refine wss_one ?_
            refine ws_set 2 sc.nd rfl (.inl rfl) ?_
            refine we_call [] F__law_step (hr.mono (by omega)) m__law_step k__law_step b__law_step ?_
            refine wa_d ?_
            refine we_name 2 rfl (.inl rfl) rfl ?_
            refine wa_d ?_
            refine we_ix ?_
            refine wv_name 9 rfl (.inl rfl) rfl ?_
            refine we_call [0] F__law_dip (hr.mono (by omega)) m__law_dip k__law_dip b__law_dip ?_
            refine wa_cons ?_
            refine wv_name 0 rfl (.inl rfl) rfl ?_
            refine wa_d ?_
            refine we_len m_len ?_
            refine wv_name 9 rfl (.inl rfl) rfl ?_
            refine ⟨_, rfl, ?_⟩
            refine wa_nil ?_
            refine ⟨by decide, by (simp [setAll_len, setAll_nil]), by (simp [refsIn, setAll_len, setAll_nil, permL]), src, _, _, rfl, rfl, hr2, by omega, by omega, fun r6 xsr6 hr6a hr6b hr6 => ⟨_, rfl, rfl, ?_⟩⟩
            refine ⟨_, _, _, rfl, rfl, atI_gd (by omega) (by omega), ?_⟩
            obtain ⟨k, j, S, eS⟩ := JJ.stp_of (JJ.getD_inD (l := srtD (JJ.stps ws (ws.length - 1))) (i := r6.toNat) (by omega))
            rw [eS]
            refine wa_nil ?_
            refine ⟨by decide, by (simp [setAll_len, setAll_nil]), by (simp [refsIn, setAll_len, setAll_nil, permL]), ws, k, j, rfl, rfl, by omega, S, _, rfl, rfl, ?_⟩
            first
            | exact ⟨_, _, .same (by (repeat (first | exact WkL.nil | refine WkL.kd ?_ | (refine WkL.kr ?_ ?_; focus (simp [setAll_len, setAll_nil]; done)) | refine WkL.kw ?_ | refine WkL.drop ?_))) (by simp [setAll_len]), _, _, _, _, _, _, _, _, rfl, rfl, hr2, JJ.wok_app (JJ.wok_app (JJ.wok_take W _) (JJ.wok_one hv)) (JJ.wok_drop W _), by simp only [List.length_append, List.length_take, List.length_drop, List.length_cons, List.length_nil]; omega⟩
            | exact ⟨_, _, .same (by (repeat (first | exact WkL.nil | refine WkL.kd ?_ | (refine WkL.kr ?_ ?_; focus (simp [setAll_len, setAll_nil]; done)) | refine WkL.kw ?_ | refine WkL.drop ?_))) (by simp [setAll_len]), _, _, _, _, _, _, _, _, rfl, rfl, hr5, JJ.wok_app (JJ.wok_app (JJ.wok_take W _) (JJ.wok_two hv hz)) (JJ.wok_drop W _), by simp only [List.length_append, List.length_take, List.length_drop, List.length_cons, List.length_nil]; omega⟩
            | exact ⟨_, _, .same (by (repeat (first | exact WkL.nil | refine WkL.kd ?_ | (refine WkL.kr ?_ ?_; focus (simp [setAll_len, setAll_nil]; done)) | refine WkL.kw ?_ | refine WkL.drop ?_))) (by simp [setAll_len]), _, _, _, _, _, _, _, _, rfl, rfl, hr6, (JJ.step_wok W S).1, by have := (JJ.step_wok W S).2; omega⟩
            | exact ⟨_, _, .same (by (repeat (first | exact WkL.nil | refine WkL.kd ?_ | (refine WkL.kr ?_ ?_; focus (simp [setAll_len, setAll_nil]; done)) | refine WkL.kw ?_ | refine WkL.drop ?_))) (by simp [setAll_len]), _, ws, _, _, _, _, _, _, rfl, rfl, hr2, W, hwl⟩
            | exact ⟨_, _, .same (by (repeat (first | exact WkL.nil | refine WkL.kd ?_ | (refine WkL.kr ?_ ?_; focus (simp [setAll_len, setAll_nil]; done)) | refine WkL.kw ?_ | refine WkL.drop ?_))) (by simp [setAll_len]), _, [], _, _, _, _, _, _, rfl, rfl, hr2, JJ.wok_nil, hwl⟩
          ·
            refine wss_nil ?_
            first
            | exact ⟨_, _, .same (by (repeat (first | exact WkL.nil | refine WkL.kd ?_ | (refine WkL.kr ?_ ?_; focus (simp [setAll_len, setAll_nil]; done)) | refine WkL.kw ?_ | refine WkL.drop ?_))) (by simp [setAll_len]), _, _, _, _, _, _, _, _, rfl, rfl, hr2, JJ.wok_app (JJ.wok_app (JJ.wok_take W _) (JJ.wok_one hv)) (JJ.wok_drop W _), by simp only [List.length_append, List.length_take, List.length_drop, List.length_cons, List.length_nil]; omega⟩
            | exact ⟨_, _, .same (by (repeat (first | exact WkL.nil | refine WkL.kd ?_ | (refine WkL.kr ?_ ?_; focus (simp [setAll_len, setAll_nil]; done)) | refine WkL.kw ?_ | refine WkL.drop ?_))) (by simp [setAll_len]), _, _, _, _, _, _, _, _, rfl, rfl, hr5, JJ.wok_app (JJ.wok_app (JJ.wok_take W _) (JJ.wok_two hv hz)) (JJ.wok_drop W _), by simp only [List.length_append, List.length_take, List.length_drop, List.length_cons, List.length_nil]; omega⟩
            | exact ⟨_, _, .same (by (repeat (first | exact WkL.nil | refine WkL.kd ?_ | (refine WkL.kr ?_ ?_; focus (simp [setAll_len, setAll_nil]; done)) | refine WkL.kw ?_ | refine WkL.drop ?_))) (by simp [setAll_len]), _, _, _, _, _, _, _, _, rfl, rfl, hr6, (JJ.step_wok W S).1, by have := (JJ.step_wok W S).2; omega⟩
            | exact ⟨_, _, .same (by (repeat (first | exact WkL.nil | refine WkL.kd ?_ | (refine WkL.kr ?_ ?_; focus (simp [setAll_len, setAll_nil]; done)) | refine WkL.kw ?_ | refine WkL.drop ?_))) (by simp [setAll_len]), _, ws, _, _, _, _, _, _, rfl, rfl, hr2, W, hwl⟩
            | exact ⟨_, _, .same (by (repeat (first | exact WkL.nil | refine WkL.kd ?_ | (refine WkL.kr ?_ ?_; focus (simp [setAll_len, setAll_nil]; done)) | refine WkL.kw ?_ | refine WkL.drop ?_))) (by simp [setAll_len]), _, [], _, _, _, _, _, _, rfl, rfl, hr2, JJ.wok_nil, hwl⟩
    ·
      have hws : ws = [] := by
        cases ws with
        | nil => rfl
        | cons a t => exact absurd hif1 (by simp)
      subst hws
      refine wf_lst ?_
      refine wd_nil ?_
      refine ⟨szl (by simp), ?_⟩
      change WSs _ _ [_, _, _, _, _, _, _, _, _, _, _] [_] _
      refine wss_cons ?_
      refine ws_set 9 sc.nd rfl (.inl rfl) ?_
      refine we_wf ?_
      refine wf_call [] F__law_steps (hr.mono (by omega)) m__law_steps k__law_steps b__law_steps ?_
      refine wa_d ?_
      refine we_name 2 rfl (.inl rfl) rfl ?_
      refine wa_nil ?_
      refine ⟨by decide, by (simp [setAll_len, setAll_nil]), by (simp [refsIn, setAll_len, setAll_nil, permL]), [], rfl, rfl, by decide, [], _, rfl, rfl, rfl, ?_⟩
      change WSs _ _ [_, _, _, _, _, _, _, _, _, _, _] [_] _
      refine wss_one ?_
      refine ws_if ?_
      apply VT.use
      ·
        apply VW.vt
        apply vw_and
        ·
          intro Q hQ
          refine wt_eqI ?_
          refine we_name 6 rfl (.inl rfl) rfl ?_
          refine we_int ?_
          refine ⟨_, _, rfl, rfl, ?_⟩
          exact hQ
        intro hg6
        apply vw_and
        ·
          intro Q hQ
          refine wt_ne (by (first | exact hr.units | exact units65 hr | exact units1 hr)) ?_
          refine we_name 2 rfl (.inl rfl) rfl ?_
          refine we_tup ?_
          refine wd_nil ?_
          refine ⟨szl (by simp), ?_⟩
          refine ⟨shp_intsT, by (first | rfl | assumption), ?_⟩
          rw [JJ.eqv_nilT]
          exact hQ
        intro hg7
        apply vw_and1
        intro Q hQ
        refine wt_lt ?_
        refine we_len m_len ?_
        refine wv_name 2 rfl (.inl rfl) rfl ?_
        refine ⟨_, rfl, ?_⟩
        refine we_name 4 rfl (.inl rfl) rfl ?_
        refine ⟨_, _, rfl, rfl, ?_⟩
        exact hQ
      refine ⟨fun hif5 => ?_, fun hif5 => ?_⟩
      ·
        exfalso
        simp at hif5 --done
      ·
        change WSs _ _ [_, _, _, _, _, _, _, _, _, _, _] [_] _
        refine wss_one ?_
        refine ws_if ?_
        apply VT.use
        ·
          apply VW.vt
          apply vw_and
          ·
            intro Q hQ
            refine wt_eqI ?_
            refine we_name 6 rfl (.inl rfl) rfl ?_
            refine we_int ?_
            refine ⟨_, _, rfl, rfl, ?_⟩
            exact hQ
          intro hg8
          apply vw_and
          ·
            intro Q hQ
            refine wt_ne (by (first | exact hr.units | exact units65 hr | exact units1 hr)) ?_
            refine we_name 8 rfl (.inl rfl) rfl ?_
            refine we_wf ?_
            refine wf_lst ?_
            refine wd_nil ?_
            refine ⟨szl (by simp), ?_⟩
            refine ⟨by (first | rfl | assumption), by (first | rfl | assumption), ?_⟩
            rw [JJ.eqv_nilL]
            exact hQ
          intro hg9
          apply vw_and1
          intro Q hQ
          refine wt_lt ?_
          refine we_add ?_
          refine we_len m_len ?_
          refine wv_name 2 rfl (.inl rfl) rfl ?_
          refine ⟨_, rfl, ?_⟩
          refine we_int ?_
          refine ⟨_, _, rfl, rfl, ?_⟩
          refine we_name 4 rfl (.inl rfl) rfl ?_
          refine ⟨_, _, rfl, rfl, ?_⟩
          exact hQ
        refine ⟨fun hif6 => ?_, fun hif6 => ?_⟩
        ·
          exfalso
          simp at hif6 --done
        ·
          change WSs _ _ [_, _, _, _, _, _, _, _, _, _, _] [_] _
          refine wss_one ?_
          refine ws_if ?_
          refine wt_ne (by (first | exact hr.units | exact units65 hr | exact units1 hr)) ?_
          refine we_name 9 rfl (.inl rfl) rfl ?_
          refine we_wf ?_
          refine wf_lst ?_
          refine wd_nil ?_
          refine ⟨szl (by simp), ?_⟩
          refine ⟨JJ.shp_stps (ws := []), by (first | rfl | assumption), ?_⟩
          rw [JJ.eqv_nilL]
          refine ⟨fun hif7 => ?_, fun hif7 => ?_⟩
          ·
            exfalso
            rw [JJ.stps_nil (ws := []) (by decide)] at hif7
            exact absurd hif7 (by decide) --done
          ·
            refine wss_nil ?_
            first
            | exact ⟨_, _, .same (by (repeat (first | exact WkL.nil | refine WkL.kd ?_ | (refine WkL.kr ?_ ?_; focus (simp [setAll_len, setAll_nil]; done)) | refine WkL.kw ?_ | refine WkL.drop ?_))) (by simp [setAll_len]), _, _, _, _, _, _, _, _, rfl, rfl, hr2, JJ.wok_app (JJ.wok_app (JJ.wok_take W _) (JJ.wok_one hv)) (JJ.wok_drop W _), by simp only [List.length_append, List.length_take, List.length_drop, List.length_cons, List.length_nil]; omega⟩
            | exact ⟨_, _, .same (by (repeat (first | exact WkL.nil | refine WkL.kd ?_ | (refine WkL.kr ?_ ?_; focus (simp [setAll_len, setAll_nil]; done)) | refine WkL.kw ?_ | refine WkL.drop ?_))) (by simp [setAll_len]), _, _, _, _, _, _, _, _, rfl, rfl, hr5, JJ.wok_app (JJ.wok_app (JJ.wok_take W _) (JJ.wok_two hv hz)) (JJ.wok_drop W _), by simp only [List.length_append, List.length_take, List.length_drop, List.length_cons, List.length_nil]; omega⟩
            | exact ⟨_, _, .same (by (repeat (first | exact WkL.nil | refine WkL.kd ?_ | (refine WkL.kr ?_ ?_; focus (simp [setAll_len, setAll_nil]; done)) | refine WkL.kw ?_ | refine WkL.drop ?_))) (by simp [setAll_len]), _, _, _, _, _, _, _, _, rfl, rfl, hr6, (JJ.step_wok W S).1, by have := (JJ.step_wok W S).2; omega⟩
            | exact ⟨_, _, .same (by (repeat (first | exact WkL.nil | refine WkL.kd ?_ | (refine WkL.kr ?_ ?_; focus (simp [setAll_len, setAll_nil]; done)) | refine WkL.kw ?_ | refine WkL.drop ?_))) (by simp [setAll_len]), _, ws, _, _, _, _, _, _, rfl, rfl, hr2, W, hwl⟩
            | exact ⟨_, _, .same (by (repeat (first | exact WkL.nil | refine WkL.kd ?_ | (refine WkL.kr ?_ ?_; focus (simp [setAll_len, setAll_nil]; done)) | refine WkL.kw ?_ | refine WkL.drop ?_))) (by simp [setAll_len]), _, [], _, _, _, _, _, _, rfl, rfl, hr2, JJ.wok_nil, hwl⟩
  obtain ⟨xs, ws, y5, y6, y7, y8, y9, y10, rfl, rfl, hw3, W, hwl⟩ := hI
  refine ⟨trivial, ?_⟩
  change WSs _ _ [_, _, _, _, _, _, _, _, _, _, _] [_] _
  refine wss_one ?_
  refine ws_ret ?_
  refine we_name 2 rfl (.inl rfl) rfl ?_
  exact ⟨by simp [setAll_len], .inl ⟨_, rfl, kq _ ws hw3 W hwl⟩⟩
end
section
variable {P : Program} {w : World} {K : PySem.W.Frag} {mg : Str → Option Value} {base : Heap}
theorem ok_p_apart {f : Addr} {fd : FuncData} (F : Fun K "_apart" "_apart" s_p_apart f fd) (m_abs : mg "abs" = none) : FnOk P w K mg base CX0 1 f fd ["word", "at"] (toSp K JJ.spApt) := by
  have sc := sc_p_apart
  refine fn_pp F sc (fun pvs m q h => ?_) (fun cdv A outer s H E hr pvs m q h => ?_)
  · obtain ⟨_, _, rfl, _⟩ := h
    rfl
  obtain ⟨ws, i, rfl, rfl, hl, kq⟩ := h
  have e1 : ((i : Int)).toNat = i := by omega
  have e2 : ((i : Int) + 1).toNat = i + 1 := by omega
  change WSs _ _ [_, _] [] _
  refine wss_one ?_
  refine ws_ret ?_
  refine we_abs m_abs ?_
  refine we_sub ?_
  refine we_ix ?_
  refine wv_name 0 rfl (.inl rfl) rfl ?_
  refine we_name 1 rfl (.inl rfl) rfl ?_
  refine ⟨_, _, _, rfl, rfl, atI_ints (by omega) (by omega), ?_⟩
  rw [e1]
  refine we_ix ?_
  refine wv_name 0 rfl (.inl rfl) rfl ?_
  refine we_add ?_
  refine we_name 1 rfl (.inl rfl) rfl ?_
  refine we_int ?_
  refine ⟨_, _, rfl, rfl, ?_⟩
  refine ⟨_, _, _, rfl, rfl, atI_ints (by omega) (by omega), ?_⟩
  rw [e2]
  refine ⟨_, _, rfl, rfl, ?_⟩
  refine ⟨_, rfl, ?_⟩
  rw [show (if ws.getD i 0 - ws.getD (i + 1) 0 < 0 then -(ws.getD i 0 - ws.getD (i + 1) 0) else ws.getD i 0 - ws.getD (i + 1) 0) = JJ.apt ws i from rfl]
  exact ⟨Nat.zero_le _, .inl ⟨_, rfl, kq⟩⟩
end
section
variable {P : Program} {w : World} {K : PySem.W.Frag} {mg : Str → Option Value} {base : Heap}
theorem ok_p_is_step {f : Addr} {fd : FuncData} (F : Fun K "_is_step" "_is_step" s_p_is_step f fd) {f__apart : Addr} {fd__apart : FuncData} (F__apart : FnOk P w K mg base CX0 1 f__apart fd__apart ["word", "at"] (toSp K JJ.spApt)) (m__apart : mg "_apart" = some (.ref f__apart)) (k__apart : PySem.W.keepIn K (.ref f__apart) = true) (b__apart : Binds K fd__apart ["word", "at"] []) (m_len : mg "len" = none) : FnOk P w K mg base CX0 2 f fd ["word", "step"] (toSp K JJ.spIsStep) := by
  have sc := sc_p_is_step
  refine fn_pp F sc (fun pvs m q h => ?_) (fun cdv A outer s H E hr pvs m q h => ?_)
  · obtain ⟨_, _, _, rfl, _⟩ := h
    rfl
  obtain ⟨ws, k, a, rfl, rfl, hl, hk, kq⟩ := h
  have hlm : (ws.map PyData.int).length = ws.length := List.length_map ..
  change WSs _ _ [_, _, _, _] [] _
  refine wss_cons ?_
  refine ws_asg ?_
  refine we_name 1 rfl (.inl rfl) rfl ?_
  refine wg_tup rfl ?_
  refine ⟨_, rfl, rfl, ?_⟩
  refine wgn_cons ?_
  refine wg_name 2 sc.nd rfl (.inl rfl) ?_
  refine wgn_cons ?_
  refine wg_name 3 sc.nd rfl (.inl rfl) ?_
  refine wgn_nil ?_
  change WSs _ _ [_, _, _, _] [] _
  refine wss_cons ?_
  refine ws_if ?_
  apply VT.use
  ·
    apply VW.vt
    apply vw_or
    ·
      intro Q hQ
      refine wt_lt ?_
      refine we_name 3 rfl (.inl rfl) rfl ?_
      refine we_int ?_
      refine ⟨_, _, rfl, rfl, ?_⟩
      exact hQ
    intro hg1
    apply vw_or1
    intro Q hQ
    refine wt_ge ?_
    refine we_add ?_
    refine we_name 3 rfl (.inl rfl) rfl ?_
    refine we_int ?_
    refine ⟨_, _, rfl, rfl, ?_⟩
    refine we_len m_len ?_
    refine wv_name 0 rfl (.inl rfl) rfl ?_
    refine ⟨_, rfl, ?_⟩
    rw [hlm]
    refine ⟨_, _, rfl, rfl, ?_⟩
    exact hQ
  refine ⟨fun hif1 => ?_, fun hif1 => ?_⟩
  ·
    change WSs _ _ [_, _, _, _] [] _
    refine wss_one ?_
    refine ws_ret ?_
    refine we_bool ?_
    rw [JJ.isStB_no (by simp only [Bool.or_eq_true, decide_eq_true_eq] at hif1; omega)] at kq
    exact ⟨Nat.zero_le _, .inl ⟨_, rfl, kq⟩⟩
  ·
    simp only [Bool.or_eq_false_iff, decide_eq_false_iff_not] at hif1
    rw [JJ.isStB_dec (by omega) (by omega)] at kq
    refine wss_nil ?_
    change WSs _ _ [_, _, _, _] [] _
    refine wss_cons ?_
    refine ws_if ?_
    refine wt_eq (by (first | exact hr.units | exact units65 hr | exact units1 hr)) ?_
    refine we_name 2 rfl (.inl rfl) rfl ?_
    refine we_str ?_
    refine ⟨JJ.shp_str hk, JJ.shpTwo, ?_⟩
    refine ⟨fun hif2 => ?_, fun hif2 => ?_⟩
    ·
      have hk1 : k = JJ.sTwo := beq_iff_eq.mp hif2
      rw [if_pos hk1] at kq
      change WSs _ _ [_, _, _, _] [] _
      refine wss_one ?_
      refine ws_ret ?_
      refine we_eqI ?_
      refine we_call [] F__apart (hr.mono (by omega)) m__apart k__apart b__apart ?_
      refine wa_d ?_
      refine we_name 0 rfl (.inl rfl) rfl ?_
      refine wa_d ?_
      refine we_name 3 rfl (.inl rfl) rfl ?_
      refine wa_nil ?_
      refine ⟨by decide, by (simp [setAll_len, setAll_nil]), by (simp [refsIn, setAll_len, setAll_nil, permL]), ws, a.toNat, by rw [show ((a.toNat : Nat) : Int) = a by omega]; rfl, rfl, by omega, _, rfl, rfl, ?_⟩
      refine we_int ?_
      refine ⟨_, _, rfl, rfl, ?_⟩
      exact ⟨Nat.zero_le _, .inl ⟨_, rfl, kq⟩⟩
    ·
      have hk1 : ¬ k = JJ.sTwo := fun z => by rw [z] at hif2; exact absurd hif2 (by decide)
      rw [if_neg hk1] at kq
      refine wss_nil ?_
      change WSs _ _ [_, _, _, _] [] _
      refine wss_cons ?_
      refine ws_if ?_
      refine wt_eq (by (first | exact hr.units | exact units65 hr | exact units1 hr)) ?_
      refine we_name 2 rfl (.inl rfl) rfl ?_
      refine we_str ?_
      refine ⟨JJ.shp_str hk, JJ.shpFar, ?_⟩
      refine ⟨fun hif3 => ?_, fun hif3 => ?_⟩
      ·
        have hk2 : k = JJ.sFar := beq_iff_eq.mp hif3
        rw [if_pos hk2] at kq
        change WSs _ _ [_, _, _, _] [] _
        refine wss_one ?_
        refine ws_ret ?_
        refine we_ge ?_
        refine we_call [] F__apart (hr.mono (by omega)) m__apart k__apart b__apart ?_
        refine wa_d ?_
        refine we_name 0 rfl (.inl rfl) rfl ?_
        refine wa_d ?_
        refine we_name 3 rfl (.inl rfl) rfl ?_
        refine wa_nil ?_
        refine ⟨by decide, by (simp [setAll_len, setAll_nil]), by (simp [refsIn, setAll_len, setAll_nil, permL]), ws, a.toNat, by rw [show ((a.toNat : Nat) : Int) = a by omega]; rfl, rfl, by omega, _, rfl, rfl, ?_⟩
        refine we_int ?_
        refine ⟨_, _, rfl, rfl, ?_⟩
        exact ⟨Nat.zero_le _, .inl ⟨_, rfl, kq⟩⟩
      ·
        have hk2 : ¬ k = JJ.sFar := fun z => by rw [z] at hif3; exact absurd hif3 (by decide)
        rw [if_neg hk2] at kq
        refine wss_nil ?_
        change WSs _ _ [_, _, _, _] [] _
        refine wss_one ?_
        refine ws_ret ?_
        apply VE.use
        ·
          apply ve_and
          ·
            intro Q hQ
            refine we_eq (by (first | exact hr.units | exact units65 hr | exact units1 hr)) ?_
            refine we_name 2 rfl (.inl rfl) rfl ?_
            refine we_str ?_
            refine ⟨JJ.shp_str hk, JJ.shpNb, ?_⟩
            exact hQ
          intro hg2
          apply ve_and
          ·
            intro Q hQ
            refine we_lt ?_
            refine we_add ?_
            refine we_name 3 rfl (.inl rfl) rfl ?_
            refine we_int ?_
            refine ⟨_, _, rfl, rfl, ?_⟩
            refine we_len m_len ?_
            refine wv_name 0 rfl (.inl rfl) rfl ?_
            refine ⟨_, rfl, ?_⟩
            rw [hlm]
            refine ⟨_, _, rfl, rfl, ?_⟩
            exact hQ
          intro hg3
          have hb2 := of_decide_eq_true hg3
          apply ve_and
          ·
            intro Q hQ
            refine we_eqI ?_
            refine we_ix ?_
            refine wv_name 0 rfl (.inl rfl) rfl ?_
            refine we_name 3 rfl (.inl rfl) rfl ?_
            refine ⟨_, _, _, rfl, rfl, atI_ints (by omega) (by omega), ?_⟩
            refine we_ix ?_
            refine wv_name 0 rfl (.inl rfl) rfl ?_
            refine we_add ?_
            refine we_name 3 rfl (.inl rfl) rfl ?_
            refine we_int ?_
            refine ⟨_, _, rfl, rfl, ?_⟩
            refine ⟨_, _, _, rfl, rfl, atI_ints (by omega) (by omega), ?_⟩
            rw [show (a + 2).toNat = a.toNat + 2 by omega]
            refine ⟨_, _, rfl, rfl, ?_⟩
            exact hQ
          intro hg4
          apply ve_one
          intro Q hQ
          refine we_eqI ?_
          refine we_call [] F__apart (hr.mono (by omega)) m__apart k__apart b__apart ?_
          refine wa_d ?_
          refine we_name 0 rfl (.inl rfl) rfl ?_
          refine wa_d ?_
          refine we_name 3 rfl (.inl rfl) rfl ?_
          refine wa_nil ?_
          refine ⟨by decide, by (simp [setAll_len, setAll_nil]), by (simp [refsIn, setAll_len, setAll_nil, permL]), ws, a.toNat, by rw [show ((a.toNat : Nat) : Int) = a by omega]; rfl, rfl, by omega, _, rfl, rfl, ?_⟩
          refine we_int ?_
          refine ⟨_, _, rfl, rfl, ?_⟩
          exact hQ
        rw [show decide (k = JJ.sNb) = PyData.eqv (.str k) (.str "neighbours") from by rw [Bool.eq_iff_iff, decide_eq_true_eq]; exact beq_iff_eq.symm] at kq
        exact ⟨Nat.zero_le _, .inl ⟨_, rfl, kq⟩⟩
end
section
variable {P : Program} {w : World} {K : PySem.W.Frag} {mg : Str → Option Value} {base : Heap}
theorem ok_p_stepped {f : Addr} {fd : FuncData} (F : Fun K "_stepped" "_stepped" s_p_stepped f fd) : FnOk P w K mg base CX0 1 f fd ["word", "step"] (toSp K JJ.spStep2) := by
  have sc := sc_p_stepped
  refine fn_pp F sc (fun pvs m q h => ?_) (fun cdv A outer s H E hr pvs m q h => ?_)
  · obtain ⟨_, _, _, rfl, _⟩ := h
    rfl
  obtain ⟨ws, k, i, rfl, rfl, hl, S, kq⟩ := h
  have hlm : (ws.map PyData.int).length = ws.length := List.length_map ..
  have lt := S.lt
  have e1 : ((i : Int)).toNat = i := by omega
  have e2 : ((i : Int) + 1).toNat = i + 1 := by omega
  have e4 : ((i : Int) + 2).toNat = i + 2 := by omega
  change WSs _ _ [_, _, _, _] [] _
  refine wss_cons ?_
  refine ws_asg ?_
  refine we_name 1 rfl (.inl rfl) rfl ?_
  refine wg_tup rfl ?_
  refine ⟨_, rfl, rfl, ?_⟩
  refine wgn_cons ?_
  refine wg_name 2 sc.nd rfl (.inl rfl) ?_
  refine wgn_cons ?_
  refine wg_name 3 sc.nd rfl (.inl rfl) ?_
  refine wgn_nil ?_
  change WSs _ _ [_, _, _, _] [] _
  refine wss_cons ?_
  refine ws_if ?_
  refine wt_eq (by (first | exact hr.units | exact units65 hr | exact units1 hr)) ?_
  refine we_name 2 rfl (.inl rfl) rfl ?_
  refine we_str ?_
  refine ⟨S.shp, JJ.shpTwo, ?_⟩
  refine ⟨fun hif1 => ?_, fun hif1 => ?_⟩
  ·
    have hk : k = JJ.sTwo := beq_iff_eq.mp hif1
    unfold JJ.stepW at kq
    rw [if_pos hk] at kq
    change WSs _ _ [_, _, _, _] [] _
    refine wss_one ?_
    refine ws_ret ?_
    refine we_catT ?_
    refine we_sliceT ?_
    refine we_name 0 rfl (.inl rfl) rfl ?_
    refine wo_none ?_
    refine wo_some ?_
    refine we_name 3 rfl (.inl rfl) rfl ?_
    refine ⟨_, rfl, ?_⟩
    refine ⟨_, rfl, ?_⟩
    rw [JJ.cut_to (by omega) (by omega), e1]
    refine we_sliceT ?_
    refine we_name 0 rfl (.inl rfl) rfl ?_
    refine wo_some ?_
    refine we_add ?_
    refine we_name 3 rfl (.inl rfl) rfl ?_
    refine we_int ?_
    refine ⟨_, _, rfl, rfl, ?_⟩
    refine ⟨_, rfl, ?_⟩
    refine wo_none ?_
    refine ⟨_, rfl, ?_⟩
    rw [JJ.cut_from (by omega) (by omega), e2]
    refine ⟨_, _, rfl, rfl, szl (by simp only [List.length_map, List.length_take, List.length_drop, List.length_append, List.length_cons, List.length_nil]; omega), ?_⟩
    rw [← List.map_append]
    exact ⟨Nat.zero_le _, .inl ⟨_, rfl, kq⟩⟩
  ·
    have hk : ¬ k = JJ.sTwo := fun z => by rw [z] at hif1; exact absurd hif1 (by decide)
    refine wss_nil ?_
    change WSs _ _ [_, _, _, _] [] _
    refine wss_cons ?_
    refine ws_if ?_
    refine wt_eq (by (first | exact hr.units | exact units65 hr | exact units1 hr)) ?_
    refine we_name 2 rfl (.inl rfl) rfl ?_
    refine we_str ?_
    refine ⟨S.shp, JJ.shpNb, ?_⟩
    refine ⟨fun hif2 => ?_, fun hif2 => ?_⟩
    ·
      have hk2 : k = JJ.sNb := beq_iff_eq.mp hif2
      unfold JJ.stepW at kq
      rw [if_neg hk, if_pos hk2] at kq
      subst hk2
      rw [JJ.nb_same S] at kq
      change WSs _ _ [_, _, _, _] [] _
      refine wss_one ?_
      refine ws_ret ?_
      refine we_catT ?_
      refine we_sliceT ?_
      refine we_name 0 rfl (.inl rfl) rfl ?_
      refine wo_none ?_
      refine wo_some ?_
      refine we_name 3 rfl (.inl rfl) rfl ?_
      refine ⟨_, rfl, ?_⟩
      refine ⟨_, rfl, ?_⟩
      rw [JJ.cut_to (by omega) (by omega), e1]
      refine we_sliceT ?_
      refine we_name 0 rfl (.inl rfl) rfl ?_
      refine wo_some ?_
      refine we_add ?_
      refine we_name 3 rfl (.inl rfl) rfl ?_
      refine we_int ?_
      refine ⟨_, _, rfl, rfl, ?_⟩
      refine ⟨_, rfl, ?_⟩
      refine wo_none ?_
      refine ⟨_, rfl, ?_⟩
      rw [JJ.cut_from (by omega) (by omega), e4]
      refine ⟨_, _, rfl, rfl, szl (by simp only [List.length_map, List.length_take, List.length_drop, List.length_append, List.length_cons, List.length_nil]; omega), ?_⟩
      rw [← List.map_append]
      exact ⟨Nat.zero_le _, .inl ⟨_, rfl, kq⟩⟩
    ·
      have hk2 : ¬ k = JJ.sNb := fun z => by rw [z] at hif2; exact absurd hif2 (by decide)
      unfold JJ.stepW at kq
      rw [if_neg hk, if_neg hk2] at kq
      refine wss_nil ?_
      change WSs _ _ [_, _, _, _] [] _
      refine wss_one ?_
      refine ws_ret ?_
      refine we_catT ?_
      refine we_catT ?_
      refine we_sliceT ?_
      refine we_name 0 rfl (.inl rfl) rfl ?_
      refine wo_none ?_
      refine wo_some ?_
      refine we_name 3 rfl (.inl rfl) rfl ?_
      refine ⟨_, rfl, ?_⟩
      refine ⟨_, rfl, ?_⟩
      rw [JJ.cut_to (by omega) (by omega), e1]
      refine we_tup ?_
      refine wd_cons ?_
      refine we_ix ?_
      refine wv_name 0 rfl (.inl rfl) rfl ?_
      refine we_add ?_
      refine we_name 3 rfl (.inl rfl) rfl ?_
      refine we_int ?_
      refine ⟨_, _, rfl, rfl, ?_⟩
      refine ⟨_, _, _, rfl, rfl, atI_ints (by omega) (by omega), ?_⟩
      rw [e2]
      refine wd_cons ?_
      refine we_ix ?_
      refine wv_name 0 rfl (.inl rfl) rfl ?_
      refine we_name 3 rfl (.inl rfl) rfl ?_
      refine ⟨_, _, _, rfl, rfl, atI_ints (by omega) (by omega), ?_⟩
      rw [e1]
      refine wd_nil ?_
      refine ⟨szl (by simp), ?_⟩
      refine ⟨_, _, rfl, rfl, szl (by simp only [List.length_map, List.length_take, List.length_drop, List.length_append, List.length_cons, List.length_nil]; omega), ?_⟩
      refine we_sliceT ?_
      refine we_name 0 rfl (.inl rfl) rfl ?_
      refine wo_some ?_
      refine we_add ?_
      refine we_name 3 rfl (.inl rfl) rfl ?_
      refine we_int ?_
      refine ⟨_, _, rfl, rfl, ?_⟩
      refine ⟨_, rfl, ?_⟩
      refine wo_none ?_
      refine ⟨_, rfl, ?_⟩
      rw [JJ.cut_from (by omega) (by omega), e4]
      refine ⟨_, _, rfl, rfl, szl (by simp only [List.length_map, List.length_take, List.length_drop, List.length_append, List.length_cons, List.length_nil]; omega), ?_⟩
      rw [show [PyData.int (ws.getD (i + 1) 0), PyData.int (ws.getD i 0)] = [ws.getD (i + 1) 0, ws.getD i 0].map .int from rfl, ← List.map_append, ← List.map_append]
      exact ⟨Nat.zero_le _, .inl ⟨_, rfl, kq⟩⟩
end
section
variable {P : Program} {w : World} {K : PySem.W.Frag} {mg : Str → Option Value} {base : Heap}
theorem ok_steps {f : Addr} {fd : FuncData} (F : Fun K "steps" "steps" s_steps f fd) {f_check_word : Addr} {fd_check_word : FuncData} (F_check_word : FnOk P w K mg base CX0 2 f_check_word fd_check_word ["n", "word"] (toSp K JJ.spHooks)) (m_check_word : mg "check_word" = some (.ref f_check_word)) (k_check_word : PySem.W.keepIn K (.ref f_check_word) = true) (b_check_word : Binds K fd_check_word ["n", "word"] []) {f__is_step : Addr} {fd__is_step : FuncData} (F__is_step : FnOk P w K mg base CX0 2 f__is_step fd__is_step ["word", "step"] (toSp K JJ.spIsStep)) (m__is_step : mg "_is_step" = some (.ref f__is_step)) (k__is_step : PySem.W.keepIn K (.ref f__is_step) = true) (b__is_step : Binds K fd__is_step ["word", "step"] []) (m_range : mg "range" = none) (m_len : mg "len" = none) : FnOk P w K mg base CX0 3 f fd ["n", "word"] (toSp K JJ.spPSteps) := by
  have sc := sc_steps
  refine fn_pp F sc (fun pvs m q h => ?_) (fun cdv A outer s H E hr pvs m q h => ?_)
  · obtain ⟨_, _, rfl, _⟩ := h
    rfl
  obtain ⟨n, ws, rfl, rfl, hn, W, hl, kq⟩ := h
  have hlm : (ws.map PyData.int).length = ws.length := List.length_map ..
  have htl : ((JJ.told ws.length 3).map JJ.mvD).length = 3 * ws.length := by rw [List.length_map, JJ.told_len]
  change WSs _ _ [_, _, _, _, _, _] [] _
  refine wss_cons ?_
  refine ws_expr ?_
  refine we_call [] F_check_word (hr.mono (by omega)) m_check_word k_check_word b_check_word ?_
  refine wa_d ?_
  refine we_name 0 rfl (.inl rfl) rfl ?_
  refine wa_d ?_
  refine we_name 1 rfl (.inr (.inl rfl)) rfl ?_
  refine wa_nil ?_
  refine ⟨by decide, by (simp [setAll_len, setAll_nil]), by (simp [refsIn, setAll_len, setAll_nil, permL]), n, ws, rfl, rfl, hn, W, _, rfl, rfl, ?_⟩
  change WSs _ _ [_, _, _, _, _, _] [] _
  refine wss_cons ?_
  refine ws_setLc2 2 [("kind", 3), ("at", 4)] [4] (.nm 3) (.nm 4) rfl sc.nd rfl rfl (sw_true rfl rfl rfl (by decide +kernel)) (blkOk_by (own := [("kind", 3), ("at", 4)]) (N := ["n", "word", "told", "kind", "at", "step"]) (by rfl)) (by decide) (fun _ _ _ _ _ => pg_nm sc.nd rfl (.inl rfl) (.inr rfl)) (by decide) (fun _ _ _ _ _ => pg_nm sc.nd rfl (.inl rfl) (.inr rfl)) (by decide) ?_
  refine wi_tup ?_
  refine we_tup ?_
  refine wd_cons ?_
  refine we_str ?_
  refine wd_cons ?_
  refine we_str ?_
  refine wd_cons ?_
  refine we_str ?_
  refine wd_nil ?_
  refine ⟨szl (by simp), ?_⟩
  refine ⟨_, rfl, ?_⟩
  refine ⟨fun i ys m => i ≤ 3 ∧ m = [] ∧ ys = (JJ.told ws.length i).map JJ.mvD, ?_, fun i x ys m hx hI => ?_, fun ys m hI => ?_⟩
  ·
    exact ⟨by omega, rfl, rfl⟩
  ·
    obtain ⟨hi3, rfl, rfl⟩ := hI
    have hi : i < 3 := (List.getElem?_eq_some_iff.mp hx).1
    have hxk : x = .str (JJ.kindAt i) := by
      rcases (show i = 0 ∨ i = 1 ∨ i = 2 by omega) with rfl | rfl | rfl <;> exact (Option.some.inj hx).symm
    subst hxk
    have hil : i * ws.length ≤ 2 * ws.length := Nat.mul_le_mul_right _ (by omega)
    refine ⟨trivial, _, rfl, ?_⟩
    intro sb Hb Cb clb fpb
    refine wi_rng1 m_range ?_
    refine we_len m_len ?_
    refine wv_name 1 rfl (by first | exact .inr (.inl rfl) | exact .inr (.inr rfl)) rfl ?_
    refine ⟨_, rfl, ?_⟩
    rw [hlm]
    refine ⟨_, rfl, by omega, by omega, ?_⟩
    refine ⟨fun j ys m => j ≤ ws.length ∧ m = [] ∧ ys = (JJ.told ws.length i ++ JJ.toldK (JJ.kindAt i) j).map JJ.mvD, ?_, fun j y ys m hy hJ => ?_, fun ys m hJ => ?_⟩
    ·
      exact ⟨Nat.zero_le _, rfl, by rw [show JJ.toldK (JJ.kindAt i) 0 = [] from rfl, List.append_nil]⟩
    ·
      obtain ⟨hj, rfl, rfl⟩ := hJ
      obtain ⟨hj2, rfl⟩ := rgD_get hy
      rw [show (0 : Int) + (j : Int) = j by omega]
      refine ⟨trivial, _, rfl, ?_⟩
      intro sb2 Hb2 Cb2 clb2 fpb2
      refine we_tup ?_
      refine wd_cons ?_
      refine we_name 3 rfl (.inl rfl) rfl ?_
      refine wd_cons ?_
      refine we_name 4 rfl (.inl rfl) rfl ?_
      refine wd_nil ?_
      refine ⟨szl (by simp), ?_⟩
      refine ⟨szlt (by rw [List.length_map, List.length_append, JJ.told_len, JJ.toldK_len]; omega), by omega, rfl, ?_⟩
      rw [JJ.toldK_next, ← List.append_assoc, List.map_append (l₂ := [_])]
      rfl
    obtain ⟨hj, rfl, rfl⟩ := hJ
    refine ⟨trivial, by omega, rfl, ?_⟩
    rw [rgD_len, show ((ws.length : Int) - 0).toNat = ws.length by omega, JJ.told_next]
  obtain ⟨hi3, rfl, hys⟩ := hI
  have hys : ys = (JJ.told ws.length 3).map JJ.mvD := hys
  subst hys
  refine ⟨trivial, ?_⟩
  refine .inl ?_
  change WSs _ _ [_, _, _, _, _, _] [] _
  refine wss_one ?_
  refine ws_retF ?_
  refine wf_lc1 [("step", 5)] (.nm 5) rfl sc.nd (blkOk_by (own := [("step", 5)]) (N := ["n", "word", "told", "kind", "at", "step"]) (by rfl)) (fun _ _ _ _ _ => pg_nm sc.nd rfl (.inl rfl) (.inr rfl)) (by decide) ?_
  refine wi_list ?_
  refine wv_name 2 rfl (.inl rfl) rfl ?_
  refine ⟨_, rfl, ?_⟩
  refine ⟨szl (by omega), fun i ys m => m = [] ∧ ys = (((JJ.told ws.length 3).take i).filter fun p => JJ.isStB ws p.1 p.2).map JJ.mvD, ?_, fun i x ys m hx hy hI => ?_, fun ys m hy hI => ?_⟩
  ·
    exact ⟨rfl, rfl⟩
  ·
    obtain ⟨rfl, rfl⟩ := hI
    obtain ⟨p, hp, rfl⟩ := MM.map_get hx
    have hpk := JJ.told_ok p (List.mem_of_getElem? hp)
    refine ⟨rfl, _, rfl, ?_⟩
    intro sb Hb Cb clb fpb
    refine wt_val ?_
    refine we_call [] F__is_step (hr.mono (by omega)) m__is_step k__is_step b__is_step ?_
    refine wa_d ?_
    refine we_name 1 rfl (by first | exact .inr (.inl rfl) | exact .inr (.inr rfl)) rfl ?_
    refine wa_d ?_
    refine we_name 5 rfl (.inl rfl) rfl ?_
    refine wa_nil ?_
    refine ⟨by decide, by (simp [setAll_len, setAll_nil]), by (simp [refsIn, setAll_len, setAll_nil, permL]), ws, p.1, p.2, rfl, rfl, by omega, hpk, _, rfl, rfl, ?_⟩
    refine ⟨_, rfl, ?_⟩
    refine ⟨fun hlcif1 => ?_, fun hlcif1 => ?_⟩
    ·
      intro sb Hb Cb clb fpb
      refine we_name 5 rfl (.inl rfl) rfl ?_
      refine ⟨rfl, ?_⟩
      rw [List.take_succ, hp, List.filter_append, List.map_append, Option.toList_some, List.filter_cons, if_pos hlcif1]
      rfl
    ·
      refine ⟨rfl, ?_⟩
      rw [List.take_succ, hp, List.filter_append, List.map_append, Option.toList_some, List.filter_cons, if_neg (by rw [hlcif1]; exact Bool.false_ne_true)]
      exact (List.append_nil _).symm
  obtain ⟨rfl, rfl⟩ := hI
  rw [List.length_map, List.take_length]
  refine ⟨rfl, ?_⟩
  rw [JJ.srt_steps] at kq
  exact ⟨Nat.zero_le _, .inr (.inr ⟨_, _, rfl, Nat.le_refl _, rfl, kq⟩)⟩
end
section
variable {P : Program} {w : World} {K : PySem.W.Frag} {mg : Str → Option Value} {base : Heap}
theorem ok_after_step {f : Addr} {fd : FuncData} (F : Fun K "after_step" "after_step" s_after_step f fd) {f_check_word : Addr} {fd_check_word : FuncData} (F_check_word : FnOk P w K mg base CX0 2 f_check_word fd_check_word ["n", "word"] (toSp K JJ.spHooks)) (m_check_word : mg "check_word" = some (.ref f_check_word)) (k_check_word : PySem.W.keepIn K (.ref f_check_word) = true) (b_check_word : Binds K fd_check_word ["n", "word"] []) {f__stepped : Addr} {fd__stepped : FuncData} (F__stepped : FnOk P w K mg base CX0 1 f__stepped fd__stepped ["word", "step"] (toSp K JJ.spStep2)) (m__stepped : mg "_stepped" = some (.ref f__stepped)) (k__stepped : PySem.W.keepIn K (.ref f__stepped) = true) (b__stepped : Binds K fd__stepped ["word", "step"] []) {f__is_step : Addr} {fd__is_step : FuncData} (F__is_step : FnOk P w K mg base CX0 2 f__is_step fd__is_step ["word", "step"] (toSp K JJ.spIsStep)) (m__is_step : mg "_is_step" = some (.ref f__is_step)) (k__is_step : PySem.W.keepIn K (.ref f__is_step) = true) (b__is_step : Binds K fd__is_step ["word", "step"] []) : FnOk P w K mg base CX0 3 f fd ["n", "word", "step"] (toSp K JJ.spAfter) := by
  have sc := sc_after_step
  refine fn_pp F sc (fun pvs m q h => ?_) (fun cdv A outer s H E hr pvs m q h => ?_)
  · obtain ⟨_, _, _, _, rfl, _⟩ := h
    rfl
  obtain ⟨n, ws, k, i, rfl, rfl, hn, W, hl, S, kq⟩ := h
  change WSs _ _ [_, _, _] [] _
  refine wss_cons ?_
  refine ws_expr ?_
  refine we_call [] F_check_word (hr.mono (by omega)) m_check_word k_check_word b_check_word ?_
  refine wa_d ?_
  refine we_name 0 rfl (.inl rfl) rfl ?_
  refine wa_d ?_
  refine we_name 1 rfl (.inl rfl) rfl ?_
  refine wa_nil ?_
  refine ⟨by decide, by (simp [setAll_len, setAll_nil]), by (simp [refsIn, setAll_len, setAll_nil, permL]), n, ws, rfl, rfl, hn, W, _, rfl, rfl, ?_⟩
  change WSs _ _ [_, _, _] [] _
  refine wss_cons ?_
  refine ws_if ?_
  refine wt_not ?_
  refine wt_val ?_
  refine we_call [] F__is_step (hr.mono (by omega)) m__is_step k__is_step b__is_step ?_
  refine wa_d ?_
  refine we_name 1 rfl (.inl rfl) rfl ?_
  refine wa_d ?_
  refine we_name 2 rfl (.inl rfl) rfl ?_
  refine wa_nil ?_
  refine ⟨by decide, by (simp [setAll_len, setAll_nil]), by (simp [refsIn, setAll_len, setAll_nil, permL]), ws, k, i, rfl, rfl, by omega, S.ok, _, rfl, rfl, ?_⟩
  rw [JJ.isStB_iff.mpr ⟨by omega, by rw [Int.toNat_natCast]; exact S⟩]
  refine ⟨_, rfl, ?_⟩
  refine ⟨fun hif1 => ?_, fun hif1 => ?_⟩
  ·
    exfalso
    simp at hif1 --done
  ·
    refine wss_nil ?_
    change WSs _ _ [_, _, _] [] _
    refine wss_one ?_
    refine ws_ret ?_
    refine we_call [] F__stepped (hr.mono (by omega)) m__stepped k__stepped b__stepped ?_
    refine wa_d ?_
    refine we_name 1 rfl (.inl rfl) rfl ?_
    refine wa_d ?_
    refine we_name 2 rfl (.inl rfl) rfl ?_
    refine wa_nil ?_
    refine ⟨by decide, by (simp [setAll_len, setAll_nil]), by (simp [refsIn, setAll_len, setAll_nil, permL]), ws, k, i, rfl, rfl, by omega, S, _, rfl, rfl, ?_⟩
    exact ⟨Nat.zero_le _, .inl ⟨_, rfl, kq⟩⟩
end
section
variable {P : Program} {w : World} {K : PySem.W.Frag} {mg : Str → Option Value} {base : Heap}
theorem ok_law {f : Addr} {fd : FuncData} (F : Fun K "law" "law" s_law f fd) {f__law_well : Addr} {fd__law_well : FuncData} (F__law_well : FnOk P w K mg base CX0 1 f__law_well fd__law_well ["_law_script"] (toSp K JJ.spWel2)) (m__law_well : mg "_law_well" = some (.ref f__law_well)) (k__law_well : PySem.W.keepIn K (.ref f__law_well) = true) (b__law_well : Binds K fd__law_well ["_law_script"] []) {f__law_same : Addr} {fd__law_same : FuncData} (F__law_same : FnOk P w K mg base CX0 6 f__law_same fd__law_same ["_law_told", "_law_due", "_law_depth"] (toSp K JJ.spSamE4)) (m__law_same : mg "_law_same" = some (.ref f__law_same)) (k__law_same : PySem.W.keepIn K (.ref f__law_same) = true) (b__law_same : Binds K fd__law_same ["_law_told", "_law_due", "_law_depth"] []) {dv__law_same : Value} (bD__law_same : Binds K fd__law_same ["_law_told", "_law_due", "_law_depth"] [dv__law_same]) (vD__law_same : Vals [V.int 9] [dv__law_same]) {f__law_word : Addr} {fd__law_word : FuncData} (F__law_word : FnOk P w K mg base CX0 2 f__law_word fd__law_word ["_law_well_here", "_law_n", "_law_most"] (toSp K JJ.spWord)) (m__law_word : mg "_law_word" = some (.ref f__law_word)) (k__law_word : PySem.W.keepIn K (.ref f__law_word) = true) (b__law_word : Binds K fd__law_word ["_law_well_here", "_law_n", "_law_most"] []) {f__law_steps : Addr} {fd__law_steps : FuncData} (F__law_steps : FnOk P w K mg base CX0 1 f__law_steps fd__law_steps ["_law_word_here"] (toSp K JJ.spSteps)) (m__law_steps : mg "_law_steps" = some (.ref f__law_steps)) (k__law_steps : PySem.W.keepIn K (.ref f__law_steps) = true) (b__law_steps : Binds K fd__law_steps ["_law_word_here"] []) {f_steps : Addr} {fd_steps : FuncData} (F_steps : FnOk P w K mg base CX0 3 f_steps fd_steps ["n", "word"] (toSp K JJ.spPSteps)) (m_steps : mg "steps" = some (.ref f_steps)) (k_steps : PySem.W.keepIn K (.ref f_steps) = true) (b_steps : Binds K fd_steps ["n", "word"] []) {f__law_value : Addr} {fd__law_value : FuncData} (F__law_value : FnOk P w K mg base CX0 2 f__law_value fd__law_value ["_law_n", "_law_word_here"] (toSp K JJ.spVal)) (m__law_value : mg "_law_value" = some (.ref f__law_value)) (k__law_value : PySem.W.keepIn K (.ref f__law_value) = true) (b__law_value : Binds K fd__law_value ["_law_n", "_law_word_here"] []) {f__law_dip : Addr} {fd__law_dip : FuncData} (F__law_dip : FnOk P w K mg base CX0 1 f__law_dip fd__law_dip ["_law_well_here", "_law_many"] (toSp K JJ.spDip)) (m__law_dip : mg "_law_dip" = some (.ref f__law_dip)) (k__law_dip : PySem.W.keepIn K (.ref f__law_dip) = true) (b__law_dip : Binds K fd__law_dip ["_law_well_here", "_law_many"] []) {f__law_stirred : Addr} {fd__law_stirred : FuncData} (F__law_stirred : FnOk P w K mg base CX0 2 f__law_stirred fd__law_stirred ["_law_well_here", "_law_n", "_law_word_here", "_law_many", "_law_most"] (toSp K JJ.spStir)) (m__law_stirred : mg "_law_stirred" = some (.ref f__law_stirred)) (k__law_stirred : PySem.W.keepIn K (.ref f__law_stirred) = true) (b__law_stirred : Binds K fd__law_stirred ["_law_well_here", "_law_n", "_law_word_here", "_law_many", "_law_most"] []) {f_after_step : Addr} {fd_after_step : FuncData} (F_after_step : FnOk P w K mg base CX0 3 f_after_step fd_after_step ["n", "word", "step"] (toSp K JJ.spAfter)) (m_after_step : mg "after_step" = some (.ref f_after_step)) (k_after_step : PySem.W.keepIn K (.ref f_after_step) = true) (b_after_step : Binds K fd_after_step ["n", "word", "step"] []) {f__law_step : Addr} {fd__law_step : FuncData} (F__law_step : FnOk P w K mg base CX0 1 f__law_step fd__law_step ["_law_word_here", "_law_step_here"] (toSp K JJ.spStep2)) (m__law_step : mg "_law_step" = some (.ref f__law_step)) (k__law_step : PySem.W.keepIn K (.ref f__law_step) = true) (b__law_step : Binds K fd__law_step ["_law_word_here", "_law_step_here"] []) (m_range : mg "range" = none) (m_min : mg "min" = none) (m_len : mg "len" = none) (bR0_after_step_step_word_n : KBr K fd_after_step ["n", "word", "step"] 0 ["step", "word", "n"] [2, 1, 0]) (bR0_steps_word_n : KBr K fd_steps ["n", "word"] 0 ["word", "n"] [1, 0]) : FnOk P w K mg base CX0 7 f fd ["_law_script"] (toSp K spLaw) := by
  have sc := sc_law
  refine fn_pp F sc (fun pvs m q h => ?_) (fun cdv A outer s H E hr pvs m q h => ?_)
  · obtain ⟨_, rfl, _⟩ := h
    rfl
  obtain ⟨ns, rfl, rfl, hl, hns, kq⟩ := h
  change WSs _ _ [_, _, _, _, _, _, _, _, _, _, _, _, _, _] [] _
  refine wss_cons ?_
  refine ws_setF 1 sc.nd rfl (.inl rfl) ?_
  refine wf_call [] F__law_well (hr.mono (by omega)) m__law_well k__law_well b__law_well ?_
  refine wa_cons ?_
  refine wv_name 0 rfl (.inl rfl) rfl ?_
  refine wa_nil ?_
  refine ⟨by decide, by (simp [setAll_len, setAll_nil]), by (simp [refsIn, setAll_len, setAll_nil, permL]), ns, by simp [ren], rfl, hl, hns, fun xs1 hw1 => ⟨[], _, rfl, rfl, rfl, ?_⟩⟩
  change WSs _ _ [_, _, _, _, _, _, _, _, _, _, _, _, _, _] [_] _
  refine wss_cons ?_
  refine ws_for PassesOwn.never rfl ?_
  refine wi_rng1 m_range ?_
  refine we_int ?_
  refine ⟨_, rfl, by omega, by omega, ?_⟩
  refine ⟨fun i L m => ∃ xs y2 y3 y4 y5 y6 y7 y8 y9 y10 y11 y12 y13, L = [some (.raw (ns.map .int)), some (.ref 0), y2, y3, y4, y5, y6, y7, y8, y9, y10, y11, y12, y13] ∧ m = [some (.lst xs)] ∧ JJ.W2 ns xs, ?_, fun i x L m hx hI => ?_, fun L m hI => ?_⟩
  ·
    exact ⟨_, _, _, _, _, _, _, _, _, _, _, _, _, rfl, rfl, hw1⟩
  ·
    obtain ⟨xs, y2, y3, y4, y5, y6, y7, y8, y9, y10, y11, y12, y13, rfl, rfl, hw2⟩ := hI
    obtain ⟨hi, rfl⟩ := rgD_get hx
    refine ⟨trivial, ?_⟩
    refine wg_name 2 sc.nd rfl (.inl rfl) ?_
    change WSs _ _ [_, _, _, _, _, _, _, _, _, _, _, _, _, _] [_] _
    refine wss_cons ?_
    refine ws_set 3 sc.nd rfl (.inl rfl) ?_
    refine we_add ?_
    refine we_int ?_
    refine we_call [0] F__law_dip (hr.mono (by omega)) m__law_dip k__law_dip b__law_dip ?_
    refine wa_cons ?_
    refine wv_name 1 rfl (.inl rfl) rfl ?_
    refine wa_d ?_
    refine we_int ?_
    refine wa_nil ?_
    refine ⟨by decide, by (simp [setAll_len, setAll_nil]), by (simp [refsIn, setAll_len, setAll_nil, permL]), ns, _, 8, rfl, rfl, hw2, by omega, by omega, fun r1 xsr1 hr1a hr1b hr1 => ⟨_, rfl, rfl, ?_⟩⟩
    refine ⟨_, _, rfl, rfl, ?_⟩
    change WSs _ _ [_, _, _, _, _, _, _, _, _, _, _, _, _, _] [_] _
    refine wss_cons ?_
    refine ws_set 4 sc.nd rfl (.inl rfl) ?_
    refine we_call [0] F__law_word (hr.mono (by omega)) m__law_word k__law_word b__law_word ?_
    refine wa_cons ?_
    refine wv_name 1 rfl (.inl rfl) rfl ?_
    refine wa_d ?_
    refine we_name 3 rfl (.inl rfl) rfl ?_
    refine wa_d ?_
    refine we_int ?_
    refine wa_nil ?_
    refine ⟨by decide, by (simp [setAll_len, setAll_nil]), by (simp [refsIn, setAll_len, setAll_nil, permL]), ns, _, _, _, rfl, rfl, hr1, by omega, by omega, by omega, by omega, fun xs3 ws0 hw3 W0 hwl0 => ⟨_, rfl, rfl, ?_⟩⟩
    change WSs _ _ [_, _, _, _, _, _, _, _, _, _, _, _, _, _] [_] _
    refine wss_cons ?_
    refine ws_join (fun L m => ∃ xs ws, L = [some (.raw (ns.map .int)), some (.ref 0), some (.d (.int (0 + (i : Int)))), some (.d (.int (1 + r1))), some (.d (.tuple (ws.map .int))), y5, y6, y7, y8, y9, y10, y11, y12, y13] ∧ m = [some (.lst xs)] ∧ JJ.W2 ns xs ∧ JJ.Wok (1 + r1) ws ∧ ws.length ≤ 30) ?_ ?_
    ·
      refine ws_if ?_
      refine wt_eqI ?_
      refine we_call [0] F__law_dip (hr.mono (by omega)) m__law_dip k__law_dip b__law_dip ?_
      refine wa_cons ?_
      refine wv_name 1 rfl (.inl rfl) rfl ?_
      refine wa_d ?_
      refine we_int ?_
      refine wa_nil ?_
      refine ⟨by decide, by (simp [setAll_len, setAll_nil]), by (simp [refsIn, setAll_len, setAll_nil, permL]), ns, _, 2, rfl, rfl, hw3, by omega, by omega, fun r4 xsr4 hr4a hr4b hr4 => ⟨_, rfl, rfl, ?_⟩⟩
      refine we_int ?_
      refine ⟨_, _, rfl, rfl, ?_⟩
      refine ⟨fun hif1 => ?_, fun hif1 => ?_⟩
      ·
        change WSs _ _ [_, _, _, _, _, _, _, _, _, _, _, _, _, _] [_] _
        refine wss_one ?_
        refine ws_set 4 sc.nd rfl (.inl rfl) ?_
        refine we_call [0] F__law_stirred (hr.mono (by omega)) m__law_stirred k__law_stirred b__law_stirred ?_
        refine wa_cons ?_
        refine wv_name 1 rfl (.inl rfl) rfl ?_
        refine wa_d ?_
        refine we_name 3 rfl (.inl rfl) rfl ?_
        refine wa_d ?_
        refine we_sliceT ?_
        refine we_name 4 rfl (.inl rfl) rfl ?_
        refine wo_none ?_
        refine wo_some ?_
        refine we_int ?_
        refine ⟨_, rfl, ?_⟩
        refine ⟨_, rfl, ?_⟩
        rw [JJ.cut_toZ (by omega), show (12 : Int).toNat = 12 from rfl]
        refine wa_d ?_
        refine we_int ?_
        refine wa_d ?_
        refine we_int ?_
        refine wa_nil ?_
        refine ⟨by decide, by (simp [setAll_len, setAll_nil]), by (simp [refsIn, setAll_len, setAll_nil, permL]), ns, _, _, _, _, ws0.take 12, rfl, rfl, hr4, by omega, by omega, by omega, by omega, by omega, JJ.wok_take W0 _, by rw [List.length_take]; omega, fun xs6 us hw6 U hul => ⟨_, rfl, rfl, ?_⟩⟩
        exact ⟨_, us, rfl, rfl, hw6, U, by omega⟩
      ·
        refine wss_nil ?_
        exact ⟨_, ws0, rfl, rfl, hr4, W0, by omega⟩
    rintro L m ⟨xs8, ws, rfl, rfl, hw8, W, hwl⟩
    have hSl : (srtD (JJ.stps ws (ws.length - 1))).length ≤ 90 := by rw [srt_len]; have := JJ.stps_len (ws := ws) (ws.length - 1); omega
    change WSs _ _ [_, _, _, _, _, _, _, _, _, _, _, _, _, _] [_] _
    refine wss_cons ?_
    refine ws_set 5 sc.nd rfl (.inl rfl) ?_
    refine we_wf ?_
    refine wf_call [] F__law_steps (hr.mono (by omega)) m__law_steps k__law_steps b__law_steps ?_
    refine wa_d ?_
    refine we_name 4 rfl (.inl rfl) rfl ?_
    refine wa_nil ?_
    refine ⟨by decide, by (simp [setAll_len, setAll_nil]), by (simp [refsIn, setAll_len, setAll_nil, permL]), ws, rfl, rfl, by omega, [], _, rfl, rfl, rfl, ?_⟩
    change WSs _ _ [_, _, _, _, _, _, _, _, _, _, _, _, _, _] [_] _
    refine wss_cons ?_
    refine ws_setF 6 sc.nd rfl (.inl rfl) ?_
    refine wf_call [] F_steps (hr.mono (by omega)) m_steps k_steps b_steps ?_
    refine wa_d ?_
    refine we_name 3 rfl (.inl rfl) rfl ?_
    refine wa_d ?_
    refine we_name 4 rfl (.inl rfl) rfl ?_
    refine wa_nil ?_
    refine ⟨by decide, by (simp [setAll_len, setAll_nil]), by (simp [refsIn, setAll_len, setAll_nil, permL]), _, ws, rfl, rfl, by omega, W, by omega, [], _, rfl, rfl, rfl, ?_⟩
    change WSs _ _ [_, _, _, _, _, _, _, _, _, _, _, _, _, _] [_, _] _
    refine wss_cons ?_
    refine ws_if ?_
    refine wt_not ?_
    refine wt_val ?_
    refine we_callD [1] F__law_same (hr.mono (by omega)) m__law_same k__law_same bD__law_same vD__law_same ?_
    refine wa_cons ?_
    refine wv_name 6 rfl (.inl rfl) rfl ?_
    refine wa_d ?_
    refine we_name 5 rfl (.inl rfl) rfl ?_
    refine wa_nil ?_
    refine ⟨by decide, by (simp [setAll_len, setAll_nil]), by (simp [refsIn, setAll_len, setAll_nil, permL]), .inr ⟨_, 9, rfl, rfl, JJ.steps_dl, by omega, by omega, by omega, _, rfl, rfl, ?_⟩⟩
    refine ⟨_, rfl, ?_⟩
    refine ⟨fun hif2 => ?_, fun hif2 => ?_⟩
    ·
      exfalso
      simp at hif2 --done
    ·
      refine wss_nil ?_
      change WSs _ _ [_, _, _, _, _, _, _, _, _, _, _, _, _, _] [_, _] _
      refine wss_cons ?_
      refine ws_expr ?_
      refine we_reverse ?_
      refine wv_name 6 rfl (.inl rfl) rfl ?_
      refine ⟨_, _, rfl, rfl, ?_⟩
      refine ⟨_, rfl, ?_⟩
      change WSs _ _ [_, _, _, _, _, _, _, _, _, _, _, _, _, _] [_, _] _
      refine wss_cons ?_
      refine ws_expr ?_
      refine we_append ?_
      refine wv_name 6 rfl (.inl rfl) rfl ?_
      refine ⟨_, _, rfl, rfl, ?_⟩
      refine we_tup ?_
      refine wd_cons ?_
      refine we_str ?_
      refine wd_cons ?_
      refine we_int ?_
      refine wd_nil ?_
      refine ⟨szl (by simp), ?_⟩
      refine ⟨_, rfl, szlt (by rw [List.length_reverse]; omega), ?_⟩
      change WSs _ _ [_, _, _, _, _, _, _, _, _, _, _, _, _, _] [_, _] _
      refine wss_cons ?_
      refine ws_setF 7 sc.nd rfl (.inl rfl) ?_
      refine wf_callR0 [] F_steps (hr.mono (by omega)) m_steps k_steps bR0_steps_word_n ?_
      refine wk_d ?_
      refine we_name 4 rfl (.inl rfl) rfl ?_
      refine wk_d ?_
      refine we_name 3 rfl (.inl rfl) rfl ?_
      refine wk_nil ?_
      refine ⟨rfl, rfl, ?_⟩
      refine ⟨by decide, by (simp [setAll_len, setAll_nil]), by (simp [refsIn, setAll_len, setAll_nil, permL]), _, ws, rfl, rfl, by omega, W, by omega, [], _, rfl, rfl, rfl, ?_⟩
      change WSs _ _ [_, _, _, _, _, _, _, _, _, _, _, _, _, _] [_, _, _] _
      refine wss_cons ?_
      refine ws_expr ?_
      refine we_clear ?_
      refine wv_name 7 rfl (.inl rfl) rfl ?_
      refine ⟨_, _, rfl, rfl, ?_⟩
      refine ⟨_, rfl, ?_⟩
      change WSs _ _ [_, _, _, _, _, _, _, _, _, _, _, _, _, _] [_, _, _] _
      refine wss_cons ?_
      refine ws_if ?_
      refine wt_not ?_
      refine wt_val ?_
      refine we_callD [] F__law_same (hr.mono (by omega)) m__law_same k__law_same bD__law_same vD__law_same ?_
      refine wa_d ?_
      refine we_wf ?_
      refine wf_call [] F_steps (hr.mono (by omega)) m_steps k_steps b_steps ?_
      refine wa_d ?_
      refine we_name 3 rfl (.inl rfl) rfl ?_
      refine wa_d ?_
      refine we_name 4 rfl (.inl rfl) rfl ?_
      refine wa_nil ?_
      refine ⟨by decide, by (simp [setAll_len, setAll_nil]), by (simp [refsIn, setAll_len, setAll_nil, permL]), _, ws, rfl, rfl, by omega, W, by omega, [], _, rfl, rfl, rfl, ?_⟩
      refine wa_d ?_
      refine we_name 5 rfl (.inl rfl) rfl ?_
      refine wa_nil ?_
      refine ⟨by decide, by (simp [setAll_len, setAll_nil]), by (simp [refsIn, setAll_len, setAll_nil, permL]), .inl ⟨_, 9, rfl, rfl, JJ.steps_dlL (by omega), by omega, by omega, _, rfl, rfl, ?_⟩⟩
      refine ⟨_, rfl, ?_⟩
      refine ⟨fun hif3 => ?_, fun hif3 => ?_⟩
      ·
        exfalso
        simp at hif3 --done
      ·
        refine wss_nil ?_
        change WSs _ _ [_, _, _, _, _, _, _, _, _, _, _, _, _, _] [_, _, _] _
        refine wss_cons ?_
        refine ws_asg ?_
        refine we_call [] F__law_value (hr.mono (by omega)) m__law_value k__law_value b__law_value ?_
        refine wa_d ?_
        refine we_name 3 rfl (.inl rfl) rfl ?_
        refine wa_d ?_
        refine we_name 4 rfl (.inl rfl) rfl ?_
        refine wa_nil ?_
        refine ⟨by decide, by (simp [setAll_len, setAll_nil]), by (simp [refsIn, setAll_len, setAll_nil, permL]), _, ws, rfl, rfl, by omega, by omega, W, _, rfl, rfl, ?_⟩
        refine wg_tup rfl ?_
        refine ⟨_, rfl, rfl, ?_⟩
        refine wgn_cons ?_
        refine wg_name 8 sc.nd rfl (.inl rfl) ?_
        refine wgn_cons ?_
        refine wg_name 9 sc.nd rfl (.inl rfl) ?_
        refine wgn_nil ?_
        change WSs _ _ [_, _, _, _, _, _, _, _, _, _, _, _, _, _] [_, _, _] _
        refine wss_one ?_
        refine ws_for PassesOwn.never rfl ?_
        refine wi_rng1 m_range ?_
        refine we_min2 rfl m_min ?_
        refine we_int ?_
        refine we_len m_len ?_
        refine wv_name 5 rfl (.inl rfl) rfl ?_
        refine ⟨_, rfl, ?_⟩
        refine ⟨_, _, rfl, rfl, ?_⟩
        refine ⟨_, rfl, by split <;> omega, by split <;> omega, ?_⟩
        refine ⟨fun j L m => ∃ xs A B y10 y11 y12 y13, L = [some (.raw (ns.map .int)), some (.ref 0), some (.d (.int (0 + (i : Int)))), some (.d (.int (1 + r1))), some (.d (.tuple (ws.map .int))), some (.d (.list (srtD (JJ.stps ws (ws.length - 1))))), some (.ref 1), some (.ref 2), some (.d (.int (JJ.valJ (1 + r1) ws).1)), some (.d (JJ.matT (JJ.valJ (1 + r1) ws).2)), y10, y11, y12, y13] ∧ m = [some (.lst xs), some (.lst A), some (.lst B)] ∧ JJ.W2 ns xs, ?_, fun j x L m hx hI => ?_, fun L m hI => ?_⟩
        ·
          exact ⟨_, _, _, _, _, _, _, rfl, rfl, hw8⟩
        ·
          obtain ⟨xs, A, B, y10, y11, y12, y13, rfl, rfl, hw9⟩ := hI
          obtain ⟨hj, rfl⟩ := rgD_get hx
          have hSp : 0 < (srtD (JJ.stps ws (ws.length - 1))).length := by
            revert hj
            split <;> omega
          refine ⟨trivial, ?_⟩
          refine wg_name 10 sc.nd rfl (.inl rfl) ?_
          change WSs _ _ [_, _, _, _, _, _, _, _, _, _, _, _, _, _] [_, _, _] _
          refine wss_cons ?_
          refine ws_set 11 sc.nd rfl (.inl rfl) ?_
          refine we_ix ?_
          refine wv_name 5 rfl (.inl rfl) rfl ?_
          refine we_call [0] F__law_dip (hr.mono (by omega)) m__law_dip k__law_dip b__law_dip ?_
          refine wa_cons ?_
          refine wv_name 1 rfl (.inl rfl) rfl ?_
          refine wa_d ?_
          refine we_len m_len ?_
          refine wv_name 5 rfl (.inl rfl) rfl ?_
          refine ⟨_, rfl, ?_⟩
          refine wa_nil ?_
          refine ⟨by decide, by (simp [setAll_len, setAll_nil]), by (simp [refsIn, setAll_len, setAll_nil, permL]), ns, _, _, rfl, rfl, hw9, by omega, by omega, fun r9 xsr9 hr9a hr9b hr9 => ⟨_, rfl, rfl, ?_⟩⟩
          refine ⟨_, _, _, rfl, rfl, atI_gd (by omega) (by omega), ?_⟩
          obtain ⟨k, p, St, eS⟩ := JJ.stp_of (JJ.getD_inD (l := srtD (JJ.stps ws (ws.length - 1))) (i := r9.toNat) (by omega))
          rw [eS]
          have hsl := (JJ.step_wok W St).2
          change WSs _ _ [_, _, _, _, _, _, _, _, _, _, _, _, _, _] [_, _, _] _
          refine wss_cons ?_
          refine ws_set 12 sc.nd rfl (.inl rfl) ?_
          refine we_call [] F_after_step (hr.mono (by omega)) m_after_step k_after_step b_after_step ?_
          refine wa_d ?_
          refine we_name 3 rfl (.inl rfl) rfl ?_
          refine wa_d ?_
          refine we_name 4 rfl (.inl rfl) rfl ?_
          refine wa_d ?_
          refine we_name 11 rfl (.inl rfl) rfl ?_
          refine wa_nil ?_
          refine ⟨by decide, by (simp [setAll_len, setAll_nil]), by (simp [refsIn, setAll_len, setAll_nil, permL]), _, ws, k, p, rfl, rfl, by omega, W, by omega, St, _, rfl, rfl, ?_⟩
          change WSs _ _ [_, _, _, _, _, _, _, _, _, _, _, _, _, _] [_, _, _] _
          refine wss_cons ?_
          refine ws_if ?_
          refine wt_not ?_
          refine wt_val ?_
          refine we_callD [] F__law_same (hr.mono (by omega)) m__law_same k__law_same bD__law_same vD__law_same ?_
          refine wa_d ?_
          refine we_name 12 rfl (.inl rfl) rfl ?_
          refine wa_d ?_
          refine we_call [] F__law_step (hr.mono (by omega)) m__law_step k__law_step b__law_step ?_
          refine wa_d ?_
          refine we_name 4 rfl (.inl rfl) rfl ?_
          refine wa_d ?_
          refine we_name 11 rfl (.inl rfl) rfl ?_
          refine wa_nil ?_
          refine ⟨by decide, by (simp [setAll_len, setAll_nil]), by (simp [refsIn, setAll_len, setAll_nil, permL]), ws, k, p, rfl, rfl, by omega, St, _, rfl, rfl, ?_⟩
          refine wa_nil ?_
          refine ⟨by decide, by (simp [setAll_len, setAll_nil]), by (simp [refsIn, setAll_len, setAll_nil, permL]), .inl ⟨_, 9, rfl, rfl, JJ.dl_wordT (by omega), by omega, by omega, _, rfl, rfl, ?_⟩⟩
          refine ⟨_, rfl, ?_⟩
          refine ⟨fun hif4 => ?_, fun hif4 => ?_⟩
          ·
            exfalso
            simp at hif4 --done
          ·
            refine wss_nil ?_
            change WSs _ _ [_, _, _, _, _, _, _, _, _, _, _, _, _, _] [_, _, _] _
            refine wss_cons ?_
            refine ws_if ?_
            refine wt_not ?_
            refine wt_val ?_
            refine we_callD [] F__law_same (hr.mono (by omega)) m__law_same k__law_same bD__law_same vD__law_same ?_
            refine wa_d ?_
            refine we_callR0 [] F_after_step (hr.mono (by omega)) m_after_step k_after_step bR0_after_step_step_word_n ?_
            refine wk_d ?_
            refine we_name 11 rfl (.inl rfl) rfl ?_
            refine wk_d ?_
            refine we_name 4 rfl (.inl rfl) rfl ?_
            refine wk_d ?_
            refine we_name 3 rfl (.inl rfl) rfl ?_
            refine wk_nil ?_
            refine ⟨rfl, rfl, ?_⟩
            refine ⟨by decide, by (simp [setAll_len, setAll_nil]), by (simp [refsIn, setAll_len, setAll_nil, permL]), _, ws, k, p, rfl, rfl, by omega, W, by omega, St, _, rfl, rfl, ?_⟩
            refine wa_d ?_
            refine we_name 12 rfl (.inl rfl) rfl ?_
            refine wa_nil ?_
            refine ⟨by decide, by (simp [setAll_len, setAll_nil]), by (simp [refsIn, setAll_len, setAll_nil, permL]), .inl ⟨_, 9, rfl, rfl, JJ.dl_wordT (by omega), by omega, by omega, _, rfl, rfl, ?_⟩⟩
            refine ⟨_, rfl, ?_⟩
            refine ⟨fun hif5 => ?_, fun hif5 => ?_⟩
            ·
              exfalso
              simp at hif5 --done
            ·
              refine wss_nil ?_
              change WSs _ _ [_, _, _, _, _, _, _, _, _, _, _, _, _, _] [_, _, _] _
              refine wss_cons ?_
              refine ws_set 13 sc.nd rfl (.inl rfl) ?_
              apply VE.use
              ·
                apply ve_ifL
                intro Q hQ
                refine wt_eq (by (first | exact hr.units | exact units65 hr | exact units1 hr)) ?_
                refine we_ix ?_
                refine wv_name 11 rfl (.inl rfl) rfl ?_
                refine we_int ?_
                refine ⟨_, _, _, rfl, rfl, rfl, ?_⟩
                refine we_str ?_
                refine ⟨St.shp, JJ.shpTwo, ?_⟩
                exact hQ
              change WSs _ _ [_, _, _, _, _, _, _, _, _, _, _, _, _, _] [_, _, _] _
              refine wss_one ?_
              refine ws_if ?_
              refine wt_not ?_
              refine wt_val ?_
              refine we_callD [] F__law_same (hr.mono (by omega)) m__law_same k__law_same bD__law_same vD__law_same ?_
              refine wa_d ?_
              refine we_call [] F__law_value (hr.mono (by omega)) m__law_value k__law_value b__law_value ?_
              refine wa_d ?_
              refine we_name 3 rfl (.inl rfl) rfl ?_
              refine wa_d ?_
              refine we_name 12 rfl (.inl rfl) rfl ?_
              refine wa_nil ?_
              refine ⟨by decide, by (simp [setAll_len, setAll_nil]), by (simp [refsIn, setAll_len, setAll_nil, permL]), _, JJ.stepW ws k p, rfl, rfl, by omega, by omega, (JJ.step_wok W St).1, _, rfl, rfl, ?_⟩
              rw [JJ.step_val2 (by omega) W St]
              refine wa_d ?_
              refine we_tup ?_
              refine wd_cons ?_
              refine we_sub ?_
              refine we_name 8 rfl (.inl rfl) rfl ?_
              refine we_name 13 rfl (.inl rfl) rfl ?_
              refine ⟨_, _, rfl, rfl, ?_⟩
              refine wd_cons ?_
              refine we_name 9 rfl (.inl rfl) rfl ?_
              refine wd_nil ?_
              refine ⟨szl (by simp), ?_⟩
              refine wa_nil ?_
              refine ⟨by decide, by (simp [setAll_len, setAll_nil]), by (simp [refsIn, setAll_len, setAll_nil, permL]), .inl ⟨_, 9, rfl, rfl, JJ.step_dl (by omega) (by omega) W St, by omega, by omega, _, rfl, rfl, ?_⟩⟩
              refine ⟨_, rfl, ?_⟩
              refine ⟨fun hif6 => ?_, fun hif6 => ?_⟩
              ·
                exfalso
                simp at hif6 --done
              ·
                refine wss_nil ?_
                exact ⟨_, _, .same (by (repeat (first | exact WkL.nil | refine WkL.kd ?_ | (refine WkL.kr ?_ ?_; focus (simp [setAll_len, setAll_nil]; done)) | refine WkL.kw ?_ | refine WkL.drop ?_))) (by simp [setAll_len]), _, _, _, _, _, _, _, rfl, rfl, hr9⟩
        obtain ⟨xs, A, B, y10, y11, y12, y13, rfl, rfl, hw9⟩ := hI
        refine ⟨trivial, ?_⟩
        exact ⟨_, _, .cut (by (repeat (first | exact WkL.nil | refine WkL.kd ?_ | (refine WkL.kr ?_ ?_; focus (simp [setAll_len, setAll_nil]; done)) | refine WkL.kw ?_ | refine WkL.drop ?_))), _, _, _, _, _, _, _, _, _, _, _, _, _, rfl, rfl, hw9⟩
  obtain ⟨xs, y2, y3, y4, y5, y6, y7, y8, y9, y10, y11, y12, y13, rfl, rfl, hw2⟩ := hI
  refine ⟨trivial, ?_⟩
  change WSs _ _ [_, _, _, _, _, _, _, _, _, _, _, _, _, _] [_] _
  refine wss_one ?_
  refine ws_ret ?_
  refine we_callD [] F__law_same (hr.mono (by omega)) m__law_same k__law_same bD__law_same vD__law_same ?_
  refine wa_d ?_
  refine we_wf ?_
  refine wf_call [] F_steps (hr.mono (by omega)) m_steps k_steps b_steps ?_
  refine wa_d ?_
  refine we_int ?_
  refine wa_d ?_
  refine we_tup ?_
  refine wd_nil ?_
  refine ⟨szl (by simp), ?_⟩
  refine wa_nil ?_
  refine ⟨by decide, by (simp [setAll_len, setAll_nil]), by (simp [refsIn, setAll_len, setAll_nil, permL]), 1, [], rfl, rfl, by omega, JJ.wok_nil, by decide, [], _, rfl, rfl, rfl, ?_⟩
  rw [JJ.stps_nil (ws := []) (by decide)]
  refine wa_d ?_
  refine we_wf ?_
  refine wf_lst ?_
  refine wd_nil ?_
  refine ⟨szl (by simp), ?_⟩
  refine wa_nil ?_
  refine ⟨by decide, by (simp [setAll_len, setAll_nil]), by (simp [refsIn, setAll_len, setAll_nil, permL]), .inl ⟨_, 9, rfl, rfl, (.lst (by simp) fun x hx => (by cases hx) : JJ.Dl 4 (.list [])), by omega, by omega, _, rfl, rfl, ?_⟩⟩
  exact ⟨by simp [setAll_len], .inl ⟨_, rfl, kq⟩⟩
end
theorem all_mk {l : PySem.W.OpenLaw} {w : World} {K : PySem.W.Frag} {h : Heap} {mg : Str → Option Value} {fa f1 f2 f3 f4 f5 f6 f7 f8 f9 f10 f11 f12 f13 f14 f15 f16 f17 f18 f19 : Addr} (X : K.In h) (G : h.Ns mainGlobals mg) (hfa : mg "law" = some (.ref fa))
    {od1 an1 od2 an2 od3 an3 od4 an4 od5 an5 od6 an6 od7 an7 od8 an8 od9 an9 od10 an10 od11 an11 od12 an12 od13 an13 od14 an14 od15 an15 od16 an16 od17 an17 od18 an18 od19 an19 : Option Addr} {sl1 sl2 sl3 sl4 sl5 sl6 sl7 sl8 sl9 sl10 sl11 sl12 sl13 sl14 sl15 sl16 sl17 sl18 sl19 : Array (Option Value)} {oc1 kV1 dc1 pm1 cd1 ct1 oc2 kV2 dc2 pm2 cd2 ct2 oc3 kV3 dc3 pm3 cd3 ct3 oc4 kV4 dc4 pm4 cd4 ct4 oc5 kV5 dc5 pm5 cd5 ct5 oc6 kV6 dc6 pm6 cd6 ct6 oc7 kV7 dc7 pm7 cd7 ct7 oc8 kV8 dc8 pm8 cd8 ct8 oc9 kV9 dc9 pm9 cd9 ct9 oc10 kV10 dc10 pm10 cd10 ct10 oc11 kV11 dc11 pm11 cd11 ct11 oc12 kV12 dc12 pm12 cd12 ct12 oc13 kV13 dc13 pm13 cd13 ct13 oc14 kV14 dc14 pm14 cd14 ct14 oc15 kV15 dc15 pm15 cd15 ct15 oc16 kV16 dc16 pm16 cd16 ct16 oc17 kV17 dc17 pm17 cd17 ct17 oc18 kV18 dc18 pm18 cd18 ct18 oc19 kV19 dc19 pm19 cd19 ct19 : Value}
    {T18 : Addr} {oT18 : Obj} {vT18 : Value} {nT18 : Nat}
    (a1 : PySem.W.nsIn K mainGlobals "check_from" = some (some (.ref f1))) (l1 : K.lookup f1 = some ⟨oc1, od1, .func (PySem.W.fnOf "check_from" "check_from" (defArgs s_check_from) (defBody s_check_from) (defScope s_check_from) .none kV1 dc1 pm1 an1 cd1 ct1), sl1⟩) (c1 : PySem.W.codeIn K cd1 "check_from" = true) (k1 : PySem.W.keepIn K (.ref f1) = true)
    (a2 : PySem.W.nsIn K mainGlobals "_check_hooks" = some (some (.ref f2))) (l2 : K.lookup f2 = some ⟨oc2, od2, .func (PySem.W.fnOf "_check_hooks" "_check_hooks" (defArgs s_p_check_hooks) (defBody s_p_check_hooks) (defScope s_p_check_hooks) .none kV2 dc2 pm2 an2 cd2 ct2), sl2⟩) (c2 : PySem.W.codeIn K cd2 "_check_hooks" = true) (k2 : PySem.W.keepIn K (.ref f2) = true)
    (a3 : PySem.W.nsIn K mainGlobals "check_word" = some (some (.ref f3))) (l3 : K.lookup f3 = some ⟨oc3, od3, .func (PySem.W.fnOf "check_word" "check_word" (defArgs s_check_word) (defBody s_check_word) (defScope s_check_word) .none kV3 dc3 pm3 an3 cd3 ct3), sl3⟩) (c3 : PySem.W.codeIn K cd3 "check_word" = true) (k3 : PySem.W.keepIn K (.ref f3) = true)
    (a4 : PySem.W.nsIn K mainGlobals "_apart" = some (some (.ref f4))) (l4 : K.lookup f4 = some ⟨oc4, od4, .func (PySem.W.fnOf "_apart" "_apart" (defArgs s_p_apart) (defBody s_p_apart) (defScope s_p_apart) .none kV4 dc4 pm4 an4 cd4 ct4), sl4⟩) (c4 : PySem.W.codeIn K cd4 "_apart" = true) (k4 : PySem.W.keepIn K (.ref f4) = true)
    (a5 : PySem.W.nsIn K mainGlobals "_is_step" = some (some (.ref f5))) (l5 : K.lookup f5 = some ⟨oc5, od5, .func (PySem.W.fnOf "_is_step" "_is_step" (defArgs s_p_is_step) (defBody s_p_is_step) (defScope s_p_is_step) .none kV5 dc5 pm5 an5 cd5 ct5), sl5⟩) (c5 : PySem.W.codeIn K cd5 "_is_step" = true) (k5 : PySem.W.keepIn K (.ref f5) = true)
    (a6 : PySem.W.nsIn K mainGlobals "_stepped" = some (some (.ref f6))) (l6 : K.lookup f6 = some ⟨oc6, od6, .func (PySem.W.fnOf "_stepped" "_stepped" (defArgs s_p_stepped) (defBody s_p_stepped) (defScope s_p_stepped) .none kV6 dc6 pm6 an6 cd6 ct6), sl6⟩) (c6 : PySem.W.codeIn K cd6 "_stepped" = true) (k6 : PySem.W.keepIn K (.ref f6) = true)
    (a7 : PySem.W.nsIn K mainGlobals "steps" = some (some (.ref f7))) (l7 : K.lookup f7 = some ⟨oc7, od7, .func (PySem.W.fnOf "steps" "steps" (defArgs s_steps) (defBody s_steps) (defScope s_steps) .none kV7 dc7 pm7 an7 cd7 ct7), sl7⟩) (c7 : PySem.W.codeIn K cd7 "steps" = true) (k7 : PySem.W.keepIn K (.ref f7) = true)
    (a8 : PySem.W.nsIn K mainGlobals "after_step" = some (some (.ref f8))) (l8 : K.lookup f8 = some ⟨oc8, od8, .func (PySem.W.fnOf "after_step" "after_step" (defArgs s_after_step) (defBody s_after_step) (defScope s_after_step) .none kV8 dc8 pm8 an8 cd8 ct8), sl8⟩) (c8 : PySem.W.codeIn K cd8 "after_step" = true) (k8 : PySem.W.keepIn K (.ref f8) = true)
    (a9 : PySem.W.nsIn K mainGlobals "_law_well" = some (some (.ref f9))) (l9 : K.lookup f9 = some ⟨oc9, od9, .func (PySem.W.fnOf "_law_well" "_law_well" (defArgs s_l_well) (defBody s_l_well) (defScope s_l_well) .none kV9 dc9 pm9 an9 cd9 ct9), sl9⟩) (c9 : PySem.W.codeIn K cd9 "_law_well" = true) (k9 : PySem.W.keepIn K (.ref f9) = true)
    (a10 : PySem.W.nsIn K mainGlobals "_law_dip" = some (some (.ref f10))) (l10 : K.lookup f10 = some ⟨oc10, od10, .func (PySem.W.fnOf "_law_dip" "_law_dip" (defArgs s_l_dip) (defBody s_l_dip) (defScope s_l_dip) .none kV10 dc10 pm10 an10 cd10 ct10), sl10⟩) (c10 : PySem.W.codeIn K cd10 "_law_dip" = true) (k10 : PySem.W.keepIn K (.ref f10) = true)
    (a11 : PySem.W.nsIn K mainGlobals "_law_straight" = some (some (.ref f11))) (l11 : K.lookup f11 = some ⟨oc11, od11, .func (PySem.W.fnOf "_law_straight" "_law_straight" (defArgs s_l_straight) (defBody s_l_straight) (defScope s_l_straight) .none kV11 dc11 pm11 an11 cd11 ct11), sl11⟩) (c11 : PySem.W.codeIn K cd11 "_law_straight" = true) (k11 : PySem.W.keepIn K (.ref f11) = true)
    (a12 : PySem.W.nsIn K mainGlobals "_law_hooked" = some (some (.ref f12))) (l12 : K.lookup f12 = some ⟨oc12, od12, .func (PySem.W.fnOf "_law_hooked" "_law_hooked" (defArgs s_l_hooked) (defBody s_l_hooked) (defScope s_l_hooked) .none kV12 dc12 pm12 an12 cd12 ct12), sl12⟩) (c12 : PySem.W.codeIn K cd12 "_law_hooked" = true) (k12 : PySem.W.keepIn K (.ref f12) = true)
    (a13 : PySem.W.nsIn K mainGlobals "_law_value" = some (some (.ref f13))) (l13 : K.lookup f13 = some ⟨oc13, od13, .func (PySem.W.fnOf "_law_value" "_law_value" (defArgs s_l_value) (defBody s_l_value) (defScope s_l_value) .none kV13 dc13 pm13 an13 cd13 ct13), sl13⟩) (c13 : PySem.W.codeIn K cd13 "_law_value" = true) (k13 : PySem.W.keepIn K (.ref f13) = true)
    (a14 : PySem.W.nsIn K mainGlobals "_law_word" = some (some (.ref f14))) (l14 : K.lookup f14 = some ⟨oc14, od14, .func (PySem.W.fnOf "_law_word" "_law_word" (defArgs s_l_word) (defBody s_l_word) (defScope s_l_word) .none kV14 dc14 pm14 an14 cd14 ct14), sl14⟩) (c14 : PySem.W.codeIn K cd14 "_law_word" = true) (k14 : PySem.W.keepIn K (.ref f14) = true)
    (a15 : PySem.W.nsIn K mainGlobals "_law_steps" = some (some (.ref f15))) (l15 : K.lookup f15 = some ⟨oc15, od15, .func (PySem.W.fnOf "_law_steps" "_law_steps" (defArgs s_l_steps) (defBody s_l_steps) (defScope s_l_steps) .none kV15 dc15 pm15 an15 cd15 ct15), sl15⟩) (c15 : PySem.W.codeIn K cd15 "_law_steps" = true) (k15 : PySem.W.keepIn K (.ref f15) = true)
    (a16 : PySem.W.nsIn K mainGlobals "_law_step" = some (some (.ref f16))) (l16 : K.lookup f16 = some ⟨oc16, od16, .func (PySem.W.fnOf "_law_step" "_law_step" (defArgs s_l_step) (defBody s_l_step) (defScope s_l_step) .none kV16 dc16 pm16 an16 cd16 ct16), sl16⟩) (c16 : PySem.W.codeIn K cd16 "_law_step" = true) (k16 : PySem.W.keepIn K (.ref f16) = true)
    (a17 : PySem.W.nsIn K mainGlobals "_law_stirred" = some (some (.ref f17))) (l17 : K.lookup f17 = some ⟨oc17, od17, .func (PySem.W.fnOf "_law_stirred" "_law_stirred" (defArgs s_l_stirred) (defBody s_l_stirred) (defScope s_l_stirred) .none kV17 dc17 pm17 an17 cd17 ct17), sl17⟩) (c17 : PySem.W.codeIn K cd17 "_law_stirred" = true) (k17 : PySem.W.keepIn K (.ref f17) = true)
    (a18 : PySem.W.nsIn K mainGlobals "_law_same" = some (some (.ref f18))) (l18 : K.lookup f18 = some ⟨oc18, od18, .func (PySem.W.fnOf "_law_same" "_law_same" (defArgs s_l_same) (defBody s_l_same) (defScope s_l_same) (.ref T18) kV18 dc18 pm18 an18 cd18 ct18), sl18⟩) (c18 : PySem.W.codeIn K cd18 "_law_same" = true) (k18 : PySem.W.keepIn K (.ref f18) = true)
    (t18 : K.lookup T18 = some oT18) (u18 : oT18.data = .seq #[vT18] nT18) (w18 : Vals [V.int 9] [vT18])
    (a19 : PySem.W.nsIn K mainGlobals "law" = some (some (.ref f19))) (l19 : K.lookup f19 = some ⟨oc19, od19, .func (PySem.W.fnOf "law" "law" (defArgs s_law) (defBody s_law) (defScope s_law) .none kV19 dc19 pm19 an19 cd19 ct19), sl19⟩) (c19 : PySem.W.codeIn K cd19 "law" = true) (k19 : PySem.W.keepIn K (.ref f19) = true)
    (z_abs : PySem.W.nsIn K mainGlobals "abs" = some none)
    (z_len : PySem.W.nsIn K mainGlobals "len" = some none)
    (z_range : PySem.W.nsIn K mainGlobals "range" = some none)
    (z_list : PySem.W.nsIn K mainGlobals "list" = some none)
    (z_int : PySem.W.nsIn K mainGlobals "int" = some none)
    (z_tuple : PySem.W.nsIn K mainGlobals "tuple" = some none)
    (z_min : PySem.W.nsIn K mainGlobals "min" = some none)
    (z_max : PySem.W.nsIn K mainGlobals "max" = some none)
    (z_sorted : PySem.W.nsIn K mainGlobals "sorted" = some none)
    (z_isinstance : PySem.W.nsIn K mainGlobals "isinstance" = some none)
    (z_bool : PySem.W.nsIn K mainGlobals "bool" = some none)
    (z_str : PySem.W.nsIn K mainGlobals "str" = some none)
    : ∃ fd : FuncData, (∀ (s : Shared) (v : Value), BindsTo s fd ⟨[v], []⟩ [("_law_script", v)]) ∧ ∀ base : Heap, K.In base → base.Ns mainGlobals mg → FnOk l.prog w K mg base CX0 7 fa fd ["_law_script"] (toSp K spLaw) := by
  have e := hfa.symm.trans (PySem.W.mg_of X G a19)
  cases e
  have F1 := fun_mk (st := s_check_from) l1 c1 k1
  have F2 := fun_mk (st := s_p_check_hooks) l2 c2 k2
  have F3 := fun_mk (st := s_check_word) l3 c3 k3
  have F4 := fun_mk (st := s_p_apart) l4 c4 k4
  have F5 := fun_mk (st := s_p_is_step) l5 c5 k5
  have F6 := fun_mk (st := s_p_stepped) l6 c6 k6
  have F7 := fun_mk (st := s_steps) l7 c7 k7
  have F8 := fun_mk (st := s_after_step) l8 c8 k8
  have F9 := fun_mk (st := s_l_well) l9 c9 k9
  have F10 := fun_mk (st := s_l_dip) l10 c10 k10
  have F11 := fun_mk (st := s_l_straight) l11 c11 k11
  have F12 := fun_mk (st := s_l_hooked) l12 c12 k12
  have F13 := fun_mk (st := s_l_value) l13 c13 k13
  have F14 := fun_mk (st := s_l_word) l14 c14 k14
  have F15 := fun_mk (st := s_l_steps) l15 c15 k15
  have F16 := fun_mk (st := s_l_step) l16 c16 k16
  have F17 := fun_mk (st := s_l_stirred) l17 c17 k17
  have F18 := funD_mk (st := s_l_same) l18 c18 k18
  have F19 := fun_mk (st := s_law) l19 c19 k19
  have b1 := F1.binds (ps := ["number", "least"]) fun _ _ _ _ _ _ us hl => match us, hl with | [_, _], _ => rfl
  have b2 := F2.binds (ps := ["n", "word"]) fun _ _ _ _ _ _ us hl => match us, hl with | [_, _], _ => rfl
  have b3 := F3.binds (ps := ["n", "word"]) fun _ _ _ _ _ _ us hl => match us, hl with | [_, _], _ => rfl
  have b4 := F4.binds (ps := ["word", "at"]) fun _ _ _ _ _ _ us hl => match us, hl with | [_, _], _ => rfl
  have b5 := F5.binds (ps := ["word", "step"]) fun _ _ _ _ _ _ us hl => match us, hl with | [_, _], _ => rfl
  have b6 := F6.binds (ps := ["word", "step"]) fun _ _ _ _ _ _ us hl => match us, hl with | [_, _], _ => rfl
  have b7 := F7.binds (ps := ["n", "word"]) fun _ _ _ _ _ _ us hl => match us, hl with | [_, _], _ => rfl
  have b8 := F8.binds (ps := ["n", "word", "step"]) fun _ _ _ _ _ _ us hl => match us, hl with | [_, _, _], _ => rfl
  have b9 := F9.binds (ps := ["_law_script"]) fun _ _ _ _ _ _ us hl => match us, hl with | [_], _ => rfl
  have b10 := F10.binds (ps := ["_law_well_here", "_law_many"]) fun _ _ _ _ _ _ us hl => match us, hl with | [_, _], _ => rfl
  have b11 := F11.binds (ps := ["_law_n"]) fun _ _ _ _ _ _ us hl => match us, hl with | [_], _ => rfl
  have b12 := F12.binds (ps := ["_law_mat", "_law_index"]) fun _ _ _ _ _ _ us hl => match us, hl with | [_, _], _ => rfl
  have b13 := F13.binds (ps := ["_law_n", "_law_word_here"]) fun _ _ _ _ _ _ us hl => match us, hl with | [_, _], _ => rfl
  have b14 := F14.binds (ps := ["_law_well_here", "_law_n", "_law_most"]) fun _ _ _ _ _ _ us hl => match us, hl with | [_, _, _], _ => rfl
  have b15 := F15.binds (ps := ["_law_word_here"]) fun _ _ _ _ _ _ us hl => match us, hl with | [_], _ => rfl
  have b16 := F16.binds (ps := ["_law_word_here", "_law_step_here"]) fun _ _ _ _ _ _ us hl => match us, hl with | [_, _], _ => rfl
  have b17 := F17.binds (ps := ["_law_well_here", "_law_n", "_law_word_here", "_law_many", "_law_most"]) fun _ _ _ _ _ _ us hl => match us, hl with | [_, _, _, _, _], _ => rfl
  have b18 := F18.binds (ps := ["_law_told", "_law_due", "_law_depth"]) (ds := []) t18 u18 fun _ _ _ _ _ _ us hl => match us, hl with | [_, _, _], _ => ⟨_, rfl, rfl⟩
  have bD18 := F18.binds (ps := ["_law_told", "_law_due", "_law_depth"]) (ds := [vT18]) t18 u18 fun _ _ _ _ _ _ us hl => by
    have h9 : us.length = 2 := by simpa using hl
    exact match us, h9 with | [_, _], _ => ⟨_, rfl, rfl⟩
  have bR0_8_step_word_n := fun_kbr F8 (ps := ["n", "word", "step"]) 0 ["step", "word", "n"] [2, 1, 0] (by decide) fun _ _ _ _ _ _ us ws h1 h2 => match us, ws, h1, h2 with | [], [_, _, _], _, _ => rfl
  have bR0_7_word_n := fun_kbr F7 (ps := ["n", "word"]) 0 ["word", "n"] [1, 0] (by decide) fun _ _ _ _ _ _ us ws h1 h2 => match us, ws, h1, h2 with | [], [_, _], _, _ => rfl
  refine ⟨PySem.W.fnOf "law" "law" (defArgs s_law) (defBody s_law) (defScope s_law) .none kV19 dc19 pm19 an19 cd19 ct19, fun s v => .of_eq rfl, fun base _ _ => ?_⟩
  have G18 := ok_l_sameE (P := l.prog) (w := w) (mg := mg) (base := base) F18 (m__law_same := PySem.W.mg_of X G a18) (k__law_same := k18) (b__law_same := b18) (m_range := PySem.W.mg_none_of X G z_range) (m_isinstance := PySem.W.mg_none_of X G z_isinstance) (m_bool := PySem.W.mg_none_of X G z_bool) (m_int := PySem.W.mg_none_of X G z_int) (m_str := PySem.W.mg_none_of X G z_str) (m_len := PySem.W.mg_none_of X G z_len) (m_tuple := PySem.W.mg_none_of X G z_tuple) (m_list := PySem.W.mg_none_of X G z_list)
  have G1 := ok_check_from (P := l.prog) (w := w) (mg := mg) (base := base) F1
  have G2 := ok_p_check_hooks (P := l.prog) (w := w) (mg := mg) (base := base) F2
  have G4 := ok_p_apart (P := l.prog) (w := w) (mg := mg) (base := base) F4 (m_abs := PySem.W.mg_none_of X G z_abs)
  have G6 := ok_p_stepped (P := l.prog) (w := w) (mg := mg) (base := base) F6
  have G9 := ok_l_well (P := l.prog) (w := w) (mg := mg) (base := base) F9 (m_list := PySem.W.mg_none_of X G z_list)
  have G10 := ok_l_dip (P := l.prog) (w := w) (mg := mg) (base := base) F10 (m_int := PySem.W.mg_none_of X G z_int) (m_len := PySem.W.mg_none_of X G z_len)
  have G11 := ok_l_straight (P := l.prog) (w := w) (mg := mg) (base := base) F11 (m_tuple := PySem.W.mg_none_of X G z_tuple) (m_list := PySem.W.mg_none_of X G z_list) (m_range := PySem.W.mg_none_of X G z_range)
  have G12 := ok_l_hooked (P := l.prog) (w := w) (mg := mg) (base := base) F12 (m_list := PySem.W.mg_none_of X G z_list) (m_tuple := PySem.W.mg_none_of X G z_tuple)
  have G15 := ok_l_steps (P := l.prog) (w := w) (mg := mg) (base := base) F15 (m_range := PySem.W.mg_none_of X G z_range) (m_sorted := PySem.W.mg_none_of X G z_sorted) (m_abs := PySem.W.mg_none_of X G z_abs) (m_len := PySem.W.mg_none_of X G z_len)
  have G16 := ok_l_step (P := l.prog) (w := w) (mg := mg) (base := base) F16
  have G3 := ok_check_word (P := l.prog) (w := w) (mg := mg) (base := base) F3 (F_check_from := G1) (m_check_from := PySem.W.mg_of X G a1) (k_check_from := k1) (b_check_from := b1) (F__check_hooks := G2) (m__check_hooks := PySem.W.mg_of X G a2) (k__check_hooks := k2) (b__check_hooks := b2)
  have G5 := ok_p_is_step (P := l.prog) (w := w) (mg := mg) (base := base) F5 (F__apart := G4) (m__apart := PySem.W.mg_of X G a4) (k__apart := k4) (b__apart := b4) (m_len := PySem.W.mg_none_of X G z_len)
  have G13 := ok_l_value (P := l.prog) (w := w) (mg := mg) (base := base) F13 (F__law_straight := G11) (m__law_straight := PySem.W.mg_of X G a11) (k__law_straight := k11) (b__law_straight := b11) (F__law_hooked := G12) (m__law_hooked := PySem.W.mg_of X G a12) (k__law_hooked := k12) (b__law_hooked := b12)
  have G14 := ok_l_word (P := l.prog) (w := w) (mg := mg) (base := base) F14 (F__law_dip := G10) (m__law_dip := PySem.W.mg_of X G a10) (k__law_dip := k10) (b__law_dip := b10) (m_range := PySem.W.mg_none_of X G z_range) (m_tuple := PySem.W.mg_none_of X G z_tuple) (m_min := PySem.W.mg_none_of X G z_min) (m_max := PySem.W.mg_none_of X G z_max) (m_len := PySem.W.mg_none_of X G z_len)
  have G17 := ok_l_stirred (P := l.prog) (w := w) (mg := mg) (base := base) F17 (F__law_dip := G10) (m__law_dip := PySem.W.mg_of X G a10) (k__law_dip := k10) (b__law_dip := b10) (F__law_steps := G15) (m__law_steps := PySem.W.mg_of X G a15) (k__law_steps := k15) (b__law_steps := b15) (F__law_step := G16) (m__law_step := PySem.W.mg_of X G a16) (k__law_step := k16) (b__law_step := b16) (m_range := PySem.W.mg_none_of X G z_range) (m_max := PySem.W.mg_none_of X G z_max) (m_len := PySem.W.mg_none_of X G z_len)
  have G7 := ok_steps (P := l.prog) (w := w) (mg := mg) (base := base) F7 (F_check_word := G3) (m_check_word := PySem.W.mg_of X G a3) (k_check_word := k3) (b_check_word := b3) (F__is_step := G5) (m__is_step := PySem.W.mg_of X G a5) (k__is_step := k5) (b__is_step := b5) (m_range := PySem.W.mg_none_of X G z_range) (m_len := PySem.W.mg_none_of X G z_len)
  have G8 := ok_after_step (P := l.prog) (w := w) (mg := mg) (base := base) F8 (F_check_word := G3) (m_check_word := PySem.W.mg_of X G a3) (k_check_word := k3) (b_check_word := b3) (F__stepped := G6) (m__stepped := PySem.W.mg_of X G a6) (k__stepped := k6) (b__stepped := b6) (F__is_step := G5) (m__is_step := PySem.W.mg_of X G a5) (k__is_step := k5) (b__is_step := b5)
  exact ok_law (P := l.prog) (w := w) (mg := mg) (base := base) F19 (F__law_well := G9) (m__law_well := PySem.W.mg_of X G a9) (k__law_well := k9) (b__law_well := b9) (bD__law_same := bD18) (vD__law_same := w18) (F__law_same := G18) (m__law_same := PySem.W.mg_of X G a18) (k__law_same := k18) (b__law_same := b18) (F__law_word := G14) (m__law_word := PySem.W.mg_of X G a14) (k__law_word := k14) (b__law_word := b14) (F__law_steps := G15) (m__law_steps := PySem.W.mg_of X G a15) (k__law_steps := k15) (b__law_steps := b15) (F_steps := G7) (m_steps := PySem.W.mg_of X G a7) (k_steps := k7) (b_steps := b7) (F__law_value := G13) (m__law_value := PySem.W.mg_of X G a13) (k__law_value := k13) (b__law_value := b13) (F__law_dip := G10) (m__law_dip := PySem.W.mg_of X G a10) (k__law_dip := k10) (b__law_dip := b10) (F__law_stirred := G17) (m__law_stirred := PySem.W.mg_of X G a17) (k__law_stirred := k17) (b__law_stirred := b17) (F_after_step := G8) (m_after_step := PySem.W.mg_of X G a8) (k_after_step := k8) (b_after_step := b8) (F__law_step := G16) (m__law_step := PySem.W.mg_of X G a16) (k__law_step := k16) (b__law_step := b16) (m_range := PySem.W.mg_none_of X G z_range) (m_min := PySem.W.mg_none_of X G z_min) (m_len := PySem.W.mg_none_of X G z_len) (bR0_after_step_step_word_n := bR0_8_step_word_n) (bR0_steps_word_n := bR0_7_word_n)
end K22
open PySem PySem.W PyProof.Rows
set_option maxHeartbeats 0 in
theorem PySem.Challenge.cw_hookmats_k22_whole_steps_and_words_behin_holds : PySem.Challenge.rw_hookmats_k22_whole_steps_and_words_behin.Holds := by
  w_on; o_law; k_head; (case hw => w_witness2)
  k_fill
  refine L2.walk_ofB (l := PySem.Challenge.rw_hookmats_k22_whole_steps_and_words_behin) (n := 63) (k := 7) (x := "_law_script") (CX := fun _ => L2.CX0) (sp := fun w => PP.toSp _ PP.spLaw) rfl (by decide) rfl ⟨rfl, by decide, by decide⟩ (fun w h Y => PySem.W.kIn_of Y) ?F (fun _ _ a ns hl hb _ hS => PP.law_sp hl hb hS) (fun _ _ _ _ _ h => h)
  case F =>
    intro w mg fa h KX G hmg
    refine' K22.all_mk KX G hmg ?a1 ?l1 ?c1 ?k1 ?a2 ?l2 ?c2 ?k2 ?a3 ?l3 ?c3 ?k3 ?a4 ?l4 ?c4 ?k4 ?a5 ?l5 ?c5 ?k5 ?a6 ?l6 ?c6 ?k6 ?a7 ?l7 ?c7 ?k7 ?a8 ?l8 ?c8 ?k8 ?a9 ?l9 ?c9 ?k9 ?a10 ?l10 ?c10 ?k10 ?a11 ?l11 ?c11 ?k11 ?a12 ?l12 ?c12 ?k12 ?a13 ?l13 ?c13 ?k13 ?a14 ?l14 ?c14 ?k14 ?a15 ?l15 ?c15 ?k15 ?a16 ?l16 ?c16 ?k16 ?a17 ?l17 ?c17 ?k17 ?a18 ?l18 ?c18 ?k18 ?t18 ?u18 ?w18 ?a19 ?l19 ?c19 ?k19 ?z_abs ?z_len ?z_range ?z_list ?z_int ?z_tuple ?z_min ?z_max ?z_sorted ?z_isinstance ?z_bool ?z_str
    (case a1 => k_is); (case l1 => k_is); (case c1 => k_is); (case k1 => k_is); (case a2 => k_is); (case l2 => k_is); (case c2 => k_is); (case k2 => k_is); (case a3 => k_is); (case l3 => k_is); (case c3 => k_is); (case k3 => k_is); (case a4 => k_is); (case l4 => k_is); (case c4 => k_is); (case k4 => k_is); (case a5 => k_is); (case l5 => k_is); (case c5 => k_is); (case k5 => k_is); (case a6 => k_is); (case l6 => k_is); (case c6 => k_is); (case k6 => k_is); (case a7 => k_is); (case l7 => k_is); (case c7 => k_is); (case k7 => k_is); (case a8 => k_is); (case l8 => k_is); (case c8 => k_is); (case k8 => k_is); (case a9 => k_is); (case l9 => k_is); (case c9 => k_is); (case k9 => k_is); (case a10 => k_is); (case l10 => k_is); (case c10 => k_is); (case k10 => k_is); (case a11 => k_is); (case l11 => k_is); (case c11 => k_is); (case k11 => k_is); (case a12 => k_is); (case l12 => k_is); (case c12 => k_is); (case k12 => k_is); (case a13 => k_is); (case l13 => k_is); (case c13 => k_is); (case k13 => k_is); (case a14 => k_is); (case l14 => k_is); (case c14 => k_is); (case k14 => k_is); (case a15 => k_is); (case l15 => k_is); (case c15 => k_is); (case k15 => k_is); (case a16 => k_is); (case l16 => k_is); (case c16 => k_is); (case k16 => k_is); (case a17 => k_is); (case l17 => k_is); (case c17 => k_is); (case k17 => k_is); (case a18 => k_is); (case l18 => k_is); (case c18 => k_is); (case k18 => k_is); (case t18 => k_is); (case u18 => rfl); (case w18 => exact .cons ⟨_, rfl⟩ .nil); (case a19 => k_is); (case l19 => k_is); (case c19 => k_is); (case k19 => k_is); (case z_abs => k_is); (case z_len => k_is); (case z_range => k_is); (case z_list => k_is); (case z_int => k_is); (case z_tuple => k_is); (case z_min => k_is); (case z_max => k_is); (case z_sorted => k_is); (case z_isinstance => k_is); (case z_bool => k_is); (case z_str => k_is)
