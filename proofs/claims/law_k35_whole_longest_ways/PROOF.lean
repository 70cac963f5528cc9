import PyProof.Rows.All
import Wide.All
import OpenK.AllK
import Wide.FinOn
import PyProof.EqAt
import PyProof.EqKinds
import PyProof.TupleCall
import HandS.ForMost
import HandS.ForExc
import HandS.IsInst
import HandS.Deep
import HandS.TupAny
import HandS.TupLe
import HandS.Wide
import HandS.TryMany
import HandS.Zip
import PyProof.P3In
import KE.KExcSuper
import HandS.ExcField
import HandS.TupMul
import HandS.Style
import HandS.ExcValue
import KE.KExcIs
import HandS.DictComp
import KE.KDictZip
import HandS.TupSets
import HandS.OwnEq
import KE.DataMinMax
import HandS.SortKw
import KE.SortData
import PyProof.EqLayable
import HandS.EndBits
import PySem.Challenge.RW_sureticks_k35_whole_longest_ways
set_option Elab.async false
set_option linter.all false
set_option maxRecDepth 100000
set_option maxHeartbeats 4000000
/-! The data layer: values as trees, mutable things as numbered cells; readings by plain functions of slots and cells. -/
namespace DL
open PySem PySem.Spec L2

/-- a value: data that never changes, or the cell of a number -/
inductive D where
  | p (d : PyData)
  | o (i : Nat)
  | s (ns : List Int)
/-- what a cell holds -/
inductive Cell where
  | lst (l : List D)
  | scr (l : List D)
  | dK (kvs : List (Key × D))
  | dT (kvs : List (List Key × D))
  | ins (c : Str) (fs : List (Str × D))
  | exn (c a : Str) (d : PyData)
abbrev Store := List Cell
/-- an exception: the name of its class, its attributes -/
structure Exn where
  cls : Str
  fs : List (Str × D)
inductive R (α : Type) where
  | ok (a : α) (S : Store)
  | exc (x : Exn) (S : Store)
  | bad
abbrev M (α : Type) := Store → R α
def M.pure {α : Type} (a : α) : M α := fun S => .ok a S
def M.bad {α : Type} : M α := fun _ => .bad
def M.bind {α β : Type} (m : M α) (k : α → M β) : M β := fun S => match m S with
  | .ok a S' => k a S'
  | .exc x S' => .exc x S'
  | .bad => .bad
def R.map {α β : Type} (f : α → β) : R α → R β
  | .ok a S => .ok (f a) S
  | .exc x S => .exc x S
  | .bad => .bad

/-- the module's names and the written part -/
structure Gm where
  mg : Str → Option Value
  K : PySem.W.Frag
abbrev _root_.L2.Cx.gm (X : Cx) : Gm := ⟨X.mg, X.K⟩
/-! ### data in a heap -/
mutual
inductive RepP (Z : Hp) : V → PyData → Prop
  | non : RepP Z .non .none
  | bl (b : Bool) : RepP Z (.bl b) (.bool b)
  | int (i : Int) : RepP Z (.int i) (.int i)
  | str (x : Str) : RepP Z (.str x) (.str x)
  | lst {a : Addr} {xs : List V} {ds : List PyData} : Z a = some (.lst xs) → RepPs Z xs ds → RepP Z (.ref a) (.list ds)
  | tup {a : Addr} {xs : List V} {ds : List PyData} : Z a = some (.tup xs) → RepPs Z xs ds → RepP Z (.ref a) (.tuple ds)
inductive RepPs (Z : Hp) : List V → List PyData → Prop
  | nil : RepPs Z [] []
  | cons {v : V} {vs : List V} {d : PyData} {ds : List PyData} : RepP Z v d → RepPs Z vs ds → RepPs Z (v :: vs) (d :: ds)
end
mutual
theorem RepP.mono {Z Z' : Hp} (s : Same Z Z') : ∀ (d : PyData) (v : V), RepP Z v d → RepP Z' v d
  | .none, _, h => by cases h; exact .non
  | .bool b, _, h => by cases h; exact .bl b
  | .int i, _, h => by cases h; exact .int i
  | .str x, _, h => by cases h; exact .str x
  | .list ds, _, h => by
    cases h with
    | lst h1 h2 => exact .lst (s _ _ h1) (RepPs.mono s ds _ h2)
  | .tuple ds, _, h => by
    cases h with
    | tup h1 h2 => exact .tup (s _ _ h1) (RepPs.mono s ds _ h2)
  | .dict _, _, h => by cases h
theorem RepPs.mono {Z Z' : Hp} (s : Same Z Z') : ∀ (ds : List PyData) (vs : List V), RepPs Z vs ds → RepPs Z' vs ds
  | [], _, h => by cases h; exact .nil
  | d :: ds, _, h => by
    cases h with
    | cons h1 h2 => exact .cons (RepP.mono s d _ h1) (RepPs.mono s ds _ h2)
end
mutual
theorem RepP.dp {K : PySem.W.Frag} {Z : Hp} : ∀ (d : PyData) (v : V), RepP Z v d → Dp K Z v d
  | .none, _, h => by cases h; exact .non
  | .bool b, _, h => by cases h; exact .bl b
  | .int i, _, h => by cases h; exact .int i
  | .str x, _, h => by cases h; exact .str x
  | .list ds, _, h => by
    cases h with
    | lst h1 h2 => exact .lst (SqL.of h1) (RepPs.dp ds _ h2)
  | .tuple ds, _, h => by
    cases h with
    | tup h1 h2 => exact .tup (SqT.of h1) (RepPs.dp ds _ h2)
  | .dict _, _, h => by cases h
theorem RepPs.dp {K : PySem.W.Frag} {Z : Hp} : ∀ (ds : List PyData) (vs : List V), RepPs Z vs ds → DpAll K Z vs ds
  | [], _, h => by cases h; exact .nil
  | d :: ds, _, h => by
    cases h with
    | cons h1 h2 => exact .cons (RepP.dp d _ h1) (RepPs.dp ds _ h2)
end
section
variable {Z Z' : Hp} {vs ws : List V} {ds es : List PyData} {v : V} {d : PyData}
theorem RepPs.length (h : RepPs Z vs ds) : vs.length = ds.length := by
  induction ds generalizing vs with
  | nil => cases h; rfl
  | cons d ds ih => cases h with | cons h1 h2 => simp [ih h2]
theorem RepPs.append (h : RepPs Z vs ds) (g : RepPs Z ws es) : RepPs Z (vs ++ ws) (ds ++ es) := by
  induction ds generalizing vs with
  | nil => cases h; exact g
  | cons d ds ih => cases h with | cons h1 h2 => exact .cons h1 (ih h2)
theorem RepPs.get (h : RepPs Z vs ds) : ∀ {i : Nat} {d : PyData}, ds[i]? = some d → ∃ v, vs[i]? = some v ∧ RepP Z v d := by
  induction ds generalizing vs with
  | nil => intro i d e; simp at e
  | cons d ds ih =>
    intro i e he
    cases h with
    | cons h1 h2 =>
      cases i with
      | zero => simp at he; subst he; exact ⟨_, rfl, h1⟩
      | succ i => simpa using ih h2 (by simpa using he)
theorem RepPs.get' (h : RepPs Z vs ds) : ∀ {i : Nat} {v : V}, vs[i]? = some v → ∃ d, ds[i]? = some d ∧ RepP Z v d := by
  induction ds generalizing vs with
  | nil => cases h; intro i d e; simp at e
  | cons d ds ih =>
    cases h with
    | cons h1 h2 =>
      intro i v he
      cases i with
      | zero => simp at he; subst he; exact ⟨_, rfl, h1⟩
      | succ i => simpa using ih h2 (by simpa using he)
theorem RepPs.take (h : RepPs Z vs ds) (n : Nat) : RepPs Z (vs.take n) (ds.take n) := by
  induction ds generalizing vs n with
  | nil => cases h; cases n <;> exact .nil
  | cons d ds ih =>
    cases h with
    | cons h1 h2 =>
      cases n with
      | zero => exact .nil
      | succ n => exact .cons h1 (ih h2 n)
theorem RepPs.drop (h : RepPs Z vs ds) (n : Nat) : RepPs Z (vs.drop n) (ds.drop n) := by
  induction ds generalizing vs n with
  | nil => cases h; cases n <;> exact .nil
  | cons d ds ih =>
    cases h with
    | cons h1 h2 =>
      cases n with
      | zero => exact .cons h1 h2
      | succ n => exact ih h2 n
theorem RepPs.of (n : vs.length = ds.length) (h : ∀ (i : Nat) (v : V) (d : PyData), vs[i]? = some v → ds[i]? = some d → RepP Z v d) : RepPs Z vs ds := by
  induction ds generalizing vs with
  | nil => cases vs with | nil => exact .nil | cons _ _ => simp at n
  | cons d ds ih =>
    cases vs with
    | nil => simp at n
    | cons v vs => exact .cons (h 0 v d rfl rfl) (ih (by simpa using n) fun i v' d' a b => h (i + 1) v' d' (by simpa using a) (by simpa using b))
theorem RepPs.reverse (h : RepPs Z vs ds) : RepPs Z vs.reverse ds.reverse := by
  have e := h.length
  refine .of (by simp [e]) fun i v d a b => ?_
  have hi : i < ds.length := by
    have := (List.getElem?_eq_some_iff.mp b).1
    simpa using this
  rw [List.getElem?_reverse (by omega)] at a
  rw [List.getElem?_reverse (by omega)] at b
  rw [e] at a
  obtain ⟨v', hv, r⟩ := h.get b
  rw [a] at hv
  cases hv
  exact r
theorem RepPs.ints : ∀ {ns : List Int} {vs : List V}, RepPs Z vs (ns.map PyData.int) → vs = ns.map V.int
  | [], _, h => by cases h; rfl
  | n :: ns, _, h => by
    cases h with
    | cons h1 h2 =>
      cases h1
      rw [RepPs.ints h2]
      rfl
theorem RepPs.of_ints : ∀ {ns : List Int}, RepPs Z (ns.map V.int) (ns.map PyData.int)
  | [] => .nil
  | _ :: _ => .cons (.int _) RepPs.of_ints
theorem RepPs.bls : ∀ {ns : List Bool} {vs : List V}, RepPs Z vs (ns.map PyData.bool) → vs = ns.map V.bl
  | [], _, h => by cases h; rfl
  | n :: ns, _, h => by
    cases h with
    | cons h1 h2 =>
      cases h1
      rw [RepPs.bls h2]
      rfl
end

/-! ### cells in a heap -/
/-- the heap in parts: B what others keep, Z the data, m where the cells stand -/
structure Wd where
  K : PySem.W.Frag
  B : Hp
  Z : Hp
  m : List Addr
def RepV (w : Wd) (v : V) : D → Prop
  | .p d => RepP w.Z v d
  | .o i => ∃ a, w.m[i]? = some a ∧ v = .ref a
  | .s ns => ∃ a, v = .ref a ∧ SqL w.K w.Z a (ns.map V.int)
abbrev RepVs (w : Wd) : List V → List D → Prop := Paired (RepV w)
def RepF {κ : Type} (w : Wd) : List (κ × V) → List (κ × D) → Prop := Paired fun p q => p.1 = q.1 ∧ RepV w p.2 q.2
def RepC (mg : Gm) (w : Wd) : HO → Cell → Prop
  | .lst xs, .lst ds => RepVs w xs ds
  | .frz _ (.lst xs), .scr ds => RepVs w xs ds
  | .dK kvs, .dK es => RepF w kvs es
  | .dT kvs, .dT es => RepF w kvs es
  | .ins C _ fs, .ins c gs => mg.mg c = some (.ref C) ∧ RepF w fs gs
  | .frz oe (.ext _), .exn c a d => ∃ C dx v vs, mg.mg c = some (.ref C) ∧ oe.cls = .ref C ∧ oe.dict = some dx ∧ oe.data = .fields vs ∧ w.Z dx = some (.xd [(a, v)]) ∧ RepP w.Z v d
  | _, _ => False
structure Grow (w w' : Wd) : Prop where
  k : w'.K = w.K
  b : w'.B = w.B
  z : Same w.Z w'.Z
  m : ∃ t, w'.m = w.m ++ t
theorem Grow.refl (w : Wd) : Grow w w := ⟨rfl, rfl, Same.refl _, [], by simp⟩
theorem Grow.trans {w w1 w2 : Wd} (a : Grow w w1) (b : Grow w1 w2) : Grow w w2 := by
  obtain ⟨t, e⟩ := a.m
  obtain ⟨u, f⟩ := b.m
  exact ⟨b.k.trans a.k, b.b.trans a.b, a.z.trans b.z, t ++ u, by rw [f, e]; simp⟩
theorem Grow.at {w w' : Wd} (g : Grow w w') {i : Nat} {a : Addr} (h : w.m[i]? = some a) : w'.m[i]? = some a := by
  obtain ⟨t, e⟩ := g.m
  rw [e, List.getElem?_append_left (List.getElem?_eq_some_iff.mp h).1]
  exact h
theorem RepV.grow {w w' : Wd} (g : Grow w w') {v : V} : ∀ {d : D}, RepV w v d → RepV w' v d
  | .p d, h => RepP.mono g.z d v h
  | .o i, ⟨a, h1, h2⟩ => ⟨a, g.at h1, h2⟩
  | .s ns, ⟨a, h1, h2⟩ => ⟨a, h1, by rw [g.k]; exact g.z.seq h2⟩
theorem RepVs.grow {w w' : Wd} (g : Grow w w') {vs : List V} {ds : List D} (h : RepVs w vs ds) : RepVs w' vs ds := Paired.mapP h fun _ _ r => r.grow g
theorem RepF.grow {κ : Type} {w w' : Wd} (g : Grow w w') {vs : List (κ × V)} {ds : List (κ × D)} (h : RepF w vs ds) : RepF w' vs ds := Paired.mapP h fun _ _ r => ⟨r.1, r.2.grow g⟩
theorem RepC.grow {mg : Gm} {w w' : Wd} (g : Grow w w') {o : HO} {c : Cell} (h : RepC mg w o c) : RepC mg w' o c := by
  unfold RepC at h ⊢
  split <;> simp_all
  · exact RepVs.grow g h
  · exact RepVs.grow g h
  · exact RepF.grow g h
  · exact RepF.grow g h
  · exact RepF.grow g h.2
  · obtain ⟨C, h1, h2, dx, h3, h4, v, h5, h6⟩ := h
    exact ⟨C, h1, h2, dx, h3, h4, v, g.z _ _ h5, RepP.mono g.z _ _ h6⟩
structure Rep (mg : Gm) (w : Wd) (H : Hp) (S : Store) : Prop where
  kk : w.K = mg.K
  bg : Same w.B H
  same : Same w.Z H
  bz : ∀ a o, w.B a = some o → w.Z a = none ∧ a ∉ w.m
  len : w.m.length = S.length
  nd : w.m.Nodup
  cell : ∀ (i : Nat) (a : Addr) (c : Cell), w.m[i]? = some a → S[i]? = some c → w.Z a = none ∧ ∃ o, H a = some o ∧ RepC mg w o c
/-- what slots hold -/
abbrev Sl := List (Option D)
structure RepE (w : Wd) (σ : L2.St) (ρ : Sl) : Prop where
  len : σ.length = ρ.length
  at_ : ∀ (i : Nat) (d : D), ρ[i]? = some (some d) → ∃ v, σ[i]? = some (some v) ∧ RepV w v d
theorem RepE.grow {w w' : Wd} {σ : L2.St} {ρ : Sl} (g : Grow w w') (h : RepE w σ ρ) : RepE w' σ ρ :=
  ⟨h.len, fun i d e => let ⟨v, h1, h2⟩ := h.at_ i d e; ⟨v, h1, h2.grow g⟩⟩
theorem RepE.set {w : Wd} {σ : L2.St} {ρ : Sl} (h : RepE w σ ρ) (i : Nat) {v : V} {d : D} (r : RepV w v d) : RepE w (σ.set i (some v)) (ρ.set i (some d)) := by
  refine ⟨by simp [h.len], fun j e he => ?_⟩
  by_cases hj : i = j
  · subst hj
    by_cases hl : i < ρ.length
    · rw [List.getElem?_set_self hl] at he
      cases he
      exact ⟨v, by rw [List.getElem?_set_self (by rw [h.len]; exact hl)], r⟩
    · rw [List.getElem?_eq_none (by simpa using hl)] at he
      cases he
  · rw [List.getElem?_set_ne hj] at he
    rw [List.getElem?_set_ne hj]
    exact h.at_ j e he
theorem RepE.drop {w : Wd} {σ : L2.St} {ρ : Sl} (h : RepE w σ ρ) (i : Nat) (v : Option V) : RepE w (σ.set i v) (ρ.set i none) := by
  refine ⟨by simp [h.len], fun j e he => ?_⟩
  by_cases hj : i = j
  · subst hj
    by_cases hl : i < ρ.length
    · rw [List.getElem?_set_self hl] at he
      cases he
    · rw [List.getElem?_eq_none (by simpa using hl)] at he
      cases he
  · rw [List.getElem?_set_ne hj] at he
    rw [List.getElem?_set_ne hj]
    exact h.at_ j e he
/-- an exception's class and own dict -/
def RepX (mg : Gm) (w : Wd) (cls : Value) (dx : Addr) (x : Exn) : Prop :=
  ∃ C fs, mg.mg x.cls = some (.ref C) ∧ cls = .ref C ∧ w.Z dx = some (.xd fs) ∧ RepF w fs x.fs
theorem RepX.grow {mg : Gm} {w w' : Wd} (g : Grow w w') {cls : Value} {dx : Addr} {x : Exn} (h : RepX mg w cls dx x) : RepX mg w' cls dx x :=
  let ⟨C, fs, h1, h2, h3, h4⟩ := h
  ⟨C, fs, h1, h2, g.z _ _ h3, h4.grow g⟩

/-! ### changing the heap -/
abbrev Wd.addZ (w : Wd) (p : Addr) (o : HO) : Wd := { w with Z := upd w.Z p o }
abbrev Wd.addM (w : Wd) (p : Addr) : Wd := { w with m := w.m ++ [p] }
section
variable {mg : Gm} {w : Wd} {H : Hp} {S : Store}
theorem Rep.notIn (h : Rep mg w H S) {p : Addr} (hp : H p = none) : p ∉ w.m := fun hm => by
  obtain ⟨i, hi⟩ := List.getElem?_of_mem hm
  have hl : i < S.length := by rw [← h.len]; exact (List.getElem?_eq_some_iff.mp hi).1
  obtain ⟨_, u, hu, _⟩ := h.cell i p S[i] hi (List.getElem?_eq_getElem hl)
  rw [hp] at hu; cases hu
/-- what stands at p (known to nobody) becomes data -/
theorem Rep.freeze (h : Rep mg w H S) {p : Addr} {o : HO} (hp : H p = some o) (hb : w.B p = none) (hz : w.Z p = none) (hm : p ∉ w.m) : Grow w (w.addZ p o) ∧ Rep mg (w.addZ p o) H S := by
  have g : Grow w (w.addZ p o) := ⟨rfl, rfl, fun b u e => by show upd w.Z p o b = _; rw [upd_ne (ne_of_none e hz)]; exact e, [], by simp⟩
  refine ⟨g, h.kk, h.bg, fun b u e => ?_, fun a u e => ⟨?_, (h.bz a u e).2⟩, h.len, h.nd, fun i a c h1 h2 => ?_⟩
  · have e : upd w.Z p o b = some u := e
    by_cases hb : b = p
    · subst hb; rw [upd_same] at e; cases e; exact hp
    · rw [upd_ne hb] at e; exact h.same b u e
  · show upd w.Z p o a = none
    rw [upd_ne (ne_of_none e hb)]; exact (h.bz a u e).1
  · obtain ⟨za, u, hu, r⟩ := h.cell i a c h1 h2
    have ne : a ≠ p := fun e => hm (e ▸ List.mem_of_getElem? h1)
    exact ⟨by show upd w.Z p o a = none; rw [upd_ne ne]; exact za, u, hu, r.grow g⟩
/-- .. something new at p, known to nobody yet -/
theorem Rep.lay (h : Rep mg w H S) {p : Addr} (o : HO) (hp : H p = none) : Rep mg w (upd H p o) S ∧ w.B p = none ∧ w.Z p = none ∧ p ∉ w.m := by
  refine ⟨⟨h.kk, fun b u e => ?_, fun b u e => ?_, h.bz, h.len, h.nd, fun i a c h1 h2 => ?_⟩, h.bg.free hp, h.same.free hp, h.notIn hp⟩
  · have e' := h.bg b u e
    rw [upd_ne (ne_of_none e' hp)]; exact e'
  · have e' := h.same b u e
    rw [upd_ne (ne_of_none e' hp)]; exact e'
  · obtain ⟨za, u, hu, r⟩ := h.cell i a c h1 h2
    exact ⟨za, u, by rw [upd_ne (ne_of_none hu hp)]; exact hu, r⟩
/-- new data at p -/
theorem Rep.newP (h : Rep mg w H S) {p : Addr} (o : HO) (hp : H p = none) : Grow w (w.addZ p o) ∧ Rep mg (w.addZ p o) (upd H p o) S := by
  obtain ⟨h', b, z, m⟩ := h.lay o hp
  exact h'.freeze upd_same b z m
/-- a new cell at p -/
theorem Rep.newC (h : Rep mg w H S) {p : Addr} {o : HO} {c : Cell} (hp : H p = none) (r : RepC mg (w.addM p) o c) : Grow w (w.addM p) ∧ Rep mg (w.addM p) (upd H p o) (S ++ [c]) := by
  have g : Grow w (w.addM p) := ⟨rfl, rfl, Same.refl _, [p], rfl⟩
  have np := h.notIn hp
  refine ⟨g, h.kk, fun b u e => ?_, fun b u e => ?_, fun a u e => ⟨(h.bz a u e).1, fun z => ?_⟩, by simp [h.len], ?_, fun i a c' h1 h2 => ?_⟩
  · have e' := h.bg b u e
    rw [upd_ne (ne_of_none e' hp)]; exact e'
  · have e' := h.same b u e
    rw [upd_ne (ne_of_none e' hp)]; exact e'
  · rcases List.mem_append.mp z with z | z
    · exact (h.bz a u e).2 z
    · have : a = p := by simpa using z
      subst this
      rw [h.bg _ _ e] at hp; cases hp
  · show (w.m ++ [p]).Nodup
    rw [List.nodup_append]
    exact ⟨h.nd, by simp, fun a ha b hb => by
      have : b = p := by simpa using hb
      subst this
      exact fun e => np (e ▸ ha)⟩
  · have h1 : (w.m ++ [p])[i]? = some a := h1
    by_cases hi : i < w.m.length
    · rw [List.getElem?_append_left hi] at h1
      rw [List.getElem?_append_left (by rw [← h.len]; exact hi)] at h2
      obtain ⟨za, u, hu, r'⟩ := h.cell i a c' h1 h2
      exact ⟨za, u, by rw [upd_ne (ne_of_none hu hp)]; exact hu, r'.grow g⟩
    · have hl : i < (w.m ++ [p]).length := (List.getElem?_eq_some_iff.mp h1).1
      have e : i = w.m.length := by simp at hl; omega
      subst e
      simp at h1
      rw [h.len] at h2
      simp at h2
      subst h1 h2
      exact ⟨h.same.free hp, o, upd_same, r⟩
/-- a cell is changed -/
theorem Rep.setC (h : Rep mg w H S) {i : Nat} {a : Addr} {o : HO} {c : Cell} (ha : w.m[i]? = some a) (r : RepC mg w o c) : Rep mg w (upd H a o) (S.set i c) := by
  have hi : i < S.length := by rw [← h.len]; exact (List.getElem?_eq_some_iff.mp ha).1
  obtain ⟨za, _⟩ := h.cell i a S[i] ha (List.getElem?_eq_getElem hi)
  refine ⟨h.kk, fun b u e => ?_, fun b u e => ?_, h.bz, by simp [h.len], h.nd, fun j b c' h1 h2 => ?_⟩
  · have : b ≠ a := fun z => (h.bz b u e).2 (z ▸ List.mem_of_getElem? ha)
    rw [upd_ne this]; exact h.bg b u e
  · rw [upd_ne (ne_of_none e za)]; exact h.same b u e
  · by_cases hj : i = j
    · subst hj
      rw [ha] at h1; cases h1
      rw [List.getElem?_set_self hi] at h2
      cases h2
      exact ⟨za, o, upd_same, r⟩
    · rw [List.getElem?_set_ne hj] at h2
      obtain ⟨zb, u, hu, r'⟩ := h.cell j b c' h1 h2
      have : b ≠ a := fun e => by
        subst e
        have h1' := List.getElem?_eq_some_iff.mp h1
        have h2' := List.getElem?_eq_some_iff.mp ha
        exact hj ((List.getElem_inj h.nd).mp (h2'.2.trans h1'.2.symm))
      exact ⟨zb, u, by rw [upd_ne this]; exact hu, r'⟩
theorem Rep.at_ (h : Rep mg w H S) {i : Nat} {a : Addr} (ha : w.m[i]? = some a) {c : Cell} (hc : S[i]? = some c) : ∃ o, H a = some o ∧ RepC mg w o c := (h.cell i a c ha hc).2
/-- another background: what is known to nobody is kept for another -/
theorem Rep.back (h : Rep mg w H S) {p : Addr} {o : HO} (hp : H p = some o) (hz : w.Z p = none) (hm : p ∉ w.m) : Rep mg { w with B := upd w.B p o } H S := by
  refine ⟨h.kk, fun b u e => ?_, h.same, fun a u e => ?_, h.len, h.nd, fun i a c h1 h2 => ?_⟩
  · have e : upd w.B p o b = some u := e
    by_cases hb : b = p
    · subst hb; rw [upd_same] at e; cases e; exact hp
    · rw [upd_ne hb] at e; exact h.bg b u e
  · have e : upd w.B p o a = some u := e
    by_cases hb : a = p
    · subst hb; exact ⟨hz, hm⟩
    · rw [upd_ne hb] at e; exact h.bz a u e
  · obtain ⟨za, u, hu, r⟩ := h.cell i a c h1 h2
    exact ⟨za, u, hu, by
      unfold RepC at r ⊢
      exact r⟩
end

/-! ### readings -/
section
variable {β : Type} (mg : Gm) (W : WX) (σ : L2.St) (w : Wd)
def PostG (ok : β → Wd → Hp → Prop) : R β → Prop
  | .ok b S' => ∀ w' H', Grow w w' → Rep mg w' H' S' → ok b w' H'
  | .exc x S' => ∀ cls dx w' H', Grow w w' → Rep mg w' H' S' → RepX mg w' cls dx x → W cls (some dx) σ H'
  | .bad => False
abbrev Post (Q : VK) : R D → Prop := PostG mg W σ w fun d w' H' => ∀ v, RepV w' v d → Q v H'
abbrev PostB (Q : Bool → Hp → Prop) : R Bool → Prop := PostG mg W σ w fun b _ H' => Q b H'
abbrev PostL (Q : List V → Hp → Prop) : R (List D) → Prop := PostG mg W σ w fun ds w' H' => ∀ vs, RepVs w' vs ds → Q vs H'
end
inductive RS where
  | nx (ρ : Sl) (S : Store)
  | rt (d : D) (S : Store)
  | bk (ρ : Sl) (S : Store)
  | ct (ρ : Sl) (S : Store)
  | exc (x : Exn) (ρ : Sl) (S : Store)
  | bad
def PostS (mg : Gm) (W : WX) (E : Ends) (w : Wd) : RS → Prop
  | .nx ρ S' => ∀ σ w' H', Grow w w' → Rep mg w' H' S' → RepE w' σ ρ → E.nx σ H'
  | .rt d S' => ∀ v w' H', Grow w w' → Rep mg w' H' S' → RepV w' v d → E.rt v H'
  | .bk ρ S' => ∀ σ w' H', Grow w w' → Rep mg w' H' S' → RepE w' σ ρ → E.bk σ H'
  | .ct ρ S' => ∀ σ w' H', Grow w w' → Rep mg w' H' S' → RepE w' σ ρ → E.ct σ H'
  | .exc x ρ S' => ∀ σ cls dx w' H', Grow w w' → Rep mg w' H' S' → RepE w' σ ρ → RepX mg w' cls dx x → W cls (some dx) σ H'
  | .bad => False
section
variable {mg : Gm} {W : WX} {σ : L2.St} {w w1 : Wd}
theorem PostG.grow {β : Type} {ok : β → Wd → Hp → Prop} (g : Grow w w1) {r : R β} (h : PostG mg W σ w ok r) : PostG mg W σ w1 ok r := by
  cases r with
  | ok d S => exact fun w' H' g' => h w' H' (g.trans g')
  | exc x S => exact fun c dx w' H' g' => h c dx w' H' (g.trans g')
  | bad => exact h
theorem PostS.grow {E : Ends} (g : Grow w w1) {r : RS} (h : PostS mg W E w r) : PostS mg W E w1 r := by
  cases r with
  | nx d S => exact fun v w' H' g' => h v w' H' (g.trans g')
  | rt d S => exact fun v w' H' g' => h v w' H' (g.trans g')
  | bk d S => exact fun v w' H' g' => h v w' H' (g.trans g')
  | ct d S => exact fun v w' H' g' => h v w' H' (g.trans g')
  | exc x ρ S => exact fun s c dx w' H' g' => h s c dx w' H' (g.trans g')
  | bad => exact h
end
abbrev Fe := Sl → M D
abbrev Fb := Sl → M Bool
abbrev Fl := Sl → M (List D)
abbrev Fs := Sl → Store → RS
def tD (mg : Gm) (W : WX) (f : Fe) : TE := fun σ H Q => ∃ w ρ S, Rep mg w H S ∧ RepE w σ ρ ∧ Post mg W σ w Q (f ρ S)
def tDT (mg : Gm) (W : WX) (f : Fb) : TT := fun σ H Q => ∃ w ρ S, Rep mg w H S ∧ RepE w σ ρ ∧ PostB mg W σ w Q (f ρ S)
def tDA (mg : Gm) (W : WX) (f : Fl) : TA := fun σ H Q => ∃ w ρ S, Rep mg w H S ∧ RepE w σ ρ ∧ PostL mg W σ w Q (f ρ S)
def tDS (mg : Gm) (W : WX) (g : Fs) : TS := fun E σ H => ∃ w ρ S, Rep mg w H S ∧ RepE w σ ρ ∧ PostS mg W E w (g ρ S)
abbrev DE (X : Cx) (W : WX) (e : Expr) (f : Fe) : Prop := PE X e (tD X.gm W f)
abbrev DT (X : Cx) (W : WX) (e : Expr) (f : Fb) : Prop := PT X e (tDT X.gm W f)
abbrev DA (X : Cx) (W : WX) (es : List Expr) (f : Fl) : Prop := PA X es (tDA X.gm W f)
abbrev DS (X : Cx) (W : WX) (s : Stmt) (f : Fs) : Prop := PS X s (tDS X.gm W f)
abbrev DSs (X : Cx) (W : WX) (s : List Stmt) (f : Fs) : Prop := PSs X s (tDS X.gm W f)
end DL
namespace L2
open PySem PySem.Spec
section
variable {X : Cx} {e : Expr}
theorem PE.imp {t t' : TE} (h : PE X e t) (q : ∀ σ H Q, t' σ H Q → t σ H Q) : PE X e t' := ⟨fun pins s σ H Q I w => h.run pins s σ H Q I (q σ H Q w)⟩
theorem PT.imp {t t' : TT} (h : PT X e t) (q : ∀ σ H Q, t' σ H Q → t σ H Q) : PT X e t' := ⟨fun pins s σ H Q I w => h.run pins s σ H Q I (q σ H Q w)⟩
theorem PW.imp {t t' : TT} (h : PW X e t) (q : ∀ σ H Q, t' σ H Q → t σ H Q) : PW X e t' := ⟨fun wh pins s σ H Q I w => h.run wh pins s σ H Q I (q σ H Q w)⟩
theorem PA.imp {es : List Expr} {t t' : TA} (h : PA X es t) (q : ∀ σ H Q, t' σ H Q → t σ H Q) : PA X es t' := ⟨fun pos pins s σ H Q I w => h.run pos pins s σ H Q I (q σ H Q w)⟩
theorem PS.imp {st : Stmt} {t t' : TS} (h : PS X st t) (q : ∀ E σ H, t' E σ H → t E σ H) : PS X st t' := ⟨fun pins s σ H E I w => h.run pins s σ H E I (q E σ H w)⟩
theorem PSs.imp {st : List Stmt} {t t' : TS} (h : PSs X st t) (q : ∀ E σ H, t' E σ H → t E σ H) : PSs X st t' := ⟨fun pins s σ H E I w => h.run pins s σ H E I (q E σ H w)⟩
end
end L2
namespace DL
open PySem PySem.Spec L2
/-! ### steps -/
section
variable {mg : Gm} {W : WX} {σ : L2.St} {w : Wd} {H : Hp} {S : Store} {ρ : Sl}
/-- what follows an expression in a statement -/
def bindS {α : Type} (ρ : Sl) (m : R α) (k : α → Store → RS) : RS := match m with
  | .ok a S => k a S
  | .exc x S => .exc x ρ S
  | .bad => .bad
theorem stepE {β : Type} {ok : β → Wd → Hp → Prop} {f : Fe} {k : D → M β} {Q : VK} (R : Rep mg w H S) (E : RepE w σ ρ) (P : PostG mg W σ w ok (M.bind (f ρ) k S))
    (q : ∀ v w1 H1 S1 d, Grow w w1 → Rep mg w1 H1 S1 → RepE w1 σ ρ → RepV w1 v d → PostG mg W σ w1 ok (k d S1) → Q v H1) : tD mg W f σ H Q := by
  refine ⟨w, ρ, S, R, E, ?_⟩
  unfold M.bind at P
  cases h : f ρ S with
  | ok d S' => rw [h] at P; exact fun w' H' g R' v V => q v w' H' S' d g R' (E.grow g) V (P.grow g)
  | exc x S' => rw [h] at P; exact P
  | bad => rw [h] at P; exact P
theorem stepT {β : Type} {ok : β → Wd → Hp → Prop} {f : Fb} {k : Bool → M β} {Q : Bool → Hp → Prop} (R : Rep mg w H S) (E : RepE w σ ρ) (P : PostG mg W σ w ok (M.bind (f ρ) k S))
    (q : ∀ b w1 H1 S1, Grow w w1 → Rep mg w1 H1 S1 → RepE w1 σ ρ → PostG mg W σ w1 ok (k b S1) → Q b H1) : tDT mg W f σ H Q := by
  refine ⟨w, ρ, S, R, E, ?_⟩
  unfold M.bind at P
  cases h : f ρ S with
  | ok d S' => rw [h] at P; exact fun w' H' g R' => q d w' H' S' g R' (E.grow g) (P.grow g)
  | exc x S' => rw [h] at P; exact P
  | bad => rw [h] at P; exact P
theorem stepA {β : Type} {ok : β → Wd → Hp → Prop} {f : Fl} {k : List D → M β} {Q : List V → Hp → Prop} (R : Rep mg w H S) (E : RepE w σ ρ) (P : PostG mg W σ w ok (M.bind (f ρ) k S))
    (q : ∀ vs w1 H1 S1 ds, Grow w w1 → Rep mg w1 H1 S1 → RepE w1 σ ρ → RepVs w1 vs ds → PostG mg W σ w1 ok (k ds S1) → Q vs H1) : tDA mg W f σ H Q := by
  refine ⟨w, ρ, S, R, E, ?_⟩
  unfold M.bind at P
  cases h : f ρ S with
  | ok d S' => rw [h] at P; exact fun w' H' g R' vs V => q vs w' H' S' d g R' (E.grow g) V (P.grow g)
  | exc x S' => rw [h] at P; exact P
  | bad => rw [h] at P; exact P
theorem stepES {En : Ends} {f : Fe} {k : D → Store → RS} {Q : VK} (R : Rep mg w H S) (E : RepE w σ ρ) (P : PostS mg W En w (bindS ρ (f ρ S) k))
    (q : ∀ v w1 H1 S1 d, Grow w w1 → Rep mg w1 H1 S1 → RepE w1 σ ρ → RepV w1 v d → PostS mg W En w1 (k d S1) → Q v H1) : tD mg W f σ H Q := by
  refine ⟨w, ρ, S, R, E, ?_⟩
  unfold bindS at P
  cases h : f ρ S with
  | ok d S' => rw [h] at P; exact fun w' H' g R' v V => q v w' H' S' d g R' (E.grow g) V (P.grow g)
  | exc x S' => rw [h] at P; exact fun c dx w' H' g R' X => P σ c dx w' H' g R' (E.grow g) X
  | bad => rw [h] at P; exact P
theorem stepTS {En : Ends} {f : Fb} {k : Bool → Store → RS} {Q : Bool → Hp → Prop} (R : Rep mg w H S) (E : RepE w σ ρ) (P : PostS mg W En w (bindS ρ (f ρ S) k))
    (q : ∀ b w1 H1 S1, Grow w w1 → Rep mg w1 H1 S1 → RepE w1 σ ρ → PostS mg W En w1 (k b S1) → Q b H1) : tDT mg W f σ H Q := by
  refine ⟨w, ρ, S, R, E, ?_⟩
  unfold bindS at P
  cases h : f ρ S with
  | ok d S' => rw [h] at P; exact fun w' H' g R' => q d w' H' S' g R' (E.grow g) (P.grow g)
  | exc x S' => rw [h] at P; exact fun c dx w' H' g R' X => P σ c dx w' H' g R' (E.grow g) X
  | bad => rw [h] at P; exact P
theorem stepAS {En : Ends} {f : Fl} {k : List D → Store → RS} {Q : List V → Hp → Prop} (R : Rep mg w H S) (E : RepE w σ ρ) (P : PostS mg W En w (bindS ρ (f ρ S) k))
    (q : ∀ vs w1 H1 S1 ds, Grow w w1 → Rep mg w1 H1 S1 → RepE w1 σ ρ → RepVs w1 vs ds → PostS mg W En w1 (k ds S1) → Q vs H1) : tDA mg W f σ H Q := by
  refine ⟨w, ρ, S, R, E, ?_⟩
  unfold bindS at P
  cases h : f ρ S with
  | ok d S' => rw [h] at P; exact fun w' H' g R' vs V => q vs w' H' S' d g R' (E.grow g) V (P.grow g)
  | exc x S' => rw [h] at P; exact fun c dx w' H' g R' X => P σ c dx w' H' g R' (E.grow g) X
  | bad => rw [h] at P; exact P
end
end DL
set_option Elab.async false
set_option linter.all false
set_option maxRecDepth 100000
set_option maxHeartbeats 4000000
namespace DL
open PySem PySem.Spec L2

/-! ### data out of cells -/
def asP : D → Option PyData
  | .p d => some d
  | _ => none
def asPs : List D → Option (List PyData)
  | [] => some []
  | .p d :: r => (asPs r).map (d :: ·)
  | .o _ :: _ => none
  | .s _ :: _ => none
def Cell.lst? : Cell → Option (List D)
  | .lst ds => some ds
  | _ => none
def Cell.seq? : Cell → Option (List D)
  | .lst ds => some ds
  | .scr ds => some ds
  | _ => none
theorem Cell.lst_eq {c : Cell} {ds : List D} (h : c.lst? = some ds) : c = .lst ds := by cases c <;> simp_all [Cell.lst?]
theorem Cell.seq_eq {c : Cell} {ds : List D} (h : c.seq? = some ds) : c = .lst ds ∨ c = .scr ds := by cases c <;> simp_all [Cell.seq?]
/-- a value as data: a list's cell by what it holds -/
def toPy (S : Store) : D → Option PyData
  | .p d => some d
  | .o i => (S[i]?.bind Cell.lst?).bind fun ds => (asPs ds).map .list
  | .s _ => none
theorem asPs_rep {w : Wd} : ∀ {ds : List D} {es : List PyData} {vs : List V}, asPs ds = some es → RepVs w vs ds → RepPs w.Z vs es
  | [], es, vs, h, r => by cases h; cases r; exact .nil
  | .p d :: ds, es, vs, h, r => by
    unfold asPs at h
    cases e : asPs ds with
    | none => rw [e] at h; cases h
    | some fs =>
      rw [e] at h
      cases h
      cases r with
      | cons r1 r2 => exact .cons r1 (asPs_rep e r2)
  | .o i :: ds, es, vs, h, r => by cases h
  | .s i :: ds, es, vs, h, r => by cases h
theorem RepPs.toVs {w : Wd} : ∀ {es : List PyData} {vs : List V}, RepPs w.Z vs es → RepVs w vs (es.map D.p)
  | [], _, h => by cases h; exact .nil
  | d :: es, _, h => by
    cases h with
    | cons h1 h2 => exact .cons h1 (RepPs.toVs h2)
section
variable {mg : Gm} {w : Wd} {H : Hp} {S : Store}
theorem RepP.dpH {K : PySem.W.Frag} (R : Rep mg w H S) {v : V} {d : PyData} (h : RepP w.Z v d) : Dp K H v d := RepP.dp d v (RepP.mono R.same d v h)
theorem RepC.lst_inv {o : HO} {ds : List D} (h : RepC mg w o (.lst ds)) : ∃ xs, o = .lst xs ∧ RepVs w xs ds := by
  cases o with
  | lst xs => exact ⟨xs, rfl, h⟩
  | frz ob u => cases u <;> exact False.elim h
  | _ => exact False.elim h
theorem RepC.scr_inv {o : HO} {ds : List D} (h : RepC mg w o (.scr ds)) : ∃ ob xs, o = .frz ob (.lst xs) ∧ RepVs w xs ds := by
  cases o with
  | frz ob u =>
    cases u with
    | lst xs => exact ⟨ob, xs, rfl, h⟩
    | _ => exact False.elim h
  | _ => exact False.elim h
theorem RepC.dK_inv {o : HO} {ds : List (Key × D)} (h : RepC mg w o (.dK ds)) : ∃ xs, o = .dK xs ∧ RepF w xs ds := by
  cases o with
  | dK xs => exact ⟨xs, rfl, h⟩
  | frz ob u => cases u <;> exact False.elim h
  | _ => exact False.elim h
theorem RepC.dT_inv {o : HO} {ds : List (List Key × D)} (h : RepC mg w o (.dT ds)) : ∃ xs, o = .dT xs ∧ RepF w xs ds := by
  cases o with
  | dT xs => exact ⟨xs, rfl, h⟩
  | frz ob u => cases u <;> exact False.elim h
  | _ => exact False.elim h
theorem RepC.ins_inv {o : HO} {c : Str} {ds : List (Str × D)} (h : RepC mg w o (.ins c ds)) : ∃ C dx xs, o = .ins C dx xs ∧ mg.mg c = some (.ref C) ∧ RepF w xs ds := by
  cases o with
  | ins C dx xs => exact ⟨C, dx, xs, rfl, h⟩
  | frz ob u => cases u <;> exact False.elim h
  | _ => exact False.elim h
theorem toPy_dp {K : PySem.W.Frag} (R : Rep mg w H S) {v : V} {d : D} {e : PyData} (h : RepV w v d) (t : toPy S d = some e) : Dp K H v e := by
  cases d with
  | p d => cases t; exact RepP.dpH R h
  | o i =>
    obtain ⟨a, ha, rfl⟩ := h
    unfold toPy at t
    obtain ⟨ds, h1, h2⟩ := Option.bind_eq_some_iff.mp t
    obtain ⟨c, hS, h3⟩ := Option.bind_eq_some_iff.mp h1
    obtain rfl := Cell.lst_eq h3
    obtain ⟨es, q, rfl⟩ := Option.map_eq_some_iff.mp h2
    obtain ⟨o, ho, r⟩ := R.at_ ha hS
    obtain ⟨xs, rfl, r⟩ := r.lst_inv
    exact .lst (SqL.of ho) (RepPs.dp es xs (RepPs.mono R.same es xs (asPs_rep q r)))
  | s ns => cases t
theorem RepVs.ints (w : Wd) : ∀ ns : List Int, RepVs w (ns.map V.int) (ns.map fun n => D.p (.int n))
  | [] => .nil
  | n :: ns => .cons (.int n) (RepVs.ints w ns)
/-- a value that is a list: its items as they may be read -/
def items (S : Store) : D → Option (List D)
  | .p (.list es) => some (es.map D.p)
  | .o i => S[i]?.bind Cell.seq?
  | .s ns => some (ns.map fun n => D.p (.int n))
  | _ => none
theorem items_sq (R : Rep mg w H S) {v : V} {d : D} {ds : List D} (h : RepV w v d) (t : items S d = some ds) : ∃ a xs, v = .ref a ∧ SqL mg.K H a xs ∧ RepVs w xs ds := by
  cases d with
  | p d =>
    cases d with
    | list es =>
      cases t
      cases h with
      | lst h1 h2 => exact ⟨_, _, rfl, SqL.of (R.same _ _ h1), RepPs.toVs h2⟩
    | _ => cases t
  | o i =>
    obtain ⟨a, ha, rfl⟩ := h
    obtain ⟨c, hS, h3⟩ := Option.bind_eq_some_iff.mp (show S[i]?.bind Cell.seq? = some ds from t)
    obtain ⟨o, ho, r⟩ := R.at_ ha hS
    rcases Cell.seq_eq h3 with rfl | rfl
    · obtain ⟨xs, rfl, r⟩ := r.lst_inv
      exact ⟨a, xs, rfl, SqL.of ho, r⟩
    · obtain ⟨ob, xs, rfl, r⟩ := r.scr_inv
      exact ⟨a, xs, rfl, .inl (.inr ⟨ob, ho⟩), r⟩
  | s ns =>
    cases t
    obtain ⟨a, rfl, h⟩ := h
    refine ⟨a, _, rfl, by rw [R.kk] at h; exact R.same.seq h, ?_⟩
    exact RepVs.ints w ns
end

/-! ### names, constants -/
def eVar (i : Nat) : Fe := fun ρ S => match ρ.getD i none with
  | some d => .ok d S
  | none => .bad
def eC (d : PyData) : Fe := fun _ S => .ok (.p d) S
section
variable {X : Cx} {W : WX} {e a b c : Expr} {f g k : Fe} {pos : Pos}
theorem getD_some {ρ : Sl} {i : Nat} {d : D} (h : ρ.getD i none = some d) : ρ[i]? = some (some d) := by
  rw [List.getD_eq_getElem?_getD] at h
  cases q : ρ[i]? with
  | none => rw [q] at h; cases h
  | some o => rw [q] at h; cases h; rfl
theorem de_var (i : Nat) {x : Str} (hN : X.N[i]? = some x := by rfl) (hv : Vis X.env.scope x := by first | exact Or.inl rfl | exact Or.inr (Or.inl rfl) | exact Or.inr (Or.inr rfl)) (hd : (x == ("__debug__" : Str)) = false := by decide)
    (hcd : (x == ("__classdict__" : Str)) = false := by decide) : DE X W (.Name x pos) (eVar i) := (pe_var (i := i) hN hv hd hcd).imp fun σ H Q ⟨w, ρ, S, R, E, P⟩ => by
  unfold eVar at P
  cases q : ρ.getD i none with
  | none => rw [q] at P; exact P.elim
  | some d =>
    rw [q] at P
    obtain ⟨v, h1, h2⟩ := E.at_ i d (getD_some q)
    exact ⟨v, h1, P w H (Grow.refl w) R v h2⟩
theorem tC_of {v : V} {d : PyData} (r : ∀ Z, RepP Z v d) {σ : L2.St} {H : Hp} {Q : VK} {mg : Gm} (h : tD mg W (eC d) σ H Q) : tC v σ H Q :=
  let ⟨w, _, _, R, _, P⟩ := h
  P w H (Grow.refl w) R v (r w.Z)
theorem de_int {i : Int} {j} : DE X W (.Constant (.int i) j pos) (eC (.int i)) := pe_int.imp fun _ _ _ h => tC_of (fun _ => .int i) h
theorem de_bl {i : Bool} {j} : DE X W (.Constant (.bool i) j pos) (eC (.bool i)) := pe_bl.imp fun _ _ _ h => tC_of (fun _ => .bl i) h
theorem de_non {j} : DE X W (.Constant .none j pos) (eC .none) := pe_non.imp fun _ _ _ h => tC_of (fun _ => .non) h
theorem de_str {x : Str} {j} : DE X W (.Constant (.str x) j pos) (eC (.str x)) := pe_str.imp fun _ _ _ h => tC_of (fun _ => .str x) h
/-- a constant of the module -/
theorem de_glob {x : Str} {i : Int} {t : Tok} (hg : Gl X x) (hm : X.mg x = some (.int i t)) (hd : (x == ("__debug__" : Str)) = false := by decide) : DE X W (.Name x pos) (eC (.int i)) :=
  (pe_glob (v := .int i) hg hm ⟨t, rfl⟩ hd).imp fun _ _ _ h => tC_of (fun _ => .int i) h

theorem de_globE {x : Str} {i : Int} (hg : Gl X x) (hm : ∃ t, X.mg x = some (.int i t)) (hd : (x == ("__debug__" : Str)) = false := by decide) : DE X W (.Name x pos) (eC (.int i)) :=
  let ⟨_, h⟩ := hm
  de_glob hg h hd
/-! ### operators by values -/
def R2ok (X : Cx) (r : R2) (F : D → D → M D) : Prop := ∀ (w : Wd) (H : Hp) (S : Store) (x y : V) (dx dy : D) (W : WX) (σ : L2.St) (Q : VK), Rep X.gm w H S → RepV w x dx → RepV w y dy → Post X.gm W σ w Q (F dx dy S) → r x y H Q
def eBin (F : D → D → M D) (f g : Fe) : Fe := fun ρ => M.bind (f ρ) fun x => M.bind (g ρ) fun y => F x y
theorem tOp_of {r : R2} {F : D → D → M D} (hF : R2ok X r F) {σ : L2.St} {H : Hp} {Q : VK} (h : tD X.gm W (eBin F f g) σ H Q) : tOp r (tD X.gm W f) (tD X.gm W g) σ H Q := by
  obtain ⟨w, ρ, S, R, E, P⟩ := h
  exact stepE R E P fun x w1 H1 S1 dx g1 R1 E1 V1 P1 => stepE R1 E1 P1 fun y w2 H2 S2 dy g2 R2 E2 V2 P2 => hF w2 H2 S2 x y dx dy W σ Q R2 (V1.grow g2) V2 P2
theorem de_bin {op : Operator} {r : R2} {F : D → D → M D} (ho : OpR X (binaryOp op) r) (hF : R2ok X r F) (ha : DE X W a f) (hb : DE X W b g) : DE X W (.BinOp a op b pos) (eBin F f g) :=
  (pe_op ho ha hb).imp fun _ _ _ h => tOp_of hF h
theorem de_cmp {op : CmpOp} {r : R2} {F : D → D → M D} (ho : OpR X (compareOp op) r) (hF : R2ok X r F) (ha : DE X W a f) (hb : DE X W b g) (hm : behindInMarks op b = false) : DE X W (.Compare a [op] [b] pos) (eBin F f g) :=
  (pe_cmpR ho ha hb hm).imp fun _ _ _ h => tOp_of hF h
theorem de_ix {r : R2} {F : D → D → M D} (ho : IxR X r) (hF : R2ok X r F) (ha : DE X W a f) (hb : DE X W b g) (hs : PlainIx b) : DE X W (.Subscript a b pos) (eBin F f g) :=
  (pe_ix ho ha hb hs).imp fun _ _ _ h => tOp_of hF h
/-- what F gives is at once told: the same heap, or a new object -/
theorem Post.here {mg : Gm} {W : WX} {σ : L2.St} {w : Wd} {Q : VK} {H : Hp} {S : Store} {d : D} (R : Rep mg w H S) (P : Post mg W σ w Q (.ok d S)) {v : V} (r : RepV w v d) : Q v H := P w H (Grow.refl w) R v r
theorem Post.newTup {mg : Gm} {W : WX} {σ : L2.St} {w : Wd} {Q : VK} {H : Hp} {S : Store} {ds : List PyData} {xs : List V} (R : Rep mg w H S) (P : Post mg W σ w Q (.ok (.p (.tuple ds)) S)) (r : RepPs w.Z xs ds) {p : Addr} (hp : H p = none) :
    Q (.ref p) (upd H p (.tup xs)) := by
  obtain ⟨g, R'⟩ := R.newP (.tup xs) hp
  exact P _ _ g R' _ (.tup upd_same (RepPs.mono g.z _ _ r))
theorem Post.newLst {mg : Gm} {W : WX} {σ : L2.St} {w : Wd} {Q : VK} {H : Hp} {S : Store} {ds : List PyData} {xs : List V} (R : Rep mg w H S) (P : Post mg W σ w Q (.ok (.p (.list ds)) S)) (r : RepPs w.Z xs ds) {p : Addr} (hp : H p = none) :
    Q (.ref p) (upd H p (.lst xs)) := by
  obtain ⟨g, R'⟩ := R.newP (.lst xs) hp
  exact P _ _ g R' _ (.lst upd_same (RepPs.mono g.z _ _ r))
theorem RepV.cases_p {w : Wd} {v : V} {d : PyData} (h : RepV w v (.p d)) : RepP w.Z v d := h

/-! ### arithmetic -/
def fAdd : D → D → M D
  | .p (.int i), .p (.int j) => M.pure (.p (.int (i + j)))
  | .p (.str i), .p (.str j) => fun S => if i.length + j.length ≤ sizeLine then .ok (.p (.str (i ++ j))) S else .bad
  | .p (.tuple xs), .p (.tuple ys) => fun S => if xs.length + ys.length ≤ sizeLine then .ok (.p (.tuple (xs ++ ys))) S else .bad
  | .p (.list xs), .p (.list ys) => fun S => if xs.length + ys.length ≤ sizeLine then .ok (.p (.list (xs ++ ys))) S else .bad
  | _, _ => M.bad
def rAddD (K : PySem.W.Frag) : R2 := fun x y H Q => (rI0 fun i j => .int (i + j)) x y H Q ∨ (fun x y H Q => ∃ i j, x = .str i ∧ y = .str j ∧ i.length + j.length ≤ sizeLine ∧ Q (.str (i ++ j)) H : R2) x y H Q ∨ rCatA K x y H Q ∨ rCat x y H Q
theorem op_addD : OpR X (binaryOp .Add) (rAddD X.K) := op_add.or (op_add_str.or (op_catA.or op_cat))
theorem ok_add : R2ok X (rAddD X.K) fAdd := by
  intro w H S x y dx dy W σ Q R vx vy P
  unfold fAdd at P
  split at P
  · cases vx.cases_p; cases vy.cases_p
    exact .inl ⟨_, _, rfl, rfl, Post.here R P (.int _)⟩
  · cases vx.cases_p; cases vy.cases_p
    split at P
    · rename_i hl
      exact .inr (.inl ⟨_, _, rfl, rfl, hl, Post.here R P (.str _)⟩)
    · exact P.elim
  · rename_i ds es
    have vx := vx.cases_p
    have vy := vy.cases_p
    cases vx with | tup hx rx =>
    cases vy with | tup hy ry =>
    split at P
    · rename_i hl
      refine .inr (.inr (.inl ⟨_, _, _, _, rfl, rfl, SqT.of (R.same _ _ hx), SqT.of (R.same _ _ hy), by rw [rx.length, ry.length]; exact hl, fun e => ?_, fun _ e => ?_, fun _ _ p hp => Post.newTup R P (rx.append ry) hp⟩))
      · subst e
        cases rx
        exact Post.here R P (.tup hy ry)
      · subst e
        cases ry
        rw [List.append_nil] at P
        exact Post.here R P (.tup hx rx)
    · exact P.elim
  · have vx := vx.cases_p
    have vy := vy.cases_p
    cases vx with | lst hx rx =>
    cases vy with | lst hy ry =>
    split at P
    · rename_i hl
      exact .inr (.inr (.inr ⟨_, _, _, _, rfl, rfl, R.same _ _ hx, R.same _ _ hy, by rw [rx.length, ry.length]; exact hl, fun p hp => Post.newLst R P (rx.append ry) hp⟩))
    · exact P.elim
  · exact P.elim
def fI (C : Int → Int → Prop) [∀ i j, Decidable (C i j)] (g : Int → Int → PyData) : D → D → M D
  | .p (.int i), .p (.int j) => fun S => if C i j then .ok (.p (g i j)) S else .bad
  | _, _ => M.bad
theorem ok_int {C : Int → Int → Prop} [∀ i j, Decidable (C i j)] {gv : Int → Int → V} {g : Int → Int → PyData} (hg : ∀ Z i j, RepP Z (gv i j) (g i j)) : R2ok X (rI C gv) (fI C g) := by
  intro w H S x y dx dy W σ Q R vx vy P
  unfold fI at P
  split at P
  · cases vx.cases_p; cases vy.cases_p
    split at P
    · rename_i hc
      exact ⟨_, _, rfl, rfl, hc, Post.here R P (hg _ _ _)⟩
    · exact P.elim
  · exact P.elim
def fI0 (g : Int → Int → PyData) : D → D → M D
  | .p (.int i), .p (.int j) => M.pure (.p (g i j))
  | _, _ => M.bad
theorem ok_int0 {gv : Int → Int → V} {g : Int → Int → PyData} (hg : ∀ Z i j, RepP Z (gv i j) (g i j)) : R2ok X (rI0 gv) (fI0 g) := by
  intro w H S x y dx dy W σ Q R vx vy P
  unfold fI0 at P
  split at P
  · cases vx.cases_p; cases vy.cases_p
    exact ⟨_, _, rfl, rfl, Post.here R P (hg _ _ _)⟩
  · exact P.elim
instance {i j : Int} : Decidable (CMul i j) := by unfold CMul; infer_instance
instance {i j : Int} : Decidable (CDiv i j) := by unfold CDiv; infer_instance
instance {i j : Int} : Decidable (CDivW i j) := by unfold CDivW; infer_instance
abbrev fDivW := fI CDivW fun i j => .int (i / j)
instance {i j : Int} : Decidable (CPow i j) := by unfold CPow; infer_instance
abbrev fSub := fI0 fun i j => .int (i - j)
abbrev fMul := fI CMul fun i j => .int (i * j)
abbrev fDiv := fI CDiv fun i j => .int (i / j)
abbrev fMod := fI (fun _ j => 0 < j) fun i j => .int (i % j)
abbrev fPow := fI CPow fun i j => .int (i ^ j.toNat)
theorem de_add (ha : DE X W a f) (hb : DE X W b g) : DE X W (.BinOp a .Add b pos) (eBin fAdd f g) := de_bin op_addD ok_add ha hb
theorem de_sub (ha : DE X W a f) (hb : DE X W b g) : DE X W (.BinOp a .Sub b pos) (eBin fSub f g) := de_bin op_sub (ok_int0 fun _ _ _ => .int _) ha hb
theorem de_mul (ha : DE X W a f) (hb : DE X W b g) : DE X W (.BinOp a .Mult b pos) (eBin fMul f g) := de_bin op_mul (ok_int fun _ _ _ => .int _) ha hb
theorem de_fdiv (ha : DE X W a f) (hb : DE X W b g) : DE X W (.BinOp a .FloorDiv b pos) (eBin fDiv f g) := de_bin op_fdiv (ok_int fun _ _ _ => .int _) ha hb
theorem de_fdivW (ha : DE X W a f) (hb : DE X W b g) : DE X W (.BinOp a .FloorDiv b pos) (eBin fDivW f g) := de_bin op_fdivW (ok_int fun _ _ _ => .int _) ha hb
theorem de_mod (ha : DE X W a f) (hb : DE X W b g) : DE X W (.BinOp a .Mod b pos) (eBin fMod f g) := de_bin op_mod (ok_int fun _ _ _ => .int _) ha hb
theorem de_pow (ha : DE X W a f) (hb : DE X W b g) : DE X W (.BinOp a .Pow b pos) (eBin fPow f g) := de_bin op_pow (ok_int fun _ _ _ => .int _) ha hb
def fNeg : D → M D
  | .p (.int i) => M.pure (.p (.int (-i)))
  | _ => M.bad
def eUn (F : D → M D) (f : Fe) : Fe := fun ρ => M.bind (f ρ) F
theorem de_neg (ha : DE X W a f) : DE X W (.UnaryOp .USub a pos) (eUn fNeg f) := (pe_un un_neg ha).imp fun σ H Q ⟨w, ρ, S, R, E, P⟩ =>
  stepE R E P fun x w1 H1 S1 dx g1 R1 E1 V1 P1 => by
    unfold fNeg at P1
    split at P1
    · cases V1.cases_p
      exact ⟨_, rfl, Post.here R1 P1 (.int _)⟩
    · exact P1.elim

/-! ### comparisons -/
abbrev fLt := fI0 fun i j => .bool (decide (i < j))
abbrev fLe := fI0 fun i j => .bool (decide (i ≤ j))
abbrev fGt := fI0 fun i j => .bool (decide (j < i))
abbrev fGe := fI0 fun i j => .bool (decide (j ≤ i))
theorem de_lt (ha : DE X W a f) (hb : DE X W b g) : DE X W (.Compare a [.Lt] [b] pos) (eBin (fI0 fun i j => .bool (decide (i < j))) f g) := de_cmp op_lt (ok_int0 fun _ _ _ => .bl _) ha hb (nomark _)
theorem de_le (ha : DE X W a f) (hb : DE X W b g) : DE X W (.Compare a [.LtE] [b] pos) (eBin (fI0 fun i j => .bool (decide (i ≤ j))) f g) := de_cmp op_le (ok_int0 fun _ _ _ => .bl _) ha hb (nomark _)
theorem de_gt (ha : DE X W a f) (hb : DE X W b g) : DE X W (.Compare a [.Gt] [b] pos) (eBin (fI0 fun i j => .bool (decide (j < i))) f g) := de_cmp op_gt (ok_int0 fun _ _ _ => .bl _) ha hb (nomark _)
theorem de_ge (ha : DE X W a f) (hb : DE X W b g) : DE X W (.Compare a [.GtE] [b] pos) (eBin (fI0 fun i j => .bool (decide (j ≤ i))) f g) := de_cmp op_ge (ok_int0 fun _ _ _ => .bl _) ha hb (nomark _)
/-- a < b <= c, the middle asked once -/
def onB (m n : M D) : D → M D
  | .p (.bool b) => if b = true then m else n
  | _ => M.bad
def eChain (F G : D → D → M D) (f g k : Fe) : Fe := fun ρ => M.bind (f ρ) fun x => M.bind (g ρ) fun y => M.bind (F x y) (onB (M.bind (k ρ) fun z => G y z) (M.pure (.p (.bool false))))
/-- == by values -/
def fEq (neg : Bool) : D → D → M D := fun x y S => match toPy S x, toPy S y with
  | some a, some b => if (SeqAt.shaped a && SeqAt.shaped b) = true then .ok (.p (.bool (if neg then !PyData.eqv a b else PyData.eqv a b))) S else .bad
  | _, _ => .bad
theorem fEq_inv {mg : Gm} {neg : Bool} {w : Wd} {H : Hp} {S : Store} {x y : V} {dx dy : D} {W : WX} {σ : L2.St} {Q : VK} {K : PySem.W.Frag} (R : Rep mg w H S) (vx : RepV w x dx) (vy : RepV w y dy) (P : Post mg W σ w Q (fEq neg dx dy S)) :
    ∃ a b, Dp K H x a ∧ Dp K H y b ∧ SeqAt.shaped a = true ∧ SeqAt.shaped b = true ∧ Q (.bl (if neg then !PyData.eqv a b else PyData.eqv a b)) H := by
  unfold fEq at P
  cases ta : toPy S dx with
  | none => rw [ta] at P; exact P.elim
  | some a =>
    cases tb : toPy S dy with
    | none => rw [ta, tb] at P; exact P.elim
    | some b =>
      rw [ta, tb] at P
      dsimp only at P
      by_cases hs : (SeqAt.shaped a && SeqAt.shaped b) = true
      · rw [if_pos hs] at P
        rw [Bool.and_eq_true] at hs
        exact ⟨a, b, toPy_dp R vx ta, toPy_dp R vy tb, hs.1, hs.2, Post.here R P (.bl _)⟩
      · rw [if_neg hs] at P
        exact P.elim
theorem ok_eq : R2ok X (rEqD X.K) (fEq false) := fun w H S x y dx dy W σ Q R vx vy P => fEq_inv R vx vy P
theorem ok_ne : R2ok X (rNeD X.K) (fEq true) := fun w H S x y dx dy W σ Q R vx vy P => fEq_inv R vx vy P
theorem de_eq (hu : X.A.units + 64 < cLine) (ha : DE X W a f) (hb : DE X W b g) : DE X W (.Compare a [.Eq] [b] pos) (eBin (fEq false) f g) := de_cmp (op_eqD hu) ok_eq ha hb (nomark _)
theorem de_ne (hu : X.A.units + 64 < cLine) (ha : DE X W a f) (hb : DE X W b g) : DE X W (.Compare a [.NotEq] [b] pos) (eBin (fEq true) f g) := de_cmp (op_neD hu) ok_ne ha hb (nomark _)
/-- in, not in -/
def seqPy : PyData → Option (List PyData)
  | .list xs => some xs
  | .tuple xs => some xs
  | _ => none
def fIn (neg : Bool) : D → D → M D := fun x y S => match toPy S x, toPy S y with
  | some a, some b => match seqPy b with
    | some xs => if (SeqAt.shaped a && SeqAt.shaped b) = true then .ok (.p (.bool (if neg then !(xs.any fun z => PyData.eqv z a) else xs.any fun z => PyData.eqv z a))) S else .bad
    | none => .bad
  | _, _ => .bad
def rInA (K : PySem.W.Frag) (neg : Bool) : R2 := fun x y H Q => ∃ d e ds, Dp K H x d ∧ Dp K H y e ∧ seqPy e = some ds ∧ SeqAt.shaped d = true ∧ SeqAt.shaped e = true ∧ Q (.bl (if neg then !(ds.any fun z => PyData.eqv z d) else ds.any fun z => PyData.eqv z d)) H
theorem op_inA (hu : X.A.units + 65 < cLine) : OpR X (compareOp .In) (rInA X.K false) := by
  intro pins s σ H x y v u Q I rx ry h
  obtain ⟨d, e, ds, hd, he, hs, sd, se, q⟩ := h
  obtain ⟨as, r1⟩ := Dp.reads I d x v hd rx
  obtain ⟨bs, r2⟩ := Dp.reads I e y u he ry
  cases e <;> cases hs
  · exact SeqAt.in_list_reads r2 r1 (SeqAt.canLay_of_shaped se) (SeqAt.canLay_of_shaped sd) (PyProof.Rows.room_in_shaped sd hu) ⟨.bl _, H, I, rfl, q⟩
  · exact SeqAt.in_tuple_reads r2 r1 (SeqAt.canLay_of_shaped se) (SeqAt.canLay_of_shaped sd) (PyProof.Rows.room_in_shaped sd hu) ⟨.bl _, H, I, rfl, q⟩
theorem op_notInA (hu : X.A.units + 65 < cLine) : OpR X (compareOp .NotIn) (rInA X.K true) := by
  intro pins s σ H x y v u Q I rx ry h
  obtain ⟨d, e, ds, hd, he, hs, sd, se, q⟩ := h
  obtain ⟨as, r1⟩ := Dp.reads I d x v hd rx
  obtain ⟨bs, r2⟩ := Dp.reads I e y u he ry
  cases e <;> cases hs
  · exact SeqAt.notIn_list_reads r2 r1 (SeqAt.canLay_of_shaped se) (SeqAt.canLay_of_shaped sd) (PyProof.Rows.room_in_shaped sd hu) ⟨.bl _, H, I, rfl, q⟩
  · exact SeqAt.notIn_tuple_reads r2 r1 (SeqAt.canLay_of_shaped se) (SeqAt.canLay_of_shaped sd) (PyProof.Rows.room_in_shaped sd hu) ⟨.bl _, H, I, rfl, q⟩
theorem ok_in {neg : Bool} : R2ok X (rInA X.K neg) (fIn neg) := by
  intro w H S x y dx dy W σ Q R vx vy P
  unfold fIn at P
  cases ta : toPy S dx with
  | none => rw [ta] at P; exact P.elim
  | some a =>
    cases tb : toPy S dy with
    | none => rw [ta, tb] at P; exact P.elim
    | some b =>
      rw [ta, tb] at P
      dsimp only at P
      cases q : seqPy b with
      | none => rw [q] at P; exact P.elim
      | some xs =>
        rw [q] at P
        dsimp only at P
        by_cases hs : (SeqAt.shaped a && SeqAt.shaped b) = true
        · rw [if_pos hs] at P
          rw [Bool.and_eq_true] at hs
          exact ⟨a, b, xs, toPy_dp R vx ta, toPy_dp R vy tb, q, hs.1, hs.2, Post.here R P (.bl _)⟩
        · rw [if_neg hs] at P
          exact P.elim
theorem de_in (hu : X.A.units + 65 < cLine) (ha : DE X W a f) (hb : DE X W b g) (hm : behindInMarks .In b = false := by rfl) : DE X W (.Compare a [.In] [b] pos) (eBin (fIn false) f g) := de_cmp (op_inA hu) ok_in ha hb hm
theorem de_notIn (hu : X.A.units + 65 < cLine) (ha : DE X W a f) (hb : DE X W b g) (hm : behindInMarks .NotIn b = false := by rfl) : DE X W (.Compare a [.NotIn] [b] pos) (eBin (fIn true) f g) := de_cmp (op_notInA hu) ok_in ha hb hm
/-- is None, is True, is False: the right side a constant; anything on the left -/
def isC (c : PyData) : D → Bool
  | .p .none => match c with | .none => true | _ => false
  | .p (.bool b) => match c with | .bool k => b == k | _ => false
  | _ => false
def fIs (neg : Bool) : D → D → M D
  | x, .p .none => M.pure (.p (.bool (if neg then !isC .none x else isC .none x)))
  | .p (.bool b), .p (.bool k) => M.pure (.p (.bool (if neg then !decide (b = k) else decide (b = k))))
  | _, _ => M.bad
def rIsA (neg : Bool) : R2 := fun x y H Q => (y = .non ∧ Q (.bl (if neg then !decide (x = .non) else decide (x = .non))) H) ∨ (∃ a b, x = .bl a ∧ y = .bl b ∧ Q (.bl (if neg then !decide (a = b) else decide (a = b))) H)
theorem op_isA : OpR X (compareOp .Is) (rIsA false) := op_isN.or op_is_bl
theorem op_isNotA : OpR X (compareOp .IsNot) (rIsA true) := op_notN.or op_isnot_bl
theorem ok_is {neg : Bool} : R2ok X (rIsA neg) (fIs neg) := by
  intro w H S x y dx dy W σ Q R vx vy P
  unfold fIs at P
  split at P
  · cases vy.cases_p
    refine .inl ⟨rfl, ?_⟩
    have e : isC .none dx = decide (x = .non) := by
      cases dx with
      | p d =>
        have vx := vx.cases_p
        cases vx <;> simp [isC]
      | o i =>
        obtain ⟨a, _, rfl⟩ := vx
        simp [isC]
      | s ns =>
        obtain ⟨a, rfl, _⟩ := vx
        simp [isC]
    rw [e] at P
    exact Post.here R P (.bl _)
  · cases vx.cases_p; cases vy.cases_p
    exact .inr ⟨_, _, rfl, rfl, Post.here R P (.bl _)⟩
  · exact P.elim
theorem de_is (ha : DE X W a f) (hb : DE X W b g) : DE X W (.Compare a [.Is] [b] pos) (eBin (fIs false) f g) := de_cmp op_isA ok_is ha hb (nomark _)
theorem de_isNot (ha : DE X W a f) (hb : DE X W b g) : DE X W (.Compare a [.IsNot] [b] pos) (eBin (fIs true) f g) := de_cmp op_isNotA ok_is ha hb (nomark _)
end
end DL
set_option Elab.async false
set_option linter.all false
set_option maxRecDepth 100000
set_option maxHeartbeats 4000000
namespace DL
open PySem PySem.Spec L2
section
variable {X : Cx} {W : WX} {e a b c : Expr} {f g k : Fe} {pos : Pos} {es rest : List Expr} {fs : Fl}

/-! ### chains -/
theorem de_chain {op op' : CmpOp} {r r' : R2} {F G : D → D → M D} (ho : OpR X (compareOp op) r) (ho' : OpR X (compareOp op') r') (hF : R2ok X r F) (hG : R2ok X r' G) (ha : DE X W a f) (hb : DE X W b g) (hc : DE X W c k)
    (hm : lastMarks [op, op'] [b, c] = false := by with_unfolding_all rfl) : DE X W (.Compare a [op, op'] [b, c] pos) (eChain F G f g k) := (pe_chain ho ho' ha hb hc hm).imp fun σ H Q ⟨w, ρ, S, R, E, P⟩ => by
  refine stepE R E P fun x w1 H1 S1 dx g1 R1 E1 V1 P1 => stepE R1 E1 P1 fun y w2 H2 S2 dy g2 R2 E2 V2 P2 => ?_
  -- the first comparison
  refine hF w2 H2 S2 x y dx dy W σ _ R2 (V1.grow g2) V2 ?_
  unfold M.bind at P2
  cases q : F dx dy S2 with
  | bad => rw [q] at P2; exact P2
  | exc x S => rw [q] at P2; exact P2
  | ok d S3 =>
    rw [q] at P2
    intro w3 H3 g3 R3 v V3
    cases d with
    | o i => exact P2.elim
    | s ns => exact P2.elim
    | p d =>
      cases d with
      | bool t =>
        cases V3.cases_p
        refine ⟨t, rfl, ?_⟩
        dsimp only [onB] at P2
        cases t with
        | true =>
          rw [if_pos rfl] at P2 ⊢
          exact stepE R3 (E2.grow g3) (P2.grow g3) fun z w4 H4 S4 dz g4 R4 E4 V4 P4 => hG w4 H4 S4 y z dy dz W σ Q R4 (V2.grow (g3.trans g4)) V4 P4
        | false =>
          rw [if_neg Bool.false_ne_true] at P2 ⊢
          exact Post.here R3 (P2.grow g3) (.bl _)
      | _ => exact P2.elim

/-! ### tests -/
def asB : D → M Bool
  | .p (.bool b) => M.pure b
  | _ => M.bad
def eT (f : Fe) : Fb := fun ρ => M.bind (f ρ) asB
theorem tB_of {σ : L2.St} {H : Hp} {Q : Bool → Hp → Prop} (h : tDT X.gm W (eT f) σ H Q) : tD X.gm W f σ H fun x H1 => ∃ c, x = .bl c ∧ Q c H1 := by
  obtain ⟨w, ρ, S, R, E, P⟩ := h
  refine stepE R E P fun x w1 H1 S1 d g1 R1 E1 V1 P1 => ?_
  cases d with
  | o i => exact P1.elim
  | s ns => exact P1.elim
  | p d =>
    cases d with
    | bool t => cases V1.cases_p; exact ⟨t, rfl, P1 w1 H1 (Grow.refl _) R1⟩
    | _ => exact P1.elim
theorem dt_val (h : DE X W e f) (he : ∀ whole, isTrue e X.env whole = (do let v ← whole; standAt e.pos; holding [v] (truthy v)) := by intro _; rfl) : DT X W e (eT f) := (pt_val h he).imp fun _ _ _ h => tB_of h
theorem dt_cmp {op : CmpOp} {r : R2} {F : D → D → M D} (ho : OpR X (compareOp op) r) (hF : R2ok X r F) (ha : DE X W a f) (hb : DE X W b g) (hm : behindInMarks op b = false) : DT X W (.Compare a [op] [b] pos) (eT (eBin F f g)) :=
  (pt_cmpR ho ha hb hm).imp fun σ H Q h => by
    have q := tB_of h
    exact tOp_of hF q
theorem dt_lt (ha : DE X W a f) (hb : DE X W b g) : DT X W (.Compare a [.Lt] [b] pos) (eT (eBin (fI0 fun i j => .bool (decide (i < j))) f g)) := dt_cmp op_lt (ok_int0 fun _ _ _ => .bl _) ha hb (nomark _)
theorem dt_le (ha : DE X W a f) (hb : DE X W b g) : DT X W (.Compare a [.LtE] [b] pos) (eT (eBin (fI0 fun i j => .bool (decide (i ≤ j))) f g)) := dt_cmp op_le (ok_int0 fun _ _ _ => .bl _) ha hb (nomark _)
theorem dt_gt (ha : DE X W a f) (hb : DE X W b g) : DT X W (.Compare a [.Gt] [b] pos) (eT (eBin (fI0 fun i j => .bool (decide (j < i))) f g)) := dt_cmp op_gt (ok_int0 fun _ _ _ => .bl _) ha hb (nomark _)
theorem dt_ge (ha : DE X W a f) (hb : DE X W b g) : DT X W (.Compare a [.GtE] [b] pos) (eT (eBin (fI0 fun i j => .bool (decide (j ≤ i))) f g)) := dt_cmp op_ge (ok_int0 fun _ _ _ => .bl _) ha hb (nomark _)
theorem dt_eq (hu : X.A.units + 64 < cLine) (ha : DE X W a f) (hb : DE X W b g) : DT X W (.Compare a [.Eq] [b] pos) (eT (eBin (fEq false) f g)) := dt_cmp (op_eqD hu) ok_eq ha hb (nomark _)
theorem dt_ne (hu : X.A.units + 64 < cLine) (ha : DE X W a f) (hb : DE X W b g) : DT X W (.Compare a [.NotEq] [b] pos) (eT (eBin (fEq true) f g)) := dt_cmp (op_neD hu) ok_ne ha hb (nomark _)
theorem dt_in (hu : X.A.units + 65 < cLine) (ha : DE X W a f) (hb : DE X W b g) (hm : behindInMarks .In b = false := by rfl) : DT X W (.Compare a [.In] [b] pos) (eT (eBin (fIn false) f g)) := dt_cmp (op_inA hu) ok_in ha hb hm
theorem dt_notIn (hu : X.A.units + 65 < cLine) (ha : DE X W a f) (hb : DE X W b g) (hm : behindInMarks .NotIn b = false := by rfl) : DT X W (.Compare a [.NotIn] [b] pos) (eT (eBin (fIn true) f g)) := dt_cmp (op_notInA hu) ok_in ha hb hm
theorem dt_is (ha : DE X W a f) (hb : DE X W b g) : DT X W (.Compare a [.Is] [b] pos) (eT (eBin (fIs false) f g)) := dt_cmp op_isA ok_is ha hb (nomark _)
theorem dt_isNot (ha : DE X W a f) (hb : DE X W b g) : DT X W (.Compare a [.IsNot] [b] pos) (eT (eBin (fIs true) f g)) := dt_cmp op_isNotA ok_is ha hb (nomark _)
abbrev DW (X : Cx) (W : WX) (e : Expr) (f : Fb) : Prop := PW X e (tDT X.gm W f)
def bAnd (f g : Fb) : Fb := fun ρ => M.bind (f ρ) fun b => if b = true then g ρ else M.pure false
def bOr (f g : Fb) : Fb := fun ρ => M.bind (f ρ) fun b => if b = true then M.pure true else g ρ
def bNot (f : Fb) : Fb := fun ρ => M.bind (f ρ) fun b => M.pure (!b)
theorem PostB.here {mg : Gm} {W : WX} {σ : L2.St} {w : Wd} {Q : Bool → Hp → Prop} {H : Hp} {S : Store} {d : Bool} (R : Rep mg w H S) (P : PostB mg W σ w Q (.ok d S)) : Q d H := P w H (Grow.refl w) R
theorem dw_and1 {fb : Fb} (ha : DT X W a fb) : DW X W (.BoolOp .And [a] pos) fb := pw_and1 ha
theorem dw_or1 {fb : Fb} (ha : DT X W a fb) : DW X W (.BoolOp .Or [a] pos) fb := pw_or1 ha
theorem dw_and {fb gb : Fb} (ha : DT X W a fb) (hb : DW X W (.BoolOp .And (b :: rest) pos) gb) : DW X W (.BoolOp .And (a :: b :: rest) pos) (bAnd fb gb) := (pw_and ha hb).imp fun σ H Q ⟨w, ρ, S, R, E, P⟩ =>
  stepT R E P fun c w1 H1 S1 g1 R1 E1 P1 => by
    cases c with
    | true => rw [if_pos rfl] at P1 ⊢; exact ⟨w1, ρ, S1, R1, E1, P1⟩
    | false => rw [if_neg Bool.false_ne_true] at P1 ⊢; exact PostB.here R1 P1
theorem dw_or {fb gb : Fb} (ha : DT X W a fb) (hb : DW X W (.BoolOp .Or (b :: rest) pos) gb) : DW X W (.BoolOp .Or (a :: b :: rest) pos) (bOr fb gb) := (pw_or ha hb).imp fun σ H Q ⟨w, ρ, S, R, E, P⟩ =>
  stepT R E P fun c w1 H1 S1 g1 R1 E1 P1 => by
    cases c with
    | false => rw [if_neg Bool.false_ne_true] at P1 ⊢; exact ⟨w1, ρ, S1, R1, E1, P1⟩
    | true => rw [if_pos rfl] at P1 ⊢; exact PostB.here R1 P1
theorem DW.dt {fb : Fb} (h : DW X W e fb) : DT X W e fb := PW.pt h
theorem dt_not {fb : Fb} (ha : DT X W a fb) : DT X W (.UnaryOp .Not a pos) (bNot fb) := (pt_not ha).imp fun σ H Q ⟨w, ρ, S, R, E, P⟩ =>
  stepT R E P fun c w1 H1 S1 g1 R1 E1 P1 => PostB.here R1 P1
/-! .. as values -/
def eAnd (f g : Fe) : Fe := fun ρ => M.bind (M.bind (f ρ) asB) fun b => if b = true then g ρ else M.pure (.p (.bool false))
def eOr (f g : Fe) : Fe := fun ρ => M.bind (M.bind (f ρ) asB) fun b => if b = true then M.pure (.p (.bool true)) else g ρ
def eNot (f : Fe) : Fe := fun ρ => M.bind (M.bind (f ρ) asB) fun b => M.pure (.p (.bool (!b)))
/-- an expression that is a bool, then -/
theorem stepB {β : Type} {mg : Gm} {σ : L2.St} {w : Wd} {H : Hp} {S : Store} {ρ : Sl} {ok : β → Wd → Hp → Prop} {k : Bool → M β} {Q : VK} (R : Rep mg w H S) (E : RepE w σ ρ) (P : PostG mg W σ w ok (M.bind (M.bind (f ρ) asB) k S))
    (q : ∀ b w1 H1 S1, Grow w w1 → Rep mg w1 H1 S1 → RepE w1 σ ρ → PostG mg W σ w1 ok (k b S1) → Q (.bl b) H1) : tD mg W f σ H Q := by
  have P' : PostG mg W σ w ok (M.bind (f ρ) (fun d => M.bind (asB d) k) S) := by
    unfold M.bind at P ⊢
    cases h : f ρ S with
    | ok d S' => rw [h] at P; exact P
    | exc x S' => rw [h] at P; exact P
    | bad => rw [h] at P; exact P
  refine stepE R E P' fun v w1 H1 S1 d g1 R1 E1 V1 P1 => ?_
  cases d with
  | o i => exact P1.elim
  | s ns => exact P1.elim
  | p d =>
    cases d with
    | bool t => cases V1.cases_p; exact q t w1 H1 S1 g1 R1 E1 P1
    | _ => exact P1.elim
theorem de_one {op} (h : DE X W a f) : DE X W (.BoolOp op [a] pos) f := pe_one h
theorem de_and (ha : DE X W a f) (hb : DE X W (.BoolOp .And (b :: rest) pos) g) : DE X W (.BoolOp .And (a :: b :: rest) pos) (eAnd f g) := (pe_and ha hb).imp fun σ H Q ⟨w, ρ, S, R, E, P⟩ =>
  stepB R E P fun c w1 H1 S1 g1 R1 E1 P1 => ⟨c, rfl, by
    cases c with
    | true => rw [if_pos rfl] at P1 ⊢; exact ⟨w1, ρ, S1, R1, E1, P1⟩
    | false => rw [if_neg Bool.false_ne_true] at P1 ⊢; exact Post.here R1 P1 (.bl _)⟩
theorem de_or (ha : DE X W a f) (hb : DE X W (.BoolOp .Or (b :: rest) pos) g) : DE X W (.BoolOp .Or (a :: b :: rest) pos) (eOr f g) := (pe_or ha hb).imp fun σ H Q ⟨w, ρ, S, R, E, P⟩ =>
  stepB R E P fun c w1 H1 S1 g1 R1 E1 P1 => ⟨c, rfl, by
    cases c with
    | false => rw [if_neg Bool.false_ne_true] at P1 ⊢; exact ⟨w1, ρ, S1, R1, E1, P1⟩
    | true => rw [if_pos rfl] at P1 ⊢; exact Post.here R1 P1 (.bl _)⟩
theorem de_not (ha : DE X W a f) : DE X W (.UnaryOp .Not a pos) (eNot f) := (pe_not ha).imp fun σ H Q ⟨w, ρ, S, R, E, P⟩ =>
  stepB R E P fun c w1 H1 S1 g1 R1 E1 P1 => ⟨c, rfl, Post.here R1 P1 (.bl _)⟩
def eIf (t : Fb) (f g : Fe) : Fe := fun ρ => M.bind (t ρ) fun b => if b = true then f ρ else g ρ
theorem de_if {t : Fb} (hc : DT X W c t) (ha : DE X W a f) (hb : DE X W b g) : DE X W (.IfExp c a b pos) (eIf t f g) := (pe_ifExp hc ha hb).imp fun σ H Q ⟨w, ρ, S, R, E, P⟩ =>
  stepT R E P fun c w1 H1 S1 g1 R1 E1 P1 => by
    cases c with
    | true => rw [if_pos rfl] at P1 ⊢; exact ⟨w1, ρ, S1, R1, E1, P1⟩
    | false => rw [if_neg Bool.false_ne_true] at P1 ⊢; exact ⟨w1, ρ, S1, R1, E1, P1⟩

/-! ### displays -/
def aNil : Fl := fun _ => M.pure []
def aCons (f : Fe) (g : Fl) : Fl := fun ρ => M.bind (f ρ) fun x => M.bind (g ρ) fun xs => M.pure (x :: xs)
theorem da_nil : DA X W [] aNil := pa_nil.imp fun σ H Q ⟨w, ρ, S, R, E, P⟩ => P w H (Grow.refl w) R [] .nil
theorem da_cons (ha : DE X W e f) (hr : DA X W es fs) (hs : starEach (e :: es) X.env = (false, eval e X.env) :: starEach es X.env := by rfl) : DA X W (e :: es) (aCons f fs) := (pa_cons ha hr hs).imp fun σ H Q ⟨w, ρ, S, R, E, P⟩ =>
  stepE R E P fun v w1 H1 S1 d g1 R1 E1 V1 P1 => stepA R1 E1 P1 fun vs w2 H2 S2 ds g2 R2 E2 V2 P2 => P2 w2 H2 (Grow.refl _) R2 _ (.cons (V1.grow g2) V2)
def kTup (ds : List D) : M D := fun S => match asPs ds with
  | some es => if es.length ≤ sizeLine then .ok (.p (.tuple es)) S else .bad
  | none => .bad
def kLst (ds : List D) : M D := fun S => match asPs ds with
  | some es => if es.length ≤ sizeLine then .ok (.p (.list es)) S else .bad
  | none => .bad
def kCell (ds : List D) : M D := fun S => if ds.length ≤ sizeLine then .ok (.o S.length) (S ++ [.lst ds]) else .bad
def eTup (g : Fl) : Fe := fun ρ => M.bind (g ρ) kTup
def eLst (g : Fl) : Fe := fun ρ => M.bind (g ρ) kLst
/-- a list that will be changed -/
def eCell (g : Fl) : Fe := fun ρ => M.bind (g ρ) kCell
theorem asPs_len {ds : List D} {es : List PyData} (h : asPs ds = some es) : es.length = ds.length := by
  induction ds generalizing es with
  | nil => cases h; rfl
  | cons d ds ih =>
    cases d with
    | o i => cases h
    | s ns => cases h
    | p d =>
      unfold asPs at h
      cases q : asPs ds with
      | none => rw [q] at h; cases h
      | some fs => rw [q] at h; cases h; simp [ih q]
theorem de_tup {x1} (h : DA X W es fs) : DE X W (.Tuple es x1 pos) (eTup fs) := (pe_tup h).imp fun σ H Q ⟨w, ρ, S, R, E, P⟩ =>
  stepA R E P fun vs w1 H1 S1 ds g1 R1 E1 V1 P1 => by
    unfold kTup at P1
    cases q : asPs ds with
    | none => rw [q] at P1; exact P1.elim
    | some ps =>
      rw [q] at P1
      dsimp only at P1
      split at P1
      · rename_i hl
        have r := asPs_rep q V1
        exact ⟨by rw [r.length]; exact hl, fun p hp => Post.newTup R1 P1 r hp⟩
      · exact P1.elim
theorem de_lst (h : DA X W es fs) : DE X W (.List es pos) (eLst fs) := (pe_lst h).imp fun σ H Q ⟨w, ρ, S, R, E, P⟩ =>
  stepA R E P fun vs w1 H1 S1 ds g1 R1 E1 V1 P1 => by
    unfold kLst at P1
    cases q : asPs ds with
    | none => rw [q] at P1; exact P1.elim
    | some ps =>
      rw [q] at P1
      dsimp only at P1
      split at P1
      · rename_i hl
        have r := asPs_rep q V1
        exact ⟨by rw [r.length]; exact hl, fun p hp => Post.newLst R1 P1 r hp⟩
      · exact P1.elim
theorem de_cell (h : DA X W es fs) : DE X W (.List es pos) (eCell fs) := (pe_lst h).imp fun σ H Q ⟨w, ρ, S, R, E, P⟩ =>
  stepA R E P fun vs w1 H1 S1 ds g1 R1 E1 V1 P1 => by
    unfold kCell at P1
    split at P1
    · rename_i hl
      refine ⟨by rw [V1.length]; exact hl, fun p hp => ?_⟩
      obtain ⟨g, R'⟩ := R1.newC (o := .lst vs) (c := .lst ds) hp (RepVs.grow (w := w1) (w' := w1.addM p) ⟨rfl, rfl, Same.refl _, [p], rfl⟩ V1)
      exact P1 _ _ g R' _ ⟨p, by show (w1.m ++ [p])[S1.length]? = some p; rw [← R1.len]; simp, rfl⟩
    · exact P1.elim
end
end DL
set_option Elab.async false
set_option linter.all false
set_option maxRecDepth 100000
set_option maxHeartbeats 4000000
namespace DL
open PySem PySem.Spec L2

theorem RepVs.get {w : Wd} : ∀ {vs : List V} {ds : List D} {i : Nat} {d : D}, RepVs w vs ds → ds[i]? = some d → ∃ v, vs[i]? = some v ∧ RepV w v d
  | _, _, _, _, .nil, e => by simp at e
  | _, _, 0, _, .cons r _, e => by simp at e; subst e; exact ⟨_, rfl, r⟩
  | _, _, i + 1, d, .cons _ t, e => by
    obtain ⟨u, h1, h2⟩ := RepVs.get (i := i) (d := d) t (by simpa using e)
    exact ⟨u, by simpa using h1, h2⟩
theorem RepVs.get' {w : Wd} : ∀ {vs : List V} {ds : List D} {i : Nat} {v : V}, RepVs w vs ds → vs[i]? = some v → ∃ d, ds[i]? = some d ∧ RepV w v d
  | _, _, _, _, .nil, e => by simp at e
  | _, _, 0, _, .cons r _, e => by simp at e; subst e; exact ⟨_, rfl, r⟩
  | _, _, i + 1, d, .cons _ t, e => by
    obtain ⟨u, h1, h2⟩ := RepVs.get' (i := i) (v := d) t (by simpa using e)
    exact ⟨u, by simpa using h1, h2⟩
theorem RepVs.length {w : Wd} {vs : List V} {ds : List D} (h : RepVs w vs ds) : vs.length = ds.length := Paired.length h
theorem RepVs.append {w : Wd} : ∀ {vs us : List V} {ds es : List D}, RepVs w vs ds → RepVs w us es → RepVs w (vs ++ us) (ds ++ es)
  | _, _, _, _, .nil, s => s
  | _, _, _, _, .cons r t, s => .cons r (RepVs.append t s)
theorem RepVs.take {w : Wd} : ∀ {vs : List V} {ds : List D} (n : Nat), RepVs w vs ds → RepVs w (vs.take n) (ds.take n)
  | _, _, 0, _ => .nil
  | _, _, _ + 1, .nil => .nil
  | _, _, n + 1, .cons r t => .cons r (RepVs.take n t)
theorem RepVs.drop {w : Wd} : ∀ {vs : List V} {ds : List D} (n : Nat), RepVs w vs ds → RepVs w (vs.drop n) (ds.drop n)
  | _, _, 0, r => r
  | _, _, _ + 1, .nil => .nil
  | _, _, n + 1, .cons _ t => RepVs.drop n t
theorem RepVs.set {w : Wd} {v : V} {d : D} (r : RepV w v d) : ∀ {vs : List V} {ds : List D} (i : Nat), RepVs w vs ds → RepVs w (vs.set i v) (ds.set i d)
  | _, _, _, .nil => .nil
  | _, _, 0, .cons _ t => .cons r t
  | _, _, i + 1, .cons q t => .cons q (RepVs.set r i t)
theorem RepVs.dropLast {w : Wd} {vs : List V} {ds : List D} (h : RepVs w vs ds) : RepVs w vs.dropLast ds.dropLast := by
  rw [List.dropLast_eq_take, List.dropLast_eq_take, h.length]
  exact h.take _
theorem RepVs.at_ {w : Wd} {vs : List V} {ds : List D} (h : RepVs w vs ds) {i : Int} {d : D} (e : atI ds i = some d) : ∃ v, atI vs i = some v ∧ RepV w v d := by
  unfold atI at e ⊢
  rw [h.length]
  obtain ⟨j, h1, h2⟩ := Option.bind_eq_some_iff.mp e
  obtain ⟨v, h3, h4⟩ := h.get h2
  exact ⟨v, by rw [h1]; exact h3, h4⟩
theorem RepPs.at_ {Z : Hp} {vs : List V} {ds : List PyData} (h : RepPs Z vs ds) {i : Int} {d : PyData} (e : atI ds i = some d) : ∃ v, atI vs i = some v ∧ RepP Z v d := by
  unfold atI at e ⊢
  rw [h.length]
  obtain ⟨j, h1, h2⟩ := Option.bind_eq_some_iff.mp e
  obtain ⟨v, h3, h4⟩ := h.get h2
  exact ⟨v, by rw [h1]; exact h3, h4⟩
def cutL {α : Type} (xs : List α) (lo hi : Option Int) : List α := (xs.drop (HT.sIx xs.length 0 lo)).take (HT.sIx xs.length xs.length hi - HT.sIx xs.length 0 lo)
section
variable {X : Cx} {W : WX} {e a b c : Expr} {f g k : Fe} {pos : Pos} {es rest : List Expr} {fs : Fl}
/-! ### items, slices -/
def ofO {α : Type} (S : Store) : Option α → R α
  | some a => .ok a S
  | none => .bad
def fIx : D → D → M D
  | .p (.tuple ds), .p (.int i) => fun S => ofO S ((atI ds i).map .p)
  | .p (.str z), .p (.int i) => fun S => if z.length ≤ sizeLine then ofO S ((atI z.cps.toList i).map fun c => .p (.str ⟨#[c]⟩)) else .bad
  | x, .p (.int i) => fun S => ofO S ((items S x).bind fun ds => atI ds i)
  | _, _ => M.bad
theorem ok_ix : R2ok X (rIx X.K) fIx := by
  intro w H S x y dx dy W σ Q R vx vy P
  have lst : ∀ (i : Int), Post X.gm W σ w Q (ofO S ((items S dx).bind fun ds => atI ds i)) → rIxL X.K x (.int i) H Q := fun i P => by
    cases q : items S dx with
    | none => rw [q] at P; exact P.elim
    | some ds =>
      rw [q] at P
      dsimp only [Option.bind] at P
      cases q2 : atI ds i with
      | none => rw [q2] at P; exact P.elim
      | some d =>
        rw [q2] at P
        obtain ⟨a, xs, rfl, hs, r⟩ := items_sq R vx q
        obtain ⟨v, h1, h2⟩ := r.at_ q2
        exact ⟨_, _, _, v, rfl, rfl, hs, h1, Post.here R P h2⟩
  cases dy with
  | o j => cases dx with
    | o i => exact P.elim
    | s ns => exact P.elim
    | p d => cases d <;> exact P.elim
  | s j => cases dx with
    | o i => exact P.elim
    | s ns => exact P.elim
    | p d => cases d <;> exact P.elim
  | p d =>
    cases d with
    | int i =>
      cases vy.cases_p
      cases dx with
      | o j => exact .inl (lst i P)
      | s ns => exact .inl (lst i P)
      | p d =>
        cases d with
        | tuple ds =>
          have vx := vx.cases_p
          cases vx with | tup hx rx =>
          replace P : Post X.gm W σ w Q (ofO S ((atI ds i).map .p)) := P
          cases q : atI ds i with
          | none => rw [q] at P; exact P.elim
          | some d =>
            rw [q] at P
            obtain ⟨v, h1, h2⟩ := rx.at_ q
            exact .inr (.inl ⟨_, _, _, v, rfl, rfl, SqT.of (R.same _ _ hx), h1, Post.here R P h2⟩)
        | str z =>
          cases vx.cases_p
          replace P : Post X.gm W σ w Q (if z.length ≤ sizeLine then ofO S ((atI z.cps.toList i).map fun c => .p (.str ⟨#[c]⟩)) else .bad) := P
          by_cases hl : z.length ≤ sizeLine
          · rw [if_pos hl] at P
            cases q : atI z.cps.toList i with
            | none => rw [q] at P; exact P.elim
            | some d =>
              rw [q] at P
              exact .inr (.inr ⟨_, _, d, rfl, rfl, hl, q, Post.here R P (.str _)⟩)
          · rw [if_neg hl] at P
            exact P.elim
        | none => exact .inl (lst i P)
        | bool _ => exact .inl (lst i P)
        | int _ => exact .inl (lst i P)
        | list _ => exact .inl (lst i P)
        | dict _ => exact .inl (lst i P)
    | _ => cases dx with
      | o i => exact P.elim
      | s ns => exact P.elim
      | p d => cases d <;> exact P.elim
theorem de_item (ha : DE X W a f) (hb : DE X W b g) (hs : PlainIx b := by exact fun _ _ => rfl) : DE X W (.Subscript a b pos) (eBin fIx f g) := de_ix ix_seq ok_ix ha hb hs
abbrev Fo := Sl → M (Option Int)
def tDO (mg : Gm) (W : WX) (f : Fo) : TO := fun σ H Q => ∃ w ρ S, Rep mg w H S ∧ RepE w σ ρ ∧ PostG mg W σ w (fun o _ H' => Q o H') (f ρ S)
abbrev DO (X : Cx) (W : WX) (e : Option Expr) (f : Fo) : Prop := PO X e (tDO X.gm W f)
def oNone : Fo := fun _ => M.pure none
def asI : D → M (Option Int)
  | .p (.int i) => M.pure (some i)
  | _ => M.bad
def oSome (f : Fe) : Fo := fun ρ => M.bind (f ρ) asI
theorem do_none : DO X W none oNone := ⟨fun pins s σ H Q I ⟨w, ρ, S, R, E, P⟩ => po_none.run pins s σ H Q I (P w H (Grow.refl w) R)⟩
theorem do_some (h : DE X W e f) : DO X W (some e) (oSome f) := ⟨fun pins s σ H Q I ⟨w, ρ, S, R, E, P⟩ => (po_some h).run pins s σ H Q I (by
  refine stepE R E P fun v w1 H1 S1 d g1 R1 E1 V1 P1 => ?_
  unfold asI at P1
  split at P1
  · cases V1.cases_p
    exact ⟨_, rfl, P1 w1 H1 (Grow.refl _) R1⟩
  · exact P1.elim)⟩
theorem stepO {β : Type} {mg : Gm} {σ : L2.St} {w : Wd} {H : Hp} {S : Store} {ρ : Sl} {ok : β → Wd → Hp → Prop} {f : Fo} {k : Option Int → M β} {Q : Option Int → Hp → Prop} (R : Rep mg w H S) (E : RepE w σ ρ) (P : PostG mg W σ w ok (M.bind (f ρ) k S))
    (q : ∀ b w1 H1 S1, Grow w w1 → Rep mg w1 H1 S1 → RepE w1 σ ρ → PostG mg W σ w1 ok (k b S1) → Q b H1) : tDO mg W f σ H Q := by
  refine ⟨w, ρ, S, R, E, ?_⟩
  unfold M.bind at P
  cases h : f ρ S with
  | ok d S' => rw [h] at P; exact fun w' H' g R' => q d w' H' S' g R' (E.grow g) (P.grow g)
  | exc x S' => rw [h] at P; exact P
  | bad => rw [h] at P; exact P
def fSl (lo hi : Option Int) : D → M D
  | .p (.tuple ds) => M.pure (.p (.tuple (cutL ds lo hi)))
  | .p (.str z) => fun S => if z.length ≤ sizeLine then .ok (.p (.str (cutS z lo hi))) S else .bad
  | x => fun S => ofO S ((items S x).bind fun ds => (asPs (cutL ds lo hi)).map fun es => .p (.list es))
def eSl (f : Fe) (fo go : Fo) : Fe := fun ρ => M.bind (f ρ) fun x => M.bind (fo ρ) fun lo => M.bind (go ρ) fun hi => fSl lo hi x
theorem cut_whole {α : Type} {xs : List α} {lo hi : Option Int} (h : HT.sIx xs.length 0 lo = 0 ∧ HT.sIx xs.length xs.length hi = xs.length) : cutL xs lo hi = xs := by
  unfold cutL
  rw [h.1, h.2]
  simp
theorem RepPs.cut {Z : Hp} {vs : List V} {ds : List PyData} (h : RepPs Z vs ds) (lo hi : Option Int) : RepPs Z (cutV vs lo hi) (cutL ds lo hi) := by
  unfold cutV cutL
  rw [h.length]
  exact (h.drop _).take _
theorem RepVs.cut {w : Wd} {vs : List V} {ds : List D} (h : RepVs w vs ds) (lo hi : Option Int) : RepVs w (cutV vs lo hi) (cutL ds lo hi) := by
  unfold cutV cutL
  rw [h.length]
  exact RepVs.take _ (RepVs.drop _ h)
def rSlD (K : PySem.W.Frag) : V → Option Int → Option Int → Hp → VK → Prop := fun x lo hi H Q => rSlA K x lo hi H Q ∨ (∃ z, x = .str z ∧ z.length ≤ sizeLine ∧ Q (.str (cutS z lo hi)) H) ∨ rSlL K x lo hi H Q
theorem sl_D : SlR X (rSlD X.K) := sl_tupA.or (sl_str.or sl_list)
theorem de_slice {lo hi : Option Expr} {fo go : Fo} {p2 : Pos} (he : DE X W e f) (hl : DO X W lo fo) (hu : DO X W hi go) : DE X W (.Subscript e (.Slice lo hi none p2) pos) (eSl f fo go) := (pe_slice sl_D he hl hu).imp fun σ H Q ⟨w, ρ, S, R, E, P⟩ => by
  refine stepE R E P fun x w1 H1 S1 dx g1 R1 E1 V1 P1 => stepO R1 E1 P1 fun lo w2 H2 S2 g2 R2 E2 P2 => stepO R2 E2 P2 fun hi w3 H3 S3 g3 R3 E3 P3 => ?_
  have V3 := V1.grow (g2.trans g3)
  have lst : Post X.gm W σ w3 Q (ofO S3 ((items S3 dx).bind fun ds => (asPs (cutL ds lo hi)).map fun es => .p (.list es))) → rSlL X.K x lo hi H3 Q := fun P3 => by
    cases q : items S3 dx with
    | none => rw [q] at P3; exact P3.elim
    | some ds =>
      rw [q] at P3
      dsimp only [Option.bind] at P3
      cases q2 : asPs (cutL ds lo hi) with
      | none => rw [q2] at P3; exact P3.elim
      | some es =>
        rw [q2] at P3
        obtain ⟨a, xs, rfl, hs, r⟩ := items_sq R3 V3 q
        exact ⟨a, xs, rfl, hs, fun p hp => Post.newLst R3 P3 (asPs_rep q2 (r.cut lo hi)) hp⟩
  cases dx with
  | o j => exact .inr (.inr (lst P3))
  | s ns => exact .inr (.inr (lst P3))
  | p d =>
    cases d with
    | tuple ds =>
      have V3 := V3.cases_p
      cases V3 with | tup hx rx =>
      refine .inl ⟨_, _, rfl, SqT.of (R3.same _ _ hx), fun hw => ?_, fun _ p hp => Post.newTup R3 P3 (rx.cut lo hi) hp⟩
      rw [rx.length] at hw
      replace P3 : Post X.gm W σ w3 Q (.ok (.p (.tuple (cutL ds lo hi))) S3) := P3
      rw [cut_whole hw] at P3
      exact Post.here R3 P3 (.tup hx rx)
    | str z =>
      cases V3.cases_p
      replace P3 : Post X.gm W σ w3 Q (if z.length ≤ sizeLine then .ok (.p (.str (cutS z lo hi))) S3 else .bad) := P3
      by_cases hl : z.length ≤ sizeLine
      · rw [if_pos hl] at P3
        exact .inr (.inl ⟨_, rfl, hl, Post.here R3 P3 (.str _)⟩)
      · rw [if_neg hl] at P3
        exact P3.elim
    | none => exact .inr (.inr (lst P3))
    | bool _ => exact .inr (.inr (lst P3))
    | int _ => exact .inr (.inr (lst P3))
    | list _ => exact .inr (.inr (lst P3))
    | dict _ => exact .inr (.inr (lst P3))
end
end DL
set_option Elab.async false
set_option linter.all false
set_option maxRecDepth 100000
set_option maxHeartbeats 4000000
namespace DL
open PySem PySem.Spec L2
section
variable {X : Cx} {W : WX} {e a b c : Expr} {f g k : Fe} {pos : Pos} {es rest : List Expr} {fs : Fl}
/-! ### built-in calls -/
def C1ok (X : Cx) (r : List V → Hp → VK → Prop) (F : List D → M D) : Prop := ∀ (w : Wd) (H : Hp) (S : Store) (xs : List V) (ds : List D) (W : WX) (σ : L2.St) (Q : VK), Rep X.gm w H S → RepVs w xs ds → Post X.gm W σ w Q (F ds S) → r xs H Q
def eCB (F : List D → M D) (g : Fl) : Fe := fun ρ => M.bind (g ρ) F
theorem de_callB {id : String} {x : Str} {p : Pos} {r : List V → Hp → VK → Prop} {F : List D → M D} (hc : CallR X (.builtin id) r) (hF : C1ok X r F) (hg : Gl X x) (hm : X.mg x = none) (hv : bootBuiltins x = some (.builtin id)) (ha : DA X W (e :: es) fs)
    (hn : x ≠ "__name__" := by decide) (hdb : (x == ("__debug__" : Str)) = false := by decide) (he : starEach (e :: es) X.env = (false, eval e X.env) :: starEach es X.env := by rfl) (hpl : (backTo pos (starEach es X.env)).any (·.1) = false := by rfl) :
    DE X W (.Call (.Name x p) (e :: es) [] pos) (eCB F fs) := (pe_callB hc hg hm hv ha hn hdb he hpl).imp fun σ H Q ⟨w, ρ, S, R, E, P⟩ =>
  stepA R E P fun vs w1 H1 S1 ds g1 R1 E1 V1 P1 => hF w1 H1 S1 vs ds W σ Q R1 V1 P1
theorem de_callTy {T : String} {x : Str} {p : Pos} {r : List V → Hp → VK → Prop} {F : List D → M D} (hc : CallR X (.type T) r) (hF : C1ok X r F) (hg : Gl X x) (hm : X.mg x = none) (hv : bootBuiltins x = some (.type T)) (ha : DA X W (e :: es) fs)
    (hn : x ≠ "__name__" := by decide) (hdb : (x == ("__debug__" : Str)) = false := by decide) (he : starEach (e :: es) X.env = (false, eval e X.env) :: starEach es X.env := by rfl) (hpl : (backTo pos (starEach es X.env)).any (·.1) = false := by rfl) :
    DE X W (.Call (.Name x p) (e :: es) [] pos) (eCB F fs) := (pe_callTy hc hg hm hv ha hn hdb he hpl).imp fun σ H Q ⟨w, ρ, S, R, E, P⟩ =>
  stepA R E P fun vs w1 H1 S1 ds g1 R1 E1 V1 P1 => hF w1 H1 S1 vs ds W σ Q R1 V1 P1
theorem RepVs.one {w : Wd} {xs : List V} {d : D} (h : RepVs w xs [d]) : ∃ x, xs = [x] ∧ RepV w x d := by
  cases h with | cons h1 h2 => cases h2; exact ⟨_, rfl, h1⟩
theorem RepVs.two {w : Wd} {xs : List V} {d e : D} (h : RepVs w xs [d, e]) : ∃ x y, xs = [x, y] ∧ RepV w x d ∧ RepV w y e := by
  cases h with | cons h1 h2 => cases h2 with | cons h2 h3 => cases h3; exact ⟨_, _, rfl, h1, h2⟩
/-- a one-argument function of values -/
def on1 (F : D → M D) : List D → M D
  | [d] => F d
  | _ => M.bad
theorem ok_on1 {r : List V → Hp → VK → Prop} {F : D → M D} (h : ∀ (w : Wd) (H : Hp) (S : Store) (x : V) (d : D) (W : WX) (σ : L2.St) (Q : VK), Rep X.gm w H S → RepV w x d → Post X.gm W σ w Q (F d S) → r [x] H Q) : C1ok X r (on1 F) := by
  intro w H S xs ds W σ Q R V P
  unfold on1 at P
  split at P
  · obtain ⟨x, rfl, v⟩ := RepVs.one V
    exact h w H S x _ W σ Q R v P
  · exact P.elim
def fLen : D → M D
  | .p (.str z) => fun S => if z.length ≤ sizeLine then .ok (.p (.int z.length)) S else .bad
  | .p (.tuple ds) => M.pure (.p (.int ds.length))
  | x => fun S => ofO S ((items S x).map fun ds => .p (.int ds.length))
theorem ok_len : C1ok X (fun xs H Q => ∃ x n, xs = [x] ∧ LenV X.K x H n ∧ Q (.int n) H) (on1 fLen) := ok_on1 fun w H S x d W σ Q R v P => by
  unfold fLen at P
  split at P
  · cases v.cases_p
    split at P
    · rename_i hl
      exact ⟨_, _, rfl, ⟨hl, rfl⟩, Post.here R P (.int _)⟩
    · exact P.elim
  · have v := v.cases_p
    cases v with | tup hx rx =>
    refine ⟨_, _, rfl, .inr ⟨_, SqT.of (R.same _ _ hx), rfl⟩, ?_⟩
    rw [rx.length]
    exact Post.here R P (.int _)
  · dsimp only at P
    cases q : items S d with
    | none => rw [q] at P; exact P.elim
    | some ds =>
      rw [q] at P
      obtain ⟨a, xs, rfl, hs, r⟩ := items_sq R v q
      refine ⟨_, _, rfl, .inl ⟨xs, hs, rfl⟩, ?_⟩
      rw [r.length]
      exact Post.here R P (.int _)
theorem de_len {p : Pos} (hg : Gl X "len") (hm : X.mg "len" = none) (ha : DE X W e f) (he : starEach [e] X.env = (false, eval e X.env) :: starEach [] X.env := by rfl) (hpl : (backTo pos (starEach [] X.env)).any (·.1) = false := by rfl) :
    DE X W (.Call (.Name "len" p) [e] [] pos) (eCB (on1 fLen) (aCons f aNil)) := de_callB call_len ok_len hg hm PySem.boot_len (da_cons ha da_nil he) (by decide) (by decide) he hpl
def fInt : D → M D
  | .p (.int i) => M.pure (.p (.int i))
  | .p (.bool b) => M.pure (.p (.int (if b then 1 else 0)))
  | _ => M.bad
theorem ok_int1 : C1ok X (fun xs H Q => (∃ i, xs = [.int i] ∧ Q (.int i) H) ∨ ∃ k, xs = [.bl k] ∧ Q (.int (if k then 1 else 0)) H) (on1 fInt) := ok_on1 fun w H S x d W σ Q R v P => by
  unfold fInt at P
  split at P
  · cases v.cases_p; exact .inl ⟨_, rfl, Post.here R P (.int _)⟩
  · cases v.cases_p; exact .inr ⟨_, rfl, Post.here R P (.int _)⟩
  · exact P.elim
theorem de_toInt {p : Pos} (hg : Gl X "int") (hm : X.mg "int" = none) (ha : DE X W e f) (he : starEach [e] X.env = (false, eval e X.env) :: starEach [] X.env := by rfl) (hpl : (backTo pos (starEach [] X.env)).any (·.1) = false := by rfl) :
    DE X W (.Call (.Name "int" p) [e] [] pos) (eCB (on1 fInt) (aCons f aNil)) := de_callTy call_int1 ok_int1 hg hm PyProof.Rows.boot_int (da_cons ha da_nil he) (by decide) (by decide) he hpl
def fAbs : D → M D
  | .p (.int i) => M.pure (.p (.int (if i < 0 then -i else i)))
  | _ => M.bad
theorem ok_abs : C1ok X (fun xs H Q => ∃ i, xs = [.int i] ∧ Q (.int (if i < 0 then -i else i)) H) (on1 fAbs) := ok_on1 fun w H S x d W σ Q R v P => by
  unfold fAbs at P
  split at P
  · cases v.cases_p; exact ⟨_, rfl, Post.here R P (.int _)⟩
  · exact P.elim
theorem de_abs {p : Pos} (hg : Gl X "abs") (hm : X.mg "abs" = none) (ha : DE X W e f) (he : starEach [e] X.env = (false, eval e X.env) :: starEach [] X.env := by rfl) (hpl : (backTo pos (starEach [] X.env)).any (·.1) = false := by rfl) :
    DE X W (.Call (.Name "abs" p) [e] [] pos) (eCB (on1 fAbs) (aCons f aNil)) := de_callB call_abs ok_abs hg hm PyProof.Rows.boot_abs (da_cons ha da_nil he) (by decide) (by decide) he hpl
def fStr : D → M D
  | .p (.int i) => fun S => if i.natAbs.log2 < 1920 then .ok (.p (.str (toString i))) S else .bad
  | _ => M.bad
theorem ok_str : C1ok X (fun xs H Q => ∃ i, xs = [.int i] ∧ i.natAbs.log2 < 1920 ∧ Q (.str (toString i)) H) (on1 fStr) := ok_on1 fun w H S x d W σ Q R v P => by
  unfold fStr at P
  split at P
  · cases v.cases_p
    split at P
    · rename_i hl; exact ⟨_, rfl, hl, Post.here R P (.str _)⟩
    · exact P.elim
  · exact P.elim
theorem de_toStr {p : Pos} (hg : Gl X "str") (hm : X.mg "str" = none) (ha : DE X W e f) (he : starEach [e] X.env = (false, eval e X.env) :: starEach [] X.env := by rfl) (hpl : (backTo pos (starEach [] X.env)).any (·.1) = false := by rfl) :
    DE X W (.Call (.Name "str" p) [e] [] pos) (eCB (on1 fStr) (aCons f aNil)) := de_callTy call_str_int ok_str hg hm PyProof.Rows.boot_str (da_cons ha da_nil he) (by decide) (by decide) he hpl
def fTuple : D → M D
  | .p (.tuple ds) => M.pure (.p (.tuple ds))
  | x => fun S => ofO S ((items S x).bind fun ds => (asPs ds).map fun es => .p (.tuple es))
theorem ok_tuple : C1ok X (fun xs H Q => ∃ p ys, xs = [.ref p] ∧ ((SqL X.K H p ys ∧ ∀ l, H l = none → Q (.ref l) (upd H l (.tup ys))) ∨ (SqT X.K H p ys ∧ Q (.ref p) H))) (on1 fTuple) := ok_on1 fun w H S x d W σ Q R v P => by
  unfold fTuple at P
  split at P
  · have v := v.cases_p
    cases v with | tup hx rx =>
    exact ⟨_, _, rfl, .inr ⟨SqT.of (R.same _ _ hx), Post.here R P (.tup hx rx)⟩⟩
  · dsimp only at P
    cases q : items S d with
    | none => rw [q] at P; exact P.elim
    | some ds =>
      rw [q] at P
      dsimp only [Option.bind] at P
      cases q2 : asPs ds with
      | none => rw [q2] at P; exact P.elim
      | some es =>
        rw [q2] at P
        obtain ⟨a, xs, rfl, hs, r⟩ := items_sq R v q
        exact ⟨a, xs, rfl, .inl ⟨hs, fun p hp => Post.newTup R P (asPs_rep q2 r) hp⟩⟩
theorem de_tuple {p : Pos} (hg : Gl X "tuple") (hm : X.mg "tuple" = none) (ha : DE X W e f) (he : starEach [e] X.env = (false, eval e X.env) :: starEach [] X.env := by rfl) (hpl : (backTo pos (starEach [] X.env)).any (·.1) = false := by rfl) :
    DE X W (.Call (.Name "tuple" p) [e] [] pos) (eCB (on1 fTuple) (aCons f aNil)) := de_callTy call_tuple_of ok_tuple hg hm PyProof.Rows.boot_tuple (da_cons ha da_nil he) (by decide) (by decide) he hpl
def fList : D → M D
  | .p (.tuple ds) => M.pure (.p (.list ds))
  | x => fun S => ofO S ((items S x).bind fun ds => (asPs ds).map fun es => .p (.list es))
theorem ok_list : C1ok X (fun xs H Q => ∃ p ys, xs = [.ref p] ∧ (SqL X.K H p ys ∨ SqT X.K H p ys) ∧ ∀ l, H l = none → Q (.ref l) (upd H l (.lst ys))) (on1 fList) := ok_on1 fun w H S x d W σ Q R v P => by
  unfold fList at P
  split at P
  · have v := v.cases_p
    cases v with | tup hx rx =>
    exact ⟨_, _, rfl, .inr (SqT.of (R.same _ _ hx)), fun p hp => Post.newLst R P rx hp⟩
  · dsimp only at P
    cases q : items S d with
    | none => rw [q] at P; exact P.elim
    | some ds =>
      rw [q] at P
      dsimp only [Option.bind] at P
      cases q2 : asPs ds with
      | none => rw [q2] at P; exact P.elim
      | some es =>
        rw [q2] at P
        obtain ⟨a, xs, rfl, hs, r⟩ := items_sq R v q
        exact ⟨a, xs, rfl, .inl hs, fun p hp => Post.newLst R P (asPs_rep q2 r) hp⟩
theorem de_list {p : Pos} (hg : Gl X "list") (hm : X.mg "list" = none) (ha : DE X W e f) (he : starEach [e] X.env = (false, eval e X.env) :: starEach [] X.env := by rfl) (hpl : (backTo pos (starEach [] X.env)).any (·.1) = false := by rfl) :
    DE X W (.Call (.Name "list" p) [e] [] pos) (eCB (on1 fList) (aCons f aNil)) := de_callTy call_list_of ok_list hg hm PyProof.Rows.boot_list (da_cons ha da_nil he) (by decide) (by decide) he hpl
/-! sums, tests over a list of data -/
def asInts : List D → Option (List Int)
  | [] => some []
  | .p (.int i) :: r => (asInts r).map (i :: ·)
  | _ :: _ => none
def asBools : List D → Option (List Bool)
  | [] => some []
  | .p (.bool i) :: r => (asBools r).map (i :: ·)
  | _ :: _ => none
theorem asInts_rep {w : Wd} : ∀ {ds : List D} {ns : List Int} {vs : List V}, asInts ds = some ns → RepVs w vs ds → vs = ns.map V.int
  | [], ns, vs, h, r => by cases h; cases r; rfl
  | .o _ :: _, _, _, h, _ => by cases h
  | .p d :: ds, ns, vs, h, r => by
    cases d with
    | int i =>
      obtain ⟨ms, q, e⟩ := Option.map_eq_some_iff.mp (show (asInts ds).map (i :: ·) = some ns from h)
      subst e
      cases r with
      | cons r1 r2 =>
        cases r1.cases_p
        rw [asInts_rep q r2]
        rfl
    | _ => cases h
theorem asBools_rep {w : Wd} : ∀ {ds : List D} {ns : List Bool} {vs : List V}, asBools ds = some ns → RepVs w vs ds → vs = ns.map V.bl
  | [], ns, vs, h, r => by cases h; cases r; rfl
  | .o _ :: _, _, _, h, _ => by cases h
  | .p d :: ds, ns, vs, h, r => by
    cases d with
    | bool i =>
      obtain ⟨ms, q, e⟩ := Option.map_eq_some_iff.mp (show (asBools ds).map (i :: ·) = some ns from h)
      subst e
      cases r with
      | cons r1 r2 =>
        cases r1.cases_p
        rw [asBools_rep q r2]
        rfl
    | _ => cases h
def fSum : D → M D := fun x S => ofO S ((items S x).bind fun ds => (asInts ds).map fun ns => .p (.int ns.sum))
def fAll : D → M D := fun x S => ofO S ((items S x).bind fun ds => (asBools ds).map fun ns => .p (.bool (ns.all id)))
def fAny : D → M D := fun x S => ofO S ((items S x).bind fun ds => (asBools ds).map fun ns => .p (.bool (ns.any id)))
theorem ok_sum : C1ok X (rSum X.K) (on1 fSum) := ok_on1 fun w H S x d W σ Q R v P => by
  unfold fSum at P
  cases q : items S d with
  | none => rw [q] at P; exact P.elim
  | some ds =>
    rw [q] at P
    dsimp only [Option.bind] at P
    cases q2 : asInts ds with
    | none => rw [q2] at P; exact P.elim
    | some es =>
      rw [q2] at P
      obtain ⟨a, xs, rfl, hs, r⟩ := items_sq R v q
      rw [asInts_rep q2 r] at hs
      exact ⟨a, es, rfl, hs, Post.here R P (.int _)⟩
theorem ok_all : C1ok X (rAll X.K) (on1 fAll) := ok_on1 fun w H S x d W σ Q R v P => by
  unfold fAll at P
  cases q : items S d with
  | none => rw [q] at P; exact P.elim
  | some ds =>
    rw [q] at P
    dsimp only [Option.bind] at P
    cases q2 : asBools ds with
    | none => rw [q2] at P; exact P.elim
    | some es =>
      rw [q2] at P
      obtain ⟨a, xs, rfl, hs, r⟩ := items_sq R v q
      rw [asBools_rep q2 r] at hs
      exact ⟨a, es, rfl, hs, Post.here R P (.bl _)⟩
theorem ok_any : C1ok X (rAny X.K) (on1 fAny) := ok_on1 fun w H S x d W σ Q R v P => by
  unfold fAny at P
  cases q : items S d with
  | none => rw [q] at P; exact P.elim
  | some ds =>
    rw [q] at P
    dsimp only [Option.bind] at P
    cases q2 : asBools ds with
    | none => rw [q2] at P; exact P.elim
    | some es =>
      rw [q2] at P
      obtain ⟨a, xs, rfl, hs, r⟩ := items_sq R v q
      rw [asBools_rep q2 r] at hs
      exact ⟨a, es, rfl, hs, Post.here R P (.bl _)⟩
theorem de_sum {p : Pos} (hg : Gl X "sum") (hm : X.mg "sum" = none) (hc : X.calm = true) (ha : DE X W e f) (he : starEach [e] X.env = (false, eval e X.env) :: starEach [] X.env := by rfl) (hpl : (backTo pos (starEach [] X.env)).any (·.1) = false := by rfl) :
    DE X W (.Call (.Name "sum" p) [e] [] pos) (eCB (on1 fSum) (aCons f aNil)) := de_callB (cr_sum hc) ok_sum hg hm PyProof.Rows.boot_sum (da_cons ha da_nil he) (by decide) (by decide) he hpl
theorem de_all {p : Pos} (hg : Gl X "all") (hm : X.mg "all" = none) (hc : X.calm = true) (ha : DE X W e f) (he : starEach [e] X.env = (false, eval e X.env) :: starEach [] X.env := by rfl) (hpl : (backTo pos (starEach [] X.env)).any (·.1) = false := by rfl) :
    DE X W (.Call (.Name "all" p) [e] [] pos) (eCB (on1 fAll) (aCons f aNil)) := de_callB (cr_all hc) ok_all hg hm PyProof.Rows.boot_all (da_cons ha da_nil he) (by decide) (by decide) he hpl
theorem de_any {p : Pos} (hg : Gl X "any") (hm : X.mg "any" = none) (hc : X.calm = true) (ha : DE X W e f) (he : starEach [e] X.env = (false, eval e X.env) :: starEach [] X.env := by rfl) (hpl : (backTo pos (starEach [] X.env)).any (·.1) = false := by rfl) :
    DE X W (.Call (.Name "any" p) [e] [] pos) (eCB (on1 fAny) (aCons f aNil)) := de_callB (cr_any hc) ok_any hg hm PyProof.Rows.boot_any (da_cons ha da_nil he) (by decide) (by decide) he hpl
def on2 (F : D → D → M D) : List D → M D
  | [d, e] => F d e
  | _ => M.bad
def fMax := fI0 fun i j => .int (if j > i then j else i)
def fMin := fI0 fun i j => .int (if j < i then j else i)
theorem ok_max2 : C1ok X (fun xs H Q => ∃ i j, xs = [.int i, .int j] ∧ Q (.int (if j > i then j else i)) H) (on2 fMax) := by
  intro w H S xs ds W σ Q R V P
  unfold on2 fMax fI0 at P
  split at P
  · obtain ⟨x, y, rfl, vx, vy⟩ := RepVs.two V
    split at P
    · cases vx.cases_p; cases vy.cases_p
      exact ⟨_, _, rfl, Post.here R P (.int _)⟩
    · exact P.elim
  · exact P.elim
theorem ok_min2 : C1ok X (fun xs H Q => ∃ i j, xs = [.int i, .int j] ∧ Q (.int (if j < i then j else i)) H) (on2 fMin) := by
  intro w H S xs ds W σ Q R V P
  unfold on2 fMin fI0 at P
  split at P
  · obtain ⟨x, y, rfl, vx, vy⟩ := RepVs.two V
    split at P
    · cases vx.cases_p; cases vy.cases_p
      exact ⟨_, _, rfl, Post.here R P (.int _)⟩
    · exact P.elim
  · exact P.elim
theorem de_max2 {p : Pos} (hg : Gl X "max") (hm : X.mg "max" = none) (hc : X.calm = true) (ha : DE X W a f) (hb : DE X W b g) (he : starEach [a, b] X.env = (false, eval a X.env) :: starEach [b] X.env := by rfl) (he' : starEach [b] X.env = (false, eval b X.env) :: starEach [] X.env := by rfl) (hpl : (backTo pos (starEach [b] X.env)).any (·.1) = false := by rfl) :
    DE X W (.Call (.Name "max" p) [a, b] [] pos) (eCB (on2 fMax) (aCons f (aCons g aNil))) := de_callB (call_max2 hc) ok_max2 hg hm PyProof.Rows.boot_max (da_cons ha (da_cons hb da_nil he') he) (by decide) (by decide) he hpl
theorem de_min2 {p : Pos} (hg : Gl X "min") (hm : X.mg "min" = none) (hc : X.calm = true) (ha : DE X W a f) (hb : DE X W b g) (he : starEach [a, b] X.env = (false, eval a X.env) :: starEach [b] X.env := by rfl) (he' : starEach [b] X.env = (false, eval b X.env) :: starEach [] X.env := by rfl) (hpl : (backTo pos (starEach [b] X.env)).any (·.1) = false := by rfl) :
    DE X W (.Call (.Name "min" p) [a, b] [] pos) (eCB (on2 fMin) (aCons f (aCons g aNil))) := de_callB (call_min2 hc) ok_min2 hg hm PyProof.Rows.boot_min (da_cons ha (da_cons hb da_nil he') he) (by decide) (by decide) he hpl

/-! ### isinstance against a built-in class -/
def tyP : PyData → String
  | .none => "NoneType"
  | .bool _ => "bool"
  | .int _ => "int"
  | .str _ => "str"
  | .list _ => "list"
  | .tuple _ => "tuple"
  | .dict _ => "dict"
def Cell.ty? : Cell → Option String
  | .lst _ => some "list"
  | .scr _ => some "list"
  | _ => none
def tyC (S : Store) : D → Option String
  | .p d => some (tyP d)
  | .o i => S[i]?.bind Cell.ty?
  | .s _ => some "list"
def fIsi (T : String) : D → M D := fun x S => ofO S ((tyC S x).bind fun t => (kitB t T).map fun b => .p (.bool b))
theorem tyC_ty {w : Wd} {H : Hp} {S : Store} {x : V} {d : D} {t : String} (R : Rep X.gm w H S) (v : RepV w x d) (h : tyC S d = some t) : TyX X.K H x (.type t) := by
  cases d with
  | s ns =>
    cases h
    obtain ⟨a, rfl, q⟩ := v
    rw [R.kk] at q
    rcases R.same.seq q with (q | ⟨o, q⟩) | ⟨o, its, n, h1, h2, _⟩
    · exact .base (.lst q)
    · exact .base (.frz q)
    · exact .kList h1 h2
  | p d =>
    cases h
    have v := v.cases_p
    cases v with
    | non => exact .base .non
    | bl b => exact .base (.bl b)
    | int i => exact .base (.int i)
    | str s => exact .base (.str s)
    | lst h1 h2 => exact .base (.lst (R.same _ _ h1))
    | tup h1 h2 => exact .base (.tup (R.same _ _ h1))
  | o i =>
    obtain ⟨a, ha, rfl⟩ := v
    obtain ⟨cc, q, h⟩ := Option.bind_eq_some_iff.mp (show S[i]?.bind Cell.ty? = some t from h)
    obtain ⟨o, ho, r⟩ := R.at_ ha q
    cases cc with
    | lst ds =>
      cases h
      obtain ⟨xs, rfl, _⟩ := r.lst_inv
      exact .base (.lst ho)
    | scr ds =>
      cases h
      obtain ⟨ob, xs, rfl, _⟩ := r.scr_inv
      exact .base (.frz ho)
    | _ => cases h
theorem de_isi {T : String} {y : Str} {p p2 : Pos} (hg : Gl X "isinstance") (hm : X.mg "isinstance" = none) (hgT : Gl X y) (hmT : X.mg y = none) (hv : bootBuiltins y = some (.type T)) (ha : DE X W e f)
    (hnT : y ≠ "__name__" := by decide) (hdT : (y == ("__debug__" : Str)) = false := by decide)
    (he : starEach [e, .Name y p2] X.env = (false, eval e X.env) :: starEach [.Name y p2] X.env := by rfl) (he' : starEach [.Name y p2] X.env = (false, eval (.Name y p2) X.env) :: starEach [] X.env := by rfl) (hpl : (backTo pos (starEach [.Name y p2] X.env)).any (·.1) = false := by rfl) :
    DE X W (.Call (.Name "isinstance" p) [e, .Name y p2] [] pos) (eUn (fIsi T) f) :=
  (pe_callB call_isi hg hm PyProof.Rows.boot_isinstance (pa_cons ha (pa_cons (pe_bltn (v := .ty T) hgT hmT hv rfl hnT hdT) pa_nil he') he) (by decide) (by decide) he hpl).imp fun σ H Q ⟨w, ρ, S, R, E, P⟩ => by
    refine stepE R E P fun x w1 H1 S1 d g1 R1 E1 V1 P1 => ?_
    unfold fIsi at P1
    cases q : tyC S1 d with
    | none => rw [q] at P1; exact P1.elim
    | some t =>
      rw [q] at P1
      dsimp only [Option.bind] at P1
      cases q2 : kitB t T with
      | none => rw [q2] at P1; exact P1.elim
      | some b =>
        rw [q2] at P1
        exact ⟨x, .ty T, .type t, .type T, b, rfl, .ty T, tyC_ty R1 V1 q, kit_ty q2, Post.here R1 P1 (.bl _)⟩

/-! ### fields of instances -/
def insAt (S : Store) (i : Nat) : Option (Str × List (Str × D)) := match S[i]? with
  | some (.ins c fs) => some (c, fs)
  | _ => none
def fFld (c : Str) (m : Str) : D → M D
  | .o i => fun S => ofO S ((insAt S i).bind fun p => if p.1 = c then p.2.lookup m else none)
  | _ => M.bad
theorem RepF.look {w : Wd} {m : Str} : ∀ {fs : List (Str × V)} {gs : List (Str × D)}, RepF w fs gs → (∀ d, gs.lookup m = some d → ∃ v, fs.lookup m = some v ∧ RepV w v d) ∧ (gs.lookup m = none → fs.lookup m = none)
  | _, _, .nil => ⟨fun d e => by simp at e, fun _ => rfl⟩
  | (a, x) :: fs, (b, y) :: gs, .cons ⟨h1, h2⟩ t => by
    have h1 : a = b := h1
    subst h1
    obtain ⟨i1, i2⟩ := RepF.look (m := m) t
    constructor
    · intro d e
      rw [List.lookup_cons] at e ⊢
      cases q : m == a with
      | true => rw [q] at e; cases e; exact ⟨x, rfl, h2⟩
      | false => rw [q] at e; exact i1 d e
    · intro e
      rw [List.lookup_cons] at e ⊢
      cases q : m == a with
      | true => rw [q] at e; cases e
      | false => rw [q] at e; exact i2 e
theorem insAt_some {S : Store} {i : Nat} {p : Str × List (Str × D)} (h : insAt S i = some p) : S[i]? = some (.ins p.1 p.2) := by
  unfold insAt at h
  split at h
  · rename_i h'; cases h; exact h'
  · cases h
theorem de_fld {C : Addr} {c m : Str} (hmc : X.mg c = some (.ref C)) (cl : Cls X.K C) (nm : NoAttr X.K C m) (he : DE X W e f) (hb : attributeBase e m X.env (eval e X.env) = eval e X.env := by rfl) : DE X W (.Attribute e m pos) (eUn (fFld c m) f) := (pe_fld he hb).imp fun σ H Q ⟨w, ρ, S, R, E, P⟩ => by
  refine stepE R E P fun x w1 H1 S1 d g1 R1 E1 V1 P1 => ?_
  cases d with
  | s ns => exact P1.elim
  | p d => exact P1.elim
  | o i =>
    replace P1 : Post X.gm W σ w1 Q (ofO S1 ((insAt S1 i).bind fun p => if p.1 = c then p.2.lookup m else none)) := P1
    cases q : insAt S1 i with
    | none => rw [q] at P1; exact P1.elim
    | some pr =>
      rw [q] at P1
      dsimp only [Option.bind] at P1
      by_cases hc : pr.1 = c
      · rw [if_pos hc] at P1
        cases q2 : pr.2.lookup m with
        | none => rw [q2] at P1; exact P1.elim
        | some d =>
          rw [q2] at P1
          obtain ⟨a, ha, rfl⟩ := V1
          obtain ⟨o, ho, r⟩ := R1.at_ ha (insAt_some q)
          obtain ⟨C', dx, xs, rfl, hmg, rf⟩ := r.ins_inv
          have hmg : X.mg pr.1 = some (.ref C') := hmg
          rw [hc, hmc] at hmg
          cases hmg
          obtain ⟨v, h1, h2⟩ := rf.look.1 d q2
          exact ⟨a, C, dx, xs, v, rfl, ho, cl, nm, h1, Post.here R1 P1 h2⟩
      · rw [if_neg hc] at P1
        exact P1.elim
end
end DL
set_option Elab.async false
set_option linter.all false
set_option maxRecDepth 100000
set_option maxHeartbeats 4000000
namespace DL
open PySem PySem.Spec L2
section
variable {X : Cx} {W : WX} {e a b c : Expr} {f g k : Fe} {pos : Pos} {es rest : List Expr} {fs : Fl} {st : Stmt} {sts : List Stmt} {u v : Fs}

/-! ### blocks, small statements -/
def sNil : Fs := fun ρ S => .nx ρ S
def thenS (r : RS) (k : Fs) : RS := match r with
  | .nx ρ S => k ρ S
  | r => r
def sSeq (u v : Fs) : Fs := fun ρ S => thenS (u ρ S) v
theorem dss_nil : DSs X W [] sNil := pss_nil.imp fun E σ H ⟨w, ρ, S, R, e, P⟩ => P σ w H (Grow.refl w) R e
theorem dss_cons (h1 : DS X W st u) (h2 : DSs X W sts v) : DSs X W (st :: sts) (sSeq u v) := (pss_cons h1 h2).imp fun E σ H ⟨w, ρ, S, R, e, P⟩ => by
  refine ⟨w, ρ, S, R, e, ?_⟩
  unfold sSeq thenS at P
  cases h : u ρ S with
  | nx ρ' S' => rw [h] at P; exact fun σ' w' H' g R' e' => ⟨w', ρ', S', R', e', P.grow g⟩
  | rt d S' => rw [h] at P; exact P
  | bk ρ' S' => rw [h] at P; exact P
  | ct ρ' S' => rw [h] at P; exact P
  | exc x ρ' S' => rw [h] at P; exact P
  | bad => rw [h] at P; exact P
theorem dss_one (h1 : DS X W st u) : DSs X W [st] u := pss_one h1
theorem ds_pass : DS X W (.Pass pos) sNil := ps_pass.imp fun E σ H ⟨w, ρ, S, R, e, P⟩ => P σ w H (Grow.refl w) R e
def sBreak : Fs := fun ρ S => .bk ρ S
def sCont : Fs := fun ρ S => .ct ρ S
theorem ds_break : DS X W (.Break pos) sBreak := ps_break.imp fun E σ H ⟨w, ρ, S, R, e, P⟩ => P σ w H (Grow.refl w) R e
theorem ds_continue : DS X W (.Continue pos) sCont := ps_continue.imp fun E σ H ⟨w, ρ, S, R, e, P⟩ => P σ w H (Grow.refl w) R e
theorem ds_doc {x j pos'} : DS X W (.Expr (.Constant (.str x) j pos) pos') sNil := ps_doc.imp fun E σ H ⟨w, ρ, S, R, e, P⟩ => P σ w H (Grow.refl w) R e
def sExpr (f : Fe) : Fs := fun ρ S => bindS ρ (f ρ S) fun _ S1 => .nx ρ S1
theorem ds_expr (he : DE X W e f) (hs : swapsWith e none pos.line X.env = pure false := by rfl) : DS X W (.Expr e pos) (sExpr f) := (ps_expr he hs).imp fun E σ H ⟨w, ρ, S, R, e, P⟩ =>
  stepES R e P fun v w1 H1 S1 d g1 R1 E1 V1 P1 => P1 σ w1 H1 (Grow.refl _) R1 E1
def sRet (f : Fe) : Fs := fun ρ S => bindS ρ (f ρ S) fun d S1 => .rt d S1
theorem ds_ret (he : DE X W e f) : DS X W (.Return (some e) pos) (sRet f) := (ps_ret he).imp fun E σ H ⟨w, ρ, S, R, e, P⟩ =>
  stepES R e P fun v w1 H1 S1 d g1 R1 E1 V1 P1 => P1 v w1 H1 (Grow.refl _) R1 V1
def sRetN : Fs := fun ρ S => .rt (.p .none) S
theorem ds_retN : DS X W (.Return none pos) sRetN := ps_retN.imp fun E σ H ⟨w, ρ, S, R, e, P⟩ => P .non w H (Grow.refl w) R .non
def sIf (t : Fb) (u v : Fs) : Fs := fun ρ S => bindS ρ (t ρ S) fun b S1 => if b = true then u ρ S1 else v ρ S1
theorem ds_if {t : Fb} {xs ys : List Stmt} (hc : DT X W c t) (ha : DSs X W xs u) (hb : DSs X W ys v) : DS X W (.If c xs ys pos) (sIf t u v) := (ps_if hc ha hb).imp fun E σ H ⟨w, ρ, S, R, e, P⟩ =>
  stepTS R e P fun b w1 H1 S1 g1 R1 E1 P1 => by
    cases b with
    | true => rw [if_pos rfl] at P1 ⊢; exact ⟨w1, ρ, S1, R1, E1, P1⟩
    | false => rw [if_neg Bool.false_ne_true] at P1 ⊢; exact ⟨w1, ρ, S1, R1, E1, P1⟩
def sSet (i : Nat) (f : Fe) : Fs := fun ρ S => bindS ρ (f ρ S) fun d S1 => .nx (ρ.set i (some d)) S1
theorem ds_set {i : Nat} {x : Str} {pos' : Pos} (hN : X.N.Nodup) (hi : X.N[i]? = some x) (hx : Loc X.env.scope x) (he : DE X W e f) (hs : swapsWith e (some (.Name x pos')) pos.line X.env = pure false := by rfl) (hf : X.fn x = true ∨ X.env.scope.names.lookup x = some .local := by first | exact .inl rfl | exact .inr rfl | assumption) :
    DS X W (.Assign [.Name x pos'] e pos) (sSet i f) := (ps_set hN hi hx he hs hf).imp fun E σ H ⟨w, ρ, S, R, e, P⟩ =>
  stepES R e P fun v w1 H1 S1 d g1 R1 E1 V1 P1 => P1 _ w1 H1 (Grow.refl _) R1 (E1.set i V1)
/-- a, b = x, y -/
def sPar (i j : Nat) (f g : Fe) : Fs := fun ρ S => bindS ρ (f ρ S) fun d S1 => bindS ρ (g ρ S1) fun e S2 => .nx ((ρ.set i (some d)).set j (some e)) S2
theorem ds_par {i j : Nat} {x y : Str} {px py pt : Pos} {kt k2 pt2} (hc : X.calm = true) (hN : X.N.Nodup) (hi : X.N[i]? = some x) (hj : X.N[j]? = some y) (hij : i ≠ j)
    (hx : X.env.scope.names.lookup x = some .local) (hy : X.env.scope.names.lookup y = some .local) (ha : DE X W a f) (hb : DE X W b g)
    (hw : swappedStores [.Tuple [.Name x px, .Name y py] kt pt] (.Tuple [a, b] k2 pt2) X.env = pure (some [x, y]))
    (hs : swapsWithSole [.Tuple [.Name x px, .Name y py] kt pt] (.Tuple [a, b] k2 pt2) pos.line X.env = pure false := by rfl)
    (he : starEach [a, b] X.env = (false, eval a X.env) :: starEach [b] X.env := by rfl) (he' : starEach [b] X.env = (false, eval b X.env) :: starEach [] X.env := by rfl) :
    DS X W (.Assign [.Tuple [.Name x px, .Name y py] kt pt] (.Tuple [a, b] k2 pt2) pos) (sPar i j f g) :=
  (ps_par hc hN hi hj hij hx hy (pa_cons ha (pa_cons hb pa_nil he') he) hw hs).imp fun E σ H ⟨w, ρ, S, R, e, P⟩ =>
    stepES R e P fun v w1 H1 S1 d g1 R1 E1 V1 P1 => stepES R1 E1 P1 fun v2 w2 H2 S2 d2 g2 R2 E2 V2 P2 => ⟨v, v2, rfl, P2 _ w2 H2 (Grow.refl _) R2 ((E2.set i (V1.grow g2)).set j V2)⟩

/-! ### targets -/
abbrev Tg := D → Sl → Option Sl
abbrev Tgs := List D → Sl → Option Sl
def okO {α : Type} (p : α → Prop) : Option α → Prop
  | some a => p a
  | none => False
def gD (mg : Gm) (t : Tg) : TG := fun v σ H Q => ∃ w ρ S d, Rep mg w H S ∧ RepE w σ ρ ∧ RepV w v d ∧ okO (fun ρ' => ∀ σ', RepE w σ' ρ' → Q σ' H) (t d ρ)
def gDs (mg : Gm) (t : Tgs) : TGs := fun vs σ H Q => ∃ w ρ S ds, Rep mg w H S ∧ RepE w σ ρ ∧ RepVs w vs ds ∧ okO (fun ρ' => ∀ σ', RepE w σ' ρ' → Q σ' H) (t ds ρ)
abbrev DG (X : Cx) (e : Expr) (t : Tg) : Prop := PG X e (gD X.gm t)
theorem PG.imp {t t' : TG} (h : PG X e t) (q : ∀ v σ H Q, t' v σ H Q → t v σ H Q) : PG X e t' := ⟨fun pins s σ H v u Q I r w => h.run pins s σ H v u Q I r (q v σ H Q w)⟩
theorem PGs.imp {t t' : TGs} (h : PGs X es t) (q : ∀ v σ H Q, t' v σ H Q → t v σ H Q) : PGs X es t' := ⟨fun pins s σ H v u Q I r w => h.run pins s σ H v u Q I r (q v σ H Q w)⟩
def tName (i : Nat) : Tg := fun d ρ => some (ρ.set i (some d))
theorem dg_name {i : Nat} {x : Str} (hN : X.N.Nodup) (hi : X.N[i]? = some x) (hx : Loc X.env.scope x) (hf : X.fn x = true ∨ X.env.scope.names.lookup x = some .local := by first | exact .inl rfl | exact .inr rfl | assumption) : DG X (.Name x pos) (tName i) :=
  PG.imp (pg_name hN hi hx hf) fun v σ H Q ⟨w, ρ, S, d, R, E, V, P⟩ => P _ (E.set i V)
def tsNil : Tgs := fun ds ρ => match ds with
  | [] => some ρ
  | _ => none
def tsCons (t : Tg) (r : Tgs) : Tgs := fun ds ρ => match ds with
  | d :: ds => (t d ρ).bind (r ds)
  | [] => none
theorem dgs_nil : PGs X [] (gDs X.gm tsNil) := PGs.imp pgs_nil fun vs σ H Q ⟨w, ρ, S, ds, R, E, V, P⟩ => by
  unfold tsNil at P
  cases ds with
  | nil => cases V; exact ⟨rfl, P σ E⟩
  | cons d ds => exact P.elim
theorem dgs_cons {t : Tg} {r : Tgs} (h1 : DG X e t) (h2 : PGs X es (gDs X.gm r)) (hs : (assignEach (e :: es) X.env).map (·.2) = assign e X.env :: (assignEach es X.env).map (·.2) := by rfl) : PGs X (e :: es) (gDs X.gm (tsCons t r)) :=
  PGs.imp (pgs_cons h1 h2 hs) fun vs σ H Q ⟨w, ρ, S, ds, R, E, V, P⟩ => by
    cases ds with
    | nil => exact P.elim
    | cons y ys =>
      cases V with
      | cons v1 vr =>
        refine ⟨_, _, rfl, w, ρ, S, y, R, E, v1, ?_⟩
        have P : okO (fun ρ' => ∀ σ', RepE w σ' ρ' → Q σ' H) ((t y ρ).bind (r ys)) := P
        cases q : t y ρ with
        | none => rw [q] at P; exact P.elim
        | some ρ1 => rw [q] at P; exact fun σ1 E1 => ⟨w, ρ1, S, ys, R, E1, vr, P⟩
def tTupT (n : Nat) (r : Tgs) : Tg := fun d ρ => match d with
  | .p (.tuple ds) => if ds.length = n then r (ds.map .p) ρ else none
  | _ => none
theorem dg_tup {k : Nat} {r : Tgs} {n : Nat} (hc : X.calm = true) (h : PGs X es (gDs X.gm r))
    (hn : (assignEach es X.env).length = n := by rfl) (hst : (assignEach es X.env).findIdx? (·.1) = none := by rfl) : DG X (.Tuple es k pos) (tTupT n r) := PG.imp (pg_tup hc h hn hst) fun v σ H Q ⟨w, ρ, S, d, R, E, V, P⟩ => by
  unfold tTupT at P
  split at P
  · have V := V.cases_p
    cases V with | tup hx rx =>
    split at P
    · rename_i hl
      exact ⟨_, _, rfl, SqT.of (R.same _ _ hx), by rw [rx.length]; exact hl, w, ρ, S, _, R, E, RepPs.toVs rx, P⟩
    · exact P.elim
  · exact P.elim
def sAsg (f : Fe) (t : Tg) : Fs := fun ρ S => bindS ρ (f ρ S) fun d S1 => match t d ρ with
  | some ρ' => .nx ρ' S1
  | none => .bad
theorem ds_asg {tg : Expr} {t : Tg} (he : DE X W e f) (hg : DG X tg t) (hs : swapsWithSole [tg] e pos.line X.env = pure false := by rfl) (hw : swappedStores [tg] e X.env = pure none := by rfl)
    (h1 : (assignEach [tg] X.env).map (·.2) = [assign tg X.env] := by rfl) : DS X W (.Assign [tg] e pos) (sAsg f t) := (ps_asg he hg hs hw h1).imp fun E σ H ⟨w, ρ, S, R, e, P⟩ =>
  stepES R e P fun v w1 H1 S1 d g1 R1 E1 V1 P1 => by
    refine ⟨w1, ρ, S1, d, R1, E1, V1, ?_⟩
    cases q : t d ρ with
    | none => rw [q] at P1; exact P1.elim
    | some ρ1 => rw [q] at P1; exact fun σ1 E2 => P1 σ1 w1 H1 (Grow.refl _) R1 E2

/-! ### what a loop walks -/
structure GrowD (w w' : Wd) : Prop where
  k : w'.K = w.K
  z : Same w.Z w'.Z
  m : ∃ t, w'.m = w.m ++ t
theorem Grow.d {w w' : Wd} (g : Grow w w') : GrowD w w' := ⟨g.k, g.z, g.m⟩
theorem GrowD.trans {w w1 w2 : Wd} (a : GrowD w w1) (b : GrowD w1 w2) : GrowD w w2 := by
  obtain ⟨t, e⟩ := a.m
  obtain ⟨u, f⟩ := b.m
  exact ⟨b.k.trans a.k, a.z.trans b.z, t ++ u, by rw [f, e]; simp⟩
theorem GrowD.toB {w w' : Wd} (g : GrowD w w') : Grow w { w' with B := w.B } := ⟨g.k, rfl, g.z, g.m⟩
theorem RepV.growD {w w' : Wd} (g : GrowD w w') {v : V} {d : D} (h : RepV w v d) : RepV w' v d := by
  have q := h.grow g.toB
  cases d <;> exact q
theorem RepE.growD {w w' : Wd} {σ : L2.St} {ρ : Sl} (g : GrowD w w') (h : RepE w σ ρ) : RepE w' σ ρ :=
  ⟨h.len, fun i d e => let ⟨v, h1, h2⟩ := h.at_ i d e; ⟨v, h1, h2.growD g⟩⟩
inductive SrcV where
  | seq (x : D)
  | rng (lo : Int) (n : Nat)
  | zip (x y : D)
/-- the items of a list or a tuple -/
def seqItems (S : Store) : D → Option (List D)
  | .p (.tuple ds) => some (ds.map .p)
  | x => items S x
def pairUp : D → D → Option D
  | .p a, .p b => some (.p (.tuple [a, b]))
  | _, _ => none
def zipAt (xs ys : List D) (i : Nat) : Option (Option D) := match xs[i]?, ys[i]? with
  | some a, some b => (pairUp a b).map some
  | _, _ => some none
def SrcV.nxt : SrcV → Nat → Store → Option (Option D)
  | .seq x, i, S => (seqItems S x).map fun ds => ds[i]?
  | .rng lo n, i, _ => some (if i < n then some (.p (.int (lo + i))) else none)
  | .zip x y, i, S => (seqItems S x).bind fun xs => (seqItems S y).bind fun ys => zipAt xs ys i
def SrcV.count : SrcV → Store → Nat
  | .seq x, S => ((seqItems S x).map List.length).getD 0
  | .rng _ n, _ => n
  | .zip x y, S => min (((seqItems S x).map List.length).getD 0) (((seqItems S y).map List.length).getD 0)
structure Src (mg : Gm) (J : It) (sv : SrcV) (w0 : Wd) : Prop where
  go : ∀ (i : Nat) (w : Wd) (H : Hp) (S : Store) (d : D), GrowD w0 w → Rep mg w H S → sv.nxt i S = some (some d) → J.go i H ∧ ∀ x H', J.yld i H x H' → ∃ w', Grow w w' ∧ Rep mg w' H' S ∧ RepV w' x d
  stop : ∀ (i : Nat) (w : Wd) (H : Hp) (S : Store), GrowD w0 w → Rep mg w H S → sv.nxt i S = some none → J.stop i H
abbrev Fsrc := Sl → M SrcV
def tDI (mg : Gm) (W : WX) (f : Fsrc) : TI := fun σ H T => ∃ w ρ S, Rep mg w H S ∧ RepE w σ ρ ∧ PostG mg W σ w (fun sv w' H' => ∀ J, Src mg J sv w' → T J H') (f ρ S)
abbrev DI (X : Cx) (W : WX) (tg iter : Expr) (f : Fsrc) : Prop := PI X tg iter (tDI X.gm W f)
def ofSeq (x : D) : M SrcV := fun S => if (seqItems S x).isSome = true then .ok (.seq x) S else .bad
def srcSeq (f : Fe) : Fsrc := fun ρ => M.bind (f ρ) ofSeq
theorem src_list {mg : Gm} {w0 : Wd} {a : Addr} {d : D} (V : RepV w0 (.ref a) d) (hd : ∀ ds, d ≠ .p (.tuple ds)) : Src mg (Itl mg.K a) (.seq d) w0 := by
  have si : ∀ S, seqItems S d = items S d := fun S => by
    cases d with
    | o i => rfl
    | s ns => rfl
    | p d => cases d with
      | tuple ds => exact absurd rfl (hd ds)
      | _ => rfl
  refine ⟨fun i w H S x g R h => ?_, fun i w H S g R h => ?_⟩
  · obtain ⟨ds, h1, h2⟩ := Option.map_eq_some_iff.mp h
    rw [si] at h1
    obtain ⟨a', xs, e, hs, r⟩ := items_sq R (V.growD g) h1
    cases e
    obtain ⟨v, h3, h4⟩ := r.get h2
    refine ⟨⟨xs, v, hs, h3⟩, fun y H' ⟨e, hy⟩ => ?_⟩
    subst e
    have := hy xs hs
    rw [h3] at this
    cases this
    exact ⟨w, Grow.refl w, R, h4⟩
  · obtain ⟨ds, h1, h2⟩ := Option.map_eq_some_iff.mp h
    rw [si] at h1
    obtain ⟨a', xs, e, hs, r⟩ := items_sq R (V.growD g) h1
    cases e
    exact ⟨xs, hs, by rw [r.length]; exact List.getElem?_eq_none_iff.mp h2⟩
theorem src_tup {K : PySem.W.Frag} {mg : Gm} {w0 : Wd} {a : Addr} {ds : List PyData} (V : RepV w0 (.ref a) (.p (.tuple ds))) : Src mg (Itt K a) (.seq (.p (.tuple ds))) w0 := by
  refine ⟨fun i w H S x g R h => ?_, fun i w H S g R h => ?_⟩
  · have h : some ((ds.map D.p)[i]?) = some (some x) := h
    have V' := (V.growD g).cases_p
    cases V' with | tup hx rx =>
    rename_i xs
    have r := RepPs.toVs (w := w) rx
    obtain ⟨v, h3, h4⟩ := r.get (Option.some.inj h)
    have hs : SqT K H a xs := SqT.of (R.same _ _ hx)
    refine ⟨⟨xs, v, hs, h3⟩, fun y H' ⟨e, hy⟩ => ?_⟩
    subst e
    have := hy xs hs
    rw [h3] at this
    cases this
    exact ⟨w, Grow.refl w, R, h4⟩
  · have h : some ((ds.map D.p)[i]?) = some none := h
    have V' := (V.growD g).cases_p
    cases V' with | tup hx rx =>
    rename_i xs
    have e := List.getElem?_eq_none_iff.mp (Option.some.inj h)
    rw [List.length_map] at e
    exact ⟨xs, SqT.of (R.same _ _ hx), by rw [rx.length]; exact e⟩
theorem src_rng {mg : Gm} {w0 : Wd} {lo : Int} {n : Nat} : Src mg (Itr lo n) (.rng lo n) w0 := by
  refine ⟨fun i w H S x g R h => ?_, fun i w H S g R h => ?_⟩
  · have h := Option.some.inj h
    by_cases hi : i < n
    · rw [if_pos hi] at h
      cases h
      exact ⟨hi, fun y H' ⟨e, hy⟩ => ⟨w, Grow.refl w, by rw [e]; exact R, by rw [hy]; exact .int _⟩⟩
    · rw [if_neg hi] at h; cases h
  · have h := Option.some.inj h
    by_cases hi : i < n
    · rw [if_pos hi] at h; cases h
    · exact Nat.le_of_not_lt hi
theorem di_seq {tg : Expr} (he : DE X W e f) : DI X W tg e (srcSeq f) := ⟨fun pins s σ H T I ⟨w, ρ, S, R, E, P⟩ => by
  unfold srcSeq M.bind at P
  have lst : (∀ d S', f ρ S = .ok d S' → ∀ ds, d ≠ .p (.tuple ds)) → wpAny (model X.prog X.w) X.A (eval e X.env) (fun v s1 => wpAny (model X.prog X.w) X.A (pyIter v) (PIE X pins σ tg T) X.xe s1) X.xe s := fun hn => by
    refine (pi_list he).run pins s σ H T I ⟨w, ρ, S, R, E, ?_⟩
    cases h : f ρ S with
    | bad => rw [h] at P; exact P
    | exc x S' => rw [h] at P; exact P
    | ok d S' =>
      rw [h] at P
      have nt := hn d S' h
      intro w' H' g R' v V
      have P : PostG X.gm W σ w (fun sv w' H' => ∀ J, Src X.gm J sv w' → T J H') (if (seqItems S' d).isSome = true then .ok (.seq d) S' else .bad) := P
      have si : seqItems S' d = items S' d := by
        cases d with
        | o i => rfl
        | s ns => rfl
        | p d => cases d with
          | tuple ds => exact absurd rfl (nt ds)
          | _ => rfl
      cases q : items S' d with
      | none => rw [si, q] at P; exact P.elim
      | some ds =>
        rw [si, q] at P
        obtain ⟨a', xs, rfl, hs, r⟩ := items_sq R' V q
        exact ⟨a', rfl, ⟨xs, hs⟩, P w' H' g R' _ (src_list V nt)⟩
  cases h : f ρ S with
  | bad => rw [h] at P; exact P.elim
  | exc x S' => exact lst fun d S'' q => by rw [h] at q; cases q
  | ok d S' =>
    by_cases ht : ∃ ds, d = .p (.tuple ds)
    · obtain ⟨ds, rfl⟩ := ht
      rw [h] at P
      refine (pi_tup he).run pins s σ H T I ⟨w, ρ, S, R, E, ?_⟩
      rw [h]
      intro w' H' g R' v V
      have V' := V.cases_p
      cases V' with | tup hx rx =>
      exact ⟨_, rfl, ⟨_, SqT.of (R'.same _ _ hx)⟩, P w' H' g R' _ (src_tup V)⟩
    · exact lst fun d' S'' q ds e => by
        rw [h] at q
        cases q
        exact ht ⟨ds, e⟩⟩
def ofRng1 : List D → M SrcV
  | [.p (.int j)] => fun S => if -(2 ^ 62) ≤ j ∧ j < 2 ^ 62 then .ok (.rng 0 j.toNat) S else .bad
  | _ => M.bad
def ofRng2 : List D → M SrcV
  | [.p (.int i), .p (.int j)] => fun S => if -(2 ^ 62) ≤ i ∧ i < 2 ^ 62 ∧ -(2 ^ 62) ≤ j ∧ j < 2 ^ 62 then .ok (.rng i (j - i).toNat) S else .bad
  | _ => M.bad
def srcRng1 (f : Fe) : Fsrc := fun ρ => M.bind (aCons f aNil ρ) ofRng1
def srcRng2 (f g : Fe) : Fsrc := fun ρ => M.bind (aCons f (aCons g aNil) ρ) ofRng2
theorem di_rng1 {tg : Expr} {p : Pos} (hg : Gl X "range") (hm : X.mg "range" = none) (ha : DE X W a f) (hs : starEach [a] X.env = [(false, eval a X.env)] := by rfl) : DI X W tg (.Call (.Name "range" p) [a] [] pos) (srcRng1 f) :=
  ⟨fun pins s σ H T I ⟨w, ρ, S, R, E, P⟩ => (pi_range1 hg hm (da_cons ha da_nil hs) hs).run pins s σ H T I (by
    refine stepA R E P fun vs w1 H1 S1 ds g1 R1 E1 V1 P1 => ?_
    unfold ofRng1 at P1
    split at P1
    · obtain ⟨x, rfl, vx⟩ := RepVs.one V1
      cases vx.cases_p
      split at P1
      · rename_i hl
        exact ⟨_, rfl, hl.1, hl.2, P1 w1 H1 (Grow.refl _) R1 _ src_rng⟩
      · exact P1.elim
    · exact P1.elim)⟩
theorem di_rng2 {tg : Expr} {p : Pos} (hg : Gl X "range") (hm : X.mg "range" = none) (ha : DE X W a f) (hb : DE X W b g) (hs : starEach [a, b] X.env = [(false, eval a X.env), (false, eval b X.env)] := by rfl) (hs2 : starEach [b] X.env = [(false, eval b X.env)] := by rfl) :
    DI X W tg (.Call (.Name "range" p) [a, b] [] pos) (srcRng2 f g) :=
  ⟨fun pins s σ H T I ⟨w, ρ, S, R, E, P⟩ => (pi_range2 hg hm (da_cons ha (da_cons hb da_nil hs2) (by rw [hs, hs2])) hs hs2).run pins s σ H T I (by
    refine stepA R E P fun vs w1 H1 S1 ds g1 R1 E1 V1 P1 => ?_
    unfold ofRng2 at P1
    split at P1
    · obtain ⟨x, y, rfl, vx, vy⟩ := RepVs.two V1
      cases vx.cases_p; cases vy.cases_p
      split at P1
      · rename_i hl
        exact ⟨_, _, rfl, hl, P1 w1 H1 (Grow.refl _) R1 _ src_rng⟩
      · exact P1.elim
    · exact P1.elim)⟩

/-! ### for -/
def loopS (sv : SrcV) (t : Tg) (u : Fs) : Nat → Nat → Fs
  | 0, i => fun ρ S => match sv.nxt i S with
    | some none => .nx ρ S
    | _ => .bad
  | k + 1, i => fun ρ S => match sv.nxt i S with
    | some (some d) => match t d ρ with
      | some ρ1 => match u ρ1 S with
        | .nx ρ' S' => loopS sv t u k (i + 1) ρ' S'
        | .ct ρ' S' => loopS sv t u k (i + 1) ρ' S'
        | .bk ρ' S' => .nx ρ' S'
        | r => r
      | none => .bad
    | _ => .bad
def sFor (fsrc : Fsrc) (t : Tg) (u : Fs) : Fs := fun ρ S => bindS ρ (fsrc ρ S) fun sv S1 => loopS sv t u (sv.count S1) 0 ρ S1
theorem ds_for {tg iter : Expr} {body : List Stmt} {fsrc : Fsrc} {t : Tg} (hp : PassesOwn (model X.prog X.w) X.A X.env X.xe) (hc : X.calm = true) (hi : DI X W tg iter fsrc) (hg : DG X tg t) (hb : DSs X W body u)
    (hs : ∀ x, foldedSetIterable iter X.env x = pure x := by intro _; rfl) : DS X W (.For tg iter body [] pos) (sFor fsrc t u) := (ps_for hp hc hi hg hb hs).imp fun En σ H ⟨w, ρ, S, R, E, P⟩ => by
  refine ⟨w, ρ, S, R, E, ?_⟩
  unfold sFor bindS at P
  cases h : fsrc ρ S with
  | bad => rw [h] at P; exact P
  | exc x S' => rw [h] at P; exact fun c dx w' H' g R' X => P σ c dx w' H' g R' (E.grow g) X
  | ok sv S' =>
    rw [h] at P
    intro w' H' g R' J hJ
    refine ⟨fun i m σ H => ∃ w1 ρ1 S1, GrowD w' w1 ∧ Rep X.gm w1 H S1 ∧ RepE w1 σ ρ1 ∧ PostS X.gm W En w1 (loopS sv t u m i ρ1 S1), ⟨_, w', ρ, S', (Grow.refl w').d, R', E.grow g, P.grow g⟩, ?_⟩
    rintro i m σ1 H1 ⟨w1, ρ1, S1, g1, R1, E1, P1⟩
    cases m with
    | zero =>
      unfold loopS at P1
      cases q : sv.nxt i S1 with
      | none => rw [q] at P1; exact P1.elim
      | some o =>
        rw [q] at P1
        cases o with
        | some d => exact P1.elim
        | none => exact .inl ⟨hJ.stop i w1 H1 S1 g1 R1 q, P1 σ1 w1 H1 (Grow.refl _) R1 E1⟩
    | succ m =>
      unfold loopS at P1
      cases q : sv.nxt i S1 with
      | none => rw [q] at P1; exact P1.elim
      | some o =>
        rw [q] at P1
        cases o with
        | none => exact P1.elim
        | some d =>
          obtain ⟨h1, h2⟩ := hJ.go i w1 H1 S1 d g1 R1 q
          refine .inr ⟨h1, fun σ H => ∃ w1 ρ1 S1, GrowD w' w1 ∧ Rep X.gm w1 H S1 ∧ RepE w1 σ ρ1 ∧ PostS X.gm W En w1 (loopS sv t u m (i + 1) ρ1 S1), fun σ' H' q' => ⟨m, Nat.lt_succ_self m, q'⟩, fun x H2 y => ?_⟩
          obtain ⟨w2, g2, R2, V2⟩ := h2 x H2 y
          refine ⟨w2, ρ1, S1, d, R2, E1.grow g2, V2, ?_⟩
          have P1 : PostS X.gm W En w1 (match t d ρ1 with
            | some ρ1 => match u ρ1 S1 with
              | .nx ρ' S' => loopS sv t u m (i + 1) ρ' S'
              | .ct ρ' S' => loopS sv t u m (i + 1) ρ' S'
              | .bk ρ' S' => .nx ρ' S'
              | r => r
            | none => .bad) := P1
          cases q2 : t d ρ1 with
          | none => rw [q2] at P1; exact P1.elim
          | some ρ2 =>
            rw [q2] at P1
            intro σ2 E2
            refine ⟨w2, ρ2, S1, R2, E2, ?_⟩
            dsimp only at P1
            cases q3 : u ρ2 S1 with
            | bad => rw [q3] at P1; exact P1
            | exc x ρ' S' => rw [q3] at P1; exact P1.grow g2
            | rt d S' => rw [q3] at P1; exact P1.grow g2
            | bk ρ' S' => rw [q3] at P1; exact P1.grow g2
            | nx ρ' S' => rw [q3] at P1; exact fun σ3 w3 H3 g3 R3 E3 => ⟨w3, ρ', S', g1.trans (g2.trans g3).d, R3, E3, P1.grow (g2.trans g3)⟩
            | ct ρ' S' => rw [q3] at P1; exact fun σ3 w3 H3 g3 R3 E3 => ⟨w3, ρ', S', g1.trans (g2.trans g3).d, R3, E3, P1.grow (g2.trans g3)⟩
end
end DL
set_option Elab.async false
set_option linter.all false
set_option maxRecDepth 100000
set_option maxHeartbeats 4000000
namespace DL
open PySem PySem.Spec L2
/-- nothing is let out -/
abbrev Wno : WX := fun _ _ _ _ => False
def bindN {α β : Type} (r : R α) (k : α → Store → R β) : R β := match r with
  | .ok a S => k a S
  | _ => .bad
def R.bind {α β : Type} (r : R α) (k : α → Store → R β) : R β := match r with
  | .ok a S => k a S
  | .exc x S => .exc x S
  | .bad => .bad
theorem M.bind_eq {α β : Type} (m : M α) (k : α → M β) (S : Store) : M.bind m k S = R.bind (m S) k := by
  unfold M.bind R.bind
  cases m S <;> rfl
def wipeD (ρ : Sl) : List Nat → Sl
  | [] => ρ
  | v :: vs => (wipeD ρ vs).set v none
theorem RepE.wipe {w : Wd} {σ : L2.St} {ρ : Sl} (h : RepE w σ ρ) : ∀ vs, RepE w (L2.wipe σ vs) (wipeD ρ vs)
  | [] => h
  | v :: vs => (RepE.wipe h vs).drop v none
def loopC (sv : SrcV) (t : Tg) (tb : Fb) (el : Fe) : Nat → Nat → Sl → List D → Store → R (List D)
  | 0, i, ρ, acc, S => match sv.nxt i S with
    | some none => .ok acc S
    | _ => .bad
  | k + 1, i, ρ, acc, S => match sv.nxt i S with
    | some (some d) => match t d ρ with
      | some ρ1 => bindN (tb ρ1 S) fun b S1 => if b = true then bindN (el ρ1 S1) fun y S2 => if acc.length < sizeLine then loopC sv t tb el k (i + 1) ρ (acc ++ [y]) S2 else .bad
        else loopC sv t tb el k (i + 1) ρ acc S1
      | none => .bad
    | _ => .bad
def kAcc (ds : List D) : M D := fun S => ofO S ((asPs ds).map fun es => .p (.list es))
def eLc (fsrc : Fsrc) (vs : List Nat) (t : Tg) (tb : Fb) (el : Fe) : Fe := fun ρ => M.bind (fsrc ρ) fun sv => M.bind (fun S => loopC sv t tb el (sv.count S) 0 (wipeD ρ vs) [] S) kAcc
/-- a comprehension's target -/
def TgC (mg : Gm) (g : TG) (t : Tg) (vs : List Nat) : Prop := ∀ (w : Wd) (σ0 : L2.St) (ρ : Sl) (x : V) (d : D) (H : Hp) (S : Store) (Q : L2.St → Hp → Prop), Rep mg w H S → RepE w (wipe σ0 vs) ρ → RepV w x d →
  okO (fun ρ' => ∀ σ2, RepE w σ2 ρ' → wipe σ2 vs = wipe σ0 vs → Q σ2 H) (t d ρ) → g x (wipe σ0 vs) H Q
theorem tgc_one {mg : Gm} {i : Nat} : TgC mg (gName i) (tName i) [i] := fun w σ0 ρ x d H S Q R E V P =>
  P _ (E.set i V) (by simp [wipe])
theorem tgc_two {mg : Gm} {K : PySem.W.Frag} {i j : Nat} : TgC mg (gTup K 2 (gCons (gName i) (gCons (gName j) gNil))) (tTupT 2 (tsCons (tName i) (tsCons (tName j) tsNil))) [i, j] := fun w σ0 ρ x d H S Q R E V P => by
  cases d with
  | o i => exact P.elim
  | s ns => exact P.elim
  | p d =>
    cases d with
    | tuple ds =>
      have V := V.cases_p
      cases V with | tup hx rx =>
      match ds, rx, P with
      | [], _, P => exact P.elim
      | [_], _, P => exact P.elim
      | [a, b], .cons r1 (.cons r2 .nil), P =>
        refine ⟨_, _, rfl, SqT.of (R.same _ _ hx), rfl, _, _, rfl, _, _, rfl, rfl, ?_⟩
        refine P _ ((E.set i (show RepV w _ (.p a) from r1)).set j (show RepV w _ (.p b) from r2)) ?_
        simp only [wipe]
        refine List.ext_getElem? fun k => ?_
        simp only [List.getElem?_set, List.length_set]
        by_cases h1 : i = k <;> by_cases h2 : j = k <;> simp [h1, h2]
      | _ :: _ :: _ :: _, _, P => exact P.elim
    | _ => exact P.elim
section
variable {mg : Gm} {w : Wd} {H : Hp} {S : Store}
theorem Rep.unback {p : Addr} {o : HO} {B : Hp} (h : Rep mg w H S) (e : w.B = upd B p o) (hb : B p = none) : Rep mg { w with B := B } H S := by
  refine ⟨h.kk, fun b u q => h.bg b u ?_, h.same, fun a u q => h.bz a u ?_, h.len, h.nd, fun i a c h1 h2 => ?_⟩
  · rw [e, upd_ne (ne_of_none q hb)]; exact q
  · rw [e, upd_ne (ne_of_none q hb)]; exact q
  · obtain ⟨za, u, hu, r⟩ := h.cell i a c h1 h2
    exact ⟨za, u, hu, by unfold RepC at r ⊢; exact r⟩
theorem RepVs.growD {w w' : Wd} (g : GrowD w w') {vs : List V} {ds : List D} (h : RepVs w vs ds) : RepVs w' vs ds := Paired.mapP h fun _ _ r => r.growD g
end
section
variable {X : Cx} {W : WX} {e : Expr} {fsrc : Fsrc} {vs : List Nat} {t : Tg} {tb : Fb} {el : Fe} {g : TG}
theorem tLc_of (hg : TgC X.gm g t vs) {σ : L2.St} {H : Hp} {Q : VK} (h : tD X.gm W (eLc fsrc vs t tb el) σ H Q) : tLc (tDI X.gm W fsrc) g (tDT X.gm Wno tb) (tD X.gm Wno el) vs σ H Q := by
  obtain ⟨w, ρ, S, R, E, P⟩ := h
  refine ⟨w, ρ, S, R, E, ?_⟩
  unfold eLc at P
  rw [M.bind_eq] at P
  cases h : fsrc ρ S with
  | bad => rw [h] at P; exact P
  | exc x S' => rw [h] at P; exact P
  | ok sv S' =>
    rw [h] at P
    intro w' H' g' R' J hJ D0 hD
    have P : Post X.gm W σ w Q (M.bind (fun S => loopC sv t tb el (sv.count S) 0 (wipeD ρ vs) [] S) kAcc S') := P
    rw [M.bind_eq] at P
    have P := P.grow g'
    obtain ⟨R0, b0, z0, m0⟩ := R'.lay (.lst []) hD
    refine ⟨fun i m H => ∃ w1 S1 acc xs, Grow w' w1 ∧ Rep X.gm w1 H S1 ∧ w1.B D0 = none ∧ w1.Z D0 = none ∧ D0 ∉ w1.m ∧ H D0 = some (.lst xs) ∧ RepVs w1 xs acc ∧ Post X.gm W σ w1 Q (DL.R.bind (loopC sv t tb el m i (wipeD ρ vs) acc S1) kAcc),
      ⟨_, w', S', [], [], Grow.refl _, R0, b0, z0, m0, upd_same, .nil, P⟩, ?_⟩
    rintro i m H1 ⟨w1, S1, acc, xs, g1, R1, b1, z1, m1, hd1, r1, P1⟩
    cases m with
    | zero =>
      unfold loopC at P1
      cases q : sv.nxt i S1 with
      | none => rw [q] at P1; exact P1.elim
      | some o =>
        rw [q] at P1
        cases o with
        | some d => exact P1.elim
        | none =>
          refine .inl ⟨hJ.stop i w1 H1 S1 g1.d R1 q, ?_⟩
          have P1 : Post X.gm W σ w1 Q (kAcc acc S1) := P1
          unfold kAcc at P1
          cases q2 : asPs acc with
          | none => rw [q2] at P1; exact P1.elim
          | some es =>
            rw [q2] at P1
            obtain ⟨g2, R2⟩ := R1.freeze hd1 b1 z1 m1
            exact P1 _ _ g2 R2 _ (.lst upd_same (RepPs.mono g2.z _ _ (asPs_rep q2 r1)))
    | succ m =>
      unfold loopC at P1
      cases q : sv.nxt i S1 with
      | none => rw [q] at P1; exact P1.elim
      | some o =>
        rw [q] at P1
        cases o with
        | none => exact P1.elim
        | some d =>
          obtain ⟨h1, h2⟩ := hJ.go i w1 H1 S1 d g1.d R1 q
          refine .inr ⟨h1, _, fun H' q' => ⟨m, Nat.lt_succ_self m, q'⟩, fun x H2 y => ?_⟩
          -- the item has come; the list that grows is kept by the background
          have R1b := R1.back hd1 z1 m1
          obtain ⟨h1', h2'⟩ := hJ.go i _ H1 S1 d (show GrowD w' { w1 with B := upd w1.B D0 (.lst xs) } from ⟨g1.k, g1.z, g1.m⟩) R1b q
          obtain ⟨w2, g2, R2, V2⟩ := h2' x H2 y
          have gE : Grow w w1 := g'.trans g1
          have E2 : RepE w2 (wipe σ vs) (wipeD ρ vs) := (RepE.wipe E vs).growD (gE.d.trans (show GrowD w1 { w1 with B := upd w1.B D0 (.lst xs) } from ⟨rfl, Same.refl _, [], by simp⟩) |>.trans g2.d)
          refine hg w2 σ (wipeD ρ vs) x d H2 S1 _ R2 E2 V2 ?_
          dsimp only at P1
          cases q2 : t d (wipeD ρ vs) with
          | none => rw [q2] at P1; exact P1.elim
          | some ρ2 =>
            rw [q2] at P1
            intro σ2 Eσ hw
            refine ⟨hw, w2, ρ2, S1, R2, Eσ, ?_⟩
            dsimp only at P1
            -- back to a world without the list
            have fin : ∀ {w3 : Wd} {H3 : Hp} {S3 : Store}, Grow w2 w3 → Rep X.gm w3 H3 S3 → H3 D0 = some (.lst xs) ∧ Grow w1 { w3 with B := w1.B } ∧ Rep X.gm { w3 with B := w1.B } H3 S3 ∧ w3.Z D0 = none ∧ D0 ∉ w3.m := fun {w3 H3 S3} g3 R3 => by
              have gg := g2.trans g3
              have eB : w3.B = upd w1.B D0 (.lst xs) := gg.b
              have hB : w3.B D0 = some (.lst xs) := by rw [eB]; exact upd_same
              exact ⟨R3.bg _ _ hB, ⟨gg.k, rfl, gg.z, gg.m⟩, R3.unback eB b1, (R3.bz _ _ hB).1, (R3.bz _ _ hB).2⟩
            cases q3 : tb ρ2 S1 with
            | bad => rw [q3] at P1; exact P1.elim
            | exc x S3 => rw [q3] at P1; exact P1.elim
            | ok b S3 =>
              rw [q3] at P1
              dsimp only [bindN] at P1
              intro w3 H3 g3 R3
              cases b with
              | false =>
                rw [if_neg Bool.false_ne_true] at P1 ⊢
                obtain ⟨hd3, gB, RB, zB, mB⟩ := fin g3 R3
                exact ⟨{ w3 with B := w1.B }, S3, acc, xs, g1.trans gB, RB, b1, zB, mB, hd3, RepVs.grow gB r1, P1.grow gB⟩
              | true =>
                rw [if_pos rfl] at P1 ⊢
                refine ⟨w3, ρ2, S3, R3, Eσ.grow g3, ?_⟩
                cases q4 : el ρ2 S3 with
                | bad => rw [q4] at P1; exact P1.elim
                | exc x S4 => rw [q4] at P1; exact P1.elim
                | ok yd S4 =>
                  rw [q4] at P1
                  dsimp only at P1
                  intro w4 H4 g4 R4 yv V4
                  obtain ⟨hd4, gB, RB, zB, mB⟩ := fin (g3.trans g4) R4
                  by_cases hl : acc.length < sizeLine
                  · rw [if_pos hl] at P1
                    have r4 : RepVs { w4 with B := w1.B } xs acc := RepVs.grow gB r1
                    refine ⟨xs, hd4, by rw [r1.length]; exact hl, { w4 with B := w1.B }, S4, acc ++ [yd], xs ++ [yv], g1.trans gB, ?_, b1, zB, mB, upd_same, r4.append (.cons (V4.growD (show GrowD w4 { w4 with B := w1.B } from ⟨rfl, Same.refl _, [], by simp⟩)) .nil), P1.grow gB⟩
                    -- the list has grown: nobody's
                    refine ⟨RB.kk, fun b u e => ?_, fun b u e => ?_, RB.bz, RB.len, RB.nd, fun i a c h1 h2 => ?_⟩
                    · have : b ≠ D0 := ne_of_none e b1
                      rw [upd_ne this]; exact RB.bg b u e
                    · have : b ≠ D0 := ne_of_none e zB
                      rw [upd_ne this]; exact RB.same b u e
                    · obtain ⟨za, u, hu, r⟩ := RB.cell i a c h1 h2
                      have : a ≠ D0 := fun e => mB (e ▸ List.mem_of_getElem? h1)
                      exact ⟨za, u, by rw [upd_ne this]; exact hu, r⟩
                  · rw [if_neg hl] at P1
                    exact P1.elim
theorem dts_nil {mg : Gm} : PTs X [] (tDT mg W fun _ => M.pure true) := ⟨fun pins s σ H Q I ⟨w, ρ, S, R, E, P⟩ => pts_nil.run pins s σ H Q I (P w H (Grow.refl w) R)⟩
theorem dts_one {c : Expr} (h : PT X c (tDT X.gm W tb)) : PTs X [c] (tDT X.gm W tb) := pts_one h
theorem de_lc {elt tg iter : Expr} {ifs : List Expr} {scope : Scope} {own : List (Str × Nat)} {pos : Pos} (hc : X.calm = true) (hN : X.N.Nodup) (hi : DI X W tg iter fsrc) (ok : BlkOk X.N X.env.scope scope own)
    (hT : TgC X.gm g t (own.map (·.2))) (hg : ∀ (s : Shared) (H : Hp) (C : Addr) (cl : List (Str × Addr)) (fp : List Addr), PG (X.blk s H scope (compEnvC scope cl C X.env) fp) tg g) (ht : ∀ (s : Shared) (H : Hp) (C : Addr) (cl : List (Str × Addr)) (fp : List Addr), PTs (X.blk s H scope (compEnvC scope cl C X.env) fp) ifs (tDT X.gm Wno tb))
    (he : ∀ (s : Shared) (H : Hp) (C : Addr) (cl : List (Str × Addr)) (fp : List Addr), DE (X.blk s H scope (compEnvC scope cl C X.env) fp) Wno elt el) (hs : ∀ x, foldedSetIterable iter X.env x = pure x := by intro _; rfl) :
    DE X W (.ListComp elt [⟨tg, iter, ifs, 0⟩] scope pos) (eLc fsrc (own.map (·.2)) t tb el) := (pe_lc hc hN hi ok hg ht he hs).imp fun σ H Q h => tLc_of hT h
theorem ds_setLc {i : Nat} {y : Str} {py : Pos} {elt tg iter : Expr} {ifs : List Expr} {scope : Scope} {own : List (Str × Nat)} {pos spos : Pos} (hc : X.calm = true) (hN : X.N.Nodup) (hy : X.N[i]? = some y) (hyl : X.env.scope.names.lookup y = some .local)
    (hsw : swapsWith (.ListComp elt [⟨tg, iter, ifs, 0⟩] scope pos) (some (.Name y py)) spos.line X.env = pure true) (hi : DI X W tg iter fsrc) (ok : BlkOk X.N X.env.scope scope own)
    (hT : TgC X.gm g t (own.map (·.2))) (hg : ∀ (s : Shared) (H : Hp) (C : Addr) (cl : List (Str × Addr)) (fp : List Addr), PG (X.blk s H scope (compEnvC scope cl C X.env) fp) tg g) (ht : ∀ (s : Shared) (H : Hp) (C : Addr) (cl : List (Str × Addr)) (fp : List Addr), PTs (X.blk s H scope (compEnvC scope cl C X.env) fp) ifs (tDT X.gm Wno tb))
    (he : ∀ (s : Shared) (H : Hp) (C : Addr) (cl : List (Str × Addr)) (fp : List Addr), DE (X.blk s H scope (compEnvC scope cl C X.env) fp) Wno elt el) (hs : ∀ x, foldedSetIterable iter X.env x = pure x := by intro _; rfl) :
    DS X W (.Assign [.Name y py] (.ListComp elt [⟨tg, iter, ifs, 0⟩] scope pos) spos) (sSet i (eLc fsrc (own.map (·.2)) t tb el)) := (ps_setLc hc hN hy hyl hsw hi ok hg ht he hs).imp fun En σ H ⟨w, ρ, S, R, E, P⟩ => by
  refine tLc_of (W := W) (fsrc := fsrc) (t := t) (tb := tb) (el := el) hT ?_
  exact stepES R E P fun v w1 H1 S1 d g1 R1 E1 V1 P1 => P1 _ w1 H1 (Grow.refl _) R1 (E1.set i V1)
end
end DL
set_option Elab.async false
set_option linter.all false
set_option maxRecDepth 100000
set_option maxHeartbeats 4000000
namespace DL
open PySem PySem.Spec L2

/-! ### what a def is worth -/
/-- F of the arguments, as data, and of the cells -/
def spD (mg : Gm) (F : List D → M D) : Sp := fun vs H Q E => ∃ w ds S, Rep mg w H S ∧ RepVs w vs ds ∧ Post mg (fun c d _ H => E c d H) [] w Q (F ds S)
abbrev WF (E : XK) : WX := fun c d _ H => E c d H
def finR : RS → R D
  | .nx _ S => .ok (.p .none) S
  | .rt d S => .ok d S
  | .exc x _ S => .exc x S
  | _ => .bad
/-- the slots at the start -/
def slots (N : Nat) (ds : List D) : Sl := ds.map some ++ List.replicate (N - ds.length) none
theorem RepE.start {w : Wd} {N : List Str} : ∀ {vs : List V} {ds : List D}, RepVs w vs ds → RepE w (L2.start N vs) (slots N.length ds) := fun {vs ds} r => by
  have e := r.length
  refine ⟨by simp [L2.start, slots, e], fun i d h => ?_⟩
  unfold slots at h
  by_cases hi : i < ds.length
  · rw [List.getElem?_append_left (by simpa using hi), List.getElem?_map] at h
    cases q : ds[i]? with
    | none => rw [q] at h; cases h
    | some d' =>
      rw [q] at h
      cases h
      obtain ⟨v, h1, h2⟩ := RepVs.get r q
      refine ⟨v, ?_, h2⟩
      unfold L2.start
      rw [List.getElem?_append_left (by simpa [e] using hi), List.getElem?_map, h1]
      rfl
  · rw [List.getElem?_append_right (by simpa using hi)] at h
    have := List.mem_of_getElem? h
    rw [List.mem_replicate] at this
    cases this.2
/-- a def whose body's reading is g, worth F -/
theorem fnd_of {P : Program} {w : World} {K : PySem.W.Frag} {mg : Str → Option Value} {base : Heap} {x qual : Str} {st : Stmt} {f : Addr} {fd : FuncData} {N ps : List Str} {k : Nat} {g : Fs} {F : List D → M D}
    (Fn : Fun K x qual st f fd) (S : FnScope N ps (defScope st))
    (hbody : ∀ (cdv : Value) (A : Around) (outer : List Env) (s : Shared) (H : Hp) (E : XK), Room k (A.deeper (PyProof.Rows.envOfC qual (defScope st) s.heap.objs.size f cdv)) →
      DSs (cxOf (L2.CX P w) P w K mg base N qual (defScope st) f cdv A outer s H E) (WF E) (defBody st) g)
    (hF : ∀ ds S, F ds S ≠ .bad → ds.length = ps.length ∧ finR (g (slots N.length ds) S) = F ds S) : FnOk P w K mg base (L2.CX P w) (k + 1) f fd ps (spD ⟨mg, K⟩ F) := by
  refine Fn.okX S (fun vs H Q E ⟨w, ds, S, R, V, P⟩ => ?_) (fun cdv A outer s H vs Q E hr ⟨w', ds, S', R, V, P⟩ => ⟨_, hbody cdv A outer s H E hr, w', slots N.length ds, S', R, RepE.start V, ?_⟩)
  · have nb : F ds S ≠ .bad := fun e => by rw [e] at P; exact P.elim
    rw [V.length, (hF ds S nb).1]
  · have nb : F ds S' ≠ .bad := fun e => by rw [e] at P; exact P.elim
    have e := (hF ds S' nb).2
    rw [← e] at P
    show PostS ⟨mg, K⟩ (WF E) { nx := fun _ H' => Q .non H', rt := Q } w' (g (slots N.length ds) S')
    cases q : g (slots N.length ds) S' with
    | nx ρ S1 => rw [q] at P; exact fun σ w1 H1 g1 R1 _ => P w1 H1 g1 R1 _ .non
    | rt d S1 => rw [q] at P; exact fun v w1 H1 g1 R1 V1 => P w1 H1 g1 R1 v V1
    | exc x ρ S1 => rw [q] at P; exact fun σ c dx w1 H1 g1 R1 _ X1 => P c dx w1 H1 g1 R1 X1
    | bk ρ S1 => rw [q] at P; exact P.elim
    | ct ρ S1 => rw [q] at P; exact P.elim
    | bad => rw [q] at P; exact P.elim
/-- a weaker worth -/
theorem fnd_imp {P : Program} {w : World} {K : PySem.W.Frag} {mg : Str → Option Value} {base : Heap} {CX : CXT} {f : Addr} {fd : FuncData} {ps : List Str} {k : Nat} {G : Gm} {F F' : List D → M D} (h : FnOk P w K mg base CX k f fd ps (spD G F))
    (hF : ∀ ds S, F' ds S ≠ .bad → F ds S = F' ds S) : FnOk P w K mg base CX k f fd ps (spD G F') := h.imp fun vs H Q E ⟨w', ds, S, R, V, P⟩ => ⟨w', ds, S, R, V, by
  have nb : F' ds S ≠ .bad := fun e => by rw [e] at P; exact P.elim
  rw [hF ds S nb]
  exact P⟩

/-! ### calls of defs -/
section
variable {X : Cx} {W : WX} {e a b c o i : Expr} {f g k : Fe} {pos : Pos} {es rest : List Expr} {fs : Fl} {st : Stmt} {sts : List Stmt} {u v : Fs}
theorem de_call {x : Str} {p : Pos} {lv : Nat} {fa : Addr} {fd : FuncData} {ps : List Str} {F : List D → M D} (Fn : FnOk X.prog X.w X.K X.mg X.base (L2.CX X.prog X.w) lv fa fd ps (spD X.gm F)) (hr : Room lv X.A) (hg : Gl X x) (hm : X.mg x = some (.ref fa)) (hk : PySem.W.keepIn X.K (.ref fa) = true)
    (hb : Binds X.K fd ps []) (tk : Takes X W) (ha : DA X W (e :: es) fs) (hdb : (x == ("__debug__" : Str)) = false := by decide) (he : starEach (e :: es) X.env = (false, eval e X.env) :: starEach es X.env := by rfl) (hpl : (backTo pos (starEach es X.env)).any (·.1) = false := by rfl) :
    DE X W (.Call (.Name x p) (e :: es) [] pos) (eCB F fs) := (pe_callS Fn hr hg hm hk hb (fun σ => passAt tk σ) ha hdb he hpl).imp fun σ H Q ⟨w, ρ, S, R, E, P⟩ =>
  stepA R E P fun vs w1 H1 S1 ds g1 R1 E1 V1 P1 => ⟨w1, ds, S1, R1, V1, by
    cases q : F ds S1 with
    | ok d S2 => rw [q] at P1; exact P1
    | exc x S2 => rw [q] at P1; exact P1
    | bad => rw [q] at P1; exact P1⟩

/-! ### a new instance -/
theorem run_makeS {CX : CXT} {C fi : Addr} {fd : FuncData} {ps : List Str} {lv : Nat} {sp : Sp} {E : XK} {pins : List (Addr × Obj)} {σ : L2.St} {H : Hp} {s : Shared} {Q : VK} {us : List Value} {vs : List V} (M : Mk X.K C fi) (F : FnOk X.prog X.w X.K X.mg X.base CX lv fi fd ps sp) (hr : Room (lv + 1) X.A) (hb : Binds X.K fd ps [])
    (hx : ∀ (pins : List (Addr × Obj)) (H : Hp) (s : Shared) (e : Value) (s' : Shared), Inv X pins σ H s → CX X.stack H s E e s' → X.xe e s') (I : Inv X pins σ H s) (r : Vals vs us)
    (h : ∀ x dx, H x = none → H dx = none → dx ≠ x → sp (.ref x :: vs) (upd (upd H dx (.own x)) x (.ins C dx [])) (fun v H2 => v = .non ∧ Q (.ref x) H2) E) :
    wpAny (model X.prog X.w) X.A (PySem.call (.ref C) us) (EP X pins σ Q) X.xe s := by
  have hq := h (s.heap.objs.size + 1) s.heap.objs.size (I.hok.fresh (Nat.le_succ _)) (I.hok.fresh (Nat.le_refl _)) (Nat.ne_of_lt (Nat.lt_succ_self _))
  have I2 := Inv.made (C := C) I
  have r2 : Vals (V.ref (s.heap.objs.size + 1) :: vs) (Value.ref (s.heap.objs.size + 1) :: us) := .cons rfl r
  have hl : (Value.ref (s.heap.objs.size + 1) :: us ++ []).length = ps.length := by
    have e := r2.length
    rw [F.len _ _ _ _ hq] at e
    rw [List.append_nil]
    exact e.symm
  have b := hb _ (Value.ref (s.heap.objs.size + 1) :: us) I2.kIn hl
  rw [List.append_nil] at b
  refine wpAny_call (make_map (f := fi) I.kIn M.makes M.init (beq_iff_eq.mp M.fn) (codeAny_mono (F.run _ X.stack _ _ ⟨Value.ref (s.heap.objs.size + 1) :: us, []⟩ (Value.ref (s.heap.objs.size + 1) :: us) _ _ E (hr.make C us [])
    (I2.env0.make C us []) b r2 hq) fun r s' hq' => ?_))
  cases r with
  | error e => exact hx pins _ _ e s' I2 hq'
  | ok fl =>
    cases fl with
    | ret u =>
      obtain ⟨v, H', I3, rv, ev, q3⟩ := I2.after hq'
      subst ev
      exact ⟨rv, ⟨V.ref (s.heap.objs.size + 1), H', I3, rfl, q3⟩⟩
    | next => exact False.elim hq'
    | brk => exact False.elim hq'
    | cont => exact False.elim hq'
def tMakeS (C : Addr) (sp : Sp) (E : L2.St → XK) (t : TA) : TE := fun σ H Q => t σ H fun vs H1 => ∀ x dx, H1 x = none → H1 dx = none → dx ≠ x →
  sp (.ref x :: vs) (upd (upd H1 dx (.own x)) x (.ins C dx [])) (fun v H2 => v = .non ∧ Q (.ref x) H2) (E σ)
theorem pe_makeS {CX : CXT} {C fi : Addr} {fd : FuncData} {ps : List Str} {lv : Nat} {sp : Sp} {E : L2.St → XK} {x : Str} {p : Pos} {t : TA} (M : Mk X.K C fi) (F : FnOk X.prog X.w X.K X.mg X.base CX lv fi fd ps sp) (hr : Room (lv + 1) X.A) (hg : Gl X x) (hm : X.mg x = some (.ref C)) (hb : Binds X.K fd ps [])
    (hx : ∀ σ, PassesAt CX X σ (E σ))
    (ha : PA X (e :: es) t) (hdb : (x == ("__debug__" : Str)) = false := by decide) (he : starEach (e :: es) X.env = (false, eval e X.env) :: starEach es X.env := by rfl) (hpl : (backTo pos (starEach es X.env)).any (·.1) = false := by rfl) :
    PE X (.Call (.Name x p) (e :: es) [] pos) (tMakeS C sp E t) := by
  refine ⟨fun pins s σ H Q I h => ?_⟩
  refine wpAny_Call_Name_kw (ld_glob I hg hm ?_ hdb)
  refine PySem.W.callWith_K (h₀ := X.base) I.ok.mod.kin M.kp (thn (ha.run pos pins s σ H _ I h) fun us s1 ⟨vs, H1, I1, r, q⟩ => ⟨I1.kIn, ?_⟩) he hpl
  exact run_makeS M F hr hb (hx σ) I1 r q
def kMake (c : Str) (F : List D → M D) : List D → M D := fun ds S => match F (.o S.length :: ds) (S ++ [.ins c []]) with
  | .ok (.p .none) S' => .ok (.o S.length) S'
  | .exc x S' => .exc x S'
  | _ => .bad
theorem de_make {x : Str} {p : Pos} {C fi : Addr} {lv : Nat} {fd : FuncData} {ps : List Str} {F : List D → M D} (M : Mk X.K C fi) (Fn : FnOk X.prog X.w X.K X.mg X.base (L2.CX X.prog X.w) lv fi fd ps (spD X.gm F)) (hr : Room (lv + 1) X.A) (hg : Gl X x) (hm : X.mg x = some (.ref C))
    (hb : Binds X.K fd ps []) (tk : Takes X W) (ha : DA X W (e :: es) fs) (hdb : (x == ("__debug__" : Str)) = false := by decide) (he : starEach (e :: es) X.env = (false, eval e X.env) :: starEach es X.env := by rfl) (hpl : (backTo pos (starEach es X.env)).any (·.1) = false := by rfl) :
    DE X W (.Call (.Name x p) (e :: es) [] pos) (eCB (kMake x F) fs) := (pe_makeS M Fn hr hg hm hb (fun σ => passAt tk σ) ha hdb he hpl).imp fun σ H Q ⟨w, ρ, S, R, E, P⟩ =>
  stepA R E P fun vs w1 H1 S1 ds g1 R1 E1 V1 P1 y dx hy hdx hne => by
    obtain ⟨R2, b2, z2, m2⟩ := R1.lay (.own y) hdx
    have hy2 : (upd H1 dx (.own y)) y = none := by rw [upd_ne (Ne.symm hne)]; exact hy
    obtain ⟨g3, R3⟩ := R2.newC (o := .ins C dx []) (c := .ins x []) hy2 ⟨hm, .nil⟩
    have ey : RepV (w1.addM y) (.ref y) (.o S1.length) := ⟨y, by show (w1.m ++ [y])[S1.length]? = some y; rw [← R1.len]; simp, rfl⟩
    refine ⟨_, .o S1.length :: ds, S1 ++ [.ins x []], R3, .cons ey (RepVs.grow g3 V1), ?_⟩
    have P1 := P1.grow g3
    unfold kMake at P1
    cases q : F (.o S1.length :: ds) (S1 ++ [.ins x []]) with
    | bad => rw [q] at P1; exact P1.elim
    | exc z S4 => rw [q] at P1; exact P1
    | ok d S4 =>
      rw [q] at P1
      intro w4 H4 g4 R4 v4 V4
      cases d with
      | o i => exact P1.elim
      | s ns => exact P1.elim
      | p d =>
        cases d with
        | none =>
          cases V4.cases_p
          exact ⟨rfl, P1 w4 H4 g4 R4 _ (ey.grow g4)⟩
        | _ => exact P1.elim

/-! ### stores -/
/-- self.m = v -/
def putD (m : Str) (v : D) : List (Str × D) → List (Str × D)
  | [] => [(m, v)]
  | (a, x) :: r => if a = m then (a, v) :: r else (a, x) :: putD m v r
theorem RepF.put {w : Wd} {m : Str} {v : V} {d : D} (rv : RepV w v d) : ∀ {fs : List (Str × V)} {gs : List (Str × D)}, RepF w fs gs → RepF w (putF m v fs) (putD m d gs)
  | _, _, .nil => .cons ⟨rfl, rv⟩ .nil
  | (a, x) :: fs, (b, y) :: gs, .cons ⟨h1, h2⟩ t => by
    have h1 : a = b := h1
    subst h1
    unfold putF putD
    by_cases e : a = m
    · rw [if_pos e, if_pos e]; exact .cons ⟨rfl, rv⟩ t
    · rw [if_neg e, if_neg e]; exact .cons ⟨rfl, h2⟩ (RepF.put rv t)
theorem RepF.length {κ : Type} {w : Wd} {fs : List (κ × V)} {gs : List (κ × D)} (h : RepF w fs gs) : fs.length = gs.length := Paired.length h
def putAt (c m : Str) (x v : D) (S : Store) : Option Store := match x with
  | .o i => (insAt S i).bind fun p => if p.1 = c ∧ p.2.length < 1000 then some (S.set i (.ins c (putD m v p.2))) else none
  | _ => none
def nxO (ρ : Sl) : Option Store → RS
  | some S => .nx ρ S
  | none => .bad
def sFld (c m : Str) (fo fv : Fe) : Fs := fun ρ S => bindS ρ (fv ρ S) fun v S1 => bindS ρ (fo ρ S1) fun x S2 => nxO ρ (putAt c m x v S2)
theorem ds_fld {C : Addr} {c m : Str} {value : Expr} {pos' : Pos} {fv : Fe} (hmc : X.mg c = some (.ref C)) (cl : Cls X.K C) (nm : NoAttr X.K C m) (ho : DE X W o f) (hv : DE X W value fv) (hs : swapsWith value (some (.Attribute o m pos')) pos.line X.env = pure false := by rfl) :
    DS X W (.Assign [.Attribute o m pos'] value pos) (sFld c m f fv) := (ps_fld ho hv hs).imp fun En σ H ⟨w, ρ, S, R, E, P⟩ =>
  stepES R E P fun y w1 H1 S1 dv g1 R1 E1 V1 P1 => stepES R1 E1 P1 fun x w2 H2 S2 d g2 R2 E2 V2 P2 => by
    unfold putAt at P2
    cases d with
    | p d => exact P2.elim
    | s ns => exact P2.elim
    | o i =>
      replace P2 : PostS X.gm W En w2 (nxO ρ ((insAt S2 i).bind fun p => if p.1 = c ∧ p.2.length < 1000 then some (S2.set i (.ins c (putD m dv p.2))) else none)) := P2
      cases q : insAt S2 i with
      | none => rw [q] at P2; exact P2.elim
      | some pr =>
        rw [q] at P2
        dsimp only [Option.bind] at P2
        by_cases hc : pr.1 = c ∧ pr.2.length < 1000
        · rw [if_pos hc] at P2
          obtain ⟨a, ha, rfl⟩ := V2
          obtain ⟨oo, ho, r⟩ := R2.at_ ha (insAt_some q)
          obtain ⟨C', dx, xs, rfl, hmg, rf⟩ := r.ins_inv
          have hmg : X.mg pr.1 = some (.ref C') := hmg
          rw [hc.1, hmc] at hmg
          cases hmg
          exact ⟨a, C, dx, xs, rfl, ho, cl, nm, by rw [rf.length]; exact hc.2, P2 σ w2 _ (Grow.refl _) (R2.setC (o := .ins C dx (putF m y xs)) ha ⟨hmc, RepF.put (V1.grow g2) rf⟩) E2⟩
        · rw [if_neg hc] at P2
          exact P2.elim
/-- xs[i] = v of a list's cell -/
def lstAt (S : Store) (i : Nat) : Option (List D) := S[i]?.bind Cell.lst?
theorem lstAt_some {S : Store} {i : Nat} {ds : List D} (h : lstAt S i = some ds) : S[i]? = some (.lst ds) := by
  obtain ⟨c, h1, h2⟩ := Option.bind_eq_some_iff.mp h
  rw [h1, Cell.lst_eq h2]
def setAt (x i v : D) (S : Store) : Option Store := match x, i with
  | .o a, .p (.int k) => (lstAt S a).bind fun ds => (ixN ds.length k).map fun j => S.set a (.lst (ds.set j v))
  | _, _ => none
def sItem (fo fi fv : Fe) : Fs := fun ρ S => bindS ρ (fv ρ S) fun v S1 => bindS ρ (fo ρ S1) fun x S2 => bindS ρ (fi ρ S2) fun i S3 => nxO ρ (setAt x i v S3)
theorem ds_item {value : Expr} {pos' : Pos} {fv : Fe} (ho : DE X W o f) (hi : DE X W i g) (hv : DE X W value fv)
    (ha : ∀ v, assign (.Subscript o i pos') X.env v = (do
      let ov ← holding [v] (eval o X.env)
      let iv ← holding [v, ov] (eval i X.env)
      standAt pos'
      holding [v, ov, iv] (setItem ov iv v)
      release [v, ov, iv] []) := by intro _; rfl)
    (hs : swapsWithSole [.Subscript o i pos'] value pos.line X.env = pure false := by rfl) (hw : swappedStores [.Subscript o i pos'] value X.env = pure none := by rfl)
    (h1 : (assignEach [.Subscript o i pos'] X.env).map (·.2) = [assign (.Subscript o i pos') X.env] := by rfl) :
    DS X W (.Assign [.Subscript o i pos'] value pos) (sItem f g fv) := (ps_asg hv (pg_sub ho hi set_list ha) hs hw h1).imp fun En σ H ⟨w, ρ, S, R, E, P⟩ =>
  stepES R E P fun y w1 H1 S1 dv g1 R1 E1 V1 P1 => stepES R1 E1 P1 fun x w2 H2 S2 d g2 R2 E2 V2 P2 => stepES R2 E2 P2 fun z w3 H3 S3 di g3 R3 E3 V3 P3 => by
    unfold setAt at P3
    split at P3
    · rename_i a k
      cases V3.cases_p
      obtain ⟨ad, ha, rfl⟩ := V2.grow g3
      cases q : lstAt S3 a with
      | none => rw [q] at P3; exact P3.elim
      | some ds =>
        rw [q] at P3
        dsimp only [Option.bind] at P3
        cases q2 : ixN ds.length k with
        | none => rw [q2] at P3; exact P3.elim
        | some j =>
          rw [q2] at P3
          obtain ⟨oo, ho, r⟩ := R3.at_ ha (lstAt_some q)
          obtain ⟨xs, rfl, r⟩ := r.lst_inv
          exact ⟨ad, xs, k, j, rfl, rfl, ho, by rw [r.length]; exact q2, P3 σ w3 _ (Grow.refl _) (R3.setC (o := .lst (xs.set j y)) ha (RepVs.set (V1.grow (g2.trans g3)) j r)) E3⟩
    · exact P3.elim

/-! ### methods of lists -/
def kIsL : D → M D := fun x S => match x with
  | .o i => if (lstAt S i).isSome = true then .ok x S else .bad
  | _ => .bad
def kApp (x y : D) : M D := fun S => match x with
  | .o i => ofO S (lstAt S i) |> fun r => match r with
    | .ok ds S => if ds.length < sizeLine then .ok (.p .none) (S.set i (.lst (ds ++ [y]))) else .bad
    | _ => .bad
  | _ => .bad
def kPop (x : D) : M D := fun S => match x with
  | .o i => match lstAt S i with
    | some ds => match ds[ds.length - 1]? with
      | some y => .ok y (S.set i (.lst ds.dropLast))
      | none => .bad
    | none => .bad
  | _ => .bad
def eApp (f g : Fe) : Fe := fun ρ => M.bind (f ρ) fun x => M.bind (kIsL x) fun _ => M.bind (g ρ) fun y => kApp x y
def ePop (f : Fe) : Fe := fun ρ => M.bind (f ρ) kPop
theorem mtr_of {id : String} {r : V → List V → Hp → VK → Prop} (h : MtM X id r) : MtR X id r := h
theorem de_app {apos cpos : Pos} (ho : DE X W o f) (ha : DE X W e g)
    (hbase : attributeBase o "append" X.env (eval o X.env) = eval o X.env := by rfl)
    (hfew : ((backTo cpos (starEach [e] X.env)).all (fun x => !x.1) && (backToKw cpos (keywordEach [] X.env)).all (fun x => x.1.isSome)
      && decide (([e] : List Expr).length + ([] : List Keyword).length + (if ([] : List Keyword).isEmpty then 0 else 1) < 30)) = true := by rfl)
    (hline : (apos.endLine == cpos.line) = true := by rfl) (hs : starEach [e] X.env = (false, eval e X.env) :: starEach [] X.env := by rfl) (hplain : (backTo cpos (starEach [] X.env)).any (·.1) = false := by rfl) :
    DE X W (.Call (.Attribute o "append" apos) [e] [] cpos) (eApp f g) :=
  (pe_bm PySem.F.plainAttrs_list PySem.F.slot_list_append PySem.F.type_list_append mt_append ho (pa_cons ha pa_nil hs) hbase hfew hline hs hplain).imp fun σ H Q ⟨w, ρ, S, R, E, P⟩ => by
    refine stepE R E P fun x w1 H1 S1 d g1 R1 E1 V1 P1 => ?_
    have P1 : Post X.gm W σ w1 Q (M.bind (kIsL d) (fun _ => M.bind (g ρ) fun y => kApp d y) S1) := P1
    cases d with
    | p d => exact P1.elim
    | s ns => exact P1.elim
    | o i =>
      rw [M.bind_eq] at P1
      unfold kIsL at P1
      dsimp only at P1
      cases q : lstAt S1 i with
      | none => rw [q] at P1; exact P1.elim
      | some ds =>
        rw [q] at P1
        obtain ⟨a, ha, rfl⟩ := id V1
        obtain ⟨oo, ho, r⟩ := R1.at_ ha (lstAt_some q)
        obtain ⟨xs, rfl, r⟩ := r.lst_inv
        refine ⟨.inl ⟨rfl, _, SqL.of ho⟩, ?_⟩
        have P1 : Post X.gm W σ w1 Q (M.bind (g ρ) (fun y => kApp (.o i) y) S1) := P1
        refine stepE R1 E1 P1 fun y w2 H2 S2 dy g2 R2 E2 V2 P2 => ?_
        unfold kApp at P2
        dsimp only at P2
        cases q2 : lstAt S2 i with
        | none => rw [q2] at P2; exact P2.elim
        | some ds2 =>
          rw [q2] at P2
          have P2 : Post X.gm W σ w2 Q (if ds2.length < sizeLine then .ok (.p .none) (S2.set i (.lst (ds2 ++ [dy]))) else .bad) := P2
          by_cases hl : ds2.length < sizeLine
          · rw [if_pos hl] at P2
            obtain ⟨o2, ho2, r2⟩ := R2.at_ (g2.at ha) (lstAt_some q2)
            obtain ⟨ys, rfl, r2⟩ := r2.lst_inv
            exact ⟨a, ys, y, rfl, rfl, ho2, by rw [r2.length]; exact hl, P2 w2 _ (Grow.refl _) (R2.setC (o := .lst (ys ++ [y])) (g2.at ha) (RepVs.append r2 (.cons V2 .nil))) _ .non⟩
          · rw [if_neg hl] at P2
            exact P2.elim
theorem de_pop {apos cpos : Pos} (ho : DE X W o f) (hbase : attributeBase o "pop" X.env (eval o X.env) = eval o X.env := by rfl) (hline : (apos.endLine == cpos.line) = true := by rfl) :
    DE X W (.Call (.Attribute o "pop" apos) [] [] cpos) (ePop f) := (pe_bm0 PySem.F.plainAttrs_list PySem.F.slot_list_pop PySem.F.type_list_pop mt_pop ho hbase hline).imp fun σ H Q ⟨w, ρ, S, R, E, P⟩ => by
    refine stepE R E P fun x w1 H1 S1 d g1 R1 E1 V1 P1 => ?_
    cases d with
    | p d => exact P1.elim
    | s ns => exact P1.elim
    | o i =>
      unfold kPop at P1
      dsimp only at P1
      cases q : lstAt S1 i with
      | none => rw [q] at P1; exact P1.elim
      | some ds =>
        rw [q] at P1
        dsimp only at P1
        cases q2 : ds[ds.length - 1]? with
        | none => rw [q2] at P1; exact P1.elim
        | some y =>
          rw [q2] at P1
          obtain ⟨a, ha, rfl⟩ := V1
          obtain ⟨oo, ho, r⟩ := R1.at_ ha (lstAt_some q)
          obtain ⟨xs, rfl, r⟩ := r.lst_inv
          obtain ⟨v, h1, h2⟩ := RepVs.get r q2
          exact ⟨.inl ⟨rfl, _, SqL.of ho⟩, a, xs, v, rfl, rfl, ho, by rw [r.length]; exact h1, P1 w1 _ (Grow.refl _) (R1.setC (o := .lst xs.dropLast) ha r.dropLast) _ h2⟩
end
end DL
set_option Elab.async false
set_option linter.all false
set_option maxRecDepth 100000
set_option maxHeartbeats 4000000
namespace DL
open PySem PySem.Spec L2
/-! ### defs by their names -/
/-- the def stands in the module under its name -/
structure DefAt (K : PySem.W.Frag) (mg : Str → Option Value) (x : Str) (st : Stmt) (ps : List Str) : Prop where
  ex : ∃ fa fd, mg x = some (.ref fa) ∧ Fun K x x st fa fd ∧ Binds K fd ps []
/-- .. and what it is worth -/
structure DefOk (P : Program) (w : World) (K : PySem.W.Frag) (mg : Str → Option Value) (base : Heap) (x : Str) (ps : List Str) (lv : Nat) (F : List D → M D) : Prop where
  ex : ∃ fa fd, mg x = some (.ref fa) ∧ PySem.W.keepIn K (.ref fa) = true ∧ Binds K fd ps [] ∧ FnOk P w K mg base (L2.CX P w) lv fa fd ps (spD ⟨mg, K⟩ F)
/-- a method that stands in a class -/
structure MethAt (K : PySem.W.Frag) (C : Addr) (m qual : Str) (st : Stmt) (ps : List Str) : Prop where
  ex : ∃ fa fd, PySem.W.findIn K (.ref C) m = some (some (.ref fa)) ∧ PySem.W.isFn K (.ref fa) = true ∧ Fun K m qual st fa fd ∧ Binds K fd ps []
structure MethOk (P : Program) (w : World) (K : PySem.W.Frag) (mg : Str → Option Value) (base : Heap) (C : Addr) (m : Str) (ps : List Str) (lv : Nat) (F : List D → M D) : Prop where
  ex : ∃ fa fd, PySem.W.findIn K (.ref C) m = some (some (.ref fa)) ∧ PySem.W.isFn K (.ref fa) = true ∧ PySem.W.keepIn K (.ref fa) = true ∧ Binds K fd ps [] ∧ FnOk P w K mg base (L2.CX P w) lv fa fd ps (spD ⟨mg, K⟩ F)
section
variable {P : Program} {w : World} {K : PySem.W.Frag} {mg : Str → Option Value} {base : Heap}
theorem DefOk.imp {x : Str} {ps : List Str} {lv : Nat} {F F' : List D → M D} (h : DefOk P w K mg base x ps lv F) (hF : ∀ ds S, F' ds S ≠ .bad → F ds S = F' ds S) : DefOk P w K mg base x ps lv F' :=
  let ⟨fa, fd, h1, h2, h3, h4⟩ := h.ex
  ⟨fa, fd, h1, h2, h3, fnd_imp h4 hF⟩
theorem DefOk.mono {x : Str} {ps : List Str} {lv lv' : Nat} {F : List D → M D} (h : DefOk P w K mg base x ps lv F) (l : lv ≤ lv') : DefOk P w K mg base x ps lv' F :=
  let ⟨fa, fd, h1, h2, h3, h4⟩ := h.ex
  ⟨fa, fd, h1, h2, h3, h4.mono l⟩
/-- a def is worth what the reading of its body gives -/
def bodyF (n N : Nat) (g : Fs) : List D → M D := fun ds S => if ds.length = n then finR (g (slots N ds) S) else .bad
theorem def_ok {x : Str} {st : Stmt} {N ps : List Str} {k : Nat} {g : Fs} (h : DefAt K mg x st ps) (S : FnScope N ps (defScope st))
    (hbody : ∀ (f : Addr) (cdv : Value) (A : Around) (outer : List Env) (s : Shared) (H : Hp) (E : XK), Room k (A.deeper (PyProof.Rows.envOfC x (defScope st) s.heap.objs.size f cdv)) →
      DSs (cxOf (L2.CX P w) P w K mg base N x (defScope st) f cdv A outer s H E) (WF E) (defBody st) g) : DefOk P w K mg base x ps (k + 1) (bodyF ps.length N.length g) := by
  obtain ⟨fa, fd, h1, h2, h3⟩ := h.ex
  refine ⟨fa, fd, h1, h2.kp, h3, fnd_of h2 S (hbody fa) fun ds S' nb => ?_⟩
  unfold bodyF at nb ⊢
  by_cases e : ds.length = ps.length
  · rw [if_pos e]; exact ⟨e, rfl⟩
  · rw [if_neg e] at nb; exact absurd rfl nb
theorem meth_ok {C : Addr} {m qual : Str} {st : Stmt} {N ps : List Str} {k : Nat} {g : Fs} (h : MethAt K C m qual st ps) (S : FnScope N ps (defScope st))
    (hbody : ∀ (f : Addr) (cdv : Value) (A : Around) (outer : List Env) (s : Shared) (H : Hp) (E : XK), Room k (A.deeper (PyProof.Rows.envOfC qual (defScope st) s.heap.objs.size f cdv)) →
      DSs (cxOf (L2.CX P w) P w K mg base N qual (defScope st) f cdv A outer s H E) (WF E) (defBody st) g) : MethOk P w K mg base C m ps (k + 1) (bodyF ps.length N.length g) := by
  obtain ⟨fa, fd, h1, h1', h2, h3⟩ := h.ex
  refine ⟨fa, fd, h1, h1', h2.kp, h3, fnd_of h2 S (hbody fa) fun ds S' nb => ?_⟩
  unfold bodyF at nb ⊢
  by_cases e : ds.length = ps.length
  · rw [if_pos e]; exact ⟨e, rfl⟩
  · rw [if_neg e] at nb; exact absurd rfl nb
end
theorem hu65 {A : Around} {k : Nat} (hr : Room k A) : A.units + 65 < cLine := by have := hr.un; omega
theorem hu1 {A : Around} {k : Nat} (hr : Room k A) : A.units + 1 < cLine := by have := hr.un; omega
section
variable {X : Cx} {W : WX} {e a b c o i : Expr} {f g k : Fe} {pos : Pos} {es rest : List Expr} {fs : Fl}
theorem de_callD {x : Str} {p : Pos} {lv : Nat} {ps : List Str} {F : List D → M D} (h : DefOk X.prog X.w X.K X.mg X.base x ps lv F) (hr : Room lv X.A) (hg : Gl X x) (tk : Takes X W) (ha : DA X W (e :: es) fs)
    (hdb : (x == ("__debug__" : Str)) = false := by decide) (he : starEach (e :: es) X.env = (false, eval e X.env) :: starEach es X.env := by rfl) (hpl : (backTo pos (starEach es X.env)).any (·.1) = false := by rfl) :
    DE X W (.Call (.Name x p) (e :: es) [] pos) (eCB F fs) :=
  let ⟨_, _, h1, h2, h3, h4⟩ := h.ex
  de_call h4 hr hg h1 h2 h3 tk ha hdb he hpl
/-- what a class must have to be made -/
structure MkC (K : PySem.W.Frag) (C : Addr) : Prop where
  makes : PySem.W.makesIn K C = true
  kp : PySem.W.keepIn K (.ref C) = true
theorem de_makeD {x : Str} {p : Pos} {C : Addr} {lv : Nat} {ps : List Str} {F : List D → M D} (hm : X.mg x = some (.ref C)) (M : MkC X.K C) (h : MethOk X.prog X.w X.K X.mg X.base C "__init__" ps lv F) (hr : Room (lv + 1) X.A) (hg : Gl X x) (tk : Takes X W) (ha : DA X W (e :: es) fs)
    (hdb : (x == ("__debug__" : Str)) = false := by decide) (he : starEach (e :: es) X.env = (false, eval e X.env) :: starEach es X.env := by rfl) (hpl : (backTo pos (starEach es X.env)).any (·.1) = false := by rfl) :
    DE X W (.Call (.Name x p) (e :: es) [] pos) (eCB (kMake x F) fs) :=
  let ⟨_, _, h1, h1', _, h3, h4⟩ := h.ex
  de_make ⟨M.makes, h1, h1', M.kp⟩ h4 hr hg hm h3 tk ha hdb he hpl

/-! ### isinstance against an own class -/
structure IsC (K : PySem.W.Frag) (C : Addr) : Prop where
  cl : Cls K C
  ca : PySem.W.findIn K (.ref C) "__class__" = some (some (.builtin "object.__class__"))
  hn : PySem.W.specialIn K (.builtin "object.__class__") "__get__" = some (some (.builtin "getset_descriptor.__get__"))
  htk : PySem.W.takesIn K (.builtin "object.__class__") = some true
  hm : PySem.W.mroIn K C (.type "object") = some true
  self : PySem.W.kitOne K (.ref C) (.ref C) = some true
  non : PySem.W.kitOne K (.type "NoneType") (.ref C) = some false
  bl : PySem.W.kitOne K (.type "bool") (.ref C) = some false
  int : PySem.W.kitOne K (.type "int") (.ref C) = some false
  str : PySem.W.kitOne K (.type "str") (.ref C) = some false
  lst : PySem.W.kitOne K (.type "list") (.ref C) = some false
  tup : PySem.W.kitOne K (.type "tuple") (.ref C) = some false
def fIsiOwn (c : Str) : D → M D := fun x S => match x with
  | .o i => match insAt S i with
    | some p => if p.1 = c then .ok (.p (.bool true)) S else .bad
    | none => match lstAt S i with
      | some _ => .ok (.p (.bool false)) S
      | none => .bad
  | .p (.dict _) => .bad
  | _ => .ok (.p (.bool false)) S
theorem de_isiOwn {C : Addr} {c : Str} {p p2 : Pos} (hg : Gl X "isinstance") (hm : X.mg "isinstance" = none) (hgc : Gl X c) (hmc : X.mg c = some (.ref C)) (T : IsC X.K C) (ha : DE X W e f)
    (hdT : (c == ("__debug__" : Str)) = false := by decide)
    (he : starEach [e, .Name c p2] X.env = (false, eval e X.env) :: starEach [.Name c p2] X.env := by rfl) (he' : starEach [.Name c p2] X.env = (false, eval (.Name c p2) X.env) :: starEach [] X.env := by rfl) (hpl : (backTo pos (starEach [.Name c p2] X.env)).any (·.1) = false := by rfl) :
    DE X W (.Call (.Name "isinstance" p) [e, .Name c p2] [] pos) (eUn (fIsiOwn c) f) :=
  (pe_callB call_isi hg hm PyProof.Rows.boot_isinstance (pa_cons ha (pa_cons (pe_glob (v := .ref C) hgc hmc rfl hdT) pa_nil he') he) (by decide) (by decide) he hpl).imp fun σ H Q ⟨w, ρ, S, R, E, P⟩ => by
    refine stepE R E P fun x w1 H1 S1 d g1 R1 E1 V1 P1 => ?_
    have fin : ∀ {t : Value} {b : Bool}, TyX X.K H1 x t → PySem.W.kitOne X.K t (.ref C) = some b → Q (.bl b) H1 → rIsi X.K [x, .ref C] H1 Q := fun ty k q => ⟨x, .ref C, _, .ref C, _, rfl, .own C, ty, k, q⟩
    cases d with
    | s ns => exact fin (tyC_ty R1 V1 rfl) T.lst (Post.here R1 P1 (.bl _))
    | p d =>
      cases d with
      | none => exact fin (tyC_ty R1 V1 rfl) T.non (Post.here R1 P1 (.bl _))
      | bool _ => exact fin (tyC_ty R1 V1 rfl) T.bl (Post.here R1 P1 (.bl _))
      | int _ => exact fin (tyC_ty R1 V1 rfl) T.int (Post.here R1 P1 (.bl _))
      | str _ => exact fin (tyC_ty R1 V1 rfl) T.str (Post.here R1 P1 (.bl _))
      | list _ => exact fin (tyC_ty R1 V1 rfl) T.lst (Post.here R1 P1 (.bl _))
      | tuple _ => exact fin (tyC_ty R1 V1 rfl) T.tup (Post.here R1 P1 (.bl _))
      | dict _ => exact P1.elim
    | o i =>
      unfold fIsiOwn at P1
      dsimp only at P1
      cases q : insAt S1 i with
      | some pr =>
        rw [q] at P1
        dsimp only at P1
        by_cases hc : pr.1 = c
        · rw [if_pos hc] at P1
          obtain ⟨a, ha, rfl⟩ := id V1
          obtain ⟨oo, ho, r⟩ := R1.at_ ha (insAt_some q)
          obtain ⟨C', dx, xs, rfl, hmg, rf⟩ := r.ins_inv
          have hmg : X.mg pr.1 = some (.ref C') := hmg
          rw [hc, hmc] at hmg
          cases hmg
          exact fin (.base (.ins ho T.cl T.ca T.hn T.htk T.hm)) T.self (Post.here R1 P1 (.bl _))
        · rw [if_neg hc] at P1; exact P1.elim
      | none =>
        rw [q] at P1
        dsimp only at P1
        cases q2 : lstAt S1 i with
        | none => rw [q2] at P1; exact P1.elim
        | some ds =>
          rw [q2] at P1
          have e : tyC S1 (.o i) = some "list" := by
            show S1[i]?.bind Cell.ty? = some "list"
            rw [lstAt_some q2]; rfl
          exact fin (tyC_ty R1 V1 e) T.lst (Post.here R1 P1 (.bl _))

/-! ### zip of two lists or of two tuples -/
def isTupD : D → Bool
  | .p (.tuple _) => true
  | _ => false
def ofZip : List D → M SrcV
  | [x, y] => fun S => if (seqItems S x).isSome = true ∧ (seqItems S y).isSome = true ∧ isTupD x = isTupD y then .ok (.zip x y) S else .bad
  | _ => M.bad
def srcZip (f g : Fe) : Fsrc := fun ρ => M.bind (aCons f (aCons g aNil) ρ) ofZip
end
end DL
set_option Elab.async false
set_option linter.all false
set_option maxRecDepth 100000
set_option maxHeartbeats 4000000
namespace DL
open PySem PySem.Spec PySem.W PySem.Calls PySem.HandSPX
/-! ### an error class of the program: its __init__ says super().__init__(a text), then keeps its argument -/
def xA (a : Str) (p1 p2 : Pos) : Arguments := { posonlyargs := [], args := [{ arg := "self", annotation := none, pos := p1 }, { arg := a, annotation := none, pos := p2 }], vararg := none, kwonlyargs := [], kw_defaults := [], kwarg := none, defaults := [] }
def xB (a m : Str) (q1 q2 q3 q4 q5 q6 r1 r2 r3 r4 : Pos) (j : Nat) : List Stmt := [.Expr (.Call (.Attribute (.Call (.Name "super" q1) [] [] q2) "__init__" q3) [.Constant (.str m) j q4] [] q5) q6, .Assign [.Attribute (.Name "self" r1) a r2] (.Name a r3) r4]
def xS (a : Str) : Scope := { kind := .function, names := [(PySem.Str.ofString "self", .local), (a, .local), (PySem.Str.ofString "__class__", .free), (PySem.Str.ofString "super", .globalImplicit)], isGenerator := false, isCoroutine := false, more := [] }
theorem super_form {q1 q2 q3 q4 q5 : Pos} {m : Str} {j : Nat} {env : Env} (hp : (q3.endLine == q5.line) = true) : eval (.Call (.Attribute (.Call (.Name "super" q1) [] [] q2) "__init__" q3) [.Constant (.str m) j q4] [] q5) env = (do
      let ov ← attributeBase (.Call (.Name "super" q1) [] [] q2) "__init__" env (eval (.Call (.Name "super" q1) [] [] q2) env)
      standAt q3.atName
      let (f, first) ← holding [ov] (getMethod ov "__init__" (do return (← importBound (.Call (.Name "super" q1) [] [] q2) env).getD true))
      callWith q5 f first (backTo q5 (starEach [.Constant (.str m) j q4] env)) []) := by
  have h : eval (.Call (.Attribute (.Call (.Name "super" q1) [] [] q2) "__init__" q3) [.Constant (.str m) j q4] [] q5) env = (do
      let ov ← attributeBase (.Call (.Name "super" q1) [] [] q2) "__init__" env (eval (.Call (.Name "super" q1) [] [] q2) env)
      standAt q3.atName
      methodCall (.Call (.Name "super" q1) [] [] q2) "__init__" q3 q5 env ov 1 (backTo q5 (starEach [.Constant (.str m) j q4] env)) []) := rfl
  rw [h]
  have hf : methodCallForm 1 (backTo q5 (starEach [.Constant (.str m) j q4] env)) [] = true := rfl
  simp only [methodCall, hf, calleeOf, methodCallPos, hp, Bool.not_true, Bool.false_or, if_true]
  rfl
/-- what stands of such a class at C, its __init__ at fI -/
structure ErrC (P : Program) (K : Frag) (mg : Str → Option Value) (a : Str) (C fI : Addr) : Prop where
  cls : ∃ nm q N bs bm sn sub ab col dd k0 k1 k2 k3 k5, K.lookup C = some (excClassObj nm q C N bs bm true sn sub ab col dd k0 k1 k2 k3 k5 "ValueError.__new__") ∧ refsVE bm = true
  sa : findIn K (.ref C) "__setattr__" = some (some (.builtin "object.__setattr__"))
  ga : findIn K (.ref C) "__getattribute__" = some (some (.builtin "BaseException.__getattribute__"))
  gg : findIn K (.ref C) "__getattr__" = some none
  noN : findIn K (.ref C) a = some none
  iC : findIn K (.ref C) "__init__" = some (some (.ref fI))
  tC : typeIn K (.ref fI) = some (.type "function")
  kC : keepIn K (.ref C) = true
  exC : subIn K (.ref C) (.type "BaseException") = some true
  tyC : typeIn K (.ref C) = some (.type "type")
  hdC : hasDictIn K C = true
  te : exmOne K (.ref C) (.ref C) = some true
  sup : ks_superIn K C C "__init__" = some (some (.builtin "ValueError.__init__"))
  sv : subIn K (.ref C) (.type "ValueError") = some true
  op : nsIn K cStatics "thirdparty.any" = some none
  sub : mroIn K C (.ref C) = some true
  nsup : mg "super" = none
  top : (P.main.scope.names.lookup ("super" : Str)).isSome = false
  fn : ∃ (oc : Value) (od : Option Addr) (qual m : Str) (doc pm ct ccl cl : Value) (an cdd cld : Option Addr) (osl ccs csl : Array (Option Value)) (cda cc : Addr) (vs : Array Value) (file : Str) (tf : Tok) (p1 p2 q1 q2 q3 q4 q5 q6 r1 r2 r3 r4 : Pos) (j : Nat),
    K.lookup fI = some ⟨oc, od, .func (ksFn "__init__" qual (xA a p1 p2) (xB a m q1 q2 q3 q4 q5 q6 r1 r2 r3 r4 j) (xS a) .none .none doc pm an (.ref cda) ct cc), osl⟩ ∧ codeIn K (.ref cda) qual = true ∧
    K.lookup cda = some ⟨ccl, cdd, .fields vs, ccs⟩ ∧ vs[2]? = some (.str file tf) ∧ ((P.main.file : Str) == file) = true ∧ (q3.endLine == q5.line) = true ∧ K.lookup cc = some ⟨cl, cld, .cell (some (.ref C)), csl⟩
/-- the attribute's name is a plain one -/
structure PlainA (a : Str) : Prop where
  bd : ∀ (s : Shared) (qual : Str) (b : List Stmt) (doc pm : Value) (an : Option Addr) (cd ct cc : _) (p1 p2 : Pos) (x v : Value), BindsTo s (ksFn "__init__" qual (xA a p1 p2) b (xS a) .none .none doc pm an cd ct cc) ⟨[x, v], []⟩ [("self", x), (a, v)]
  la : (xS a).names.lookup a = some .local
  lsup : (xS a).names.lookup ("super" : Str) = some .globalImplicit
  lcls : (xS a).names.lookup ("__class__" : Str) = some .free
  lself : (xS a).names.lookup ("self" : Str) = some .local
  ns : ¬ a = ("self" : Str)
  nd : (a == ("__debug__" : Str)) = false
theorem plain_value : PlainA "value" := ⟨fun _ _ _ _ _ _ _ _ _ _ _ _ _ => BindsTo.of_eq (by first | rfl | with_unfolding_all rfl), by decide +kernel, by decide +kernel, by decide +kernel, by decide +kernel, by decide +kernel, by decide +kernel⟩
theorem plain_what : PlainA "what" := ⟨fun _ _ _ _ _ _ _ _ _ _ _ _ _ => BindsTo.of_eq (by first | rfl | with_unfolding_all rfl), by decide +kernel, by decide +kernel, by decide +kernel, by decide +kernel, by decide +kernel, by decide +kernel⟩
theorem plain_word : PlainA "word" := ⟨fun _ _ _ _ _ _ _ _ _ _ _ _ _ => BindsTo.of_eq (by first | rfl | with_unfolding_all rfl), by decide +kernel, by decide +kernel, by decide +kernel, by decide +kernel, by decide +kernel, by decide +kernel⟩
/-- what __init__ leaves of a fresh exception at x -/
structure XEnd (h h' : Heap) (x C dx t1 : Addr) (a : Str) (v : Value) : Prop where
  keep : ∀ b o, b ≠ x → h.get? b = some o → h'.get? b = some o
  obj : h'.get? x = some { cls := .ref C, dict := some dx, data := .fields #[.ref t1, .none, .none, .none, .bool false, .none] }
  dbig : h.objs.size ≤ dx
  dne : dx ≠ x
  ns : h'.Ns1 dx (fun y => if y = a then some v else none)
section
variable {prog : Program} {w : World} {A : Around} {E : Value → Shared → Prop} {R : Result → Shared → Prop} {s : Shared} {K : Frag} {mg : Str → Option Value} {C fI : Addr} {a : Str}
/-- the bound built-in __init__ called -/
theorem call_mw {B i newId : String} {bmB : List Value} {h : Heap} {g : Array GenState} {d : Drawn} {t : Nat} {os : OsState} {u x t0 : Addr} {rest : List Value} {Q : Value → Shared → Prop} (FB : ExcBaseFacts B newId i bmB)
    {nm q : Str} {N : Addr} {bs bm : List Value} {hdct : Bool} {sn : List Str} {sub : List Value} {ab : Bool} {col : Option Bool} {dd : Option Addr} {k0 k1 k2 k3 k5 : Option Value}
    (hC : h.get? C = some (excClassObj nm q C N bs bm hdct sn sub ab col dd k0 k1 k2 k3 k5 newId)) (hu : h.get? u = some (kxs_mw i x)) (he : h.get? x = some (excO C t0)) (hz : rest.length ≤ sizeLine)
    (fin : ∀ h', (∀ b o, b ≠ x → h.get? b = some o → h'.get? b = some o) → h'.get? x = some (excO C h.objs.size) → Q .none ⟨h', g, d, t, os⟩) : wpAny (model prog w) A (PySem.call (.ref u) rest) Q E ⟨h, g, d, t, os⟩ := by
  refine wpAny_call (codeAny_of_tree ?_)
  show wpAny _ A.in1 (callAny (.ref u) ⟨rest, []⟩) _ _ _
  simp only [callAny]
  refine wpAny_bind (wpAny_load hu ?_)
  simp only [kxs_mw, show (Value.type "method-wrapper" == Value.type "method" || Value.type "method-wrapper" == Value.type "builtin_function_or_method" || Value.type "method-wrapper" == Value.type "method-wrapper") = true by decide, if_true]
  refine KFB.if_so (by decide) ?_
  refine wpAny_bind (check_bound_init FB.toExcCallFacts hC he rfl ?_)
  refine wpAny_bind (wpAny_pure (wpAny_pure ?_))
  refine ⟨plainId_quiet FB.init.plain _, codeAny_builtin FB.initEntry ?_⟩
  exact exc_init_tree (cls := .ref C) (t0 := t0) (dv := none) (c2 := .none) (c3 := .none) (b4 := .bool false) he hz fun h' k e _ => fin h' k e
theorem err_init (T : ErrC prog K mg a C fI) (PA : PlainA a) {x t0 : Addr} {v : Value} (X : K.In s.heap) (hgl : s.heap.Ns mainGlobals mg) {mb : Str → Option Value} (hbl : s.heap.Ns builtinsNs mb) (hbs : mb "super" = some (.type "super")) (hlim : s.heap.NoLimit) (hx : s.heap.get? x = some (excO C t0)) (hnx : K.lookup x = none) (hroom : A.depth < recursionLimit)
    (hq : ∀ h' tk dx t1, XEnd s.heap h' x C dx t1 a v → R (.ok (.ret .none)) { s with heap := h', toks := tk }) :
    codeAny (model prog w) A (.call (.ref fI) ⟨[.ref x, v], []⟩) R s := by
  obtain ⟨oc, od, qual, m, doc, pm, ct, ccl, cl, an, cdd, cld, osl, ccs, csl, cda, cc, vs, file, tf, p1, p2, q1, q2, q3, q4, q5, q6, r1, r2, r3, r4, j, ho, hcd, hcode, hvs, hfile, hpos, hcell⟩ := T.fn
  obtain ⟨nm, q, N, bs, bm, sn, sub, ab, col, dd, k0, k1, k2, k3, k5, hC, hbm⟩ := T.cls
  have hcl : clsIn K C = some { name := nm, bases := bs, mro := .ref C :: bm, ns := N, qualname := q, hasDict := true, slotNames := sn, subclasses := sub, abstract := ab, collection := col, hasDel := false } := by unfold clsIn; rw [hC] <;> rfl
  refine ks_codeAny_call_defAt (fd := ksFn "__init__" qual (xA a p1 p2) (xB a m q1 q2 q3 q4 q5 q6 r1 r2 r3 r4 j) (xS a) .none .none doc pm an (.ref cda) ct cc) (body := xB a m q1 q2 q3 q4 q5 q6 r1 r2 r3 r4 j) (binds := [("self", .ref x), (a, v)]) hroom (X _ _ ho) rfl hlim (codeRec_of X hcd) rfl
    (PA.bd _ _ _ _ _ _ _ _ _ _ _ _ _) ?_ ?_ (fun h₁ hns hk₁ => ?_) rfl rfl rfl
  · intro y hy
    have hy : y ∈ [(PySem.Str.ofString "self", NameKind.local), (a, .local), (PySem.Str.ofString "__class__", .free), (PySem.Str.ofString "super", .globalImplicit)] := hy
    simp only [List.mem_cons, List.not_mem_nil, or_false] at hy
    rcases hy with rfl | rfl | rfl | rfl <;> (intro z; cases z)
  · intro y hy
    simp only [List.mem_cons, List.not_mem_nil, or_false] at hy
    rcases hy with rfl | rfl
    · exact PA.lself
    · exact PA.la
  · have X₁ : K.In h₁ := X.keeps hk₁
    have hx₁ := hk₁ _ _ hx
    have hnx₁ : x ≠ s.heap.objs.size := Nat.ne_of_lt (Heap.lt_size hx)
    obtain ⟨hp, g, d, t, os⟩ := s
    show wpAt (model prog w) (A.deeper (ksEnv qual (xS a) hp.objs.size fI (.ref cda) cc)) (.func _ (ksEnv qual (xS a) hp.objs.size fI (.ref cda) cc)) (execs (xB a m q1 q2 q3 q4 q5 q6 r1 r2 r3 r4 j) (ksEnv qual (xS a) hp.objs.size fI (.ref cda) cc)) _ _ _
    unfold xB
    refine ks_wpAt_execs_cons (ks_wpAt_Expr_any ?_)
    refine ks_wpAt_MethodCall ?_ (super_form hpos)
    refine ks_wpAt_super_base (env := ksEnv qual (xS a) hp.objs.size fI (.ref cda) cc) PA.lsup PA.lcls (by decide +kernel) rfl (X₁ _ _ ho) rfl rfl rfl (X₁ _ _ hcode) rfl hvs hfile T.top ?_
    refine ks_loadName_global rfl PA.lsup (loadGlobal_builtin (env := ksEnv qual (xS a) hp.objs.size fI (.ref cda) cc) (hgl.keeps hk₁) T.nsup (hbl.keeps hk₁) hbs ⟨rfl, ?_⟩)
    refine wpAny_loadName_free rfl PA.lcls rfl ⟨_, X₁ _ _ hcell, rfl⟩ ?_
    have vself : ([("self", Value.ref x), (a, v)] : List (Str × Value)).reverse.lookup ("self" : Str) = some (.ref x) := by
      show List.lookup (Str.ofString "self") [(a, v), (Str.ofString "self", Value.ref x)] = _
      have : ((Str.ofString "self") == a) = false := by
        have := PA.ns
        simp only [beq_eq_false_iff_ne, ne_eq]
        exact fun z => this z.symm
      simp [List.lookup, this]
    have va : ([("self", Value.ref x), (a, v)] : List (Str × Value)).reverse.lookup a = some v := by
      show List.lookup a [(a, v), (Str.ofString "self", Value.ref x)] = _
      simp [List.lookup]
    refine wpAny_loadName_local rfl PA.lself hns (v := .ref x) vself ?_
    refine ks_wpAny_isType_cls (X₁ _ _ hC) rfl ⟨rfl, ?_⟩
    refine ks_wpAny_call_super (X₁ _ _ hC) rfl hx₁ rfl (fun c e => by cases e) (looks_mroIn X₁ T.sub) (fun h2 e2 k2 => ?_)
    have X2 : K.In h2 := X₁.keeps k2
    have hx2 := k2 _ _ hx₁
    have I2 : InstAt h2 x (excO C t0) C none := ⟨hx2, rfl, rfl, trivial⟩
    have xC : x ≠ C := fun z => by rw [z, hC] at hnx; cases hnx
    refine kxs_getMethod kxs_ValueError (K := K) (D := C) (x := x) (C := C) e2 (looks_opaque X2 T.op) (l₀ := .ref C :: bm) ((looks_clsIn X2 hcl).andThen .now) rfl X2 ?_ (I2.type.andThen (looks_subIn X2 T.sv)) xC (by decide +kernel) ?_
    · have z := T.sup
      unfold ks_superIn at z
      rw [hcl] at z
      exact z
    have up : ∀ b o, h2.get? b = some o → (h2.push (kxs_mw "ValueError.__init__" x)).get? b = some o := fun b o e => Heap.get?_push_of_some _ e
    refine kxs_callWith (i := "ValueError.__init__") (x := x) rfl (evalArgs_plain ?_)
    refine Calls.spliced_cons (wpAny_Constant_str (k := j) (pos := q4) ?_)
    refine Calls.spliced_nil ?_
    refine ⟨Heap.get?_push_at rfl rfl, ?_⟩
    refine call_mw F.excBase_ValueError (up _ _ (k2 _ _ (hk₁ _ _ (X _ _ hC)))) (Heap.get?_push_at rfl rfl) (up _ _ hx2) (by rw [sizeLine_eq]; exact (by decide : 1 ≤ 16777216)) fun h3 k3 x3 => ?_
    have k3' : ∀ b o, b ≠ x → h₁.get? b = some o → h3.get? b = some o := fun b o hb e => k3 b o hb (up _ _ (k2 _ _ e))
    have X3 : K.In h3 := fun b o e => k3' b o (fun z => by rw [z, hnx] at e; cases e) (X₁ _ _ e)
    have hn3 : h3.Ns hp.objs.size (fun y => ([("self", Value.ref x), (a, v)] : List (Str × Value)).reverse.lookup y) := by
      obtain ⟨oL, es, ep, hL, r⟩ := hns
      exact ⟨oL, es, ep, k3' _ _ (Ne.symm hnx₁) hL, r⟩
    refine ks_wpAt_execs_cons (wpAt_of_wpAny (plainObj_wpAny_Assign_Attribute ?_))
    refine wpAny_Name (wpAny_loadName_local rfl PA.la hn3 va (wpAny_Name (wpAny_loadName_local rfl PA.lself hn3 vself ?_) (by decide +kernel))) PA.nd
    refine set_plain X3 (ox := excO C _) (od := none) ⟨x3, rfl, rfl, trivial⟩ T.sa ?_
    refine exc_osa X3 x3 hcl (show refsVE (.ref C :: bm) = true from hbm) rfl T.noN (fun h4 tk4 dx k4 dn dne hx4 hn4 => ?_)
    refine wpAt_of_wpAny ?_
    show wpAny _ _ (execs [] _) _ _ _
    have z : hp.objs.size < h3.objs.size := hn3.lt
    exact wpAny_execs_nil (hq h4 tk4 dx _ ⟨fun b o hb e => k4 b o hb (k3' b o hb (hk₁ b o e)), hx4, Nat.le_of_lt (Nat.lt_of_lt_of_le z dn), dne, hn4⟩)
end
end DL
set_option Elab.async false
set_option linter.all false
set_option maxRecDepth 100000
set_option maxHeartbeats 4000000
namespace DL
open PySem PySem.Spec PySem.W PySem.Calls PySem.HandSPX PyProof.Rows
/-- a made error -/
structure ErrMade (h h' : Heap) (e C d : Addr) (a : Str) (v : Value) : Prop where
  keep : ∀ b o, h.get? b = some o → h'.get? b = some o
  new : h.objs.size ≤ e
  obj : ∃ oe vs, h'.get? e = some oe ∧ oe.cls = .ref C ∧ oe.dict = some d ∧ oe.data = .fields vs ∧ vs[1]? = some .none
  dbig : h.objs.size ≤ d
  dne : d ≠ e
  ns : h'.Ns1 d (fun y => if y = a then some v else none)
section
variable {prog : Program} {w : World} {A : Around} {E : Value → Shared → Prop} {R : Result → Shared → Prop} {s : Shared} {K : Frag} {mg : Str → Option Value} {C fI : Addr} {a : Str}
theorem err_made (T : ErrC prog K mg a C fI) (PA : PlainA a) {v : Value} (X : K.In s.heap) (hgl : s.heap.Ns mainGlobals mg) {mb : Str → Option Value} (hbl : s.heap.Ns builtinsNs mb) (hbs : mb "super" = some (.type "super")) (hlim : s.heap.NoLimit) (hroom : A.depth + 1 < recursionLimit)
    (hq : ∀ h' tk e d, ErrMade s.heap h' e C d a v → R (.ok (.ret (.ref e))) { s with heap := h', toks := tk }) :
    codeAny (model prog w) A (.call (.ref C) ⟨[v], []⟩) R s := by
  obtain ⟨nm, q, N, bs, bm, sn, sub, ab, col, dd, k0, k1, k2, k3, k5, hC, hbm⟩ := T.cls
  obtain ⟨hp, g, dr, tk, os⟩ := s
  have k : ∀ b o, hp.get? b = some o → ((hp.push (kdv_tup [v])).push (excO C hp.objs.size)).get? b = some o := fun b o e => Heap.get?_push_of_some _ (Heap.get?_push_of_some _ e)
  have hget : ((hp.push (kdv_tup [v])).push (excO C hp.objs.size)).get? (hp.objs.size + 1) = some (excO C hp.objs.size) := by heap_get
  have hnx : K.lookup (hp.objs.size + 1) = none := by
    cases e : K.lookup (hp.objs.size + 1) with
    | none => rfl
    | some o =>
      have z : hp.get? (hp.objs.size + 1) = some o := X _ _ e
      exact absurd (Nat.lt_of_succ_lt (Heap.lt_size z)) (Nat.lt_irrefl _)
  refine call_own F.excBase_ValueError (fun X => refsVE_contains X bm hbm) (X _ _ hC) (looks_findIn X T.iC) (fun self => bind_fn X self T.tC) (by rw [sizeLine_eq]; exact (by decide : 1 ≤ 16777216)) ?_
  refine err_init (s := ⟨(hp.push (kdv_tup [v])).push (excO C hp.objs.size), g, dr, tk, os⟩) T PA (X.keeps k) (hgl.keeps k) (hbl.keeps k) hbs (hlim.keeps k) hget hnx ?_ fun h' tk' dx t1 ⟨k', hx, dn, dne, hns⟩ => ?_
  · show A.depth + 1 < recursionLimit
    exact hroom
  · have old : ∀ b o, hp.get? b = some o → h'.get? b = some o := fun b o e => k' b o (Nat.ne_of_lt (Nat.lt_succ_of_lt (Heap.lt_size e))) (k b o e)
    have z : hp.objs.size + 1 + 1 ≤ dx := by
      first
        | (simpa only [Heap.size_push] using dn)
        | exact dn
        | (have q := dn; rw [Heap.size_push, Heap.size_push] at q; exact q)
    exact ⟨rfl, hq h' tk' (hp.objs.size + 1) dx ⟨old, Nat.le_succ _, ⟨_, _, hx, rfl, rfl, rfl, rfl⟩, Nat.le_trans (Nat.le_trans (Nat.le_succ _) (Nat.le_succ _)) z, dne, hns⟩⟩
end
end DL
namespace DL
open PySem PySem.Spec L2 PyProof.Rows
theorem relO_err {a : Str} {v : V} {v' : Value} (r : RelV v v') (f : Str) : RelO (List.lookup f [(a, v)]) (if f = a then some v' else none) := by
  by_cases hw : f = a
  · subst hw
    rw [if_pos rfl]
    have q : List.lookup f [(f, v)] = some v := by simp [List.lookup]
    rw [q]
    exact r
  · rw [if_neg hw]
    have qw : (f == a) = false := by simpa using hw
    have q2 : List.lookup f [(a, v)] = none := by simp [List.lookup, qw]
    rw [q2]
    trivial
structure ErrTxt (P : Program) (K : PySem.W.Frag) (mg : Str → Option Value) (c a : Str) : Prop where
  at_ : ∃ C fI, mg c = some (.ref C) ∧ ErrC P K mg a C fI
  pl : PlainA a
  nd : (c == ("__debug__" : Str)) = false
section
variable {X : Cx} {W : WX} {c a : Str}
/-- c(e), raised -/
def tMkErr (C : Addr) (a : Str) (ta : TA) : L2.St → Hp → XK → Prop := fun σ H Q => ta σ H fun vs H1 => ∃ v, vs = [v] ∧ ∀ d, H1 d = none → Q (.ref C) (some d) (upd H1 d (.xd [(a, v)]))
theorem pmk_err {e : Expr} {ta : TA} {p pos : Pos} {k : Nat} {C fI : Addr} (T : ErrC X.prog X.K X.mg a C fI) (hc : X.mg c = some (.ref C)) (PA' : PlainA a) (hd : (c == ("__debug__" : Str)) = false) (hr : Room k X.A) (ha : PA X [e] ta) (hg : Gl X c)
    (he : starEach (e :: []) X.env = (false, eval e X.env) :: starEach [] X.env := by rfl) (hpl : (backTo pos (starEach [] X.env)).any (·.1) = false := by rfl) :
    PMk X (.Call (.Name c p) [e] [] pos) (tMkErr C a ta) := by
  intro pins s σ H Q I h
  refine wpAny_Call_Name_kw (ld_glob I hg hc ?_ hd)
  refine PySem.W.callWith_K (h₀ := X.base) I.ok.mod.kin T.kC (thn (ha.run pos pins s σ H _ I h) fun us s1 hh => ?_) he hpl
  obtain ⟨vs, H1, I1, r1, v, ev, q1⟩ := hh
  subst ev
  refine ⟨I1.kIn, ?_⟩
  cases r1 with
  | cons rv rn =>
    rename_i v' us'
    cases rn
    show wpAny _ _ (call (.ref C) [v']) _ _ _
    have hlim := I1.nolimit
    obtain ⟨mb, hb1, hb2⟩ := I1.mod.blt
    have hgl := I1.mod.glob.keeps I1.bk
    have hbl := hb1.keeps I1.bk
    have hbs : mb "super" = some (.type "super") := (hb2 _ (by decide +kernel)).trans (by first | boot_by_name | rfl | kernel_rfl)
    obtain ⟨hp, g, dr, tk, os⟩ := s1
    refine wpAny_call (err_made T PA' I1.kIn hgl hbl hbs hlim (by have := hr.dp; omega) fun h' tk' e d M => ?_)
    show MkP X pins σ Q (.ref e) ⟨h', g, dr, tk', os⟩
    obtain ⟨oe, fv, hoe, hcl, hd', hdat, h1⟩ := M.obj
    have hns := M.ns
    obtain ⟨G', g1, g2⟩ := restrict h' fun b => decide (b ≠ e)
    have gk : ∀ b, b ≠ e → G'.get? b = h'.get? b := fun b hb => g1 b (decide_eq_true hb)
    have ge : G'.get? e = none := g2 e (by simp)
    have old : ∀ b o, hp.get? b = some o → G'.get? b = some o := fun b o q => (gk b (Nat.ne_of_lt (Nat.lt_of_lt_of_le (Heap.lt_size q) M.new))).trans (M.keep b o q)
    have ob : ObjOk X.prog X.w (upd H1 d (.xd [(a, v)])) G' d (.xd [(a, v)]) :=
      ⟨_, hns.at (fun o q => (gk d M.dne).trans q), fun f => relO_err rv f⟩
    have J : Inv X pins σ (upd H1 d (.xd [(a, v)])) ⟨G', g, dr, tk', os⟩ := I1.laid (t' := tk') old M.dbig ob
    refine ⟨e, oe, fv, ⟨G', g, dr, tk', os⟩, _, .ref C, some d, rfl, J, fun b o q => ?_, ge, hoe, ⟨hcl, hd'⟩, hdat, h1, ?_, rfl, I1.bare, raises_own T.exC T.tyC, q1 d (I1.hok.fresh M.dbig)⟩
    · by_cases hb : b = e
      · have q' : G'.get? b = some o := q
        rw [hb, ge] at q'; cases q'
      · exact (gk b hb).symm.trans q
    · rw [upd_ne (Ne.symm M.dne)]
      exact I1.hok.fresh M.new
def sRaise (c a : Str) (f : Fe) : Fs := fun ρ S => bindS ρ (f ρ S) fun d S' => .exc ⟨c, [(a, d)]⟩ ρ S'
theorem ds_raise {e : Expr} {f : Fe} {p pos pos2 : Pos} {k : Nat} (hcalm : X.calm = true) (T : ErrTxt X.prog X.K X.mg c a) (hr : Room k X.A) (tk : Takes X W) (he : DE X W e f) (hg : Gl X c := by rfl)
    (hs : starEach (e :: []) X.env = (false, eval e X.env) :: starEach [] X.env := by rfl) (hpl : (backTo pos (starEach [] X.env)).any (·.1) = false := by rfl) :
    DS X W (.Raise (some (.Call (.Name c p) [e] [] pos)) none pos2) (sRaise c a f) := by
  obtain ⟨C, fI, hc, T'⟩ := T.at_
  refine (ps_raise hcalm tk (pmk_err T' hc T.pl T.nd hr (pa_cons he pa_nil hs) hg hs hpl)).imp fun E σ H ⟨w, ρ, S, R, e, P⟩ => ?_
  refine stepES R e P fun v w1 H1 S1 d g1 R1 E1 V1 P1 => ?_
  refine ⟨v, rfl, fun dx hdx => ?_⟩
  obtain ⟨g2, R2⟩ := R1.newP (.xd [(a, v)]) hdx
  exact P1 σ (.ref C) dx _ _ g2 R2 (E1.grow g2) ⟨C, _, hc, rfl, upd_same, .cons ⟨rfl, V1.grow g2⟩ .nil⟩
end
end DL
set_option Elab.async false
set_option linter.all false
set_option maxRecDepth 100000
set_option maxHeartbeats 4000000
/-! a try with several clauses 'except X as n' -/
namespace DL
open PySem PySem.Spec L2 PyProof.Rows
abbrev SuiteT := Addr → Value → Option Addr → TS
/-- the ends of a clause: its name is gone -/
def goneAt (i : Nat) (D : Ends) : Ends := { nx := fun τ G => D.nx (τ.set i none) G, rt := D.rt, bk := fun τ G => D.bk (τ.set i none) G, ct := fun τ G => D.ct (τ.set i none) G }
/-- what the clauses wish of an exception -/
def wAsMany (K : PySem.W.Frag) (Wo : WX) (D : Ends) : List (Value × Nat × SuiteT) → WX
  | [] => Wo
  | q :: r => fun cls dx τ G => ∃ yes, PySem.W.exmOne K cls q.1 = some yes ∧
      ((yes = true ∧ ∀ e, G e = none → q.2.2 e cls dx (goneAt q.2.1 D) (τ.set q.2.1 (some (.ref e))) G) ∨ (yes = false ∧ wAsMany K Wo D r cls dx τ G))
inductive AsOk (X : Cx) : List ExceptHandler → List (Value × Nat × SuiteT) → Prop
  | nil : AsOk X [] []
  | cons {x n : Str} {c : Value} {i : Nat} {ts : SuiteT} {b : Stmt} {bs : List Stmt} {p1 p2 : Pos} {hds : List ExceptHandler} {l : List (Value × Nat × SuiteT)} :
      Names X x c → X.N[i]? = some n → X.env.kindOf n = some .local →
      (∀ (e : Addr) (oe : Obj) (cls : Value) (dx : Option Addr) (pn : List (Addr × Obj)), Zc cls dx oe → (∃ vs, oe.data = .fields vs) → PSs (X.suite e ((e, oe) :: pn)) (b :: bs) (ts e cls dx)) →
      AsOk X hds l → AsOk X (.ExceptHandler (some (.Name x p1)) (some n) (b :: bs) p2 :: hds) ((c, i, ts) :: l)
section
variable {X : Cx} {bod : List Stmt} {hds : List ExceptHandler} {l : List (Value × Nat × SuiteT)} {pos : Pos} {tb : WX → TS} {Wo : WX}
/-- an exception at e, in the air above X's frame -/
structure Aloft (X : Cx) (pins : List (Addr × Obj)) (τ : L2.St) (G : Hp) (B : Heap) (e : Addr) (cls : Value) (dx : Option Addr) (s0 s1 : Shared) : Prop where
  base : Inv X pins τ G s0
  low : ∀ b o, s0.heap.get? b = some o → b ∉ frs X.stack → B.get? b = some o
  rise : s0.heap.UpToSlots s1.heap
  fly : HandSPX.FlyingZ B (X.env :: X.outer) e (Zc cls dx) s1.heap
  free : G e = none
  os : s1.os = s0.os
  bare : AllBare s1.gens
section
variable {pins : List (Addr × Obj)} {τ : L2.St} {G : Hp} {B : Heap} {e : Addr} {cls : Value} {dx : Option Addr} {s0 s1 : Shared}
theorem Aloft.inv (T : Aloft X pins τ G B e cls dx s0 s1) : Inv X pins τ G s1 := T.base.landed T.low T.fly.1 T.rise T.os T.bare
/-- what stands at e, and the context of a clause -/
theorem Aloft.inSuite (T : Aloft X pins τ G B e cls dx s0 s1) (hf : X.env.frame = some X.env.locals) :
    ∃ oe vs, s1.heap.get? e = some oe ∧ Zc cls dx oe ∧ oe.data = .fields vs ∧ Inv (X.suite e ((e, oe) :: (X.pn ++ pins))) [] τ G s1 := by
  obtain ⟨oe, vs, he, hz, hd⟩ := T.fly.there
  have far : e ∉ frs (X.env :: X.outer) := fun hm => by
    obtain ⟨_, o, ho, hn⟩ := T.fly.2.2.1.mem hm
    rw [he] at ho
    cases ho
    exact hn _ hd
  refine ⟨oe, vs, he, hz, hd, T.inv.suite he hd T.free (fun z => far ?_) (fun hm => far ?_)⟩
  · exact List.mem_filterMap.mpr ⟨X.env, List.mem_cons_self, by rw [hf, z]⟩
  · obtain ⟨v, hv, q⟩ := List.mem_filterMap.mp hm
    exact List.mem_filterMap.mpr ⟨v, List.mem_cons_of_mem _ hv, q⟩
/-- none of the clauses takes it -/
theorem Aloft.away {D : Ends} (T : Aloft X pins τ G B e cls dx s0 s1) (st : X.stack = X.env :: X.outer) (hf : X.env.frame = some X.env.locals) (tk : Takes X Wo) (w : Wo cls dx τ G) :
    wpAny (model X.prog X.w) X.A (handleBy (.ref e) X.env []) (SP X pins D) X.xe s1 := by
  refine wpAny_handleBy_nil ?_
  have up : wpAny (model X.prog X.w) X.A (setFlight (.ref e) X.env.frame) (fun _ s2 => wpAny (model X.prog X.w) X.A (throw (.ref e) : Sem Flow) (SP X pins D) X.xe s2) X.xe s1 := by
    rw [hf]
    obtain ⟨h1, g1, d1, t1, o1⟩ := s1
    refine HandSPX.setFlight_upZ T.fly fun h2 held r2 => wpAny_throw (tk _ _ ?_)
    exact ⟨e, B, s0, pins, τ, G, cls, dx, rfl, T.base, T.low, T.rise.trans r2, Or.inr (Or.inr (by rw [st]; exact held)), T.free, T.os, T.bare, w⟩
  obtain ⟨_, _, _, oe, vs, tb, _, _, he, _, hd, h1, _⟩ := id T.fly
  unfold PySem.passOn
  refine wpAny_bind (wpAny_field he hd h1 ?_)
  have nn : ¬ ((Value.ref tb == Value.none) = true) := by simp
  rw [if_neg nn]
  first
    | exact wpAny_bind (wpAny_pure (wpAny_bind up))
    | exact wpAny_bind up
/-- the clauses, one after the other -/
theorem Aloft.handled {D : Ends} (st : X.stack = X.env :: X.outer) (hf : X.env.frame = some X.env.locals) (hN : X.N.Nodup) (tk : Takes X Wo) (hh : AsOk X hds l) (T : Aloft X pins τ G B e cls dx s0 s1) :
    wAsMany X.K Wo D l cls dx τ G → wpAny (model X.prog X.w) X.A (handleBy (.ref e) X.env hds) (SP X pins D) X.xe s1 := by
  induction hh with
  | nil => exact fun w => T.away st hf tk w
  | @cons x n c i ts b bs p1 p2 hds' l' hc hi hn hs hr ih =>
    intro ⟨yes, hy, w⟩
    obtain ⟨oe, vs, he, hz, hd, S⟩ := T.inSuite hf
    refine wpAny_handleBy_cons (codeAny_handlers_test ?_) (by intro q; cases q)
    have typ : PySem.W.Looks (model X.prog X.w) s1.heap (typeOf (.ref e)) cls := fun A Q E s k q => wpAny_typeOf_ref (k _ _ he) (by rw [hz.1]; exact q)
    have mat := PySem.W.exm_one (M := model X.prog X.w) T.inv.kIn typ hy
    have clause : ∀ {Q : Value → Shared → Prop} {E : Value → Shared → Prop}, Q c s1 → wpAny (model X.prog X.w) (X.A.mark (some (.ref e))) (eval (.Name x p1) X.env) Q E s1 := by
      intro Q E q
      rcases hc with ⟨hg, hb, hm | ⟨hm, hv, hq⟩⟩
      · exact ld_glob (X := X.suite e ((e, oe) :: (X.pn ++ pins))) S hg hm q hb
      · exact ld_blt (X := X.suite e ((e, oe) :: (X.pn ++ pins))) S hg hm hv q hq hb
    refine clause (mat.here ?_)
    rcases w with ⟨rfl, w⟩ | ⟨rfl, w⟩
    · refine codeAny_handlers_suite_as ?_
      obtain ⟨h1, g1, d1, t1, o1⟩ := s1
      refine HandSPX.lands_againZ T.fly fun h2 f2 r2 => ?_
      have T2 : Aloft X pins τ G B e cls dx s0 ⟨h2, g1, d1, t1, o1⟩ := ⟨T.base, T.low, T.rise.trans r2, f2, T.free, T.os, T.bare⟩
      obtain ⟨oe2, vs2, he2, hz2, hd2, S2⟩ := T2.inSuite hf
      refine store_ok (X := X.suite e ((e, oe2) :: (X.pn ++ pins))) (v := .ref e) S2 hN hi (.inl hn) rfl (fun s3 S3 => ?_) (.inr hn)
      have fin : ∀ {τ' : L2.St} {G' : Hp} {s4 : Shared} {Q : Shared → Prop}, Inv (X.suite e ((e, oe2) :: (X.pn ++ pins))) [] τ' G' s4 → (∀ s5, Inv X pins (τ'.set i none) G' s5 → Q s5) →
          wpAny (model X.prog X.w) X.A (do bindName X.env n .none; unbindBehindTheSuite X.env n p2) (fun _ s5 => Q s5) X.xe s4 := fun J q => gone_ok (J.unsuite T.base.ok) hN hi hn q
      refine wpAny_mono ((hs e oe2 cls dx (X.pn ++ pins) hz2 ⟨_, hd2⟩).run [] s3 _ G _ S3 (w e T.free)) (fun f s4 q => ?_) (fun _ _ z => z.elim)
      cases f
      case next => obtain ⟨τ', G', J, q⟩ := q; exact fin J fun _ J' => ⟨_, _, J', q⟩
      case brk => obtain ⟨τ', G', J, q⟩ := q; exact fin J fun _ J' => ⟨_, _, J', q⟩
      case cont => obtain ⟨τ', G', J, q⟩ := q; exact fin J fun _ J' => ⟨_, _, J', q⟩
      case ret u => obtain ⟨v, τ', G', J, r, q⟩ := q; exact fin J fun _ J' => ⟨_, _, _, J', r, q⟩
    · show wpAny _ X.A (handleBy (.ref e) X.env hds') _ _ _
      exact ih w
end
theorem ps_try_asMany (st : X.stack = X.env :: X.outer) (hf : X.env.frame = some X.env.locals) (hN : X.N.Nodup) (tk : Takes X Wo) {h₀ : ExceptHandler}
    (hb : ∀ (W : WX) (pn : List (Addr × Obj)) (xe : Value → Shared → Prop), Takes (X.tr pn xe) W → PassesOwn (model X.prog X.w) X.A X.env xe → PSs (X.tr pn xe) bod (tb W))
    (hh : AsOk X (h₀ :: hds) l) : PS X (.Try bod (h₀ :: hds) [] [] pos) (fun D τ G => tb (wAsMany X.K Wo D l) D τ G) := by
  constructor
  intro pins s τ G D I h
  refine wpAny_Try_except ?_
  let xe' : Value → Shared → Prop := fun u s1 => wpAny (model X.prog X.w) X.A (noteFrame u X.env) (fun _ s2 => wpAny (model X.prog X.w) X.A (setFlight u none) (fun _ s3 => wpAny (model X.prog X.w) X.A (handleBy u X.env (h₀ :: hds)) (SP X pins D) X.xe s3) X.xe s2) X.xe s1
  have tk' : Takes (X.tr (X.pn ++ pins) xe') (wAsMany X.K Wo D l) := by
    intro u s1 xx
    obtain ⟨e, B, s0, pins', τ', G', cls, dx, rfl, J, low, rise, sky, free, os, bare, w⟩ := xx
    have sky : Sky B (X.env :: X.outer) e (Zc cls dx) X.env.locals s1.heap := by rw [← st]; exact sky
    refine Sky.land Zc.steady (I.ok.frames.trans (by rw [st])) hf sky fun h3 fl r3 => ?_
    exact Aloft.handled st hf hN tk hh ⟨J.ofTry I.ok, low, rise.trans r3, fl, free, os, bare⟩ w
  refine wpAny_mono ((hb _ (X.pn ++ pins) xe' tk' PassesOwn.looking).run [] s τ G D (I.toTry _) h) (fun f s1 q => ?_) (fun _ _ z => z)
  cases f
  case next => obtain ⟨τ', G', J, q⟩ := q; exact wpAny_execs_nil ⟨τ', G', J.ofTry I.ok, q⟩
  case brk => obtain ⟨τ', G', J, q⟩ := q; exact ⟨τ', G', J.ofTry I.ok, q⟩
  case cont => obtain ⟨τ', G', J, q⟩ := q; exact ⟨τ', G', J.ofTry I.ok, q⟩
  case ret u => obtain ⟨v, τ', G', J, r, q⟩ := q; exact ⟨v, τ', G', J.ofTry I.ok, r, q⟩
end
end DL
set_option Elab.async false
set_option linter.all false
set_option maxRecDepth 100000
set_option maxHeartbeats 4000000
/-! try: .. except X as n: return (a text, n.a) -/
namespace DL
open PySem PySem.Spec L2 PyProof.Rows
/-- a clause: its class, the slot of its name, what it returns ahead of the attribute, the attribute -/
structure Hd where
  c : Str
  i : Nat
  word : Option Str
  at_ : Str
def Hd.run (h : Hd) (x : Exn) (S : Store) : RS := match x.fs with
  | [(a, .p d)] => if a = h.at_ then (match h.word with | none => .rt (.p d) S | some t => .rt (.p (.tuple [.str t, d])) S) else .bad
  | _ => .bad
def hRun (EN : List Str) (x : Exn) (ρ : Sl) (S : Store) : List Hd → RS
  | [] => .exc x ρ S
  | h :: hs => if EN.contains x.cls = true ∧ h.i < ρ.length then (if (x.cls == h.c) = true then h.run x S else hRun EN x ρ S hs) else .bad
def sTry (EN : List Str) (g : Fs) (hs : List Hd) : Fs := fun ρ S => match g ρ S with
  | .exc x ρ' S' => hRun EN x ρ' S' hs
  | r => r
structure HdTxt (K : PySem.W.Frag) (mg : Str → Option Value) (EN : List Str) (c : Str) : Prop where
  at_ : ∃ C, mg c = some (.ref C) ∧ ∀ y, EN.contains y = true → ∀ Cy, mg y = some (.ref Cy) → PySem.W.exmOne K (.ref Cy) (.ref C) = some (y == c)
section
variable {X : Cx} {W : WX}
/-- what a clause's suite wishes: n stands in slot i -/
def tSuite (h : Hd) (C : Addr) : SuiteT := fun e cls dx => fun E σ H => σ[h.i]? = some (some (.ref e)) ∧ cls = .ref C ∧ ∃ dd v, dx = some dd ∧ H dd = some (.xd [(h.at_, v)]) ∧
  match h.word with | none => E.rt v H | some t => ∀ p, H p = none → E.rt (.ref p) (upd H p (.tup [.str t, v]))
def tErrAt (C : Addr) (at_ : Str) (a : Addr) (cls : Value) (d : Option Addr) (te : TE) : TE := fun σ H Q => te σ H fun x H1 => x = .ref a ∧ cls = .ref C ∧ ∃ (dd : Addr) (v : V), d = some dd ∧ H1 dd = some (.xd [(at_, v)]) ∧ Q v H1
theorem pe_errAt {C fI : Addr} {at_ : Str} {a : Addr} {oe : Obj} {cls : Value} {d : Option Addr} {pn : List (Addr × Obj)} {e : Expr} {te : TE} {pos : Pos} (T : ErrC X.prog X.K X.mg at_ C fI) (hz : Zc cls d oe) (hf : ∃ vs, oe.data = .fields vs) (he : PE (X.suite a ((a, oe) :: pn)) e te)
    (hb : attributeBase e at_ X.env (eval e X.env) = eval e X.env := by rfl) :
    PE (X.suite a ((a, oe) :: pn)) (.Attribute e at_ pos) (tErrAt C at_ a cls d te) := by
  refine ⟨fun pins s σ H Q I h => ?_⟩
  refine attr_of hb (thn (he.run pins s σ H _ I h) fun u s1 hh => ?_)
  obtain ⟨x, H1, I1, rx, ex, ec, dd, v, ed, ea, q⟩ := hh
  subst ex
  obtain rfl : u = Value.ref a := rx
  subst ec
  subst ed
  obtain ⟨ha, _⟩ := I1.pin (a, oe) (List.mem_append_left _ List.mem_cons_self)
  obtain ⟨vs, hd⟩ := hf
  have hx : ObjOk X.prog X.w H1 s1.heap dd (.xd [(at_, v)]) := I1.hok dd _ ea
  obtain ⟨mA, hns, hr⟩ := hx
  obtain ⟨od, ho, hl⟩ := lookIn_ns hns
  have l : List.lookup at_ [(at_, v)] = some v := by simp [List.lookup]
  obtain ⟨u, hu, ru⟩ := RelO.some_of (v := v) (o := mA at_) (by rw [← l]; exact hr at_)
  have J : PySem.W.InstAt s1.heap a oe C (some od) := ⟨ha, hz.1, by unfold PySem.W.notCls; rw [hd] <;> rfl, by rw [hz.2]; exact ho⟩
  exact HandSPX.exc_get I1.kIn J T.ga T.gg T.exC (PySem.W.findObj_own T.hdC T.noN rfl (by rw [hl, hu])) (handed_of ru) ⟨v, H1, I1.tok _, ru, q⟩
/-- clauses and their reading -/
inductive HdOk (X : Cx) (EN : List Str) : List ExceptHandler → List Hd → List (Value × Nat × SuiteT) → Prop
  | nil : HdOk X EN [] [] []
  | cons {hds : List ExceptHandler} {hs : List Hd} {l : List (Value × Nat × SuiteT)} {h : Hd} {C : Addr} {x n : Str} {p1 p2 : Pos} {b : Stmt} {bs : List Stmt} : X.mg h.c = some (.ref C) → (∀ y, EN.contains y = true → ∀ Cy, X.mg y = some (.ref Cy) → PySem.W.exmOne X.K (.ref Cy) (.ref C) = some (y == h.c)) →
      Names X x (.ref C) → X.N[h.i]? = some n → X.env.kindOf n = some .local →
      (∀ (e : Addr) (oe : Obj) (cls : Value) (dx : Option Addr) (pn : List (Addr × Obj)), Zc cls dx oe → (∃ vs, oe.data = .fields vs) → PSs (X.suite e ((e, oe) :: pn)) (b :: bs) (tSuite h C e cls dx)) →
      HdOk X EN hds hs l → HdOk X EN (.ExceptHandler (some (.Name x p1)) (some n) (b :: bs) p2 :: hds) (h :: hs) ((.ref C, h.i, tSuite h C) :: l)
theorem HdOk.as {EN : List Str} {hds : List ExceptHandler} {hs : List Hd} {l : List (Value × Nat × SuiteT)} (h : HdOk X EN hds hs l) : AsOk X hds l := by
  induction h with
  | nil => exact .nil
  | cons _ _ c n k s _ ih => exact .cons c n k s ih
theorem HdOk.wish {EN : List Str} {hds : List ExceptHandler} {hs : List Hd} {l : List (Value × Nat × SuiteT)} (h : HdOk X EN hds hs l) {D : Ends} {w : Wd} {σ : L2.St} {H : Hp} {ρ : Sl} {S : Store} {x : Exn} {cls : Value} {dx : Addr}
    (R : Rep X.gm w H S) (E : RepE w σ ρ) (V : RepX X.gm w cls dx x) (P : PostS X.gm W D w (hRun EN x ρ S hs)) : wAsMany X.K W D l cls (some dx) σ H := by
  induction h with
  | nil => exact P σ cls dx w H (Grow.refl w) R E V
  | @cons hds hs l h C y n p1 p2 b bs hC hm _ _ _ _ _ ih =>
    simp only [hRun] at P
    by_cases c : EN.contains x.cls = true ∧ h.i < ρ.length
    · rw [if_pos c] at P
      obtain ⟨Cx, fs, hx, rfl, hz, hfs⟩ := V
      refine ⟨_, hm _ c.1 Cx hx, ?_⟩
      by_cases e : (x.cls == h.c) = true
      · refine .inl ⟨e, fun a ha => ?_⟩
        rw [if_pos e] at P
        have e' : x.cls = h.c := by simpa using e
        rw [e'] at hx
        have hx2 : some (Value.ref C) = some (Value.ref Cx) := hC.symm.trans hx
        cases hx2
        obtain ⟨xc, xfs⟩ := x
        unfold Hd.run at P
        split at P
        · rename_i a' d he'
          dsimp only at he'
          subst he'
          dsimp only at hfs
          cases hfs with
          | cons h1 h2 =>
            rename_i p ps
            cases h2
            obtain ⟨pa, pv⟩ := p
            obtain ⟨hpa, hpv⟩ := h1
            dsimp only at hpa hpv
            subst hpa
            by_cases ea : pa = h.at_
            · rw [if_pos ea] at P
              subst ea
              refine ⟨by rw [List.getElem?_set_self (by rw [E.len]; exact c.2)], rfl, dx, pv, rfl, R.same _ _ hz, ?_⟩
              cases hw : h.word with
              | none => rw [hw] at P; exact P _ _ _ (Grow.refl w) R hpv
              | some t =>
                rw [hw] at P
                intro q hq
                obtain ⟨g, R'⟩ := R.newP (.tup [.str t, pv]) hq
                exact P _ _ _ g R' (.tup upd_same (.cons (.str t) (.cons (RepP.mono g.z _ _ hpv) .nil)))
            · rw [if_neg ea] at P; exact P.elim
        · exact P.elim
      · rw [if_neg e] at P
        exact .inr ⟨by simpa using e, ih P⟩
    · rw [if_neg c] at P; exact P.elim
theorem ds_try {EN : List Str} {body : List Stmt} {h₀ : ExceptHandler} {hds : List ExceptHandler} {hs : List Hd} {l : List (Value × Nat × SuiteT)} {g : Fs} {pos : Pos} (st : X.stack = X.env :: X.outer) (hf : X.env.frame = some X.env.locals) (hN : X.N.Nodup) (tk : Takes X W)
    (hb : ∀ (W' : WX) (pn : List (Addr × Obj)) (xe : Value → Shared → Prop), Takes (X.tr pn xe) W' → PassesOwn (model X.prog X.w) X.A X.env xe → DSs (X.tr pn xe) W' body g)
    (hh : HdOk X EN (h₀ :: hds) hs l) : DS X W (.Try body (h₀ :: hds) [] [] pos) (sTry EN g hs) :=
  (ps_try_asMany (Wo := W) st hf hN tk (tb := fun W' => tDS X.gm W' g) (fun W' pn xe t p => hb W' pn xe t p) hh.as).imp fun D σ H ⟨w, ρ, S, R, E, P⟩ => by
    refine ⟨w, ρ, S, R, E, ?_⟩
    unfold sTry at P
    split at P
    · rename_i x ρ' S' e
      rw [e]
      intro σ' cls dx w' H' g' R' E' V'
      exact hh.wish R' E' V' (P.grow g')
    · rename_i r hr
      cases e : g ρ S with
      | exc x ρ' S' => exact absurd e (hr x ρ' S')
      | nx _ _ => rw [e] at P; exact P
      | rt _ _ => rw [e] at P; exact P
      | bk _ _ => rw [e] at P; exact P
      | ct _ _ => rw [e] at P; exact P
      | bad => rw [e] at P; exact P
/-- the two suites -/
theorem suite_at {h : Hd} {C fI : Addr} {n : Str} {p pos pos2 : Pos} (hw : h.word = none) (T : ErrC X.prog X.K X.mg h.at_ C fI) (hN : X.N[h.i]? = some n) (hv : Vis X.env.scope n) (hd : (n == ("__debug__" : Str)) = false) (hcd : (n == ("__classdict__" : Str)) = false)
    (hb : attributeBase (.Name n p) h.at_ X.env (eval (.Name n p) X.env) = eval (.Name n p) X.env) :
    ∀ (e : Addr) (oe : Obj) (cls : Value) (dx : Option Addr) (pn : List (Addr × Obj)), Zc cls dx oe → (∃ vs, oe.data = .fields vs) → PSs (X.suite e ((e, oe) :: pn)) [.Return (some (.Attribute (.Name n p) h.at_ pos)) pos2] (tSuite h C e cls dx) := by
  intro e oe cls dx pn hz hf
  refine (pss_one (ps_ret (pe_errAt T hz hf (pe_var (X := X.suite e ((e, oe) :: pn)) (i := h.i) hN hv hd hcd) hb))).imp fun E σ H hh => ?_
  unfold tSuite at hh
  rw [hw] at hh
  obtain ⟨h1, h2, dd, v, h3, h4, h5⟩ := hh
  exact ⟨_, h1, rfl, h2, dd, v, h3, h4, h5⟩
theorem suite_tup {h : Hd} {C fI : Addr} {n t : Str} {j} {x1} {p p3 pos pos2 pos3 : Pos} (hw : h.word = some t) (T : ErrC X.prog X.K X.mg h.at_ C fI) (hN : X.N[h.i]? = some n) (hv : Vis X.env.scope n) (hd : (n == ("__debug__" : Str)) = false) (hcd : (n == ("__classdict__" : Str)) = false)
    (hb : attributeBase (.Name n p) h.at_ X.env (eval (.Name n p) X.env) = eval (.Name n p) X.env)
    (hs1 : starEach [.Constant (.str t) j p3, .Attribute (.Name n p) h.at_ pos] X.env = (false, eval (.Constant (.str t) j p3) X.env) :: starEach [.Attribute (.Name n p) h.at_ pos] X.env) (hs2 : starEach [.Attribute (.Name n p) h.at_ pos] X.env = (false, eval (.Attribute (.Name n p) h.at_ pos) X.env) :: starEach [] X.env) :
    ∀ (e : Addr) (oe : Obj) (cls : Value) (dx : Option Addr) (pn : List (Addr × Obj)), Zc cls dx oe → (∃ vs, oe.data = .fields vs) → PSs (X.suite e ((e, oe) :: pn)) [.Return (some (.Tuple [.Constant (.str t) j p3, .Attribute (.Name n p) h.at_ pos] x1 pos3)) pos2] (tSuite h C e cls dx) := by
  intro e oe cls dx pn hz hf
  refine (pss_one (ps_ret (pe_tup (pa_cons (X := X.suite e ((e, oe) :: pn)) pe_str (pa_cons (pe_errAt T hz hf (pe_var (X := X.suite e ((e, oe) :: pn)) (i := h.i) hN hv hd hcd) hb) pa_nil hs2) hs1)))).imp fun E σ H hh => ?_
  unfold tSuite at hh
  rw [hw] at hh
  obtain ⟨h1, h2, dd, v, h3, h4, h5⟩ := hh
  exact ⟨_, h1, rfl, h2, dd, v, h3, h4, by rw [sizeLine_eq]; exact (by decide : 2 ≤ 16777216), h5⟩
end
end DL
namespace DL
open PySem PySem.Spec L2 PyProof.Rows
section
variable {X : Cx} {W : WX} {EN : List Str} {hds : List ExceptHandler} {hs : List Hd}
def DHd (X : Cx) (EN : List Str) (hds : List ExceptHandler) (hs : List Hd) : Prop := ∃ l, HdOk X EN hds hs l
theorem dh_nil : DHd X EN [] [] := ⟨_, .nil⟩
theorem dh_tup {c a n t : Str} (i : Nat) {j} {x1} {p p1 p2 p3 pos pos2 pos3 : Pos} (T : ErrTxt X.prog X.K X.mg c a) (Th : HdTxt X.K X.mg EN c) (r : DHd X EN hds hs) (hN : X.N[i]? = some n := by rfl) (hk : X.env.kindOf n = some .local := by rfl)
    (hv : Vis X.env.scope n := by first | exact Or.inl rfl | exact Or.inr (Or.inl rfl) | exact Or.inr (Or.inr rfl)) (hd : (n == ("__debug__" : Str)) = false := by decide) (hcd : (n == ("__classdict__" : Str)) = false := by decide) (hg : Gl X c := by rfl)
    (hb : attributeBase (.Name n p) a X.env (eval (.Name n p) X.env) = eval (.Name n p) X.env := by rfl)
    (hs1 : starEach [.Constant (.str t) j p3, .Attribute (.Name n p) a pos] X.env = (false, eval (.Constant (.str t) j p3) X.env) :: starEach [.Attribute (.Name n p) a pos] X.env := by rfl) (hs2 : starEach [.Attribute (.Name n p) a pos] X.env = (false, eval (.Attribute (.Name n p) a pos) X.env) :: starEach [] X.env := by rfl) :
    DHd X EN (.ExceptHandler (some (.Name c p1)) (some n) [.Return (some (.Tuple [.Constant (.str t) j p3, .Attribute (.Name n p) a pos] x1 pos3)) pos2] p2 :: hds) (⟨c, i, some t, a⟩ :: hs) := by
  obtain ⟨l, r⟩ := r
  obtain ⟨C, fI, hc, T'⟩ := T.at_
  obtain ⟨C', hc', hm⟩ := Th.at_
  have e : some (Value.ref C) = some (Value.ref C') := hc.symm.trans hc'
  cases e
  exact ⟨_, .cons (h := ⟨c, i, some t, a⟩) hc hm ⟨hg, T.nd, .inl hc⟩ hN hk (suite_tup (h := ⟨c, i, some t, a⟩) rfl T' hN hv hd hcd hb hs1 hs2) r⟩
theorem dh_at {c a n : Str} (i : Nat) {p p1 p2 pos pos2 : Pos} (T : ErrTxt X.prog X.K X.mg c a) (Th : HdTxt X.K X.mg EN c) (r : DHd X EN hds hs) (hN : X.N[i]? = some n := by rfl) (hk : X.env.kindOf n = some .local := by rfl)
    (hv : Vis X.env.scope n := by first | exact Or.inl rfl | exact Or.inr (Or.inl rfl) | exact Or.inr (Or.inr rfl)) (hd : (n == ("__debug__" : Str)) = false := by decide) (hcd : (n == ("__classdict__" : Str)) = false := by decide) (hg : Gl X c := by rfl)
    (hb : attributeBase (.Name n p) a X.env (eval (.Name n p) X.env) = eval (.Name n p) X.env := by rfl) :
    DHd X EN (.ExceptHandler (some (.Name c p1)) (some n) [.Return (some (.Attribute (.Name n p) a pos)) pos2] p2 :: hds) (⟨c, i, none, a⟩ :: hs) := by
  obtain ⟨l, r⟩ := r
  obtain ⟨C, fI, hc, T'⟩ := T.at_
  obtain ⟨C', hc', hm⟩ := Th.at_
  have e : some (Value.ref C) = some (Value.ref C') := hc.symm.trans hc'
  cases e
  exact ⟨_, .cons (h := ⟨c, i, none, a⟩) hc hm ⟨hg, T.nd, .inl hc⟩ hN hk (suite_at (h := ⟨c, i, none, a⟩) rfl T' hN hv hd hcd hb) r⟩
theorem ds_tryD {body : List Stmt} {h₀ : ExceptHandler} {g : Fs} {pos : Pos} (st : X.stack = X.env :: X.outer) (hf : X.env.frame = some X.env.locals) (hN : X.N.Nodup) (tk : Takes X W)
    (hb : ∀ (W' : WX) (pn : List (Addr × Obj)) (xe : Value → Shared → Prop), Takes (X.tr pn xe) W' → PassesOwn (model X.prog X.w) X.A X.env xe → DSs (X.tr pn xe) W' body g)
    (hh : DHd X EN (h₀ :: hds) hs) : DS X W (.Try body (h₀ :: hds) [] [] pos) (sTry EN g hs) :=
  let ⟨_, h⟩ := hh
  ds_try st hf hN tk hb h
end
end DL
set_option Elab.async false
set_option linter.all false
set_option maxRecDepth 100000
set_option maxHeartbeats 4000000
/-! repetition, list(..) to be changed, three names at once, two items at once -/
namespace DL
open PySem PySem.Spec L2 PyProof.Rows
section
variable {X : Cx} {W : WX} {a b e : Expr} {f g : Fe} {pos : Pos}
theorem RepPs.repl {Z : Hp} {vs : List V} {ds : List PyData} (h : RepPs Z vs ds) : ∀ (n : Nat), RepPs Z (List.replicate n vs).flatten (List.replicate n ds).flatten
  | 0 => .nil
  | n + 1 => by
    rw [List.replicate_succ, List.replicate_succ, List.flatten_cons, List.flatten_cons]
    exact h.append (RepPs.repl h n)
def fRepT : D → D → M D
  | .p (.tuple ds), .p (.int k) => fun S => if ds ≠ [] ∧ 2 ≤ k ∧ k ≤ 1000 ∧ ds.length ≤ 1000 then .ok (.p (.tuple (List.replicate k.toNat ds).flatten)) S else .bad
  | _, _ => M.bad
instance {ds : List PyData} : Decidable (ds ≠ []) := by cases ds <;> simp <;> infer_instance
theorem ok_repT : R2ok X (rRepT X.K) fRepT := by
  intro w H S x y dx dy W σ Q R vx vy P
  unfold fRepT at P
  split at P
  · have vx := vx.cases_p
    cases vy.cases_p
    cases vx with | tup hx rx =>
    split at P
    · rename_i hc
      obtain ⟨h0, h1, h2, h3⟩ := hc
      exact ⟨_, _, _, rfl, rfl, SqT.of (R.same _ _ hx), fun z => h0 (by subst z; cases rx; rfl), h1, h2, by rw [rx.length]; exact h3, fun p hp => Post.newTup R P (rx.repl _) hp⟩
    · exact P.elim
  · exact P.elim
theorem de_repT (ha : DE X W a f) (hb : DE X W b g) : DE X W (.BinOp a .Mult b pos) (eBin fRepT f g) := de_bin op_repT ok_repT ha hb
def CRep (n : Nat) (k : Int) : Prop := -(2 ^ 63) ≤ k ∧ k < 2 ^ 63 ∧ n * k.toNat ≤ sizeLine
instance {n : Nat} {k : Int} : Decidable (CRep n k) := by unfold CRep; infer_instance
def fRepL : D → D → M D
  | .p (.list ds), .p (.int k) => fun S => if CRep ds.length k then .ok (.p (.list (List.replicate k.toNat ds).flatten)) S else .bad
  | _, _ => M.bad
theorem ok_repL : R2ok X rRep fRepL := by
  intro w H S x y dx dy W σ Q R vx vy P
  unfold fRepL at P
  split at P
  · have vx := vx.cases_p
    cases vy.cases_p
    cases vx with | lst hx rx =>
    split at P
    · rename_i hc
      exact ⟨_, _, _, rfl, rfl, R.same _ _ hx, hc.1, hc.2.1, by rw [rx.length]; exact hc.2.2, fun p hp => Post.newLst R P (rx.repl _) hp⟩
    · exact P.elim
  · exact P.elim
theorem de_repL (ha : DE X W a f) (hb : DE X W b g) : DE X W (.BinOp a .Mult b pos) (eBin fRepL f g) := de_bin op_rep ok_repL ha hb
/-- a new list that will be changed, of data -/
theorem Post.newCel {mg : Gm} {W : WX} {σ : L2.St} {w : Wd} {Q : VK} {H : Hp} {S : Store} {ds : List PyData} {xs : List V} (R : Rep mg w H S) (P : Post mg W σ w Q (.ok (.o S.length) (S ++ [.lst (ds.map D.p)]))) (r : RepPs w.Z xs ds) {p : Addr} (hp : H p = none) :
    Q (.ref p) (upd H p (.lst xs)) := by
  obtain ⟨g, R'⟩ := R.newC (o := .lst xs) (c := .lst (ds.map D.p)) hp (RepVs.grow (w := w) (w' := w.addM p) ⟨rfl, rfl, Same.refl _, [p], rfl⟩ (RepPs.toVs r))
  exact P _ _ g R' _ ⟨p, by show (w.m ++ [p])[S.length]? = some p; rw [← R.len]; simp, rfl⟩
def fRepC : D → D → M D
  | .p (.list ds), .p (.int k) => fun S => if CRep ds.length k then .ok (.o S.length) (S ++ [.lst ((List.replicate k.toNat ds).flatten.map D.p)]) else .bad
  | _, _ => M.bad
theorem ok_repC : R2ok X rRep fRepC := by
  intro w H S x y dx dy W σ Q R vx vy P
  unfold fRepC at P
  split at P
  · have vx := vx.cases_p
    cases vy.cases_p
    cases vx with | lst hx rx =>
    split at P
    · rename_i hc
      exact ⟨_, _, _, rfl, rfl, R.same _ _ hx, hc.1, hc.2.1, by rw [rx.length]; exact hc.2.2, fun p hp => Post.newCel R P (rx.repl _) hp⟩
    · exact P.elim
  · exact P.elim
theorem de_repC (ha : DE X W a f) (hb : DE X W b g) : DE X W (.BinOp a .Mult b pos) (eBin fRepC f g) := de_bin op_rep ok_repC ha hb
def fListC : D → M D
  | .p (.tuple ds) => fun S => .ok (.o S.length) (S ++ [.lst (ds.map D.p)])
  | _ => M.bad
theorem ok_listC : C1ok X (fun xs H Q => ∃ p ys, xs = [.ref p] ∧ (SqL X.K H p ys ∨ SqT X.K H p ys) ∧ ∀ l, H l = none → Q (.ref l) (upd H l (.lst ys))) (on1 fListC) := ok_on1 fun w H S x d W σ Q R v P => by
  unfold fListC at P
  split at P
  · have v := v.cases_p
    cases v with | tup hx rx =>
    exact ⟨_, _, rfl, .inr (SqT.of (R.same _ _ hx)), fun p hp => Post.newCel R P rx hp⟩
  · exact P.elim
theorem de_listC {p : Pos} (hg : Gl X "list") (hm : X.mg "list" = none) (ha : DE X W e f) (he : starEach [e] X.env = (false, eval e X.env) :: starEach [] X.env := by rfl) (hpl : (backTo pos (starEach [] X.env)).any (·.1) = false := by rfl) :
    DE X W (.Call (.Name "list" p) [e] [] pos) (eCB (on1 fListC) (aCons f aNil)) := de_callTy call_list_of ok_listC hg hm PyProof.Rows.boot_list (da_cons ha da_nil he) (by decide) (by decide) he hpl
/-- a, b, c = x, y, z -/
def sPar3 (i j l : Nat) (f g k : Fe) : Fs := fun ρ S => bindS ρ (f ρ S) fun d S1 => bindS ρ (g ρ S1) fun d2 S2 => bindS ρ (k ρ S2) fun d3 S3 => .nx (((ρ.set i (some d)).set j (some d2)).set l (some d3)) S3
theorem ds_par3 {c : Expr} {k : Fe} {i j l : Nat} {x y z : Str} {px py pz pt : Pos} {kt k2 pt2} (hc : X.calm = true) (hN : X.N.Nodup) (hi : X.N[i]? = some x) (hj : X.N[j]? = some y) (hl : X.N[l]? = some z) (hij : i ≠ j) (hil : i ≠ l) (hjl : j ≠ l)
    (hx : X.env.scope.names.lookup x = some .local) (hy : X.env.scope.names.lookup y = some .local) (hz : X.env.scope.names.lookup z = some .local) (ha : DE X W a f) (hb : DE X W b g) (hd : DE X W c k)
    (hw : swappedStores [.Tuple [.Name x px, .Name y py, .Name z pz] kt pt] (.Tuple [a, b, c] k2 pt2) X.env = pure (some [x, y, z]))
    (hs : swapsWithSole [.Tuple [.Name x px, .Name y py, .Name z pz] kt pt] (.Tuple [a, b, c] k2 pt2) pos.line X.env = pure false := by rfl)
    (he : starEach [a, b, c] X.env = (false, eval a X.env) :: starEach [b, c] X.env := by rfl) (he' : starEach [b, c] X.env = (false, eval b X.env) :: starEach [c] X.env := by rfl) (he3 : starEach [c] X.env = (false, eval c X.env) :: starEach [] X.env := by rfl) :
    DS X W (.Assign [.Tuple [.Name x px, .Name y py, .Name z pz] kt pt] (.Tuple [a, b, c] k2 pt2) pos) (sPar3 i j l f g k) :=
  (ps_par3 hc hN hi hj hl hij hil hjl hx hy hz (pa_cons ha (pa_cons hb (pa_cons hd pa_nil he3) he') he) hw hs).imp fun E σ H ⟨w, ρ, S, R, e, P⟩ =>
    stepES R e P fun v w1 H1 S1 d g1 R1 E1 V1 P1 => stepES R1 E1 P1 fun v2 w2 H2 S2 d2 g2 R2 E2 V2 P2 => stepES R2 E2 P2 fun v3 w3 H3 S3 d3 g3 R3 E3 V3 P3 =>
      ⟨v, v2, v3, rfl, P3 _ w3 H3 (Grow.refl _) R3 (((E3.set i ((V1.grow g2).grow g3)).set j (V2.grow g3)).set l V3)⟩
/-- xs[i], ys[j] = a pair -/
theorem setAt_inv {w : Wd} {H : Hp} {S S' : Store} {mg : Gm} {x y i : D} {vx vy vi : V} (R : Rep mg w H S) (Vx : RepV w vx x) (Vi : RepV w vi i) (Vy : RepV w vy y) (h : setAt x i y S = some S') {Q : Hp → Prop} (q : ∀ H', Rep mg w H' S' → Q H') : rSetL vx vi vy H Q := by
  unfold setAt at h
  split at h
  · rename_i a k
    cases Vi.cases_p
    obtain ⟨ad, ha, rfl⟩ := Vx
    cases q1 : lstAt S a with
    | none => rw [q1] at h; cases h
    | some ds =>
      rw [q1] at h
      dsimp only [Option.bind] at h
      cases q2 : ixN ds.length k with
      | none => rw [q2] at h; cases h
      | some j =>
        rw [q2] at h
        cases h
        obtain ⟨oo, ho, r⟩ := R.at_ ha (lstAt_some q1)
        obtain ⟨xs, rfl, r⟩ := r.lst_inv
        exact ⟨ad, xs, k, j, rfl, rfl, ho, by rw [r.length]; exact q2, q _ (R.setC (o := .lst (xs.set j vy)) ha (RepVs.set Vy j r))⟩
  · cases h
def sSwap (fv fo fi fo2 fi2 : Fe) : Fs := fun ρ S => bindS ρ (fv ρ S) fun d S1 => match d with
  | .p (.tuple [u, v]) => bindS ρ (fo ρ S1) fun x S2 => bindS ρ (fi ρ S2) fun i S3 => match setAt x i (.p u) S3 with
    | some S4 => bindS ρ (fo2 ρ S4) fun x2 S5 => bindS ρ (fi2 ρ S5) fun i2 S6 => nxO ρ (setAt x2 i2 (.p v) S6)
    | none => .bad
  | _ => .bad
theorem ds_swap {o i o2 i2 value : Expr} {fv fo fi fo2 fi2 : Fe} {k : Nat} {p1 p2 pt : Pos} (hc : X.calm = true) (hv : DE X W value fv) (ho : DE X W o fo) (hi : DE X W i fi) (ho2 : DE X W o2 fo2) (hi2 : DE X W i2 fi2)
    (ha : ∀ v, assign (.Subscript o i p1) X.env v = (do
      let ov ← holding [v] (eval o X.env)
      let iv ← holding [v, ov] (eval i X.env)
      standAt p1
      holding [v, ov, iv] (setItem ov iv v)
      release [v, ov, iv] []) := by intro _; rfl)
    (ha2 : ∀ v, assign (.Subscript o2 i2 p2) X.env v = (do
      let ov ← holding [v] (eval o2 X.env)
      let iv ← holding [v, ov] (eval i2 X.env)
      standAt p2
      holding [v, ov, iv] (setItem ov iv v)
      release [v, ov, iv] []) := by intro _; rfl)
    (h1 : (assignEach [.Subscript o i p1, .Subscript o2 i2 p2] X.env).map (·.2) = assign (.Subscript o i p1) X.env :: (assignEach [.Subscript o2 i2 p2] X.env).map (·.2) := by rfl)
    (h2 : (assignEach [.Subscript o2 i2 p2] X.env).map (·.2) = assign (.Subscript o2 i2 p2) X.env :: (assignEach [] X.env).map (·.2) := by rfl)
    (hn : (assignEach [.Subscript o i p1, .Subscript o2 i2 p2] X.env).length = 2 := by rfl) (hst : (assignEach [.Subscript o i p1, .Subscript o2 i2 p2] X.env).findIdx? (·.1) = none := by rfl)
    (hs : swapsWithSole [.Tuple [.Subscript o i p1, .Subscript o2 i2 p2] k pt] value pos.line X.env = pure false := by rfl) (hw : swappedStores [.Tuple [.Subscript o i p1, .Subscript o2 i2 p2] k pt] value X.env = pure none := by rfl)
    (h3 : (assignEach [.Tuple [.Subscript o i p1, .Subscript o2 i2 p2] k pt] X.env).map (·.2) = [assign (.Tuple [.Subscript o i p1, .Subscript o2 i2 p2] k pt) X.env] := by rfl) :
    DS X W (.Assign [.Tuple [.Subscript o i p1, .Subscript o2 i2 p2] k pt] value pos) (sSwap fv fo fi fo2 fi2) :=
  (ps_asg hv (pg_tup hc (pgs_cons (pg_sub ho hi set_list ha) (pgs_cons (pg_sub ho2 hi2 set_list ha2) pgs_nil h2) h1) hn hst) hs hw h3).imp fun En σ H ⟨w, ρ, S, R, E, P⟩ =>
    stepES R E P fun y w1 H1 S1 d g1 R1 E1 V1 P1 => by
      split at P1
      · rename_i u v
        have V1 := V1.cases_p
        cases V1 with | tup ht rt =>
        cases rt with | cons ru rt =>
        cases rt with | cons rv rt =>
        cases rt
        refine ⟨_, _, rfl, SqT.of (R1.same _ _ ht), rfl, _, _, rfl, ?_⟩
        refine stepES R1 E1 P1 fun x w2 H2 S2 d2 g2 R2 E2 V2 P2 => stepES R2 E2 P2 fun z w3 H3 S3 d3 g3 R3 E3 V3 P3 => ?_
        cases q : setAt d2 d3 (.p u) S3 with
        | none => rw [q] at P3; exact P3.elim
        | some S4 =>
          rw [q] at P3
          refine setAt_inv (y := .p u) R3 (V2.grow g3) V3 (RepP.mono (g2.trans g3).z _ _ ru) q fun H4 R4 => ?_
          refine ⟨_, _, rfl, ?_⟩
          refine stepES R4 E3 P3 fun x5 w5 H5 S5 d5 g5 R5 E5 V5 P5 => stepES R5 E5 P5 fun z6 w6 H6 S6 d6 g6 R6 E6 V6 P6 => ?_
          cases q6 : setAt d5 d6 (.p v) S6 with
          | none => rw [q6] at P6; exact P6.elim
          | some S7 =>
            rw [q6] at P6
            exact setAt_inv (y := .p v) R6 (V5.grow g6) V6 (RepP.mono (((g2.trans g3).trans g5).trans g6).z _ _ rv) q6 fun H7 R7 => ⟨rfl, P6 σ w6 H7 (Grow.refl _) R7 E6⟩
      · exact P1.elim
end
section
variable {P : Program} {w : World} {K : PySem.W.Frag} {mg : Str → Option Value} {base : Heap}
theorem def_none {x : Str} {st : Stmt} {ps : List Str} {k : Nat} (h : DefAt K mg x st ps) : DefOk P w K mg base x ps k (fun _ => M.bad) := by
  obtain ⟨fa, fd, h1, h2, h3⟩ := h.ex
  exact ⟨fa, fd, h1, h2.kp, h3, ⟨fun vs H Q E ⟨_, _, _, _, _, P⟩ => P.elim, fun _ _ _ _ _ _ _ _ _ _ _ _ _ ⟨_, _, _, _, _, P⟩ => P.elim⟩⟩
end
end DL
set_option Elab.async false
set_option linter.all false
set_option maxRecDepth 100000
set_option maxHeartbeats 4000000
/-! t[::-1] of a tuple -/
namespace DL
open PySem PySem.Spec L2 PyProof.Rows HT
theorem back_adjust (n : Nat) : Builtin.Slice.sliceAdjust none none (-1) (n : Int) = ((n : Int) - 1, -1) := rfl
theorem back_places (n : Nat) : Builtin.Slice.slicePlaces ((n : Int) - 1) (-1) (-1) = n := by
  unfold Builtin.Slice.slicePlaces
  have h1 : ¬ ((-1 : Int) > 0) := by decide
  rw [if_neg h1]
  have e : (-(-1) : Int) = 1 := by decide
  rw [e, Int.ediv_one]
  split <;> omega
theorem filterMap_same {α β : Type} {f g : α → Option β} : ∀ {l : List α}, (∀ a ∈ l, f a = g a) → l.filterMap f = l.filterMap g
  | [], _ => rfl
  | a :: l, h => by
    rw [List.filterMap_cons, List.filterMap_cons, h a List.mem_cons_self, filterMap_same fun b hb => h b (List.mem_cons_of_mem _ hb)]
theorem back_pick (xs : List Value) : ((List.range xs.length).filterMap fun (k : Nat) => xs.toArray[(((xs.length : Int) - 1) + (k : Int) * (-1)).toNat]?) = xs.reverse := by
  have h : ∀ k ∈ List.range xs.length, xs.toArray[(((xs.length : Int) - 1) + (k : Int) * (-1)).toNat]? = xs.reverse[k]? := by
    intro k hk
    have hk := List.mem_range.mp hk
    have e : (((xs.length : Int) - 1) + (k : Int) * (-1)).toNat = xs.length - 1 - k := by omega
    rw [e, List.getElem?_toArray, List.getElem?_reverse hk]
  have e1 : ((List.range xs.length).filterMap fun (k : Nat) => xs.toArray[(((xs.length : Int) - 1) + (k : Int) * (-1)).toNat]?) = (List.range xs.length).filterMap fun k => xs.reverse[k]? := filterMap_same h
  rw [e1]
  have key : ∀ (l : List Value), ((List.range l.length).filterMap fun k => l[k]?) = l := by
    intro l
    induction l with
    | nil => rfl
    | cons a l ih =>
      rw [List.length_cons, List.range_succ_eq_map, List.filterMap_cons, List.filterMap_map]
      show a :: (List.filterMap (fun k => l[k]?) (List.range l.length)) = a :: l
      rw [ih]
  have := key xs.reverse
  rw [List.length_reverse] at this
  exact this
/-- what tuple.__getitem__ gives of [::-1] -/
theorem back_meets {t sl : Addr} {items : List Value} {vs : Value} (ps : IsPart vs (some (-1))) (hz : items.length ≤ sizeLine) : Meets (Builtin.«tuple.__getitem__» ⟨[.ref t, .ref sl], []⟩)
    (fun _ R s => IsTup s.heap t items.toArray ∧ s.heap.IsSliceOf sl .none .none vs ∧ (R (.ok (.ret (.ref s.heap.objs.size))) { s with heap := s.heap.push { cls := .type "tuple", data := .seq items.reverse.toArray } })) :=
  .of_wp fun prog w A R s ⟨ht, hs, h⟩ => by
    obtain ⟨os, ho, hc, hd⟩ := id hs
    have ty : s.TypeIs (.ref sl) "slice" := ⟨os, ho, hc⟩
    have ok : sizeOk (.seq items.reverse.toArray) := by
      show items.reverse.toArray.size ≤ sizeLine
      simpa using hz
    change wpAny _ _ (Builtin.Tuple.tupleItemsOf (.ref t) >>= _) _ _ s
    apply wpAny_bind
    apply tupleItemsOf_ ht
    apply wpAny_bind
    apply wpAny_typeOf ty
    rw [if_pos (by decide)]
    have app : ∀ {Q : Int × Int × Nat → Shared → Prop} {E : Value → Shared → Prop}, Q ((items.length : Int) - 1, -1, items.length) s → wpAny (model prog w) A.in1 (Builtin.Slice.sliceApplied (.ref sl) (pure (items.toArray.size : Int))) Q E s := by
      intro Q E q
      unfold Builtin.Slice.sliceApplied Builtin.Slice.sliceFields
      apply wpAny_bind
      apply wpAny_bind
      refine wpAny_field ho hd (x := .none) rfl ?_
      apply wpAny_bind
      refine wpAny_field ho hd (x := .none) rfl ?_
      apply wpAny_bind
      refine wpAny_field ho hd (x := vs) rfl ?_
      apply wpAny_pure
      apply wpAny_bind
      refine slicePart_ ps ?_
      change wpAny _ _ (if ((-1 : Int) == 0) = true then _ else _) _ _ s
      rw [if_neg (by decide)]
      apply wpAny_bind
      apply slicePart_none
      apply wpAny_bind
      apply slicePart_none
      apply wpAny_bind
      apply wpAny_pure
      change wpAny _ _ (pure ((((items.toArray.size : Nat) : Int) - 1), (-1 : Int), Builtin.Slice.slicePlaces (((items.toArray.size : Nat) : Int) - 1) (-1) (-1))) _ _ s
      rw [back_places, List.size_toArray]
      exact wpAny_pure q
    apply wpAny_bind
    apply app
    have no : ¬ ((((items.length : Int) - 1) == 0 && (-1 : Int) == 1 && items.length == items.toArray.size) = true) := by simp
    change wpAny _ _ (if (((items.length : Int) - 1) == 0 && (-1 : Int) == 1 && items.length == items.toArray.size) = true then _ else _) _ _ s
    rw [if_neg no, back_pick]
    first
      | exact wpAny_bind (m := Builtin.Tuple.tupleExact _) (wpAny_newObj_type (wpAny_pure ⟨_, rfl, h⟩) ok)
      | exact wpAny_bind (m := Builtin.Tuple.tupleExact _) (wpAny_newObj_type (wpAny_bind (wpAny_pure (wpAny_pure ⟨_, rfl, h⟩))) ok)
      | exact wpAny_bind (wpAny_bind (m := Builtin.Tuple.tupleExact _) (wpAny_newObj_type (wpAny_pure (wpAny_pure ⟨_, rfl, h⟩)) ok))
section
variable {X : Cx} {W : WX} {e : Expr} {f : Fe}
def tRevT (K : PySem.W.Frag) (te : TE) : TE := fun σ H Q => te σ H fun x H1 => ∃ a xs, x = .ref a ∧ SqT K H1 a xs ∧ ∀ p, H1 p = none → Q (.ref p) (upd H1 p (.tup xs.reverse))
abbrev minus1 (k : Nat) (p q : Pos) : Expr := .UnaryOp .USub (.Constant (.int 1) k p) q
theorem pe_revT {te : TE} {k : Nat} {p1 p2 p3 pos : Pos} (he : PE X e te) : PE X (.Subscript e (.Slice none none (some (minus1 k p1 p2)) p3) pos) (tRevT X.K te) := by
  constructor
  intro pins s σ H Q I h
  have stp : PO X (some (minus1 k p1 p2)) (tPart (tUn (rU fun i => .int (-i)) (tC (.int 1)))) := po_some (pe_un un_neg pe_int)
  apply Subscript_
  refine thn (he.run pins s σ H _ I h) ?_
  rintro v s1 ⟨_, H1, I1, rv, a, xs, rfl, ha, q⟩
  cases rv
  apply wpAny_Slice
  refine thn (po_none.run pins s1 σ H1 (fun o G => o = none ∧ G = H1) I1 ⟨rfl, rfl⟩) ?_
  rintro lo s2 ⟨_, _, I2, plo, rfl, rfl⟩
  refine thn (po_none.run pins s2 σ _ (fun o G => o = none ∧ G = _) I2 ⟨rfl, rfl⟩) ?_
  rintro hi s3 ⟨_, _, I3, phi, rfl, rfl⟩
  refine thn (stp.run pins s3 σ _ (fun o G => o = some (-1) ∧ G = _) I3 ⟨1, rfl, -1, rfl, rfl, rfl⟩) ?_
  rintro st s4 ⟨_, _, I4, pst, rfl, rfl⟩
  cases plo
  cases phi
  have up : ∀ b ob, s4.heap.get? b = some ob → (s4.heap.push { cls := .type "slice", data := .fields #[.none, .none, st] }).get? b = some ob := fun b ob q => Heap.get?_push_of_some _ q
  have I5 := I4.kept (t' := s4.toks) up
  obtain ⟨its, r, ht, hz⟩ := I5.tuple ha
  change wpAny (model X.prog X.w) X.A (subscriptTail e (.Slice none none (some (minus1 k p1 p2)) p3) (.ref a) (.ref s4.heap.objs.size)) (EP X pins σ Q) X.xe { s4 with heap := s4.heap.push { cls := .type "slice", data := .fields #[.none, .none, st] } }
  refine tail_any (ops := [.ref a, .ref s4.heap.objs.size]) ht.typeIs (PyProof.Rows.slot_tuple_getitem.lookup) ?_ (by with_unfolding_all rfl)
  have hl : its.length ≤ sizeLine := by rw [← r.length]; exact hz
  refine getItem_meets ht.typeIs (by decide) PyProof.Rows.slot_tuple_getitem entry_tuple_getitem (args_tuple_getitem _ _) (back_meets pst hl) ?_
  refine ⟨ht, Heap.IsSliceOf.new _ _ _ _, ?_⟩
  refine ⟨.ref _, _, I5.laid (t' := s4.toks) (o := .tup xs.reverse) (fun b ob q => Heap.get?_push_of_some _ q) (Nat.le_refl _) ?_, rfl, q _ (I5.hok.fresh (Nat.le_refl _))⟩
  refine ⟨by rw [List.length_reverse]; exact hz, its.reverse, r.reverse, ?_⟩
  exact ⟨_, Heap.get?_push_size _ rfl, rfl, 0, rfl⟩
def fRev : D → M D
  | .p (.tuple ds) => M.pure (.p (.tuple ds.reverse))
  | _ => M.bad
theorem de_rev {k : Nat} {p1 p2 p3 pos : Pos} (he : DE X W e f) : DE X W (.Subscript e (.Slice none none (some (minus1 k p1 p2)) p3) pos) (eUn fRev f) := (pe_revT he).imp fun σ H Q ⟨w, ρ, S, R, E, P⟩ =>
  stepE R E P fun x w1 H1 S1 dx g1 R1 E1 V1 P1 => by
    unfold fRev at P1
    split at P1
    · have V1 := V1.cases_p
      cases V1 with | tup hx rx =>
      exact ⟨_, _, rfl, SqT.of (R1.same _ _ hx), fun p hp => Post.newTup R1 P1 rx.reverse hp⟩
    · exact P1.elim
end
end DL
set_option Elab.async false
set_option linter.all false
set_option maxRecDepth 100000
namespace DL
open PySem PySem.Spec L2
section
variable {X : Cx} {W : WX} {fsrc : Fsrc} {g : TG} {t : Tg} {tb : Fb} {el : Fe}
theorem de_lcI {elt tg iter : Expr} {ifs : List Expr} {scope : Scope} {own : List (Str × Nat)} {ix : List Nat} {pos : Pos} (hc : X.calm = true) (hN : X.N.Nodup) (hi : DI X W tg iter fsrc) (ok : BlkOk X.N X.env.scope scope own)
    (hT : TgC X.gm g t ix) (hg : ∀ (s : Shared) (H : Hp) (C : Addr) (cl : List (Str × Addr)) (fp : List Addr), PG (X.blk s H scope (compEnvC scope cl C X.env) fp) tg g) (ht : ∀ (s : Shared) (H : Hp) (C : Addr) (cl : List (Str × Addr)) (fp : List Addr), PTs (X.blk s H scope (compEnvC scope cl C X.env) fp) ifs (tDT X.gm Wno tb))
    (he : ∀ (s : Shared) (H : Hp) (C : Addr) (cl : List (Str × Addr)) (fp : List Addr), DE (X.blk s H scope (compEnvC scope cl C X.env) fp) Wno elt el) (hx : own.map (·.2) = ix := by rfl) (hs : ∀ x, foldedSetIterable iter X.env x = pure x := by intro _; rfl) :
    DE X W (.ListComp elt [⟨tg, iter, ifs, 0⟩] scope pos) (eLc fsrc ix t tb el) := by
  subst hx
  exact de_lc hc hN hi ok hT hg ht he hs
theorem ds_setLcI {i : Nat} {y : Str} {py : Pos} {elt tg iter : Expr} {ifs : List Expr} {scope : Scope} {own : List (Str × Nat)} {ix : List Nat} {pos spos : Pos} (hc : X.calm = true) (hN : X.N.Nodup) (hy : X.N[i]? = some y) (hyl : X.env.scope.names.lookup y = some .local)
    (hsw : swapsWith (.ListComp elt [⟨tg, iter, ifs, 0⟩] scope pos) (some (.Name y py)) spos.line X.env = pure true) (hi : DI X W tg iter fsrc) (ok : BlkOk X.N X.env.scope scope own)
    (hT : TgC X.gm g t ix) (hg : ∀ (s : Shared) (H : Hp) (C : Addr) (cl : List (Str × Addr)) (fp : List Addr), PG (X.blk s H scope (compEnvC scope cl C X.env) fp) tg g) (ht : ∀ (s : Shared) (H : Hp) (C : Addr) (cl : List (Str × Addr)) (fp : List Addr), PTs (X.blk s H scope (compEnvC scope cl C X.env) fp) ifs (tDT X.gm Wno tb))
    (he : ∀ (s : Shared) (H : Hp) (C : Addr) (cl : List (Str × Addr)) (fp : List Addr), DE (X.blk s H scope (compEnvC scope cl C X.env) fp) Wno elt el) (hx : own.map (·.2) = ix := by rfl) (hs : ∀ x, foldedSetIterable iter X.env x = pure x := by intro _; rfl) :
    DS X W (.Assign [.Name y py] (.ListComp elt [⟨tg, iter, ifs, 0⟩] scope pos) spos) (sSet i (eLc fsrc ix t tb el)) := by
  subst hx
  exact ds_setLc hc hN hy hyl hsw hi ok hT hg ht he hs
end
end DL
set_option Elab.async false
set_option linter.all false
set_option maxRecDepth 100000
namespace DL
open PySem PySem.Spec L2 RZ
def isTup : D → Bool
  | .p (.tuple _) => true
  | _ => false
theorem isTup_inv {d : D} (h : isTup d = true) : ∃ ds, d = .p (.tuple ds) := by
  cases d with
  | p d => cases d with
    | tuple ds => exact ⟨ds, rfl⟩
    | _ => cases h
  | _ => cases h
theorem notTup_items {d : D} (h : isTup d = false) (S : Store) : seqItems S d = items S d := by
  cases d with
  | o i => rfl
  | s ns => rfl
  | p d => cases d with
    | tuple ds => cases h
    | _ => rfl
theorem zipAt_some {xs ys : List D} {i : Nat} {d : D} (h : zipAt xs ys i = some (some d)) : ∃ a b, xs[i]? = some (.p a) ∧ ys[i]? = some (.p b) ∧ d = .p (.tuple [a, b]) := by
  unfold zipAt at h
  split at h
  · rename_i x y hx hy
    cases x <;> cases y <;> cases h
    exact ⟨_, _, hx, hy, rfl⟩
  · cases h
theorem zipAt_none {xs ys : List D} {i : Nat} (h : zipAt xs ys i = some none) : xs.length ≤ i ∨ ys.length ≤ i := by
  unfold zipAt at h
  split at h
  · rename_i x y hx hy
    cases x <;> cases y <;> cases h
  · rename_i hn
    cases hx : xs[i]? with
    | none => exact .inl (List.getElem?_eq_none_iff.mp hx)
    | some x =>
      cases hy : ys[i]? with
      | none => exact .inr (List.getElem?_eq_none_iff.mp hy)
      | some y => exact absurd hy (hn x y hx)
section
variable {mg : Gm} {w0 : Wd} {a b : Addr} {x y : D}
theorem src_zipL (Vx : RepV w0 (.ref a) x) (Vy : RepV w0 (.ref b) y) (hx : isTup x = false) (hy : isTup y = false) : Src mg (Itz mg.K a b) (.zip x y) w0 := by
  constructor
  · intro i w H S d g R h
    have h : (seqItems S x).bind (fun xs => (seqItems S y).bind fun ys => zipAt xs ys i) = some (some d) := h
    obtain ⟨xs, h1, h⟩ := Option.bind_eq_some_iff.mp h
    obtain ⟨ys, h2, h⟩ := Option.bind_eq_some_iff.mp h
    rw [notTup_items hx] at h1
    rw [notTup_items hy] at h2
    obtain ⟨a', us, e, hs, r⟩ := items_sq R (Vx.growD g) h1
    cases e
    obtain ⟨b', vs, e, ht, r'⟩ := items_sq R (Vy.growD g) h2
    cases e
    obtain ⟨p, q, e1, e2, rfl⟩ := zipAt_some h
    obtain ⟨u, f1, f2⟩ := r.get e1
    obtain ⟨v, f3, f4⟩ := r'.get e2
    refine ⟨⟨us, vs, u, v, hs, ht, f1, f3⟩, fun z H' ⟨T, u', v', ez, hT, eH, k1, k2⟩ => ?_⟩
    have k1 := k1 us hs
    have k2 := k2 vs ht
    rw [f1] at k1
    rw [f3] at k2
    cases k1
    cases k2
    subst ez eH
    obtain ⟨g', R'⟩ := R.newP (.tup [u, v]) hT
    exact ⟨_, g', R', .tup upd_same (.cons (RepP.mono g'.z _ _ f2) (.cons (RepP.mono g'.z _ _ f4) .nil))⟩
  · intro i w H S g R h
    have h : (seqItems S x).bind (fun xs => (seqItems S y).bind fun ys => zipAt xs ys i) = some none := h
    obtain ⟨xs, h1, h⟩ := Option.bind_eq_some_iff.mp h
    obtain ⟨ys, h2, h⟩ := Option.bind_eq_some_iff.mp h
    rw [notTup_items hx] at h1
    rw [notTup_items hy] at h2
    obtain ⟨a', us, e, hs, r⟩ := items_sq R (Vx.growD g) h1
    cases e
    obtain ⟨b', vs, e, ht, r'⟩ := items_sq R (Vy.growD g) h2
    cases e
    exact ⟨us, vs, hs, ht, by rw [r.length, r'.length]; exact zipAt_none h⟩
theorem src_zipT {K : PySem.W.Frag} {ds es : List PyData} (Vx : RepV w0 (.ref a) (.p (.tuple ds))) (Vy : RepV w0 (.ref b) (.p (.tuple es))) : Src mg (ItzT K a b) (.zip (.p (.tuple ds)) (.p (.tuple es))) w0 := by
  constructor
  · intro i w H S d g R h
    have h : zipAt (ds.map D.p) (es.map D.p) i = some (some d) := h
    have Vx := (Vx.growD g).cases_p
    have Vy := (Vy.growD g).cases_p
    cases Vx with | tup hx rx =>
    cases Vy with | tup hy ry =>
    rename_i us vs
    obtain ⟨p, q, e1, e2, rfl⟩ := zipAt_some h
    obtain ⟨u, f1, f2⟩ := (RepPs.toVs (w := w) rx).get e1
    obtain ⟨v, f3, f4⟩ := (RepPs.toVs (w := w) ry).get e2
    have hs : SqT K H a us := SqT.of (R.same _ _ hx)
    have ht : SqT K H b vs := SqT.of (R.same _ _ hy)
    refine ⟨⟨us, vs, u, v, hs, ht, f1, f3⟩, fun z H' ⟨T, u', v', ez, hT, eH, k1, k2⟩ => ?_⟩
    have k1 := k1 us hs
    have k2 := k2 vs ht
    rw [f1] at k1
    rw [f3] at k2
    cases k1
    cases k2
    subst ez eH
    obtain ⟨g', R'⟩ := R.newP (.tup [u, v]) hT
    exact ⟨_, g', R', .tup upd_same (.cons (RepP.mono g'.z _ _ f2) (.cons (RepP.mono g'.z _ _ f4) .nil))⟩
  · intro i w H S g R h
    have h : zipAt (ds.map D.p) (es.map D.p) i = some none := h
    have Vx := (Vx.growD g).cases_p
    have Vy := (Vy.growD g).cases_p
    cases Vx with | tup hx rx =>
    cases Vy with | tup hy ry =>
    have := zipAt_none h
    rw [List.length_map, List.length_map] at this
    exact ⟨_, _, SqT.of (R.same _ _ hx), SqT.of (R.same _ _ hy), by rw [rx.length, ry.length]; exact this⟩
end
def ofZip2 : List D → M SrcV
  | [x, y] => fun S => if isTup x = isTup y ∧ (seqItems S x).isSome = true ∧ (seqItems S y).isSome = true then .ok (.zip x y) S else .bad
  | _ => M.bad
def srcZip2 (f g : Fe) : Fsrc := fun ρ => M.bind (aCons f (aCons g aNil) ρ) ofZip2
section
variable {X : Cx} {W : WX} {a b : Expr} {f g : Fe} {pos : Pos}
theorem di_zip {p tpos : Pos} {elts : List Expr} {kk : Nat} (hg : Gl X "zip") (hm : X.mg "zip" = none) (ha : DE X W a f) (hb : DE X W b g) (hs : starEach [a, b] X.env = (false, eval a X.env) :: starEach [b] X.env := by rfl) (hs2 : starEach [b] X.env = (false, eval b X.env) :: starEach [] X.env := by rfl)
    (hpl : (backTo pos (starEach [b] X.env)).any (·.1) = false := by rfl) : DI X W (.Tuple elts kk tpos) (.Call (.Name "zip" p) [a, b] [] pos) (srcZip2 f g) :=
  ⟨fun pins s σ H T I ⟨w, ρ, S, R, E, P⟩ => (pi_zipA hg hm (da_cons ha (da_cons hb da_nil hs2) hs) hs hpl).run pins s σ H T I (by
    refine stepA R E P fun vs w1 H1 S1 ds g1 R1 E1 V1 P1 => ?_
    unfold ofZip2 at P1
    split at P1
    · rename_i dx dy
      obtain ⟨x, y, rfl, vx, vy⟩ := RepVs.two V1
      by_cases hc : isTup dx = isTup dy ∧ (seqItems S1 dx).isSome = true ∧ (seqItems S1 dy).isSome = true
      · rw [if_pos hc] at P1
        obtain ⟨he, h1, h2⟩ := hc
        cases ht : isTup dx with
        | true =>
          obtain ⟨ds, rfl⟩ := isTup_inv ht
          obtain ⟨es, rfl⟩ := isTup_inv (he.symm.trans ht)
          have vx' := vx.cases_p
          have vy' := vy.cases_p
          cases vx' with | tup hx rx =>
          cases vy' with | tup hy ry =>
          exact ⟨_, _, _, _, rfl, .inr ⟨SqT.of (R1.same _ _ hx), SqT.of (R1.same _ _ hy), P1 w1 H1 (Grow.refl _) R1 _ (src_zipT vx vy)⟩⟩
        | false =>
          have hy := he.symm.trans ht
          rw [notTup_items ht] at h1
          rw [notTup_items hy] at h2
          obtain ⟨xs, q1⟩ := Option.isSome_iff_exists.mp h1
          obtain ⟨ys, q2⟩ := Option.isSome_iff_exists.mp h2
          obtain ⟨a', us, rfl, k1, r1⟩ := items_sq R1 vx q1
          obtain ⟨b', vs', rfl, k2, r2⟩ := items_sq R1 vy q2
          exact ⟨_, _, _, _, rfl, .inl ⟨k1, k2, P1 w1 H1 (Grow.refl _) R1 _ (src_zipL vx vy ht hy)⟩⟩
      · rw [if_neg hc] at P1; exact P1.elim
    · exact P1.elim)⟩
end
end DL
set_option Elab.async false
set_option linter.all false
set_option maxRecDepth 100000
namespace DL
open PySem PySem.Spec L2 PySem.HandSPX
/-- a def at a known place is worth its reading -/
theorem law_fn {P : Program} {w : World} {K : PySem.W.Frag} {mg : Str → Option Value} {base : Heap} {x : Str} {st : Stmt} {f : Addr} {fd : FuncData} {N ps : List Str} {k : Nat} {g : Fs} (Fn : Fun K x x st f fd) (S : FnScope N ps (defScope st))
    (hbody : ∀ (cdv : Value) (A : Around) (outer : List Env) (s : Shared) (H : Hp) (E : XK), Room k (A.deeper (PyProof.Rows.envOfC x (defScope st) s.heap.objs.size f cdv)) →
      DSs (cxOf (L2.CX P w) P w K mg base N x (defScope st) f cdv A outer s H E) (WF E) (defBody st) g) : FnOk P w K mg base (L2.CX P w) (k + 1) f fd ps (spD ⟨mg, K⟩ (bodyF ps.length N.length g)) :=
  fnd_of Fn S hbody fun ds S' nb => by
    unfold bodyF at nb ⊢
    by_cases e : ds.length = ps.length
    · rw [if_pos e]; exact ⟨e, rfl⟩
    · rw [if_neg e] at nb; exact absurd rfl nb
/-- the text of an error's __init__ -/
def ErrText (st : Stmt) (a : Str) : Prop := ∃ (m : Str) (p1 p2 q1 q2 q3 q4 q5 q6 r1 r2 r3 r4 : Pos) (j : Nat), defArgs st = xA a p1 p2 ∧ defBody st = xB a m q1 q2 q3 q4 q5 q6 r1 r2 r3 r4 j ∧ defScope st = xS a ∧ (q3.endLine == q5.line) = true
/-- whether an error of one class is caught by the name of another -/
theorem exm_two {K : PySem.W.Frag} {C Y : Addr} {b : Bool} (h1 : PySem.W.subIn K (.ref C) (.type "BaseException") = some true) (h2 : PySem.W.isClsIn K C = true) (h3 : PySem.W.typeIn K (.ref C) = some (.type "type")) (h4 : PySem.W.subIn K (.ref Y) (.ref C) = some b) :
    PySem.W.exmOne K (.ref Y) (.ref C) = some b := by
  have h2 : (PySem.W.clsIn K C).isSome = true := h2
  unfold PySem.W.exmOne PySem.W.kitCls
  simp only [h1, h3, beq_self_eq_true, if_true, h2, Bool.and_self]
  exact h4
theorem kit_self {K : PySem.W.Frag} {C : Addr} : PySem.W.kitOne K (.ref C) (.ref C) = some true := by
  unfold PySem.W.kitOne
  rw [if_pos (by simp)]
theorem kit_own {K : PySem.W.Frag} {C : Addr} {T : String} {b : Bool} (h2 : PySem.W.isClsIn K C = true) (h3 : PySem.W.typeIn K (.ref C) = some (.type "type")) (h4 : PySem.W.subIn K (.type T) (.ref C) = some b) : PySem.W.kitOne K (.type T) (.ref C) = some b := by
  have h2 : (PySem.W.clsIn K C).isSome = true := h2
  have ne : ¬ ((Value.type T == Value.ref C) = true) := by simp
  unfold PySem.W.kitOne PySem.W.kitCls
  simp only [if_neg ne, h3, beq_self_eq_true, if_true, h2, Bool.and_self]
  exact h4
end DL
set_option Elab.async false
set_option linter.all false
set_option maxRecDepth 100000
set_option maxHeartbeats 4000000
/-! errors as values -/
namespace DL
open PySem PySem.Spec L2 PyProof.Rows
section
variable {X : Cx} {W : WX} {c a : Str} {f : Fe} {pos : Pos}
/-- an exception object that is known whole -/
def Exo (oe : Obj) : HO := .frz oe (.ext fun _ => True)
/-- c(e) -/
def tErrV (C : Addr) (a : Str) (ta : TA) : TE := fun σ H Q => ta σ H fun vs H1 => ∃ v, vs = [v] ∧ ∀ x d oe fv, H1 d = none → H1 x = none → x ≠ d → oe.cls = .ref C → oe.dict = some d → oe.data = .fields fv → Q (.ref x) (upd (upd H1 d (.xd [(a, v)])) x (Exo oe))
theorem pe_errV {e : Expr} {ta : TA} {p pos : Pos} {k : Nat} {C fI : Addr} (T : ErrC X.prog X.K X.mg a C fI) (hc : X.mg c = some (.ref C)) (PA' : PlainA a) (hd : (c == ("__debug__" : Str)) = false) (hr : Room k X.A) (ha : PA X [e] ta) (hg : Gl X c)
    (he : starEach (e :: []) X.env = (false, eval e X.env) :: starEach [] X.env := by rfl) (hpl : (backTo pos (starEach [] X.env)).any (·.1) = false := by rfl) :
    PE X (.Call (.Name c p) [e] [] pos) (tErrV C a ta) := by
  refine ⟨fun pins s σ H Q I h => ?_⟩
  refine wpAny_Call_Name_kw (ld_glob I hg hc ?_ hd)
  refine PySem.W.callWith_K (h₀ := X.base) I.ok.mod.kin T.kC (thn (ha.run pos pins s σ H _ I h) fun us s1 hh => ?_) he hpl
  obtain ⟨vs, H1, I1, r1, v, ev, q1⟩ := hh
  subst ev
  refine ⟨I1.kIn, ?_⟩
  cases r1 with
  | cons rv rn =>
    rename_i v' us'
    cases rn
    show wpAny _ _ (call (.ref C) [v']) _ _ _
    have hlim := I1.nolimit
    obtain ⟨mb, hb1, hb2⟩ := I1.mod.blt
    have hgl := I1.mod.glob.keeps I1.bk
    have hbl := hb1.keeps I1.bk
    have hbs : mb "super" = some (.type "super") := (hb2 _ (by decide +kernel)).trans (by first | boot_by_name | rfl | kernel_rfl)
    obtain ⟨hp, g, dr, tk, os⟩ := s1
    refine wpAny_call (err_made T PA' I1.kIn hgl hbl hbs hlim (by have := hr.dp; omega) fun h' tk' x d M => ?_)
    obtain ⟨oe, fv, hoe, hcl, hd', hdat, h1⟩ := M.obj
    have hns := M.ns
    obtain ⟨G', g1, g2⟩ := restrict h' fun b => decide (b ≠ x)
    have gk : ∀ b, b ≠ x → G'.get? b = h'.get? b := fun b hb => g1 b (decide_eq_true hb)
    have ge : G'.get? x = none := g2 x (by simp)
    have up : ∀ b o, G'.get? b = some o → h'.get? b = some o := fun b o q => by
      by_cases hb : b = x
      · rw [hb, ge] at q; cases q
      · exact (gk b hb).symm.trans q
    have old : ∀ b o, hp.get? b = some o → G'.get? b = some o := fun b o q => (gk b (Nat.ne_of_lt (Nat.lt_of_lt_of_le (Heap.lt_size q) M.new))).trans (M.keep b o q)
    have ob : ObjOk X.prog X.w (upd H1 d (.xd [(a, v)])) G' d (.xd [(a, v)]) :=
      ⟨_, hns.at (fun o q => (gk d M.dne).trans q), fun f => relO_err rv f⟩
    have J : Inv X pins σ (upd H1 d (.xd [(a, v)])) ⟨G', g, dr, tk', os⟩ := I1.laid (t' := tk') old M.dbig ob
    have nx : H1 x = none := I1.hok.fresh M.new
    have nx' : (upd H1 d (.xd [(a, v)])) x = none := by rw [upd_ne (Ne.symm M.dne)]; exact nx
    have J2 : Inv X pins σ (upd (upd H1 d (.xd [(a, v)])) x (Exo oe)) ⟨h', g, dr, tk', os⟩ := J.laidN (t' := tk') up ge nx' ⟨hoe, True.intro, ⟨oe, hoe⟩, fun _ _ _ _ => True.intro⟩
    exact ⟨.ref x, _, J2, rfl, q1 x d oe fv (I1.hok.fresh M.dbig) nx (Ne.symm M.dne) hcl hd' hdat⟩
def kErr (c a : Str) : D → M D
  | .p d => fun S => .ok (.o S.length) (S ++ [.exn c a d])
  | _ => M.bad
def eErr (c a : Str) (f : Fe) : Fe := fun ρ => M.bind (f ρ) (kErr c a)
theorem de_err {e : Expr} {p : Pos} {k : Nat} (T : ErrTxt X.prog X.K X.mg c a) (hr : Room k X.A) (he : DE X W e f) (hg : Gl X c := by rfl)
    (hs : starEach (e :: []) X.env = (false, eval e X.env) :: starEach [] X.env := by rfl) (hpl : (backTo pos (starEach [] X.env)).any (·.1) = false := by rfl) : DE X W (.Call (.Name c p) [e] [] pos) (eErr c a f) := by
  obtain ⟨C, fI, hc, T'⟩ := T.at_
  refine (pe_errV T' hc T.pl T.nd hr (pa_cons he pa_nil hs) hg hs hpl).imp fun σ H Q ⟨w, ρ, S, R, E, P⟩ => ?_
  refine stepE R E P fun v w1 H1 S1 d g1 R1 E1 V1 P1 => ?_
  refine ⟨v, rfl, fun x dx oe fv hdx hx ne h1 h2 h3 => ?_⟩
  cases d with
  | p d =>
    obtain ⟨g2, R2⟩ := R1.newP (.xd [(a, v)]) hdx
    have hx2 : (upd H1 dx (.xd [(a, v)])) x = none := by rw [upd_ne ne]; exact hx
    obtain ⟨g3, R3⟩ := R2.newC (o := Exo oe) (c := .exn c a d) hx2 ⟨C, dx, v, fv, hc, h1, h2, h3, upd_same, RepP.mono g2.z _ _ V1⟩
    exact P1 _ _ (g2.trans g3) R3 _ ⟨x, by show (w1.m ++ [x])[S1.length]? = some x; rw [← R1.len]; simp, rfl⟩
  | o i => exact P1.elim
  | s ns => exact P1.elim
/-- x.m of an error -/
def tErrAtV (X : Cx) (m : Str) (te : TE) : TE := fun σ H Q => te σ H fun x H1 => ∃ (a C fI dd : Addr) (v : V) (oe : Obj) (ex : HO) (vs : Array Value), x = .ref a ∧ H1 a = some (.frz oe ex) ∧ oe.cls = .ref C ∧ oe.dict = some dd ∧ oe.data = .fields vs ∧ H1 dd = some (.xd [(m, v)]) ∧ ErrC X.prog X.K X.mg m C fI ∧ Q v H1
theorem pe_errAtV {m : Str} {e : Expr} {te : TE} (he : PE X e te) (hb : attributeBase e m X.env (eval e X.env) = eval e X.env := by rfl) : PE X (.Attribute e m pos) (tErrAtV X m te) := by
  refine ⟨fun pins s σ H Q I h => ?_⟩
  refine attr_of hb (thn (he.run pins s σ H _ I h) fun u s1 hh => ?_)
  obtain ⟨x, H1, I1, rx, a, C, fI, dd, v, oe, eh, vs, ex, ha, ec, ed, hd, ea, T, q⟩ := hh
  subst ex
  obtain rfl : u = Value.ref a := rx
  have ha : s1.heap.get? a = some oe := (show ObjOk X.prog X.w H1 s1.heap a (.frz oe eh) from I1.hok a _ ha).1
  have hx : ObjOk X.prog X.w H1 s1.heap dd (.xd [(m, v)]) := I1.hok dd _ ea
  obtain ⟨mA, hns, hr⟩ := hx
  obtain ⟨od, ho, hl⟩ := lookIn_ns hns
  have l : List.lookup m [(m, v)] = some v := by simp [List.lookup]
  obtain ⟨u, hu, ru⟩ := RelO.some_of (v := v) (o := mA m) (by rw [← l]; exact hr m)
  have J : PySem.W.InstAt s1.heap a oe C (some od) := ⟨ha, ec, by unfold PySem.W.notCls; rw [hd] <;> rfl, by rw [ed]; exact ho⟩
  exact HandSPX.exc_get I1.kIn J T.ga T.gg T.exC (PySem.W.findObj_own T.hdC T.noN rfl (by rw [hl, hu])) (handed_of ru) ⟨v, H1, I1.tok _, ru, q⟩
def exnAt (S : Store) : D → Option (Str × Str × PyData)
  | .o i => match S[i]? with
    | some (.exn c a d) => some (c, a, d)
    | _ => none
  | _ => none
theorem RepC.exn_inv {mg : Gm} {w : Wd} {o : HO} {c a : Str} {d : PyData} (h : RepC mg w o (.exn c a d)) : ∃ oe ex C dx v vs, o = .frz oe ex ∧ mg.mg c = some (.ref C) ∧ oe.cls = .ref C ∧ oe.dict = some dx ∧ oe.data = .fields vs ∧ w.Z dx = some (.xd [(a, v)]) ∧ RepP w.Z v d := by
  cases o with
  | frz ob u =>
    cases u with
    | ext φ => exact ⟨ob, _, let ⟨C, dx, v, vs, h1, h2, h3, h4, h5, h6⟩ := h; ⟨C, dx, v, vs, rfl, h1, h2, h3, h4, h5, h6⟩⟩
    | _ => exact False.elim h
  | _ => exact False.elim h
theorem exnAt_inv {mg : Gm} {w : Wd} {H : Hp} {S : Store} {x : V} {d : D} {c a : Str} {p : PyData} (R : Rep mg w H S) (V1 : RepV w x d) (h : exnAt S d = some (c, a, p)) :
    ∃ (x' C dx : Addr) (v : V) (oe : Obj) (ex : HO) (vs : Array Value), x = .ref x' ∧ H x' = some (.frz oe ex) ∧ mg.mg c = some (.ref C) ∧ oe.cls = .ref C ∧ oe.dict = some dx ∧ oe.data = .fields vs ∧ w.Z dx = some (.xd [(a, v)]) ∧ RepP w.Z v p := by
  cases d with
  | p d => cases h
  | s ns => cases h
  | o i =>
    obtain ⟨y, hy, rfl⟩ := V1
    replace h : (match S[i]? with
      | some (.exn c a d) => some (c, a, d)
      | _ => none) = some (c, a, p) := h
    split at h
    · rename_i c' a' d' e
      cases h
      obtain ⟨o, ho, r⟩ := R.at_ hy e
      obtain ⟨oe, ex, C, dx, v, vs, rfl, h1, h2, h3, h4, h5, h6⟩ := r.exn_inv
      exact ⟨y, C, dx, v, oe, ex, vs, rfl, ho, h1, h2, h3, h4, h5, h6⟩
    · cases h
def fEat (ECs : List Str) (m : Str) : D → M D := fun x S => match exnAt S x with
  | some (c, a, d) => if a = m ∧ ECs.contains c = true then .ok (.p d) S else .bad
  | none => .bad
theorem de_eat {ECs : List Str} {m : Str} {e : Expr} (TS : ∀ c, ECs.contains c = true → ErrTxt X.prog X.K X.mg c m) (he : DE X W e f) (hb : attributeBase e m X.env (eval e X.env) = eval e X.env := by rfl) : DE X W (.Attribute e m pos) (eUn (fEat ECs m) f) :=
  (pe_errAtV he hb).imp fun σ H Q ⟨w, ρ, S, R, E, P⟩ => by
    refine stepE R E P fun v w1 H1 S1 d g1 R1 E1 V1 P1 => ?_
    unfold fEat at P1
    cases q : exnAt S1 d with
    | none => rw [q] at P1; exact P1.elim
    | some t =>
      obtain ⟨c, a, p⟩ := t
      rw [q] at P1
      dsimp only at P1
      by_cases hc : a = m ∧ ECs.contains c = true
      · rw [if_pos hc] at P1
        obtain ⟨rfl, hc⟩ := hc
        obtain ⟨x', C, dx, v', oe, ex, vs, e1, e2, e3, e4, e5, e6, e7, e8⟩ := exnAt_inv R1 V1 q
        obtain ⟨C', fI, h1, h2⟩ := (TS c hc).at_
        have h3 : some (Value.ref C') = some (Value.ref C) := h1.symm.trans e3
        cases h3
        exact ⟨x', C, fI, dx, v', oe, ex, vs, e1, e2, e4, e5, e6, R1.same _ _ e7, h2, Post.here R1 P1 e8⟩
      · rw [if_neg hc] at P1; exact P1.elim
/-! isinstance of an error -/
structure IsE (K : PySem.W.Frag) (C : Addr) : Prop where
  hcl : PySem.W.isClsIn K C = true
  ga : PySem.W.findIn K (.ref C) "__getattribute__" = some (some (.builtin "BaseException.__getattribute__"))
  gg : PySem.W.findIn K (.ref C) "__getattr__" = some none
  sub : PySem.W.subIn K (.ref C) (.type "BaseException") = some true
  ca : PySem.W.findIn K (.ref C) "__class__" = some (some (.builtin "object.__class__"))
  hn : PySem.W.specialIn K (.builtin "object.__class__") "__get__" = some (some (.builtin "getset_descriptor.__get__"))
  htk : PySem.W.takesIn K (.builtin "object.__class__") = some true
  hm : PySem.W.mroIn K C (.type "object") = some true
def rIsiE (K : PySem.W.Frag) : List V → Hp → VK → Prop := fun xs H Q => ∃ (x C dx : Addr) (c : V) (u : Value) (oe : Obj) (ex : HO) (vs : Array Value) (fs : List (Str × V)) (b : Bool), xs = [.ref x, c] ∧ ClsV c u ∧ H x = some (.frz oe ex) ∧ oe.cls = .ref C ∧ oe.dict = some dx ∧ oe.data = .fields vs ∧ H dx = some (.xd fs) ∧ IsE K C ∧ PySem.W.kitOne K (.ref C) u = some b ∧ Q (.bl b) H
theorem call_isiE : CallR X (.builtin "isinstance") (rIsiE X.K) := by
  intro pins s σ H xs us Q I r h
  obtain ⟨x, C, dx, c, u, oe, ex, vs, fs, b, rfl, k, ha, ec, ed, hd, ea, T, e, q⟩ := h
  obtain ⟨u1, u2, rfl, r1, r2⟩ := vals2 r
  have e2 := k.eq r2
  subst e2
  cases (show u1 = Value.ref x from r1)
  have ha : s.heap.get? x = some oe := (show ObjOk X.prog X.w H s.heap x (.frz oe ex) from I.hok x _ ha).1
  have hx : ObjOk X.prog X.w H s.heap dx (.xd fs) := I.hok dx _ ea
  obtain ⟨mA, hns, hr⟩ := hx
  obtain ⟨od, ho, hl⟩ := lookIn_ns hns
  have J : PySem.W.InstAt s.heap x oe C (some od) := ⟨ha, ec, by unfold PySem.W.notCls; rw [hd] <;> rfl, by rw [ed]; exact ho⟩
  exact PySem.W.kia_one (PySem.W.kitx_exc (x := x) (ox := oe) (od := some od) T.hcl T.ga T.gg T.sub T.ca T.hn T.htk T.hm) I.kIn J e (fun z => nomatch z) fun tk => ⟨.bl b, H, I.tok tk, rfl, q⟩
structure IsEs (K : PySem.W.Frag) (mg : Str → Option Value) (ECs : List Str) (u : Value) (sub : Str → Bool) : Prop where
  at_ : ∀ y, ECs.contains y = true → ∀ C, mg y = some (.ref C) → IsE K C ∧ PySem.W.kitOne K (.ref C) u = some (sub y)
def fIsiE (ECs : List Str) (sub : Str → Bool) : D → M D := fun x S => match exnAt S x with
  | some (c, _, _) => if ECs.contains c = true then .ok (.p (.bool (sub c))) S else .bad
  | none => .bad
theorem ok_isiE {ECs : List Str} {sub : Str → Bool} {c : V} {u : Value} (k : ClsV c u) (T : IsEs X.K X.mg ECs u sub) {σ : L2.St} {w1 : Wd} {H1 : Hp} {S1 : Store} {x : V} {d : D} {Q : VK} (R1 : Rep X.gm w1 H1 S1) (V1 : RepV w1 x d) (P1 : Post X.gm W σ w1 Q (fIsiE ECs sub d S1)) : rIsiE X.K [x, c] H1 Q := by
  unfold fIsiE at P1
  cases q : exnAt S1 d with
  | none => rw [q] at P1; exact P1.elim
  | some t =>
    obtain ⟨y, a, p⟩ := t
    rw [q] at P1
    dsimp only at P1
    by_cases hc : ECs.contains y = true
    · rw [if_pos hc] at P1
      obtain ⟨x', C, dx, v', oe, ex, vs, rfl, e2, e3, e4, e5, e6, e7, e8⟩ := exnAt_inv R1 V1 q
      obtain ⟨h1, h2⟩ := T.at_ y hc C e3
      exact ⟨x', C, dx, c, u, oe, ex, vs, _, sub y, rfl, k, e2, e4, e5, e6, R1.same _ _ e7, h1, h2, Post.here R1 P1 (.bl _)⟩
    · rw [if_neg hc] at P1; exact P1.elim
theorem de_isiE {ECs : List Str} {sub : Str → Bool} {C : Addr} {c : Str} {e : Expr} {p p2 : Pos} (hg : Gl X "isinstance") (hm : X.mg "isinstance" = none) (hgc : Gl X c) (hmc : X.mg c = some (.ref C)) (T : IsEs X.K X.mg ECs (.ref C) sub) (ha : DE X W e f)
    (hdT : (c == ("__debug__" : Str)) = false := by decide)
    (he : starEach [e, .Name c p2] X.env = (false, eval e X.env) :: starEach [.Name c p2] X.env := by rfl) (he' : starEach [.Name c p2] X.env = (false, eval (.Name c p2) X.env) :: starEach [] X.env := by rfl) (hpl : (backTo pos (starEach [.Name c p2] X.env)).any (·.1) = false := by rfl) :
    DE X W (.Call (.Name "isinstance" p) [e, .Name c p2] [] pos) (eUn (fIsiE ECs sub) f) :=
  (pe_callB call_isiE hg hm PyProof.Rows.boot_isinstance (pa_cons ha (pa_cons (pe_glob (v := .ref C) hgc hmc rfl hdT) pa_nil he') he) (by decide) (by decide) he hpl).imp fun σ H Q ⟨w, ρ, S, R, E, P⟩ =>
    stepE R E P fun x w1 H1 S1 d g1 R1 E1 V1 P1 => ok_isiE (.own C) T R1 V1 P1
theorem de_isiET {ECs : List Str} {sub : Str → Bool} {t : Str} {T : String} {e : Expr} {p p2 : Pos} (hg : Gl X "isinstance") (hm : X.mg "isinstance" = none) (hgt : Gl X t) (hmt : X.mg t = none) (hv : bootBuiltins t = some (.type T)) (IE : IsEs X.K X.mg ECs (.type T) sub) (ha : DE X W e f)
    (hn : t ≠ "__name__" := by decide) (hdT : (t == ("__debug__" : Str)) = false := by decide)
    (he : starEach [e, .Name t p2] X.env = (false, eval e X.env) :: starEach [.Name t p2] X.env := by rfl) (he' : starEach [.Name t p2] X.env = (false, eval (.Name t p2) X.env) :: starEach [] X.env := by rfl) (hpl : (backTo pos (starEach [.Name t p2] X.env)).any (·.1) = false := by rfl) :
    DE X W (.Call (.Name "isinstance" p) [e, .Name t p2] [] pos) (eUn (fIsiE ECs sub) f) :=
  (pe_callB call_isiE hg hm PyProof.Rows.boot_isinstance (pa_cons ha (pa_cons (pe_bltn (v := .ty T) hgt hmt hv rfl hn hdT) pa_nil he') he) (by decide) (by decide) he hpl).imp fun σ H Q ⟨w, ρ, S, R, E, P⟩ =>
    stepE R E P fun x w1 H1 S1 d g1 R1 E1 V1 P1 => ok_isiE (.ty T) IE R1 V1 P1
end
end DL
set_option Elab.async false
set_option linter.all false
set_option maxRecDepth 100000
set_option maxHeartbeats 4000000
/-! lists of errors; except T as e: return isinstance(e, C) and e.a == .. -/
namespace DL
open PySem PySem.Spec L2 PyProof.Rows
section
variable {X : Cx} {W : WX} {f g : Fe} {a b : Expr} {pos : Pos}
/-- two lists that may hold anything, one behind the other -/
def fCat2 : D → D → M D
  | .o i, .o j => fun S => match lstAt S i, lstAt S j with
    | some xs, some ys => if xs.length + ys.length ≤ sizeLine then .ok (.o S.length) (S ++ [.lst (xs ++ ys)]) else .bad
    | _, _ => .bad
  | _, _ => M.bad
theorem RepVs.cat {w : Wd} {vs us : List V} {ds es : List D} (h : RepVs w vs ds) (k : RepVs w us es) : RepVs w (vs ++ us) (ds ++ es) := by
  induction h with
  | nil => exact k
  | cons h1 _ ih => exact .cons h1 ih
theorem ok_cat2 : R2ok X rCat fCat2 := by
  intro w H S x y dx dy W σ Q R vx vy P
  unfold fCat2 at P
  split at P
  · rename_i i j
    obtain ⟨x', hx, rfl⟩ := vx
    obtain ⟨y', hy, rfl⟩ := vy
    cases q1 : lstAt S i with
    | none => simp only [q1] at P; exact P.elim
    | some xs =>
      cases q2 : lstAt S j with
      | none => simp only [q1, q2] at P; exact P.elim
      | some ys =>
        simp only [q1, q2] at P
        by_cases hl : xs.length + ys.length ≤ sizeLine
        · rw [if_pos hl] at P
          obtain ⟨o1, h1, r1⟩ := R.at_ hx (lstAt_some q1)
          obtain ⟨us, rfl, r1⟩ := r1.lst_inv
          obtain ⟨o2, h2, r2⟩ := R.at_ hy (lstAt_some q2)
          obtain ⟨vs, rfl, r2⟩ := r2.lst_inv
          refine ⟨_, _, _, _, rfl, rfl, h1, h2, by rw [r1.length, r2.length]; exact hl, fun p hp => ?_⟩
          obtain ⟨g', R'⟩ := R.newC (o := .lst (us ++ vs)) (c := .lst (xs ++ ys)) hp (RepVs.grow (w := w) (w' := w.addM p) ⟨rfl, rfl, Same.refl _, [p], rfl⟩ (RepVs.cat r1 r2))
          exact P _ _ g' R' _ ⟨p, by show (w.m ++ [p])[S.length]? = some p; rw [← R.len]; simp, rfl⟩
        · rw [if_neg hl] at P; exact P.elim
  · exact P.elim
theorem de_add2 (ha : DE X W a f) (hb : DE X W b g) : DE X W (.BinOp a .Add b pos) (eBin fCat2 f g) := de_bin op_cat ok_cat2 ha hb
/-! the clause -/
def rIsiPin (K : PySem.W.Frag) (e : Addr) (cls : Value) (d : Option Addr) : List V → Hp → VK → Prop := fun xs H Q => ∃ (C dx : Addr) (c : V) (u : Value) (fs : List (Str × V)) (b : Bool), cls = .ref C ∧ d = some dx ∧ IsE K C ∧ xs = [.ref e, c] ∧ ClsV c u ∧ H dx = some (.xd fs) ∧ PySem.W.kitOne K (.ref C) u = some b ∧ Q (.bl b) H
theorem call_isiPin {e : Addr} {oe : Obj} {cls : Value} {d : Option Addr} {pn : List (Addr × Obj)} (hz : Zc cls d oe) (hf : ∃ vs, oe.data = .fields vs) : CallR (X.suite e ((e, oe) :: pn)) (.builtin "isinstance") (rIsiPin X.K e cls d) := by
  intro pins s σ H xs us Q I r h
  obtain ⟨C, dx, c, u, fs, b, ec, ed, T, rfl, k, ea, e1, q⟩ := h
  subst ec ed
  obtain ⟨u1, u2, rfl, r1, r2⟩ := vals2 r
  have e2 := k.eq r2
  subst e2
  cases (show u1 = Value.ref e from r1)
  obtain ⟨ha, _⟩ := I.pin (e, oe) (List.mem_append_left _ List.mem_cons_self)
  obtain ⟨vs, hd⟩ := hf
  have hx : ObjOk X.prog X.w H s.heap dx (.xd fs) := I.hok dx _ ea
  obtain ⟨mA, hns, hr⟩ := hx
  obtain ⟨od, ho, hl⟩ := lookIn_ns hns
  have J : PySem.W.InstAt s.heap e oe C (some od) := ⟨ha, hz.1, by unfold PySem.W.notCls; rw [hd] <;> rfl, by rw [hz.2]; exact ho⟩
  exact PySem.W.kia_one (PySem.W.kitx_exc (x := e) (ox := oe) (od := some od) T.hcl T.ga T.gg T.sub T.ca T.hn T.htk T.hm) I.kIn J e1 (fun z => nomatch z) fun tk => ⟨.bl b, H, I.tok tk, rfl, q⟩
def tErrAtE (X : Cx) (m : Str) (e : Addr) (cls : Value) (d : Option Addr) (te : TE) : TE := fun σ H Q => te σ H fun x H1 => ∃ (C fI dd : Addr) (v : V), ErrC X.prog X.K X.mg m C fI ∧ x = .ref e ∧ cls = .ref C ∧ d = some dd ∧ H1 dd = some (.xd [(m, v)]) ∧ Q v H1
theorem pe_errAtE {m : Str} {e : Addr} {oe : Obj} {cls : Value} {d : Option Addr} {pn : List (Addr × Obj)} {ex : Expr} {te : TE} (hz : Zc cls d oe) (hf : ∃ vs, oe.data = .fields vs) (he : PE (X.suite e ((e, oe) :: pn)) ex te)
    (hb : attributeBase ex m X.env (eval ex X.env) = eval ex X.env := by rfl) : PE (X.suite e ((e, oe) :: pn)) (.Attribute ex m pos) (tErrAtE X m e cls d te) := by
  refine ⟨fun pins s σ H Q I h => ?_⟩
  have h : te σ H fun x H1 => ∃ (C fI dd : Addr) (v : V), ErrC X.prog X.K X.mg m C fI ∧ x = .ref e ∧ cls = .ref C ∧ d = some dd ∧ H1 dd = some (.xd [(m, v)]) ∧ Q v H1 := h
  refine attr_of hb (thn (he.run pins s σ H _ I h) fun u s1 hh => ?_)
  obtain ⟨x, H1, I1, rx, C, fI, dd, v, T, e1, ec, ed, ea, q⟩ := hh
  subst e1 ec ed
  obtain rfl : u = Value.ref e := rx
  obtain ⟨ha, _⟩ := I1.pin (e, oe) (List.mem_append_left _ List.mem_cons_self)
  obtain ⟨vs, hd⟩ := hf
  have hx : ObjOk X.prog X.w H1 s1.heap dd (.xd [(m, v)]) := I1.hok dd _ ea
  obtain ⟨mA, hns, hr⟩ := hx
  obtain ⟨od, ho, hl⟩ := lookIn_ns hns
  have l : List.lookup m [(m, v)] = some v := by simp [List.lookup]
  obtain ⟨u, hu, ru⟩ := RelO.some_of (v := v) (o := mA m) (by rw [← l]; exact hr m)
  have J : PySem.W.InstAt s1.heap e oe C (some od) := ⟨ha, hz.1, by unfold PySem.W.notCls; rw [hd] <;> rfl, by rw [hz.2]; exact ho⟩
  exact HandSPX.exc_get I1.kIn J T.ga T.gg T.exC (PySem.W.findObj_own T.hdC T.noN rfl (by rw [hl, hu])) (handed_of ru) ⟨v, H1, I1.tok _, ru, q⟩
/-- what the clause 'except T as e: return isinstance(e, C) and e.m == k' returns -/
def tRun (EN : List Str) (m : Str) (i : Nat) (sub : Str → Bool) (k : PyData) (x : Exn) (ρ : Sl) (S : Store) : RS := match x.fs with
  | [(a, .p d)] => if EN.contains x.cls = true ∧ i < ρ.length ∧ a = m ∧ (SeqAt.shaped d && SeqAt.shaped k) = true then .rt (.p (.bool (if sub x.cls = true then PyData.eqv d k else false))) S else .bad
  | _ => .bad
def sTryT (EN : List Str) (g : Fs) (m : Str) (i : Nat) (sub : Str → Bool) (k : PyData) : Fs := fun ρ S => match g ρ S with
  | .exc x ρ' S' => tRun EN m i sub k x ρ' S'
  | r => r
def tSuiteT (X : Cx) (m : Str) (i : Nat) (C1 : Addr) (k : Int) : SuiteT := fun e cls dx => fun E σ H => σ[i]? = some (some (.ref e)) ∧ ∃ (C fI dd : Addr) (v : V) (d : PyData) (b : Bool), cls = .ref C ∧ dx = some dd ∧ IsE X.K C ∧ ErrC X.prog X.K X.mg m C fI ∧ H dd = some (.xd [(m, v)]) ∧
  PySem.W.kitOne X.K (.ref C) (.ref C1) = some b ∧ Dp X.K H v d ∧ SeqAt.shaped d = true ∧ SeqAt.shaped (.int k) = true ∧ E.rt (.bl (if b = true then PyData.eqv d (.int k) else false)) H
theorem suite_t {i : Nat} {m n c1 : Str} {C1 : Addr} {k : Int} {j p p1 p2 p3 p4 p5 p6 p7 p8 p9} (hu : X.A.units + 64 < cLine) (hN : X.N[i]? = some n) (hv : Vis X.env.scope n) (hdn : (n == ("__debug__" : Str)) = false) (hcd : (n == ("__classdict__" : Str)) = false)
    (hg : Gl X "isinstance") (hm : X.mg "isinstance" = none) (hgc : Gl X c1) (hmc : X.mg c1 = some (.ref C1)) (hdc : (c1 == ("__debug__" : Str)) = false)
    (hb : attributeBase (.Name n p4) m X.env (eval (.Name n p4) X.env) = eval (.Name n p4) X.env)
    (he : starEach [.Name n p1, .Name c1 p2] X.env = (false, eval (.Name n p1) X.env) :: starEach [.Name c1 p2] X.env) (he' : starEach [.Name c1 p2] X.env = (false, eval (.Name c1 p2) X.env) :: starEach [] X.env) (hpl : (backTo p3 (starEach [.Name c1 p2] X.env)).any (·.1) = false) :
    ∀ (e : Addr) (oe : Obj) (cls : Value) (dx : Option Addr) (pn : List (Addr × Obj)), Zc cls dx oe → (∃ vs, oe.data = .fields vs) →
      PSs (X.suite e ((e, oe) :: pn)) [.Return (some (.BoolOp .And [.Call (.Name "isinstance" p) [.Name n p1, .Name c1 p2] [] p3, .Compare (.Attribute (.Name n p4) m p5) [.Eq] [.Constant (.int k) j p6] p7] p8)) p9] (tSuiteT X m i C1 k e cls dx) := by
  intro e oe cls dx pn hz hf
  have var : ∀ {q : Pos}, PE (X.suite e ((e, oe) :: pn)) (.Name n q) (tVar i) := fun {q} => pe_var (X := X.suite e ((e, oe) :: pn)) (i := i) hN hv hdn hcd
  have hu' : (X.suite e ((e, oe) :: pn)).A.units + 64 < cLine := hu
  refine (pss_one (ps_ret (pe_and (pe_callB (call_isiPin hz hf) hg hm PyProof.Rows.boot_isinstance (pa_cons var (pa_cons (pe_glob (X := X.suite e ((e, oe) :: pn)) (v := .ref C1) hgc hmc rfl hdc) pa_nil he') he) (by decide) (by decide) he hpl)
    (pe_one (pe_cmpR (op_eqD hu') (pe_errAtE hz hf var hb) pe_int (nomark _)))))).imp fun E σ H hh => ?_
  obtain ⟨h1, C, fI, dd, v, d, b, ec, ed, T, TE, ea, kb, hd, sd, sk, q⟩ := hh
  refine ⟨_, h1, C, dd, _, _, _, b, ec, ed, T, rfl, .own C1, ea, kb, b, rfl, ?_⟩
  cases b with
  | false => rw [if_neg Bool.false_ne_true] at q ⊢; exact q
  | true =>
    rw [if_pos rfl] at q ⊢
    exact ⟨_, h1, C, fI, dd, v, TE, rfl, ec, ed, ea, d, .int k, hd, .int k, sd, sk, q⟩
/-- what the class of the clause must be to the errors -/
structure CatchAll (K : PySem.W.Frag) (mg : Str → Option Value) (EN : List Str) (c : Str) : Prop where
  at_ : ∃ C, mg c = some (.ref C) ∧ ∀ y, EN.contains y = true → ∀ Cy, mg y = some (.ref Cy) → PySem.W.exmOne K (.ref Cy) (.ref C) = some true
theorem ds_tryT {EN : List Str} {body : List Stmt} {g : Fs} {m n c c1 : Str} {C1 : Addr} {k : Int} {sub : Str → Bool} (i : Nat) {j p p1 p2 p3 p4 p5 p6 p7 p8 p9 p10 p11} {pos : Pos} (st : X.stack = X.env :: X.outer) (hf : X.env.frame = some X.env.locals) (hNd : X.N.Nodup) (tk : Takes X W)
    (hb : ∀ (W' : WX) (pn : List (Addr × Obj)) (xe : Value → Shared → Prop), Takes (X.tr pn xe) W' → PassesOwn (model X.prog X.w) X.A X.env xe → DSs (X.tr pn xe) W' body g)
    (TC : CatchAll X.K X.mg EN c) (TS : ∀ y, EN.contains y = true → ErrTxt X.prog X.K X.mg y m) (TI : IsEs X.K X.mg EN (.ref C1) sub) (hmc : X.mg c1 = some (.ref C1)) (hm : X.mg "isinstance" = none) (hu : X.A.units + 64 < cLine) (hdcc : (c == ("__debug__" : Str)) = false := by decide)
    (hN : X.N[i]? = some n := by rfl) (hk : X.env.kindOf n = some .local := by rfl) (hv : Vis X.env.scope n := by first | exact Or.inl rfl | exact Or.inr (Or.inl rfl) | exact Or.inr (Or.inr rfl)) (hdn : (n == ("__debug__" : Str)) = false := by decide) (hcd : (n == ("__classdict__" : Str)) = false := by decide)
    (hgT : Gl X c := by rfl) (hg : Gl X "isinstance" := by rfl) (hgc : Gl X c1 := by rfl) (hdc : (c1 == ("__debug__" : Str)) = false := by decide)
    (hat : attributeBase (.Name n p4) m X.env (eval (.Name n p4) X.env) = eval (.Name n p4) X.env := by rfl)
    (he : starEach [.Name n p1, .Name c1 p2] X.env = (false, eval (.Name n p1) X.env) :: starEach [.Name c1 p2] X.env := by rfl) (he' : starEach [.Name c1 p2] X.env = (false, eval (.Name c1 p2) X.env) :: starEach [] X.env := by rfl) (hpl : (backTo p3 (starEach [.Name c1 p2] X.env)).any (·.1) = false := by rfl) :
    DS X W (.Try body [.ExceptHandler (some (.Name c p10)) (some n) [.Return (some (.BoolOp .And [.Call (.Name "isinstance" p) [.Name n p1, .Name c1 p2] [] p3, .Compare (.Attribute (.Name n p4) m p5) [.Eq] [.Constant (.int k) j p6] p7] p8)) p9] p11] [] [] pos) (sTryT EN g m i sub (.int k)) := by
  obtain ⟨C, hC, hcatch⟩ := TC.at_
  refine (ps_try_asMany (Wo := W) st hf hNd tk (tb := fun W' => tDS X.gm W' g) (fun W' pn xe t p => hb W' pn xe t p) (.cons (i := i) ⟨hgT, hdcc, .inl hC⟩ hN hk (suite_t hu hN hv hdn hcd hg hm hgc hmc hdc hat he he' hpl) .nil)).imp fun D σ H ⟨w, ρ, S, R, E, P⟩ => ?_
  refine ⟨w, ρ, S, R, E, ?_⟩
  unfold sTryT at P
  split at P
  · rename_i x ρ' S' e
    rw [e]
    intro σ' cls dx w' H' g' R' E' V'
    replace P := P.grow g'
    revert P
    generalize hP : tRun EN m i sub (.int k) x ρ' S' = rr
    intro P
    revert hP
    intro hP
    have P2 := P
    rw [← hP] at P2
    clear hP P
    obtain ⟨xc, xfs⟩ := x
    obtain ⟨Cx, fs, hx, rfl, hz, hfs⟩ := V'
    unfold tRun at P2
    split at P2
    · rename_i a' d he'
      dsimp only at he'
      subst he'
      dsimp only at hfs hx P2
      by_cases cc : EN.contains xc = true ∧ i < ρ'.length ∧ a' = m ∧ (SeqAt.shaped d && SeqAt.shaped (.int k)) = true
      · rw [if_pos cc] at P2
        obtain ⟨c1', c2, rfl, c4⟩ := cc
        rw [Bool.and_eq_true] at c4
        cases hfs with
        | cons h1 h2 =>
          rename_i p ps
          cases h2
          obtain ⟨pa, pv⟩ := p
          obtain ⟨hpa, hpv⟩ := h1
          dsimp only at hpa hpv
          subst hpa
          have hx : X.mg xc = some (.ref Cx) := hx
          refine ⟨true, hcatch xc c1' Cx hx, .inl ⟨rfl, fun ad ha => ?_⟩⟩
          obtain ⟨Cy, fI, hy, hE⟩ := (TS xc c1').at_
          have e3 : some (Value.ref Cy) = some (Value.ref Cx) := hy.symm.trans hx
          cases e3
          obtain ⟨i1, i2⟩ := TI.at_ xc c1' Cx hx
          refine ⟨by rw [List.getElem?_set_self (by rw [E'.len]; exact c2)], Cx, fI, dx, pv, d, sub xc, rfl, rfl, i1, hE, R'.same _ _ hz, i2, RepP.dpH R' hpv, c4.1, c4.2, ?_⟩
          exact P2 _ _ _ (Grow.refl w') R' (.bl _)
      · rw [if_neg cc] at P2; exact P2.elim
    · exact P2.elim
  · rename_i r hr
    cases e : g ρ S with
    | exc x ρ' S' => exact absurd e (hr x ρ' S')
    | nx _ _ => rw [e] at P; exact P
    | rt _ _ => rw [e] at P; exact P
    | bk _ _ => rw [e] at P; exact P
    | ct _ _ => rw [e] at P; exact P
    | bad => rw [e] at P; exact P
end
end DL
set_option Elab.async false
set_option linter.all false
set_option maxRecDepth 100000
namespace DL
open PySem PySem.Spec L2 PySem.HandSPX
theorem kit_ref {K : PySem.W.Frag} {C Y : Addr} {b : Bool} (h2 : PySem.W.isClsIn K C = true) (h3 : PySem.W.typeIn K (.ref C) = some (.type "type")) (h4 : PySem.W.subIn K (.ref Y) (.ref C) = some b) (ne : (Y == C) = false) : PySem.W.kitOne K (.ref Y) (.ref C) = some b := by
  have h2 : (PySem.W.clsIn K C).isSome = true := h2
  have ne' : ¬ ((Value.ref Y == Value.ref C) = true) := by
    intro q
    have : Y = C := Value.ref.inj (beq_iff_eq.mp q)
    simp [this] at ne
  unfold PySem.W.kitOne PySem.W.kitCls
  simp only [if_neg ne', h3, beq_self_eq_true, if_true, h2, Bool.and_self]
  exact h4
theorem kit_vt {K : PySem.W.Frag} {Y : Addr} {T : String} {b : Bool} (h4 : PySem.W.subIn K (.ref Y) (.type T) = some b) (m : PySem.W.kitMeta T = true) : PySem.W.kitOne K (.ref Y) (.type T) = some b := by
  have ne' : ¬ ((Value.ref Y == Value.type T) = true) := by simp
  unfold PySem.W.kitOne PySem.W.kitCls
  simp only [if_neg ne', m, if_true]
  exact h4
end DL
set_option Elab.async false
set_option linter.all false
set_option maxRecDepth 100000
set_option maxHeartbeats 400000
/-! xs[i] += v of a list of ints -/
namespace DL
open PySem PySem.Spec L2 PyProof.Rows
section
variable {X : Cx} {W : WX} {o i e : Expr} {fo fi fv : Fe} {pos : Pos}
def rGetL (K : PySem.W.Frag) : R2 := fun x y H Q => ∃ p xs k v, x = .ref p ∧ y = .int k ∧ 0 ≤ k ∧ SqL K H p xs ∧ xs[k.toNat]? = some v ∧ Q v H
theorem pget_list : PGet X (rGetL X.K) := by
  intro pins s σ H o i ov iv Q I ro ri h
  obtain ⟨p, xs, k, z, rfl, rfl, h0, hq, he, q⟩ := h
  cases ro
  obtain ⟨t, rfl⟩ := ri
  obtain ⟨its, r, pl, hz⟩ := I.list hq
  obtain ⟨u, eu, ru⟩ := r.get he
  have hk : k.toNat < xs.length := (List.getElem?_eq_some_iff.mp he).1
  have hn := line63
  exact getItem_listL pl.isList h0 (by omega) eu ⟨z, H, I, ru, q⟩
/-- xs[i] += v, of ints -/
def sAugI (fo fi fv : Fe) : Fs := fun ρ S => bindS ρ (fo ρ S) fun x S1 => bindS ρ (fi ρ S1) fun i S2 => match i with
  | .p (.int k) => if 0 ≤ k then (match (items S2 x).bind fun ds => ds[k.toNat]? with
    | some (.p (.int a)) => bindS ρ (fv ρ S2) fun v S3 => match v with
      | .p (.int b) => nxO ρ (setAt x i (.p (.int (a + b))) S3)
      | _ => .bad
    | _ => .bad) else .bad
  | _ => .bad
theorem ds_augI {tpos : Pos} (ho : DE X W o fo) (hi : DE X W i fi) (he : DE X W e fv)
    (ha : ∀ ov iv new, augStore i ov iv new = (do holding [new, ov, iv] (setItem ov iv new); release [new, ov, iv] []; pure .next) := by intros; rfl) : DS X W (.AugAssign (.Subscript o i tpos) .Add e pos) (sAugI fo fi fv) :=
  (ps_augS ho hi pget_list he ip_add set_list ha).imp fun En σ H ⟨w, ρ, S, R, E, P⟩ =>
    stepES R E P fun x w1 H1 S1 dx g1 R1 E1 V1 P1 => stepES R1 E1 P1 fun y w2 H2 S2 dy g2 R2 E2 V2 P2 => by
      split at P2
      · rename_i k
        cases V2.cases_p
        by_cases h0 : 0 ≤ k
        · rw [if_pos h0] at P2
          split at P2
          · rename_i a hq
            obtain ⟨ds, q1, q2⟩ := Option.bind_eq_some_iff.mp hq
            obtain ⟨p, xs, rfl, hs, r⟩ := items_sq R2 (V1.grow g2) q1
            obtain ⟨u, e1, e2⟩ := r.get q2
            cases e2.cases_p
            refine ⟨p, xs, k, _, rfl, rfl, h0, hs, e1, ?_⟩
            refine stepES R2 E2 P2 fun z w3 H3 S3 dz g3 R3 E3 V3 P3 => ?_
            split at P3
            · rename_i b
              cases V3.cases_p
              refine ⟨a, b, rfl, rfl, ?_⟩
              cases q3 : setAt dx (.p (.int k)) (.p (.int (a + b))) S3 with
              | none => rw [q3] at P3; exact P3.elim
              | some S4 =>
                rw [q3] at P3
                exact setAt_inv (y := .p (.int (a + b))) R3 ((V1.grow g2).grow g3) (i := .p (.int k)) (vi := .int k) (.int k) (.int (a + b)) q3 fun H4 R4 => P3 σ w3 H4 (Grow.refl _) R4 E3
            · exact P3.elim
          · exact P2.elim
        · rw [if_neg h0] at P2; exact P2.elim
      · exact P2.elim
end
end DL
set_option Elab.async false
set_option linter.all false
set_option maxRecDepth 100000
namespace DL
open PySem PySem.Spec PyProof.Rows L2
/-! ### a list against the empty list: told by its length -/
def rEqNil (K : PySem.W.Frag) : R2 := fun x y H Q => ∃ a b xs, x = .ref a ∧ y = .ref b ∧ SqL K H a xs ∧ SqL K H b [] ∧ Q (.bl (xs.length == 0)) H
theorem op_eqNil {X : Cx} (hu : X.A.units + 64 < cLine) : OpR X (compareOp .Eq) (rEqNil X.K) := by
  intro pins s σ H x y v u Q I rx ry h
  obtain ⟨a, b, xs, rfl, rfl, h1, h2, q⟩ := h
  cases rx
  cases ry
  obtain ⟨its, r1, ⟨o1, n1, e1, c1, _, d1⟩, _⟩ := I.list h1
  obtain ⟨its2, r2, ⟨o2, n2, e2, c2, _, d2⟩, _⟩ := I.list h2
  cases r2
  have l1 : s.heap.IsList a its.toArray := ⟨o1, e1, c1, n1, d1⟩
  have l2 : s.heap.IsList b ([] : List Value).toArray := ⟨o2, e2, c2, n2, d2⟩
  have hu' : X.A.units < cLine := by omega
  have hl := r1.length
  cases its with
  | nil =>
    have hx : xs = [] := by cases r1; rfl
    subst hx
    exact SeqAt.RcAt.lists (e := fun _ => true) l1 l2 rfl hu' (fun j h1 _ => by simp at h1) _ _ _ _ ⟨.bl _, H, I, rfl, q⟩
  | cons i its =>
    have hx : (xs.length == 0) = false := by rw [hl]; rfl
    rw [hx] at q
    exact SeqAt.RcAt.lists_lengths l1 l2 (by simp) hu' _ _ _ _ ⟨.bl _, H, I, rfl, q⟩
def fEqNil : D → D → M D := fun x y S => match y with
  | .p (.list []) => ofO S ((items S x).map fun ds => .p (.bool (ds.length == 0)))
  | _ => .bad
section
variable {X : Cx} {W : WX} {a b : Expr} {f g : Fe} {pos : Pos}
theorem ok_eqNil : R2ok X (rEqNil X.K) fEqNil := by
  intro w H S x y dx dy W σ Q R vx vy P
  unfold fEqNil at P
  split at P
  · cases q : items S dx with
    | none => rw [q] at P; exact P.elim
    | some ds =>
      rw [q] at P
      obtain ⟨p, xs, rfl, hs, r⟩ := items_sq R vx q
      have v := vy.cases_p
      cases v with | lst hx rx =>
      cases rx
      refine ⟨_, _, xs, rfl, rfl, hs, SqL.of (R.same _ _ hx), ?_⟩
      have e : xs.length = ds.length := r.length
      rw [e]
      have P : Post X.gm W σ w Q (.ok (.p (.bool (ds.length == 0))) S) := P
      exact Post.here R P (.bl _)
  · exact P.elim
theorem de_eqNil (hu : X.A.units + 64 < cLine) (ha : DE X W a f) (hb : DE X W b g) : DE X W (.Compare a [.Eq] [b] pos) (eBin fEqNil f g) := de_cmp (op_eqNil hu) ok_eqNil ha hb (nomark _)
theorem dt_eqNil (hu : X.A.units + 64 < cLine) (ha : DE X W a f) (hb : DE X W b g) : DT X W (.Compare a [.Eq] [b] pos) (eT (eBin fEqNil f g)) := dt_cmp (op_eqNil hu) ok_eqNil ha hb (nomark _)
end
end DL
set_option Elab.async false
set_option linter.all false
set_option maxRecDepth 100000
namespace DL
open PySem PySem.Spec PyProof.Rows L2
/-! ### < of integers or of tuples of integers -/
def asIP : List PyData → Option (List Int)
  | [] => some []
  | .int i :: r => (asIP r).map (i :: ·)
  | _ :: _ => none
def lexLt : List Int → List Int → Bool
  | [], [] => false
  | [], _ :: _ => true
  | _ :: _, [] => false
  | a :: as, b :: bs => if a = b then lexLt as bs else decide (a < b)
def fLtD : D → D → M D
  | .p (.int i), .p (.int j) => M.pure (.p (.bool (decide (i < j))))
  | .p (.tuple xs), .p (.tuple ys) => fun S => match asIP xs, asIP ys with
    | some a, some b => .ok (.p (.bool (lexLt a b))) S
    | _, _ => .bad
  | _, _ => M.bad
theorem lexAt_eq : ∀ (xs ys : List Int) (e r : Nat → Bool) (i : Nat), (∀ j (h1 : j < xs.length) (h2 : j < ys.length), e (i + j) = decide (xs[j] = ys[j])) → (∀ j (h1 : j < xs.length) (h2 : j < ys.length), r (i + j) = decide (xs[j] < ys[j])) →
    Ob.lexAt e r (decide (xs.length < ys.length)) i (min xs.length ys.length) = lexLt xs ys
  | [], [], _, _, _, _, _ => by simp [Ob.lexAt, lexLt]
  | [], _ :: _, _, _, _, _, _ => by simp [Ob.lexAt, lexLt]
  | _ :: _, [], _, _, _, _, _ => by simp [Ob.lexAt, lexLt]
  | a :: as, b :: bs, e, r, i, he, hr => by
    have h0 := he 0 (by simp) (by simp)
    have h1 := hr 0 (by simp) (by simp)
    simp only [Nat.add_zero, List.getElem_cons_zero] at h0 h1
    have em : min (a :: as).length (b :: bs).length = min as.length bs.length + 1 := by simp
    have el : decide ((a :: as).length < (b :: bs).length) = decide (as.length < bs.length) := by simp
    rw [em, el, Ob.lexAt, h0]
    have ih := lexAt_eq as bs e r (i + 1) (fun j h1 h2 => by
      have := he (j + 1) (by simp; omega) (by simp; omega)
      simpa [Nat.add_assoc, Nat.add_comm 1] using this) (fun j h1 h2 => by
      have := hr (j + 1) (by simp; omega) (by simp; omega)
      simpa [Nat.add_assoc, Nat.add_comm 1] using this)
    by_cases hab : a = b
    · rw [if_pos (by simp [hab]), ih]; simp [lexLt, hab]
    · rw [if_neg (by simp [hab]), h1]; simp [lexLt, hab]
theorem Vals.ints : ∀ {xs : List Int} {us : List Value}, Vals (xs.map V.int) us → us.length = xs.length ∧ ∀ j (h : j < xs.length) (h2 : j < us.length), ∃ t, us[j] = .int xs[j] t
  | [], _, .nil => ⟨rfl, fun j h => by simp at h⟩
  | x :: xs, _, .cons r t => by
    obtain ⟨h1, h2⟩ := Vals.ints t
    refine ⟨by simp [h1], fun j h h3 => ?_⟩
    cases j with
    | zero => exact r
    | succ j => simpa using h2 j (by simpa using h) (by simpa using h3)
def rTupLt (K : PySem.W.Frag) : R2 := fun x y H Q => ∃ a b xs ys, x = .ref a ∧ y = .ref b ∧ SqT K H a (List.map V.int xs) ∧ SqT K H b (List.map V.int ys) ∧ Q (.bl (lexLt xs ys)) H
theorem op_tupLt {X : Cx} (hu : X.A.units + 64 < cLine) : OpR X (compareOp .Lt) (rTupLt X.K) := by
  intro pins s σ H x y v u Q I rx ry h
  obtain ⟨a, b, xs, ys, rfl, rfl, h1, h2, q⟩ := h
  cases rx
  cases ry
  obtain ⟨its, r1, ⟨o1, e1, c1, n1, d1⟩, _⟩ := I.tuple h1
  obtain ⟨its2, r2, ⟨o2, e2, c2, n2, d2⟩, _⟩ := I.tuple h2
  obtain ⟨l1, v1⟩ := Vals.ints r1
  obtain ⟨l2, v2⟩ := Vals.ints r2
  have t1 : s.heap.IsTuple a its.toArray := ⟨o1, e1, c1, n1, d1⟩
  have t2 : s.heap.IsTuple b its2.toArray := ⟨o2, e2, c2, n2, d2⟩
  have hu' : X.A.units < cLine := by omega
  have he : ∀ j (h1 : j < its.toArray.size) (h2 : j < its2.toArray.size), SeqAt.EqAt X.A.in1 s its.toArray[j] its2.toArray[j] ((fun j => decide (xs.getD j 0 = ys.getD j 0)) j) := fun j h1 h2 => by
    simp only [List.size_toArray] at h1 h2
    obtain ⟨t, e1⟩ := v1 j (by omega) h1
    obtain ⟨t', e2⟩ := v2 j (by omega) h2
    simp only [List.getElem_toArray, e1, e2]
    have a1 : xs.getD j 0 = xs[j]'(by omega) := by simp [show j < xs.length by omega]
    have a2 : ys.getD j 0 = ys[j]'(by omega) := by simp [show j < ys.length by omega]
    rw [a1, a2]
    have e : decide (xs[j]'(by omega) = ys[j]'(by omega)) = (xs[j]'(by omega) == ys[j]'(by omega)) := by
      by_cases h : xs[j]'(by omega) = ys[j]'(by omega) <;> simp [h]
    rw [e]
    exact SeqAt.EqAt.int_int _ _ _ _
  have hr : ∀ j (h1 : j < its.toArray.size) (h2 : j < its2.toArray.size), (fun j => decide (xs.getD j 0 = ys.getD j 0)) j = false → Ob.RcOp .Lt X.A.in1 s its.toArray[j] its2.toArray[j] ((fun j => decide (xs.getD j 0 < ys.getD j 0)) j) := fun j h1 h2 _ => by
    simp only [List.size_toArray] at h1 h2
    obtain ⟨t, e1⟩ := v1 j (by omega) h1
    obtain ⟨t', e2⟩ := v2 j (by omega) h2
    simp only [List.getElem_toArray, e1, e2]
    have a1 : xs.getD j 0 = xs[j]'(by omega) := by simp [show j < xs.length by omega]
    have a2 : ys.getD j 0 = ys[j]'(by omega) := by simp [show j < ys.length by omega]
    rw [a1, a2]
    exact Ob.RcOp.lt_int _ _ _ _
  have R := Ob.RcOp.tuples_lt t1 t2 hu' he hr
  have ex : Ob.lexAt (fun j => decide (xs.getD j 0 = ys.getD j 0)) (fun j => decide (xs.getD j 0 < ys.getD j 0)) (decide (its.toArray.size < its2.toArray.size)) 0 (min its.toArray.size its2.toArray.size) = lexLt xs ys := by
    simp only [List.size_toArray]
    rw [l1, l2]
    refine lexAt_eq xs ys _ _ 0 (fun j h1 h2 => ?_) (fun j h1 h2 => ?_)
    · simp [h1, h2]
    · simp [h1, h2]
  rw [ex] at R
  exact R _ _ _ _ ⟨.bl _, H, I, rfl, q⟩
theorem asIP_rep {Z : Hp} : ∀ {ds : List PyData} {ns : List Int} {vs : List V}, asIP ds = some ns → RepPs Z vs ds → vs = ns.map V.int
  | [], ns, vs, h, r => by cases h; cases r; rfl
  | d :: ds, ns, vs, h, r => by
    cases d with
    | int i =>
      obtain ⟨ms, q, e⟩ := Option.map_eq_some_iff.mp (show (asIP ds).map (i :: ·) = some ns from h)
      subst e
      cases r with
      | cons r1 r2 =>
        cases r1
        rw [asIP_rep q r2]; rfl
    | _ => cases h
def rLtD (K : PySem.W.Frag) : R2 := fun x y H Q => (rI0 fun i j => .bl (decide (i < j))) x y H Q ∨ rTupLt K x y H Q
section
variable {X : Cx} {W : WX} {a b : Expr} {f g : Fe} {pos : Pos}
theorem op_ltD (hu : X.A.units + 64 < cLine) : OpR X (compareOp .Lt) (rLtD X.K) := op_lt.or (op_tupLt hu)
theorem ok_ltD : R2ok X (rLtD X.K) fLtD := by
  intro w H S x y dx dy W σ Q R vx vy P
  unfold fLtD at P
  split at P
  · cases vx.cases_p; cases vy.cases_p
    exact .inl ⟨_, _, rfl, rfl, Post.here R P (.bl _)⟩
  · rename_i ds es
    cases ha : asIP ds with
    | none => rw [ha] at P; exact P.elim
    | some ns =>
      cases hb : asIP es with
      | none => rw [ha, hb] at P; exact P.elim
      | some ms =>
        rw [ha, hb] at P
        have vx := vx.cases_p
        have vy := vy.cases_p
        cases vx with | tup hx rx =>
        cases vy with | tup hy ry =>
        have e1 := asIP_rep ha rx
        have e2 := asIP_rep hb ry
        subst e1 e2
        have P : Post X.gm W σ w Q (.ok (.p (.bool (lexLt ns ms))) S) := P
        exact .inr ⟨_, _, ns, ms, rfl, rfl, SqT.of (R.same _ _ hx), SqT.of (R.same _ _ hy), Post.here R P (.bl _)⟩
  · exact P.elim
theorem de_ltD (hu : X.A.units + 64 < cLine) (ha : DE X W a f) (hb : DE X W b g) : DE X W (.Compare a [.Lt] [b] pos) (eBin fLtD f g) := de_cmp (op_ltD hu) ok_ltD ha hb (nomark _)
theorem dt_ltD (hu : X.A.units + 64 < cLine) (ha : DE X W a f) (hb : DE X W b g) : DT X W (.Compare a [.Lt] [b] pos) (eT (eBin fLtD f g)) := dt_cmp (op_ltD hu) ok_ltD ha hb (nomark _)
end
end DL
set_option Elab.async false
set_option linter.all false
set_option maxRecDepth 100000
namespace DL
open PySem PySem.Spec PyProof.Rows L2
/-! ### a comprehension, whatever it gathers
EM D ce P Er s: what is done with an item in the block ce, D what is gathered into, P what is wanted behind it. -/
abbrev EMt := Addr → Env → (Shared → Prop) → (Value → Shared → Prop) → Shared → Prop
abbrev Go (X : Cx) : Around → Shared → Prop := fun _ _ => True
section
variable {X : Cx}
/-- one turn of its loop -/
def TurnG (X : Cx) (EM : EMt) (tg : Expr) (ifs : List Expr) (D it : Addr) (ce : Env) (R : Result → Shared → Prop) (J : Nat → Shared → Prop) (n : Nat) (s : Shared) : Prop :=
  let Er : Value → Shared → Prop := notedBy (model X.prog X.w) X.A ce fun y z => R (.error y) z
  wpAny (model X.prog X.w) X.A (pyNext (.ref it)) (fun r z1 => match r with
    | none => R (.ok .next) z1
    | some v => wpAny (model X.prog X.w) X.A (letOwnedTupleGo tg (.ref it) v) (fun _ z2 => wpAny (model X.prog X.w) X.A (assign tg ce v) (fun _ z3 =>
        wpAny (model X.prog X.w) X.A (forIn ifs true fun c r => if r = true then do let ok ← isTrue c ce (eval c ce); pure (ForInStep.yield ok) else pure (ForInStep.yield r)) (fun ok z4 =>
          if ok = true then EM D ce (fun z5 => ∃ m, m < n ∧ J m z5) Er z4 else ∃ m, m < n ∧ J m z4) Er z3) Er z2) Er z1) Er s
/-- what the rule for one kind of comprehension must bring -/
structure Kind (X : Cx) (e : Expr) (tg iter : Expr) (ifs : List Expr) (new : Sem Value) (O : Obj) (o0 : HO) (EM : EMt) : Prop where
  cl : clausesOf e = [⟨tg, iter, ifs, 0⟩]
  nw : ∀ (A : Around) (z : Shared) (P : Value → Shared → Prop) (Er : Value → Shared → Prop), P (.ref z.heap.objs.size) { z with heap := z.heap.push O } → wpAny (model X.prog X.w) A new P Er z
  ob : ∀ (Hn : Hp) (h : Heap), sysModules < h.objs.size → ObjOk X.prog X.w Hn (h.push O) h.objs.size o0
  start : ∀ (D it : Addr) (ce : Env) (R : Result → Shared → Prop) (z : Shared), codeAny (model X.prog X.w) X.A (.compLoop e 0 (.ref it) (.ref D) ce) R z →
    wpAny (model X.prog X.w) X.A (pyIter (.ref it)) (fun u z' => codeAny (model X.prog X.w) X.A (.compLoop e 0 u (.ref D) ce) R z') (notedBy (model X.prog X.w) X.A ce fun y z' => R (.error y) z') z →
    codeAny (model X.prog X.w) X.A (.compStart e 0 (.ref it) (.ref D) ce) R z
  loop : ∀ (D it : Addr) (ce : Env) (R : Result → Shared → Prop) (J : Nat → Shared → Prop), (∀ n z, J n z → TurnG X EM tg ifs D it ce R J n z) → ∀ n z, J n z → codeAny (model X.prog X.w) X.A (.compLoop e 0 (.ref it) (.ref D) ce) R z
/-- .. and what its items do: tE D σ H N where N is wanted of the heap behind -/
def EmOk (X : Cx) (scope : Scope) (EM : EMt) (tE : Addr → L2.St → Hp → (Hp → Prop) → Prop) : Prop :=
  ∀ (s3 : Shared) (H3 : Hp) (C : Addr) (cl : List (Str × Addr)) (fp : List Addr) (pn : List (Addr × Obj)) (D : Addr) (z : Shared) (τ : L2.St) (G : Hp) (N : Hp → Prop) (P : Shared → Prop) (Er : Value → Shared → Prop),
    Inv (X.blk s3 H3 scope (compEnvC scope cl C X.env) fp) pn τ G z → tE D τ G N → (∀ z' G', Inv (X.blk s3 H3 scope (compEnvC scope cl C X.env) fp) pn τ G' z' → N G' → P z') → EM D (compEnvC scope cl C X.env) P Er z
/-- the question that it asks -/
def tGa (o0 : HO) (wi : TI) (g : TG) (tt : TT) (tE : Addr → L2.St → Hp → (Hp → Prop) → Prop) (vs : List Nat) : TE := fun σ H Q => wi σ H fun J H1 => ∀ D, H1 D = none → ∃ W : Nat → Nat → Hp → Prop, (∃ m, W 0 m (upd H1 D o0)) ∧ ∀ i m G, W i m G →
  (J.stop i G ∧ Q (.ref D) G) ∨ (J.go i G ∧ ∃ N : Hp → Prop, (∀ G', N G' → ∃ m', m' < m ∧ W (i + 1) m' G') ∧ ∀ x G', J.yld i G x G' → g x (wipe σ vs) G' fun τ G2 => wipe τ vs = wipe σ vs ∧ tt τ G2 fun b G3 =>
    if b = true then tE D τ G3 N else N G3)
theorem gather {pins : List (Addr × Obj)} {s : Shared} {σ : L2.St} {H : Hp} {Q : VK} {e tg iter : Expr} {ifs : List Expr} {scope : Scope} {own : List (Str × Nat)} {pos' : Pos} {wi : TI} {g : TG} {tt : TT} {tE : Addr → L2.St → Hp → (Hp → Prop) → Prop} {use : Option (Value → Sem Unit)} {Qf : Value → Shared → Prop} {new : Sem Value} {O : Obj} {o0 : HO} {EM : EMt}
    (kd : Kind X e tg iter ifs new O o0 EM) (em : EmOk X scope EM tE) (calm : X.calm = true) (dis : X.N.Nodup) (I : Inv X pins σ H s) (src : PI X tg iter wi) (ok : BlkOk X.N X.env.scope scope own)
    (ptg : ∀ (z : Shared) (G : Hp) (C : Addr) (cl : List (Str × Addr)) (fp : List Addr), PG (X.blk z G scope (compEnvC scope cl C X.env) fp) tg g)
    (pts : ∀ (z : Shared) (G : Hp) (C : Addr) (cl : List (Str × Addr)) (fp : List Addr), PTs (X.blk z G scope (compEnvC scope cl C X.env) fp) ifs tt)
    (plain : ∀ x, foldedSetIterable iter X.env x = pure x) (h : tGa o0 wi g tt tE (own.map (·.2)) σ H Q)
    (fine : ∀ D C z m G, Inv X pins σ G z → Q (.ref D) G → z.heap.Ns C m → FpOk X pins G C → compPost (model X.prog X.w) X.A X.xe use Qf (.ref D) C (.ok .next) z) :
    wpAny (model X.prog X.w) X.A (comprehension e scope X.env pos' new false (eval iter X.env) use) Qf X.xe s := by
  have free : ∀ y ∈ scope.names, y.2 = .free → ∃ c, X.env.cells.lookup y.1 = some c := fun y hy hf => (ok.free y hy hf).elim (fun k => I.ok.has _ (.inl k)) fun k => I.ok.has _ (.inr k)
  refine wpAny_comprehension_free (use := use) kd.cl plain (closure_ok free) ok.kind (fun y hy hf => by rw [ok.uniq y hy, hf]) (thn (src.run pins s σ H _ I h) fun _ _ hx => thn hx fun _ z2 hz2 => ?_)
  obtain ⟨it, fp, tn, J, H2, rfl, I2, T, st2, f2, q⟩ := hz2
  refine kd.nw _ _ _ _ (newEnv_comp ?_)
  have new0 : H2 z2.heap.objs.size = none := I2.hok.fresh (Nat.le_refl _)
  obtain ⟨W, ⟨m0, w0⟩, turn⟩ := q _ new0
  have hO := kd.ob (upd H2 z2.heap.objs.size o0) z2.heap I2.big
  generalize hD : z2.heap.objs.size = D at new0 w0 turn hO ⊢
  have up : ∀ b o, z2.heap.get? b = some o → (z2.heap.push O).get? b = some o := fun b o x => Heap.get?_push_of_some _ x
  have I3 : Inv X pins σ (upd H2 D o0) { z2 with heap := z2.heap.push O } := I2.laid (t' := z2.toks) up (Nat.le_of_eq hD) hO
  have f3 : ∀ b ∈ fp, FpOk X pins (upd H2 D o0) b ∧ b < (z2.heap.push O).objs.size := fun b hb => by
    obtain ⟨u, hu, _⟩ := T.obj _ _ st2 b hb
    have lt := Heap.lt_size hu
    exact ⟨⟨by rw [upd_ne (Nat.ne_of_lt (Nat.lt_of_lt_of_eq lt hD))]; exact (f2 b hb).1, (f2 b hb).2⟩, by rw [Heap.size_push]; exact Nat.lt_succ_of_lt lt⟩
  have st3 : tn 0 (z2.heap.push O) := T.keep _ _ _ st2 fun b _ => up b
  generalize hz3 : ({ z2 with heap := z2.heap.push O } : Shared) = z3 at *
  have e3 : z2.heap.push O = z3.heap := by rw [← hz3]
  rw [e3] at f3 st3
  have I4 := block_start I3 ok dis f3
  show codeAny _ _ (.compStart e 0 (.ref it) (.ref D) (compEnvC scope (cellsFrom (z3.heap.objs.size + 1) scope.names (cloFrom X.env.cells scope.names [])) z3.heap.objs.size X.env)) (compPost (model X.prog X.w) X.A X.xe use Qf (.ref D) z3.heap.objs.size) { z3 with heap := pushCells (z3.heap.push { cls := .type "dict", data := .dict #[] }) scope.names }
  have ptg := fun cl => ptg z3 (upd H2 D o0) z3.heap.objs.size cl fp
  have pts := fun cl => pts z3 (upd H2 D o0) z3.heap.objs.size cl fp
  have em := fun cl => em z3 (upd H2 D o0) z3.heap.objs.size cl fp
  generalize cellsFrom (z3.heap.objs.size + 1) scope.names (cloFrom X.env.cells scope.names []) = cl at I4 ⊢
  have ptg := ptg cl
  have pts := pts cl
  have em := em cl
  have loc : (compEnvC scope cl z3.heap.objs.size X.env).locals = z3.heap.objs.size := rfl
  generalize compEnvC scope cl z3.heap.objs.size X.env = ce at I4 ptg pts em loc ⊢
  have none3 : ∀ b ∈ fp, (upd H2 D o0) b = none := fun b hb => (f3 b hb).1.1
  generalize upd H2 D o0 = G3 at I3 I4 ptg pts em none3 f3 w0
  have st4 : tn 0 (pushCells (z3.heap.push { cls := .type "dict", data := .dict #[] }) scope.names) := T.keep _ _ _ st3 fun b _ o x => pushCells_keeps _ _ _ _ (Heap.get?_push_of_some _ x)
  have fpok : ∀ {τ : L2.St} {G : Hp} {z : Shared}, Inv (X.blk z3 G3 scope ce fp) [] τ G z → (∀ b ∈ fp, G b = none) → ∀ b ∈ fp, FpOk (X.blk z3 G3 scope ce fp) [] G b := fun {τ G z} IG hn b hb =>
    ⟨hn b hb, (IG.ok.exf b hb).1, IG.ok.exfs b hb, .inl hb, fun x c hc => (IG.ok.exf b hb).2 x c hc, fun p hp => by cases (show p ∈ ([] : List (Addr × Obj)) from hp)⟩
  have LOOP : codeAny (model X.prog X.w) X.A (.compLoop e 0 (.ref it) (.ref D) ce) (compPost (model X.prog X.w) X.A X.xe use Qf (.ref D) z3.heap.objs.size) { z3 with heap := pushCells (z3.heap.push { cls := .type "dict", data := .dict #[] }) scope.names } := by
    refine kd.loop D it ce _ (fun n z => ∃ i G, Inv (X.blk z3 G3 scope ce fp) [] (wipe σ (own.map (·.2))) G z ∧ tn i z.heap ∧ (∀ b ∈ fp, G b = none) ∧ W i n G) (fun n z hz => ?_) m0 _ ⟨0, G3, I4, st4, none3, w0⟩
    obtain ⟨i, G, IG, stG, nG, wG⟩ := hz
    unfold TurnG
    dsimp only
    cases turn i n G wG with
    | inl hstop =>
      refine thnF (T.done (X.blk z3 G3 scope ce fp) rfl rfl rfl calm i [] z _ G (fun _ _ => False) IG (fpok IG nG) stG hstop.1) fun r z6 hr => ?_
      obtain ⟨rfl, I6⟩ := hr
      have I7 : Inv X pins σ G z6 := I3.call' (ch := fp) I6.os I6.base I6.hok I6.bare fun b hb =>
        let k := (f3 b hb).1.2
        ⟨k.2.2.1, k.1, k.2.2.2.1, k.2.2.2.2⟩
      obtain ⟨m, hm, _⟩ := I6.loc
      have hm : z6.heap.Ns ce.locals m := hm
      have hC : G ce.locals = none := I6.free
      rw [loc] at hm hC
      exact fine D _ z6 m G I7 hstop.2 hm (I3.fpOk (Nat.le_refl _) hC)
    | inr hgo =>
      obtain ⟨go, N, hN, step⟩ := hgo
      refine thnF (T.item (X.blk z3 G3 scope ce fp) rfl rfl rfl calm i [] z _ G (fun _ _ => False) IG (fpok IG nG) stG go) fun r z6 hr => ?_
      obtain ⟨u, rfl, hz6⟩ := hr
      refine thnF hz6 fun _ z7 hz7 => ?_
      obtain ⟨x, G7, I7, r7, y7, st7, n7⟩ := hz7
      have I7p := I7.pinned (fpok I7 n7) (T.obj _ _ st7)
      refine thnF (ptg.run _ z7 _ G7 x u _ I7p r7 (step x G7 y7)) fun _ z8 hz8 => ?_
      obtain ⟨τ, G8, I8, hw, q8⟩ := hz8
      refine thnF (pts.run _ z8 τ G8 _ I8 q8) fun b z9 hz9 => ?_
      obtain ⟨G9, I9, q9⟩ := hz9
      have back : ∀ (z' : Shared) (G' : Hp), Inv (X.blk z3 G3 scope ce fp) ([] ++ pinsAt fp z7.heap) τ G' z' → N G' → ∃ m, m < n ∧ ∃ i G, Inv (X.blk z3 G3 scope ce fp) [] (wipe σ (own.map (·.2))) G z' ∧ tn i z'.heap ∧ (∀ b ∈ fp, G b = none) ∧ W i m G := fun z' G' I' hN' => by
        obtain ⟨m', hm', hW⟩ := hN G' hN'
        have pin := fun b (hb : b ∈ fp) o (ho : z7.heap.get? b = some o) => I'.pin (b, o) (List.mem_append_right _ (List.mem_append_right _ (mem_pinsAt hb ho)))
        have len : (wipe σ (own.map (·.2))).length = τ.length := by rw [← hw, wipe_length]
        refine ⟨m', hm', i + 1, G', (I'.unpinned (pins := [])).weak len (fun j v hv => ?_), T.keep _ _ _ st7 fun b hb o ho => (pin b hb o ho).1, fun b hb => ?_, hW⟩
        · rw [← hw] at hv
          exact (wipe_some hv).1
        · obtain ⟨o, ho, _⟩ := T.obj _ _ st7 b hb
          exact (pin b hb o ho).2.1
      cases b with
      | false =>
        rw [if_neg Bool.false_ne_true] at q9
        show (if false = true then _ else _)
        rw [if_neg Bool.false_ne_true]
        exact back z9 G9 I9 q9
      | true =>
        rw [if_pos rfl] at q9
        show (if true = true then _ else _)
        rw [if_pos rfl]
        exact em _ D z9 τ G9 N _ _ I9 q9 back
  exact kd.start D it ce _ _ LOOP (T.self X.A 0 _ _ _ st4 LOOP)
end
end DL
set_option Elab.async false
set_option linter.all false
set_option maxRecDepth 100000
namespace DL
open PySem PySem.Spec PyProof.Rows L2
section
variable {X : Cx}
/-! ### {k: v for ..}, keys tuples -/
def emD (X : Cx) (kx vx : Expr) : EMt := fun D ce P Er z => wpAny (model X.prog X.w) X.A (eval kx ce) (fun kv z1 => wpAny (model X.prog X.w) X.A (eval vx ce) (fun vv z2 => wpAny (model X.prog X.w) X.A (dictSet D kv vv) (fun _ z3 => P z3) Er z2) Er z1) Er z
theorem kind_dictT {kx vx tg iter : Expr} {ifs : List Expr} {sc : Scope} {pos : Pos} : Kind X (.DictComp kx vx [⟨tg, iter, ifs, 0⟩] sc pos) tg iter ifs newDict { cls := .type "dict", data := .dict #[] } (.dT []) (emD X kx vx) where
  cl := rfl
  nw := fun _ z P Er h => wpAny_newObj_type h
  ob := fun Hn h hb => dt_empty h hb
  start := fun D it ce R z h1 h2 => codeAny_compStart_dict h1 h2
  loop := fun D it ce R J turn n z hz => compLoop_anyD J (fun n z hz => turn n z hz) n hz
theorem setT {pins : List (Addr × Obj)} {σ : L2.St} {H : Hp} {s : Shared} {E : Value → Shared → Prop} {D b : Addr} {kvs : List (List Key × V)} {k : List Key} {v : V} {r : Value} {Q : Unit → Shared → Prop} (hu : X.A.units < cLine) (I : Inv X pins σ H s) (hD : H D = some (.dT kvs)) (hb : H b = some (.tup (k.map kV))) (hz : kvs.length < sizeLine) (rv : RelV v r)
    (h : ∀ s', Inv X pins σ (upd H D (.dT (putK kvs k v))) s' → Q () s') : wpAny (model X.prog X.w) X.A (dictSet D (.ref b) r) Q E s := by
  obtain ⟨z, hd, xs, rel, dd⟩ := dt_of I.hok hD
  have lx : xs.length ≤ sizeLine := by rw [← Paired.length rel]; exact z
  refine wpAny_dictSet_heap (hsz := lx) (show (tupleKind (mixKind X.prog X.w)).room X.A from hu) (key_of I.hok hb) dd fun h' dd' same => h _ ?_
  obtain ⟨q, es, ep, hq, h2, h3, h4, _, h5⟩ := dd'
  have ll := length_putK kvs k v
  refine d_write I (by rw [hD]; exact True.intro) same ⟨q, hq⟩ ⟨by omega, hd, _, (rel.put k hb rv).keeps fun c ys hc => ?_, q, es, ep, hq, h2, h3, h4, h5⟩
  rw [upd_ne (by intro e; subst e; rw [hD] at hc; cases hc)]
  exact hc
/-- what is asked of an item -/
def tED (tk tv : TE) : Addr → L2.St → Hp → (Hp → Prop) → Prop := fun D σ G N => tk σ G fun y G4 => tv σ G4 fun z G5 => ∃ kvs k b, y = .ref b ∧ G5 D = some (.dT kvs) ∧ G5 b = some (.tup (k.map kV)) ∧ kvs.length < sizeLine ∧ N (upd G5 D (.dT (putK kvs k z)))
theorem em_dictT {kx vx : Expr} {scope : Scope} {tk tv : TE} (hu : X.A.units < cLine)
    (hk : ∀ (s : Shared) (H : Hp) (C : Addr) (cl : List (Str × Addr)) (fp : List Addr), PE (X.blk s H scope (compEnvC scope cl C X.env) fp) kx tk)
    (hv : ∀ (s : Shared) (H : Hp) (C : Addr) (cl : List (Str × Addr)) (fp : List Addr), PE (X.blk s H scope (compEnvC scope cl C X.env) fp) vx tv) : EmOk X scope (emD X kx vx) (tED tk tv) := by
  intro s3 H3 C cl fp pn D z τ G N P Er I h back
  unfold emD
  refine thnF ((hk s3 H3 C cl fp).run pn z τ G _ I h) fun u1 z1 hz1 => ?_
  obtain ⟨y, G4, I4, r4, q4⟩ := hz1
  refine thnF ((hv s3 H3 C cl fp).run pn z1 τ G4 _ I4 q4) fun u2 z2 hz2 => ?_
  obtain ⟨v, G5, I5, r5, kvs, k, b, rfl, hD, hb, hz, hn⟩ := hz2
  cases (show u1 = Value.ref b from r4)
  exact setT (X := X.blk s3 H3 scope (compEnvC scope cl C X.env) fp) hu I5 hD hb hz r5 fun z3 I6 => back z3 _ I6 hn
theorem pe_dcT {kx vx tg iter : Expr} {ifs : List Expr} {scope : Scope} {own : List (Str × Nat)} {pos : Pos} {wi : TI} {g : TG} {tt : TT} {tk tv : TE} (hu : X.A.units < cLine) (calm : X.calm = true) (dis : X.N.Nodup) (src : PI X tg iter wi) (ok : BlkOk X.N X.env.scope scope own)
    (hg : ∀ (s : Shared) (H : Hp) (C : Addr) (cl : List (Str × Addr)) (fp : List Addr), PG (X.blk s H scope (compEnvC scope cl C X.env) fp) tg g) (ht : ∀ (s : Shared) (H : Hp) (C : Addr) (cl : List (Str × Addr)) (fp : List Addr), PTs (X.blk s H scope (compEnvC scope cl C X.env) fp) ifs tt)
    (hk : ∀ (s : Shared) (H : Hp) (C : Addr) (cl : List (Str × Addr)) (fp : List Addr), PE (X.blk s H scope (compEnvC scope cl C X.env) fp) kx tk)
    (hv : ∀ (s : Shared) (H : Hp) (C : Addr) (cl : List (Str × Addr)) (fp : List Addr), PE (X.blk s H scope (compEnvC scope cl C X.env) fp) vx tv) (hs : ∀ x, foldedSetIterable iter X.env x = pure x := by intro _; rfl) :
    PE X (.DictComp kx vx [⟨tg, iter, ifs, 0⟩] scope pos) (tGa (.dT []) wi g tt (tED tk tv) (own.map (·.2))) := by
  refine ⟨fun pins s σ H Q I h => ?_⟩
  rw [arm_eval_DictComp]
  refine gather kind_dictT (em_dictT hu hk hv) calm dis I src ok hg ht hs h fun D C z m G I' q hn f => ⟨m, hn, fun h'' sb => ?_⟩
  obtain ⟨f0, f1, f2, f3, f4, f5⟩ := f
  exact ⟨.ref D, G, I'.turned (t' := z.toks) (fun b o hb ho => (sb.2 b hb).trans ho) f0 f1 f3 f4 f5, rfl, q⟩
end
end DL
set_option Elab.async false
set_option linter.all false
set_option maxRecDepth 100000
namespace DL
open PySem PySem.Spec PyProof.Rows L2
/-! ### dicts keyed by integers and texts, or by tuples of these -/
def keyP : PyData → Option Key
  | .int i => some (.inl i)
  | .str x => some (.inr x)
  | _ => none
def keysP : List PyData → Option (List Key)
  | [] => some []
  | d :: ds => (keyP d).bind fun k => (keysP ds).map (k :: ·)
theorem keyP_rep {Z : Hp} {d : PyData} {k : Key} {v : V} (h : keyP d = some k) (r : RepP Z v d) : v = kV k := by
  unfold keyP at h
  split at h
  · cases h; cases r; rfl
  · cases h; cases r; rfl
  · cases h
theorem keysP_rep {Z : Hp} : ∀ {ds : List PyData} {ks : List Key} {vs : List V}, keysP ds = some ks → RepPs Z vs ds → vs = ks.map kV
  | [], ks, vs, h, r => by cases h; cases r; rfl
  | d :: ds, ks, vs, h, r => by
    unfold keysP at h
    obtain ⟨k, h1, h2⟩ := Option.bind_eq_some_iff.mp h
    obtain ⟨ls, h3, rfl⟩ := Option.map_eq_some_iff.mp h2
    cases r with
    | cons r1 r2 => rw [keyP_rep h1 r1, keysP_rep h3 r2]; rfl
section
variable {κ : Type} [DecidableEq κ]
def valD : List (κ × D) → κ → Option D
  | [], _ => none
  | p :: r, k => if p.1 = k then some p.2 else valD r k
def hasD : List (κ × D) → κ → Bool
  | [], _ => false
  | p :: r, k => decide (p.1 = k) || hasD r k
def putKD (es : List (κ × D)) (k : κ) (d : D) : List (κ × D) := if hasD es k = true then es.map (fun p => if p.1 = k then (p.1, d) else p) else es ++ [(k, d)]
theorem valD_rep {w : Wd} : ∀ {kvs : List (κ × V)} {es : List (κ × D)} {k : κ} {d : D}, RepF w kvs es → valD es k = some d → ∃ v, valV kvs k = some v ∧ RepV w v d
  | _, _, _, _, .nil, h => by cases h
  | p :: ps, q :: qs, k, d, .cons r t, h => by
    unfold valD at h
    by_cases e : q.1 = k
    · rw [if_pos e] at h
      cases h
      exact ⟨p.2, valV_pos (r.1.trans e), r.2⟩
    · rw [if_neg e] at h
      obtain ⟨v, h1, h2⟩ := valD_rep t h
      exact ⟨v, by rw [valV_neg (fun z => e (r.1.symm.trans z))]; exact h1, h2⟩
theorem hasD_rep {w : Wd} : ∀ {kvs : List (κ × V)} {es : List (κ × D)} {k : κ}, RepF w kvs es → (kvs.any fun kv => decide (kv.1 = k)) = hasD es k
  | _, _, _, .nil => rfl
  | p :: ps, q :: qs, k, .cons r t => by
    rw [List.any_cons, hasD_rep t, r.1]; rfl
theorem putKD_rep {w : Wd} {kvs : List (κ × V)} {es : List (κ × D)} {k : κ} {v : V} {d : D} (r : RepF w kvs es) (rv : RepV w v d) : RepF w (putK kvs k v) (putKD es k d) := by
  unfold putK putKD
  rw [hasD_rep r]
  split
  · have : ∀ {kvs : List (κ × V)} {es : List (κ × D)}, RepF w kvs es → RepF w (kvs.map fun kv => if kv.1 = k then (kv.1, v) else kv) (es.map fun p => if p.1 = k then (p.1, d) else p) := by
      intro kvs es r
      induction r with
      | nil => exact .nil
      | cons h t ih =>
        rename_i p q _ _
        rw [List.map_cons, List.map_cons]
        refine .cons ?_ ih
        by_cases e : p.1 = k
        · have e2 : q.1 = k := h.1.symm.trans e
          rw [if_pos e, if_pos e2]; exact ⟨h.1, rv⟩
        · have e2 : ¬ q.1 = k := fun z => e (h.1.trans z)
          rw [if_neg e, if_neg e2]; exact h
    exact this r
  · have : ∀ {kvs : List (κ × V)} {es : List (κ × D)}, RepF w kvs es → RepF w (kvs ++ [(k, v)]) (es ++ [(k, d)]) := by
      intro kvs es r
      induction r with
      | nil => exact .cons ⟨rfl, rv⟩ .nil
      | cons h t ih => exact .cons h ih
    exact this r
theorem RepF.len {w : Wd} {kvs : List (κ × V)} {es : List (κ × D)} (r : RepF w kvs es) : kvs.length = es.length := by
  induction r with
  | nil => rfl
  | cons _ _ ih => simp [ih]
end
/-- d[y] -/
def dgetAt (S : Store) : D → D → Option D
  | .o i, .p d => match S[i]? with
    | some (.dK es) => (keyP d).bind (valD es)
    | some (.dT es) => (match d with
      | .tuple ds => (keysP ds).bind (valD es)
      | _ => none)
    | _ => none
  | _, _ => none
def fDGet : D → D → M D := fun x y S => ofO S (dgetAt S x y)
/-- d[y] = v -/
def dputAt (x y v : D) (S : Store) : Option Store := match x, y with
  | .o i, .p d => match S[i]? with
    | some (.dK es) => (keyP d).bind fun k => if es.length < sizeLine then some (S.set i (.dK (putKD es k v))) else none
    | some (.dT es) => (match d with
      | .tuple ds => (keysP ds).bind fun k => if es.length < sizeLine then some (S.set i (.dT (putKD es k v))) else none
      | _ => none)
    | _ => none
  | _, _ => none
theorem RepC.dk_inv {mg : Gm} {w : Wd} {o : HO} {es : List (Key × D)} (r : RepC mg w o (.dK es)) : ∃ kvs, o = .dK kvs ∧ RepF w kvs es := by
  unfold RepC at r
  split at r <;> first | (rename_i e; cases e; done) | (rename_i e; cases e; exact ⟨_, rfl, r⟩) | exact r.elim
theorem RepC.dt_inv {mg : Gm} {w : Wd} {o : HO} {es : List (List Key × D)} (r : RepC mg w o (.dT es)) : ∃ kvs, o = .dT kvs ∧ RepF w kvs es := by
  unfold RepC at r
  split at r <;> first | (rename_i e; cases e; done) | (rename_i e; cases e; exact ⟨_, rfl, r⟩) | exact r.elim
end DL
namespace DL
open PySem PySem.Spec PyProof.Rows L2
section
variable {mg : Gm} {w : Wd} {H : Hp} {S : Store}
theorem dget_of (R : Rep mg w H S) {x y : V} {dx dy d : D} (vx : RepV w x dx) (vy : RepV w y dy) (h : dgetAt S dx dy = some d) : ∃ a v, x = .ref a ∧ DGet H a y (some v) ∧ RepV w v d := by
  unfold dgetAt at h
  split at h
  · rename_i i d0
    obtain ⟨a, ha, rfl⟩ := vx
    have vy := vy.cases_p
    split at h
    · rename_i es hS
      obtain ⟨o, ho, r⟩ := R.at_ ha hS
      obtain ⟨kvs, rfl, r⟩ := r.dk_inv
      obtain ⟨k, hk, hv⟩ := Option.bind_eq_some_iff.mp h
      obtain ⟨v, h1, h2⟩ := valD_rep r hv
      exact ⟨a, v, rfl, .inl ⟨kvs, k, .inl ho, keyP_rep hk vy, h1.symm⟩, h2⟩
    · rename_i es hS
      split at h
      · rename_i ds
        obtain ⟨o, ho, r⟩ := R.at_ ha hS
        obtain ⟨kvs, rfl, r⟩ := r.dt_inv
        obtain ⟨k, hk, hv⟩ := Option.bind_eq_some_iff.mp h
        obtain ⟨v, h1, h2⟩ := valD_rep r hv
        cases vy with | tup hy ry =>
        have e := keysP_rep hk ry
        subst e
        exact ⟨a, v, rfl, .inr ⟨kvs, k, _, .inl ho, rfl, R.same _ _ hy, h1.symm⟩, h2⟩
      · cases h
    · cases h
  · cases h
theorem dput_of (R : Rep mg w H S) {x y v : V} {dx dy dv : D} {S' : Store} (vx : RepV w x dx) (vy : RepV w y dy) (vv : RepV w v dv) (h : dputAt dx dy dv S = some S') : ∃ a H', x = .ref a ∧ DPut H a y v H' ∧ Rep mg w H' S' := by
  unfold dputAt at h
  split at h
  · rename_i i d0
    obtain ⟨a, ha, rfl⟩ := vx
    have vy := vy.cases_p
    split at h
    · rename_i es hS
      obtain ⟨o, ho, r⟩ := R.at_ ha hS
      obtain ⟨kvs, rfl, r⟩ := r.dk_inv
      obtain ⟨k, hk, hv⟩ := Option.bind_eq_some_iff.mp h
      split at hv
      · rename_i hl
        cases hv
        exact ⟨a, _, rfl, .inl ⟨kvs, k, ho, keyP_rep hk vy, by rw [RepF.len r]; exact hl, rfl⟩, R.setC (o := .dK (putK kvs k v)) ha (putKD_rep r vv)⟩
      · cases hv
    · rename_i es hS
      split at h
      · rename_i ds
        obtain ⟨o, ho, r⟩ := R.at_ ha hS
        obtain ⟨kvs, rfl, r⟩ := r.dt_inv
        obtain ⟨k, hk, hv⟩ := Option.bind_eq_some_iff.mp h
        split at hv
        · rename_i hl
          cases hv
          cases vy with | tup hy ry =>
          have e := keysP_rep hk ry
          subst e
          exact ⟨a, _, rfl, .inr ⟨kvs, k, _, ho, rfl, R.same _ _ hy, by rw [RepF.len r]; exact hl, rfl⟩, R.setC (o := .dT (putK kvs k v)) ha (putKD_rep r vv)⟩
        · cases hv
      · cases h
    · cases h
  · cases h
end
section
variable {X : Cx} {W : WX} {a b e : Expr} {f g fv : Fe} {pos pos' tpos : Pos}
theorem de_dget (hu : X.A.units + 1 < cLine) (ha : DE X W a f) (hb : DE X W b g) (hs : NoSl b := by exact fun _ _ => rfl) : DE X W (.Subscript a b pos) (eBin fDGet f g) := (pe_dget hu ha hb hs).imp fun σ H Q ⟨w, ρ, S, R, E, P⟩ =>
  stepE R E P fun x w1 H1 S1 dx g1 R1 E1 V1 P1 => stepE R1 E1 P1 fun y w2 H2 S2 dy g2 R2 E2 V2 P2 => by
    unfold fDGet at P2
    cases q : dgetAt S2 dx dy with
    | none => rw [q] at P2; exact P2.elim
    | some d =>
      rw [q] at P2
      obtain ⟨p, v, rfl, hg, hv⟩ := dget_of R2 (V1.grow g2) V2 q
      exact ⟨p, v, rfl, hg, Post.here R2 P2 hv⟩
def sDPutD (fo fi fv : Fe) : Fs := fun ρ S => bindS ρ (fv ρ S) fun v S1 => bindS ρ (fo ρ S1) fun x S2 => bindS ρ (fi ρ S2) fun y S3 => nxO ρ (dputAt x y v S3)
theorem ds_dput (hu : X.A.units + 1 < cLine) (ho : DE X W a f) (hi : DE X W b g) (hv : DE X W e fv) (hs : swapsWith e (some (.Subscript a b pos')) pos.line X.env = pure false := by rfl) : DS X W (.Assign [.Subscript a b pos'] e pos) (sDPutD f g fv) :=
  (ps_dput hu ho hi hv hs).imp fun En σ H ⟨w, ρ, S, R, E, P⟩ =>
  stepES R E P fun v w1 H1 S1 dv g1 R1 E1 V1 P1 => stepES R1 E1 P1 fun x w2 H2 S2 dx g2 R2 E2 V2 P2 => stepES R2 E2 P2 fun y w3 H3 S3 dy g3 R3 E3 V3 P3 => by
    cases q : dputAt dx dy dv S3 with
    | none => rw [q] at P3; exact P3.elim
    | some S' =>
      rw [q] at P3
      obtain ⟨p, H', rfl, hp, R'⟩ := dput_of R3 (V2.grow g3) V3 (V1.grow (g2.trans g3)) q
      exact ⟨p, H', rfl, hp, P3 σ w3 H' (Grow.refl _) R' E3⟩
/-- d[y] += v, integers -/
def sDAugD (fo fi fv : Fe) : Fs := fun ρ S => bindS ρ (fo ρ S) fun x S1 => bindS ρ (fi ρ S1) fun y S2 => match dgetAt S2 x y with
  | some (.p (.int m)) => bindS ρ (fv ρ S2) fun v S3 => match v with
    | .p (.int n) => nxO ρ (dputAt x y (.p (.int (m + n))) S3)
    | _ => .bad
  | _ => .bad
def eDNewK : Fe := fun _ S => .ok (.o S.length) (S ++ [.dK []])
def eDNewT : Fe := fun _ S => .ok (.o S.length) (S ++ [.dT []])
theorem de_dnewK : DE X W (.Dict [] [] pos) eDNewK := pe_dnewK.imp fun σ H Q ⟨w, ρ, S, R, E, P⟩ p hp => by
  obtain ⟨g, R'⟩ := R.newC (o := .dK []) (c := .dK []) hp .nil
  exact P _ _ g R' _ ⟨p, by rw [← R.len]; simp, rfl⟩
theorem de_dnewT : DE X W (.Dict [] [] pos) eDNewT := pe_dnewT.imp fun σ H Q ⟨w, ρ, S, R, E, P⟩ p hp => by
  obtain ⟨g, R'⟩ := R.newC (o := .dT []) (c := .dT []) hp .nil
  exact P _ _ g R' _ ⟨p, by rw [← R.len]; simp, rfl⟩
end
end DL
set_option Elab.async false
set_option linter.all false
set_option maxRecDepth 100000
namespace DL
open PySem PySem.Spec PyProof.Rows L2
/-! ### {k: v for ..}, keys tuples, as a reading -/
def dputT (x y v : D) (S : Store) : Option Store := match x, y with
  | .o i, .p (.tuple ds) => match S[i]? with
    | some (.dT es) => (keysP ds).bind fun k => if es.length < sizeLine then some (S.set i (.dT (putKD es k v))) else none
    | _ => none
  | _, _ => none
def loopD (sv : SrcV) (t : Tg) (tb : Fb) (fk fv : Fe) (x : D) : Nat → Nat → Sl → Store → R D
  | 0, i, ρ, S => match sv.nxt i S with
    | some none => .ok x S
    | _ => .bad
  | k + 1, i, ρ, S => match sv.nxt i S with
    | some (some d) => match t d ρ with
      | some ρ1 => bindN (tb ρ1 S) fun b S1 => if b = true then bindN (fk ρ1 S1) fun y S2 => bindN (fv ρ1 S2) fun v S3 => (match dputT x y v S3 with
          | some S4 => loopD sv t tb fk fv x k (i + 1) ρ S4
          | none => .bad)
        else loopD sv t tb fk fv x k (i + 1) ρ S1
      | none => .bad
    | _ => .bad
def eDc (fsrc : Fsrc) (vs : List Nat) (t : Tg) (tb : Fb) (fk fv : Fe) : Fe := fun ρ => M.bind (fsrc ρ) fun sv => fun S => loopD sv t tb fk fv (.o S.length) (sv.count S) 0 (wipeD ρ vs) (S ++ [.dT []])
theorem dputT_of {mg : Gm} {w : Wd} {H : Hp} {S : Store} (R : Rep mg w H S) {i : Nat} {D0 : Addr} (hm : w.m[i]? = some D0) {y v : V} {dy dv : D} {S' : Store} (vy : RepV w y dy) (vv : RepV w v dv) (h : dputT (.o i) dy dv S = some S') :
    ∃ kvs k b, y = .ref b ∧ H D0 = some (.dT kvs) ∧ H b = some (.tup (k.map kV)) ∧ kvs.length < sizeLine ∧ Rep mg w (upd H D0 (.dT (putK kvs k v))) S' := by
  unfold dputT at h
  split at h
  · rename_i j ds e
    cases e
    split at h
    · rename_i es hS
      obtain ⟨o, ho, r⟩ := R.at_ hm hS
      obtain ⟨kvs, rfl, r⟩ := r.dt_inv
      obtain ⟨k, hk, hv⟩ := Option.bind_eq_some_iff.mp h
      split at hv
      · rename_i hl
        cases hv
        have vy := vy.cases_p
        cases vy with | tup hy ry =>
        have e := keysP_rep hk ry
        subst e
        exact ⟨kvs, k, _, rfl, ho, R.same _ _ hy, by rw [RepF.len r]; exact hl, R.setC (o := .dT (putK kvs k v)) hm (putKD_rep r vv)⟩
      · cases hv
    · cases h
  · cases h
section
variable {X : Cx} {W : WX} {fsrc : Fsrc} {vs : List Nat} {t : Tg} {tb : Fb} {fk fv : Fe} {g : TG}
theorem tDc_of (hg : TgC X.gm g t vs) {σ : L2.St} {H : Hp} {Q : VK} (h : tD X.gm W (eDc fsrc vs t tb fk fv) σ H Q) : tGa (.dT []) (tDI X.gm W fsrc) g (tDT X.gm Wno tb) (tED (tD X.gm Wno fk) (tD X.gm Wno fv)) vs σ H Q := by
  obtain ⟨w, ρ, S, R, E, P⟩ := h
  refine ⟨w, ρ, S, R, E, ?_⟩
  unfold eDc at P
  rw [M.bind_eq] at P
  cases h : fsrc ρ S with
  | bad => rw [h] at P; exact P
  | exc x S' => rw [h] at P; exact P
  | ok sv S' =>
    rw [h] at P
    intro w' H' g' R' J hJ D0 hD
    have P : Post X.gm W σ w Q (loopD sv t tb fk fv (.o S'.length) (sv.count S') 0 (wipeD ρ vs) (S' ++ [.dT []])) := P
    have P := P.grow g'
    obtain ⟨g0, R0⟩ := R'.newC (o := .dT []) (c := .dT []) hD .nil
    have hm0 : (w'.addM D0).m[S'.length]? = some D0 := by rw [← R'.len]; simp
    refine ⟨fun i m G => ∃ w1 S1, Grow w' w1 ∧ w1.m[S'.length]? = some D0 ∧ Rep X.gm w1 G S1 ∧ Post X.gm W σ w1 Q (loopD sv t tb fk fv (.o S'.length) m i (wipeD ρ vs) S1), ⟨_, _, _, g0, hm0, R0, P.grow g0⟩, ?_⟩
    rintro i m G ⟨w1, S1, g1, hm1, R1, P1⟩
    cases m with
    | zero =>
      unfold loopD at P1
      cases q : sv.nxt i S1 with
      | none => rw [q] at P1; exact P1.elim
      | some o =>
        rw [q] at P1
        cases o with
        | some d => exact P1.elim
        | none => exact .inl ⟨hJ.stop i w1 G S1 g1.d R1 q, P1 w1 G (Grow.refl _) R1 _ ⟨D0, hm1, rfl⟩⟩
    | succ m =>
      unfold loopD at P1
      cases q : sv.nxt i S1 with
      | none => rw [q] at P1; exact P1.elim
      | some o =>
        rw [q] at P1
        cases o with
        | none => exact P1.elim
        | some d =>
          obtain ⟨h1, h2⟩ := hJ.go i w1 G S1 d g1.d R1 q
          refine .inr ⟨h1, _, fun G' hG => ⟨m, Nat.lt_succ_self m, hG⟩, fun x G2 y => ?_⟩
          obtain ⟨w2, g2, R2, V2⟩ := h2 x G2 y
          have E2 : RepE w2 (wipe σ vs) (wipeD ρ vs) := (RepE.wipe E vs).grow ((g'.trans g1).trans g2)
          refine hg w2 σ (wipeD ρ vs) x d G2 S1 _ R2 E2 V2 ?_
          dsimp only at P1
          cases q2 : t d (wipeD ρ vs) with
          | none => rw [q2] at P1; exact P1.elim
          | some ρ2 =>
            rw [q2] at P1
            intro τ Eτ hw
            refine ⟨hw, w2, ρ2, S1, R2, Eτ, ?_⟩
            dsimp only at P1
            cases q3 : tb ρ2 S1 with
            | bad => rw [q3] at P1; exact P1.elim
            | exc x S3 => rw [q3] at P1; exact P1.elim
            | ok b S3 =>
              rw [q3] at P1
              dsimp only [bindN] at P1
              intro w3 G3 g3 R3
              cases b with
              | false =>
                rw [if_neg Bool.false_ne_true] at P1 ⊢
                exact ⟨w3, S3, (g1.trans g2).trans g3, (g2.trans g3).at hm1, R3, P1.grow (g2.trans g3)⟩
              | true =>
                rw [if_pos rfl] at P1 ⊢
                refine ⟨w3, ρ2, S3, R3, Eτ.grow g3, ?_⟩
                cases q4 : fk ρ2 S3 with
                | bad => rw [q4] at P1; exact P1.elim
                | exc x S4 => rw [q4] at P1; exact P1.elim
                | ok yd S4 =>
                  rw [q4] at P1
                  dsimp only at P1
                  intro w4 G4 g4 R4 yv V4
                  refine ⟨w4, ρ2, S4, R4, Eτ.grow (g3.trans g4), ?_⟩
                  cases q5 : fv ρ2 S4 with
                  | bad => rw [q5] at P1; exact P1.elim
                  | exc x S5 => rw [q5] at P1; exact P1.elim
                  | ok vd S5 =>
                    rw [q5] at P1
                    dsimp only at P1
                    intro w5 G5 g5 R5 vv V5
                    have gg := ((g2.trans g3).trans g4).trans g5
                    cases q6 : dputT (.o S'.length) yd vd S5 with
                    | none => rw [q6] at P1; exact P1.elim
                    | some S6 =>
                      rw [q6] at P1
                      obtain ⟨kvs, k, b, e1, e2, e3, e4, R6⟩ := dputT_of R5 (gg.at hm1) (V4.grow g5) V5 q6
                      exact ⟨kvs, k, b, e1, e2, e3, e4, w5, S6, g1.trans gg, gg.at hm1, R6, P1.grow gg⟩
theorem de_dc {kx vx tg iter : Expr} {ifs : List Expr} {scope : Scope} {own : List (Str × Nat)} {pos : Pos} (hu : X.A.units < cLine) (hc : X.calm = true) (hN : X.N.Nodup) (hi : DI X W tg iter fsrc) (ok : BlkOk X.N X.env.scope scope own)
    (hT : TgC X.gm g t (own.map (·.2))) (hg : ∀ (s : Shared) (H : Hp) (C : Addr) (cl : List (Str × Addr)) (fp : List Addr), PG (X.blk s H scope (compEnvC scope cl C X.env) fp) tg g) (ht : ∀ (s : Shared) (H : Hp) (C : Addr) (cl : List (Str × Addr)) (fp : List Addr), PTs (X.blk s H scope (compEnvC scope cl C X.env) fp) ifs (tDT X.gm Wno tb))
    (hk : ∀ (s : Shared) (H : Hp) (C : Addr) (cl : List (Str × Addr)) (fp : List Addr), DE (X.blk s H scope (compEnvC scope cl C X.env) fp) Wno kx fk)
    (hv : ∀ (s : Shared) (H : Hp) (C : Addr) (cl : List (Str × Addr)) (fp : List Addr), DE (X.blk s H scope (compEnvC scope cl C X.env) fp) Wno vx fv) (hs : ∀ x, foldedSetIterable iter X.env x = pure x := by intro _; rfl) :
    DE X W (.DictComp kx vx [⟨tg, iter, ifs, 0⟩] scope pos) (eDc fsrc (own.map (·.2)) t tb fk fv) := (pe_dcT hu hc hN hi ok hg ht hk hv hs).imp fun σ H Q h => tDc_of hT h
end
end DL
set_option Elab.async false
set_option linter.all false
set_option maxRecDepth 100000
namespace DL
open PySem PySem.Spec PyProof.Rows L2
theorem hu0 {A : Around} {k : Nat} (hr : Room k A) : A.units < cLine := by have := hr.un; omega
section
variable {X : Cx} {W : WX}
/-- y = {k: v for ..} -/
theorem ps_setDcT {i : Nat} {y : Str} {py : Pos} {kx vx tg iter : Expr} {ifs : List Expr} {scope : Scope} {own : List (Str × Nat)} {pos spos : Pos} {wi : TI} {g : TG} {tt : TT} {tk tv : TE} (hu : X.A.units < cLine) (calm : X.calm = true) (dis : X.N.Nodup) (hy : X.N[i]? = some y) (hyl : X.env.scope.names.lookup y = some .local)
    (hsw : swapsWith (.DictComp kx vx [⟨tg, iter, ifs, 0⟩] scope pos) (some (.Name y py)) spos.line X.env = pure true) (src : PI X tg iter wi) (ok : BlkOk X.N X.env.scope scope own)
    (hg : ∀ (s : Shared) (H : Hp) (C : Addr) (cl : List (Str × Addr)) (fp : List Addr), PG (X.blk s H scope (compEnvC scope cl C X.env) fp) tg g) (ht : ∀ (s : Shared) (H : Hp) (C : Addr) (cl : List (Str × Addr)) (fp : List Addr), PTs (X.blk s H scope (compEnvC scope cl C X.env) fp) ifs tt)
    (hk : ∀ (s : Shared) (H : Hp) (C : Addr) (cl : List (Str × Addr)) (fp : List Addr), PE (X.blk s H scope (compEnvC scope cl C X.env) fp) kx tk)
    (hv : ∀ (s : Shared) (H : Hp) (C : Addr) (cl : List (Str × Addr)) (fp : List Addr), PE (X.blk s H scope (compEnvC scope cl C X.env) fp) vx tv) (hs : ∀ x, foldedSetIterable iter X.env x = pure x := by intro _; rfl) :
    PS X (.Assign [.Name y py] (.DictComp kx vx [⟨tg, iter, ifs, 0⟩] scope pos) spos) (tAsg (tGa (.dT []) wi g tt (tED tk tv) (own.map (·.2))) (gName i)) := by
  refine ⟨fun pins s σ H D I h => ?_⟩
  have e := exec_Assign_Name_used (env := X.env) y py (.DictComp kx vx [⟨tg, iter, ifs, 0⟩] scope pos) spos hsw
  rw [e]
  refine wpAny_bind (wpAny_standAt (wpAny_bind ?_))
  have h : tGa (.dT []) wi g tt (tED tk tv) (own.map (·.2)) σ H (fun x H1 => gName i x σ H1 D.nx) := h
  refine wpAny_bind (thn (gather (Qf := fun _ z => SP X pins D .next z) (use := some (assign (.Name y py) X.env)) kind_dictT (em_dictT hu hk hv) calm dis I src ok hg ht hs h fun L C z m G I' q hn f => ?_) fun _ z hq => wpAny_pure (wpAny_pure hq))
  show wpAny _ _ (assign (.Name y py) X.env (.ref L)) _ _ _
  refine wpAny_assign_Name (store_ok2 (v := V.ref L) I' dis hy (.inl hyl) rfl (fun s2 I2 hst => ?_) (.inr hyl))
  obtain ⟨a, sb, ha⟩ := hst
  obtain ⟨f0, f1, f2, f3, f4, f5⟩ := f
  have hne : C ≠ a := ha.elim (fun z => by rw [z]; exact f1) fun z hz => f4 y a z hz.symm
  exact ⟨m, hn.sameBut sb hne, fun h3 sb3 => ⟨_, G, I2.turned (t' := s2.toks) (fun b o hb ho => (sb3.2 b hb).trans ho) f0 f1 f3 f4 f5, q⟩⟩
theorem sw_trueD {kx vx : Expr} {gs : List Comprehension} {scope : Scope} {pos py : Pos} {y : Str} {l : Nat} {env : Env} (hk : env.scope.kind = .function) (hy : env.scope.names.lookup y = some .local) (hl : (py.line == pos.line) = true)
    (ha : (scope.names.any fun (n, k) => n == y && (k == .local || k == .cell)) = false) : swapsWith (.DictComp kx vx gs scope pos) (some (.Name y py)) l env = pure true := by
  have e1 : env.kindOf y = some .local := hy
  have e2 : env.blockKind = .function := by
    unfold Env.blockKind
    rw [hk]; rfl
  simp only [swapsWith, e1, e2, ha, Expr.pos, hl]
  rfl
/-- name = {k: v for ..} -/
theorem ds_setDc {W : WX} {fsrc : Fsrc} {i : Nat} {y : Str} {py : Pos} {kx vx tg iter : Expr} {ifs : List Expr} {scope : Scope} {own : List (Str × Nat)} {ix : List Nat} {t : Tg} {tb : Fb} {fk fv : Fe} {g : TG} {pos spos : Pos} (hu : X.A.units < cLine) (hc : X.calm = true) (hN : X.N.Nodup) (hy : X.N[i]? = some y) (hyl : X.env.scope.names.lookup y = some .local)
    (hsw : swapsWith (.DictComp kx vx [⟨tg, iter, ifs, 0⟩] scope pos) (some (.Name y py)) spos.line X.env = pure true) (hi : DI X W tg iter fsrc) (ok : BlkOk X.N X.env.scope scope own)
    (hT : TgC X.gm g t ix) (hg : ∀ (s : Shared) (H : Hp) (C : Addr) (cl : List (Str × Addr)) (fp : List Addr), PG (X.blk s H scope (compEnvC scope cl C X.env) fp) tg g) (ht : ∀ (s : Shared) (H : Hp) (C : Addr) (cl : List (Str × Addr)) (fp : List Addr), PTs (X.blk s H scope (compEnvC scope cl C X.env) fp) ifs (tDT X.gm Wno tb))
    (hk : ∀ (s : Shared) (H : Hp) (C : Addr) (cl : List (Str × Addr)) (fp : List Addr), DE (X.blk s H scope (compEnvC scope cl C X.env) fp) Wno kx fk)
    (hv : ∀ (s : Shared) (H : Hp) (C : Addr) (cl : List (Str × Addr)) (fp : List Addr), DE (X.blk s H scope (compEnvC scope cl C X.env) fp) Wno vx fv) (hx : own.map (·.2) = ix := by rfl) (hs : ∀ x, foldedSetIterable iter X.env x = pure x := by intro _; rfl) :
    DS X W (.Assign [.Name y py] (.DictComp kx vx [⟨tg, iter, ifs, 0⟩] scope pos) spos) (sSet i (eDc fsrc ix t tb fk fv)) := by
  subst hx
  refine (ps_setDcT hu hc hN hy hyl hsw hi ok hg ht (tk := tD X.gm Wno fk) (tv := tD X.gm Wno fv) (fun s H C cl fp => hk s H C cl fp) (fun s H C cl fp => hv s H C cl fp) hs).imp fun En σ H ⟨w, ρ, S, R, E, P⟩ => ?_
  refine tDc_of (W := W) (fsrc := fsrc) (t := t) (tb := tb) (fk := fk) (fv := fv) hT ?_
  exact stepES R E P fun v w1 H1 S1 d g1 R1 E1 V1 P1 => P1 _ w1 H1 (Grow.refl _) R1 (E1.set i V1)
end
section
variable {X : Cx} {W : WX} {o i e : Expr} {fo fi fv : Fe} {pos tpos : Pos}
theorem ds_daug (hu : X.A.units + 1 < cLine) (ho : DE X W o fo) (hi : DE X W i fi) (he : DE X W e fv)
    (ha : ∀ ov iv new, augStore i ov iv new = (do holding [new, ov, iv] (setItem ov iv new); release [new, ov, iv] []; pure .next) := by intros; rfl) : DS X W (.AugAssign (.Subscript o i tpos) .Add e pos) (sDAugD fo fi fv) :=
  (ps_daug hu ho hi he in_add ha).imp fun En σ H ⟨w, ρ, S, R, E, P⟩ =>
    stepES R E P fun x w1 H1 S1 dx g1 R1 E1 V1 P1 => stepES R1 E1 P1 fun y w2 H2 S2 dy g2 R2 E2 V2 P2 => by
      split at P2
      · rename_i k hq
        obtain ⟨p, v, rfl, hg, hv⟩ := dget_of R2 (V1.grow g2) V2 hq
        cases hv.cases_p
        refine ⟨p, _, rfl, hg, ?_⟩
        refine stepES R2 E2 P2 fun z w3 H3 S3 dz g3 R3 E3 V3 P3 => ?_
        split at P3
        · rename_i b
          cases V3.cases_p
          refine ⟨k, b, rfl, rfl, ?_⟩
          cases q3 : dputAt dx dy (.p (.int (k + b))) S3 with
          | none => rw [q3] at P3; exact P3.elim
          | some S4 =>
            rw [q3] at P3
            obtain ⟨p', H', e', hp, R'⟩ := dput_of (y := y) (v := .int (k + b)) R3 ((V1.grow g2).grow g3) (V2.grow g3) (show RepV w3 (.int (k + b)) (.p (.int (k + b))) from .int (k + b)) q3
            cases e'
            exact ⟨H', hp, P3 σ w3 H' (Grow.refl _) R' E3⟩
        · exact P3.elim
      · exact P2.elim
end
end DL
set_option Elab.async false
set_option linter.all false
set_option maxRecDepth 100000
namespace DL
open PySem PySem.Spec PyProof.Rows L2
section
variable {X : Cx} {W : WX} {a b c : Expr} {f g k : Fe} {pos : Pos}
/-- x, y, z = a, b, c where a tuple is truly made -/
theorem ds_par3c {i j l : Nat} {x y z : Str} {px py pz pt : Pos} {kt k2 pt2} (hc : X.calm = true) (hN : X.N.Nodup) (hi : X.N[i]? = some x) (hj : X.N[j]? = some y) (hl : X.N[l]? = some z)
    (hx : Loc X.env.scope x) (hy : Loc X.env.scope y) (hz : Loc X.env.scope z) (fx : X.fn x = true ∨ X.env.scope.names.lookup x = some .local) (fy : X.fn y = true ∨ X.env.scope.names.lookup y = some .local) (fz : X.fn z = true ∨ X.env.scope.names.lookup z = some .local) (ha : DE X W a f) (hb : DE X W b g) (hd : DE X W c k)
    (hs : swapsWithSole [.Tuple [.Name x px, .Name y py, .Name z pz] kt pt] (.Tuple [a, b, c] k2 pt2) pos.line X.env = pure false := by rfl)
    (hw : swappedStores [.Tuple [.Name x px, .Name y py, .Name z pz] kt pt] (.Tuple [a, b, c] k2 pt2) X.env = pure none := by rfl)
    (h1 : (assignEach [.Tuple [.Name x px, .Name y py, .Name z pz] kt pt] X.env).map (·.2) = [assign (.Tuple [.Name x px, .Name y py, .Name z pz] kt pt) X.env] := by rfl)
    (hn : (assignEach [.Name x px, .Name y py, .Name z pz] X.env).length = 3 := by rfl) (hst : (assignEach [.Name x px, .Name y py, .Name z pz] X.env).findIdx? (·.1) = none := by rfl)
    (n1 : (assignEach [.Name x px, .Name y py, .Name z pz] X.env).map (·.2) = assign (.Name x px) X.env :: (assignEach [.Name y py, .Name z pz] X.env).map (·.2) := by rfl) (n2 : (assignEach [.Name y py, .Name z pz] X.env).map (·.2) = assign (.Name y py) X.env :: (assignEach [.Name z pz] X.env).map (·.2) := by rfl)
    (n3 : (assignEach [.Name z pz] X.env).map (·.2) = assign (.Name z pz) X.env :: (assignEach [] X.env).map (·.2) := by rfl)
    (he : starEach [a, b, c] X.env = (false, eval a X.env) :: starEach [b, c] X.env := by rfl) (he' : starEach [b, c] X.env = (false, eval b X.env) :: starEach [c] X.env := by rfl) (he3 : starEach [c] X.env = (false, eval c X.env) :: starEach [] X.env := by rfl) :
    DS X W (.Assign [.Tuple [.Name x px, .Name y py, .Name z pz] kt pt] (.Tuple [a, b, c] k2 pt2) pos) (sPar3 i j l f g k) :=
  (ps_asg (pe_tup (pa_cons ha (pa_cons hb (pa_cons hd pa_nil he3) he') he)) (pg_tup hc (pgs_cons (pg_name hN hi hx fx) (pgs_cons (pg_name hN hj hy fy) (pgs_cons (pg_name hN hl hz fz) pgs_nil n3) n2) n1) hn hst) hs hw h1).imp fun En σ H ⟨w, ρ, S, R, e, P⟩ =>
    stepES R e P fun v w1 H1 S1 d g1 R1 E1 V1 P1 => stepES R1 E1 P1 fun v2 w2 H2 S2 d2 g2 R2 E2 V2 P2 => stepES R2 E2 P2 fun v3 w3 H3 S3 d3 g3 R3 E3 V3 P3 =>
      ⟨by show 3 ≤ sizeLine; decide, fun p hp => by
        obtain ⟨g4, R4⟩ := R3.newP (.tup [v, v2, v3]) hp
        exact ⟨p, [v, v2, v3], rfl, SqT.of upd_same, rfl, v, _, rfl, v2, _, rfl, v3, _, rfl, rfl, P3 _ _ _ g4 R4 (((((E3.set i ((V1.grow g2).grow g3)).set j (V2.grow g3)).set l V3)).grow g4)⟩⟩
theorem de_dcI {fsrc : Fsrc} {kx vx tg iter : Expr} {ifs : List Expr} {scope : Scope} {own : List (Str × Nat)} {ix : List Nat} {t : Tg} {tb : Fb} {fk fv : Fe} {g : TG} (hu : X.A.units < cLine) (hc : X.calm = true) (hN : X.N.Nodup) (hi : DI X W tg iter fsrc) (ok : BlkOk X.N X.env.scope scope own)
    (hT : TgC X.gm g t ix) (hg : ∀ (s : Shared) (H : Hp) (C : Addr) (cl : List (Str × Addr)) (fp : List Addr), PG (X.blk s H scope (compEnvC scope cl C X.env) fp) tg g) (ht : ∀ (s : Shared) (H : Hp) (C : Addr) (cl : List (Str × Addr)) (fp : List Addr), PTs (X.blk s H scope (compEnvC scope cl C X.env) fp) ifs (tDT X.gm Wno tb))
    (hk : ∀ (s : Shared) (H : Hp) (C : Addr) (cl : List (Str × Addr)) (fp : List Addr), DE (X.blk s H scope (compEnvC scope cl C X.env) fp) Wno kx fk)
    (hv : ∀ (s : Shared) (H : Hp) (C : Addr) (cl : List (Str × Addr)) (fp : List Addr), DE (X.blk s H scope (compEnvC scope cl C X.env) fp) Wno vx fv) (hx : own.map (·.2) = ix := by rfl) (hs : ∀ x, foldedSetIterable iter X.env x = pure x := by intro _; rfl) :
    DE X W (.DictComp kx vx [⟨tg, iter, ifs, 0⟩] scope pos) (eDc fsrc ix t tb fk fv) := by
  subst hx
  exact de_dc hu hc hN hi ok hT hg ht hk hv hs
end
end DL
set_option Elab.async false
set_option linter.all false
set_option maxRecDepth 100000
set_option maxHeartbeats 1000000
namespace DL
open PySem PySem.Spec PyProof.Rows L2
section
variable {prog : Program} {w : World} {A : Around} {E : Value → Shared → Prop} {s : Shared}
/-- a zip with anything in its first two places -/
abbrev ZipG (h : Heap) (z TI TO : Addr) (v : Value) (f : Bool) : Prop := h.get? z = some { cls := .type "zip", dict := none, data := .fields #[v, .bool f, .bool false, .ref TI, .ref TO], slots := #[] }
/-- the zip may use its own tuple again -/
def ZFree (prog : Program) (w : World) (A : Around) (E : Value → Shared → Prop) (z : Addr) (s : Shared) : Prop := ∀ Q : Bool → Shared → Prop, Q true s → wpAny (model prog w) A (Builtin.SmallTypes.ownedTupleIsFree (.ref z)) Q E s
theorem zfree_none {z TI TO : Addr} {f : Bool} (hz : ZipG s.heap z TI TO .none f) : ZFree prog w A E z s := fun Q h => by
  unfold Builtin.SmallTypes.ownedTupleIsFree
  exact wpAny_bind (wpAny_field hz rfl (x := .none) rfl (wpAny_pure h))
theorem zfree_gone {z TI TO T : Addr} {f : Bool} (hz : ZipG s.heap z TI TO (rawInt T) f) (hT : s.heap.get? T = none) : ZFree prog w A E z s := fun Q h => by
  unfold Builtin.SmallTypes.ownedTupleIsFree
  refine wpAny_bind (wpAny_field hz rfl (x := rawInt T) rfl ?_)
  show wpAny _ _ (loadIfAlive ((T : Int).toNat) >>= _) _ _ _
  rw [Int.toNat_natCast]
  refine wpAny_bind (show wpAny (model prog w) A (loadIfAlive T) _ E s from fun _ _ _ => ?_)
  show wpAny _ _ _ _ _ _
  rw [hT]
  exact wpAny_pure h
theorem zn_free {z TI TO i1 i2 l1 l2 : Addr} {k1 k2 : Nat} {f : Bool} {xs ys : Array Value} {v x y a b : Value} {Q : Value → Shared → Prop} (D : ZipApart z TI TO i1 i2 l1 l2) (hF : ZFree prog w A E z s)
    (hz : ZipG s.heap z TI TO v f) (hTI : IsPair s.heap TI (.ref i1) (.ref i2)) (hTO : IsPair s.heap TO a b)
    (h1 : s.heap.IsTupleIter i1 l1 k1) (h2 : s.heap.IsTupleIter i2 l2 k2) (hl1 : s.heap.IsTuple l1 xs) (hl2 : s.heap.IsTuple l2 ys) (hx : xs[k1]? = some x) (hy : ys[k2]? = some y)
    (hQ : ∀ h', ZipG h' z TI TO (rawInt s.heap.objs.size) false → IsPair h' TO x y → h'.IsTupleIter i1 l1 (k1 + 1) → h'.IsTupleIter i2 l2 (k2 + 1) → IsPair h' s.heap.objs.size x y →
      (∀ c o, c ≠ z → c ≠ TO → c ≠ i1 → c ≠ i2 → s.heap.get? c = some o → h'.get? c = some o) → Q (.ref s.heap.objs.size) { s with heap := h' }) :
    wpAny (model prog w) A (Builtin.«zip.__next__» ⟨[.ref z], []⟩) (fun fin s' => ∃ v, fin = .done (.ret v) ∧ Q v s') E s := by
  show wpAny _ _ (field (.ref z) 2 >>= _) _ _ _
  refine wpAny_bind (wpAny_field hz rfl (x := .bool false) rfl ?_)
  show wpAny _ _ (field (.ref z) 3 >>= _) _ _ _
  refine wpAny_bind (wpAny_field hz rfl (x := .ref TI) rfl (wpAny_bind (wpAny_seqItems hTI rfl ?_)))
  show wpAny _ _ (Builtin.SmallTypes.ownedTupleIsFree (.ref z) >>= _) _ _ _
  refine wpAny_bind (hF _ ?_)
  simp only [if_true]
  refine wpAny_bind (wpAny_rule (wpAny_bind (wpAny_field hz rfl (x := .ref TO) rfl (wpAny_bind (wpAny_setField_rec hz (by simp) fun ha za sa => ?_)))))
  replace za : ZipG ha z TI TO .ellipsis f := za
  refine wpAny_bind ?_
  simp only [List.zipIdx_cons, List.zipIdx_nil, List.forIn_cons, List.forIn_nil]
  refine wpAny_bind (wpAny_bind (wpAny_onRaise ?_))
  show wpAny _ _ (Builtin.SmallTypes.nextOf (.ref i1) >>= _) _ _ _
  refine wpAny_bind (RZ.nextOf_tuple_item (h1.extBut sa.extBut D.i1z) (hl1.extBut sa.extBut D.l1z) hx fun hb ib sb => wpAny_pure ?_)
  have tb : IsPair hb TO a b := sb.extBut _ _ D.TOi1 (sa.extBut _ _ D.TOz hTO)
  refine wpAny_bind (wpAny_seqItems tb rfl (wpAny_bind (wpAny_updateSeq_pair tb fun hc tc sc => wpAny_bind (wpAny_letGo (wpAny_pure ?_)))))
  replace tc : IsPair hc TO x b := tc
  refine wpAny_bind (wpAny_bind (wpAny_onRaise ?_))
  show wpAny _ _ (Builtin.SmallTypes.nextOf (.ref i2) >>= _) _ _ _
  refine wpAny_bind (RZ.nextOf_tuple_item (((h2.extBut sa.extBut D.i2z).extBut sb.extBut D.i12.symm).extBut sc.extBut D.TOi2.symm)
    (((hl2.extBut sa.extBut D.l2z).extBut sb.extBut D.l2i1).extBut sc.extBut D.l2TO) hy fun hd id_ sd => wpAny_pure ?_)
  have td : IsPair hd TO x b := sd.extBut _ _ D.TOi2 tc
  refine wpAny_bind (wpAny_seqItems td rfl (wpAny_bind (wpAny_updateSeq_pair td fun he te se => wpAny_bind (wpAny_letGo (wpAny_pure (wpAny_pure ?_))))))
  replace te : IsPair he TO x y := te
  refine wpAny_bind (wpAny_seqItems te rfl (wpAny_bind (wpAny_newTuple ?_)))
  have hsz : he.objs.size = s.heap.objs.size := by rw [se.1, sd.1, sc.1, sb.1, sa.1]
  have ze : ZipG he z TI TO .ellipsis f := se.extBut _ _ D.TOz.symm (sd.extBut _ _ D.i2z.symm (sc.extBut _ _ D.TOz.symm (sb.extBut _ _ D.i1z.symm za)))
  have ke : ∀ c o, c ≠ z → c ≠ TO → c ≠ i1 → c ≠ i2 → s.heap.get? c = some o → he.get? c = some o := fun c o c1 c2 c3 c4 e =>
    se.extBut _ _ c2 (sd.extBut _ _ c4 (sc.extBut _ _ c2 (sb.extBut _ _ c3 (sa.extBut _ _ c1 e))))
  have e1 : he.IsTupleIter i1 l1 (k1 + 1) := ((ib.extBut sc.extBut D.TOi1.symm).extBut sd.extBut D.i12).extBut se.extBut D.TOi1.symm
  have e2 : he.IsTupleIter i2 l2 (k2 + 1) := id_.extBut se.extBut D.TOi2.symm
  have lz : z < he.objs.size := Heap.lt_size ze
  show wpAny _ _ (Builtin.SmallTypes.ownedTupleHandOut (.ref z) (.ref he.objs.size) >>= _) _ _ _
  refine wpAny_bind ?_
  unfold Builtin.SmallTypes.ownedTupleHandOut
  have zf : ZipG (he.push { cls := .type "tuple", data := .seq #[x, y] }) z TI TO .ellipsis f := Heap.get?_push_of_some _ ze
  refine wpAny_bind (wpAny_setField_rec zf (by simp) fun hg zg sg => ?_)
  replace zg : ZipG hg z TI TO (rawInt he.objs.size) f := zg
  refine wpAny_setField_rec zg (by simp) fun hk zk sk => wpAny_pure ⟨_, rfl, ?_⟩
  replace zk : ZipG hk z TI TO (rawInt he.objs.size) false := zk
  have up : ∀ c o, c ≠ z → he.get? c = some o → hk.get? c = some o := fun c o c1 e => sk.extBut _ _ c1 (sg.extBut _ _ c1 (Heap.get?_push_of_some _ e))
  have tk : IsPair hk he.objs.size x y := sk.extBut _ _ (Nat.ne_of_gt lz) (sg.extBut _ _ (Nat.ne_of_gt lz) (Heap.get?_push_size _ rfl))
  show Q (.ref he.objs.size) _
  rw [hsz] at zk tk ⊢
  exact hQ hk zk (up _ _ D.TOz te) (e1.at fun o e => up _ o D.i1z e) (e2.at fun o e => up _ o D.i2z e) tk fun c o c1 c2 c3 c4 e => up c o c1 (ke c o c1 c2 c3 c4 e)
theorem zn_held {z TI TO T i1 i2 l1 l2 : Addr} {f : Bool} {oT : Obj} {k1 k2 : Nat} {xs ys : Array Value} {x y : Value} {Q : Value → Shared → Prop} (D : ZipApart z TI TO i1 i2 l1 l2)
    (hz : ZipG s.heap z TI TO (rawInt T) f) (hT : s.heap.get? T = some oT) (hTI : IsPair s.heap TI (.ref i1) (.ref i2))
    (h1 : s.heap.IsTupleIter i1 l1 k1) (h2 : s.heap.IsTupleIter i2 l2 k2) (hl1 : s.heap.IsTuple l1 xs) (hl2 : s.heap.IsTuple l2 ys) (hx : xs[k1]? = some x) (hy : ys[k2]? = some y)
    (hQ : ∀ h', ZipG h' z TI TO (rawInt T) true → h'.IsTupleIter i1 l1 (k1 + 1) → h'.IsTupleIter i2 l2 (k2 + 1) → IsPair h' s.heap.objs.size x y →
      (∀ c o, c ≠ z → c ≠ i1 → c ≠ i2 → s.heap.get? c = some o → h'.get? c = some o) → Q (.ref s.heap.objs.size) { s with heap := h' }) :
    wpAny (model prog w) A (Builtin.«zip.__next__» ⟨[.ref z], []⟩) (fun fin s' => ∃ v, fin = .done (.ret v) ∧ Q v s') E s := by
  show wpAny _ _ (field (.ref z) 2 >>= _) _ _ _
  refine wpAny_bind (wpAny_field hz rfl (x := .bool false) rfl ?_)
  show wpAny _ _ (field (.ref z) 3 >>= _) _ _ _
  refine wpAny_bind (wpAny_field hz rfl (x := .ref TI) rfl (wpAny_bind (wpAny_seqItems hTI rfl ?_)))
  show wpAny _ _ (Builtin.SmallTypes.ownedTupleIsFree (.ref z) >>= _) _ _ _
  refine wpAny_bind (wpAny_tupleHeld_zip hz hT fun ha za sa => ?_)
  simp only [Bool.false_eq_true, if_false]
  refine wpAny_bind ?_
  rw [← Array.forIn_toList]
  simp only [List.forIn_cons, List.forIn_nil]
  refine wpAny_bind (wpAny_bind (wpAny_holding ?_))
  show wpAny _ _ (Builtin.SmallTypes.nextOf (.ref i1) >>= _) _ _ _
  refine wpAny_bind (RZ.nextOf_tuple_item (s := { s with heap := ha }) (h1.extBut sa.extBut D.i1z) (hl1.extBut sa.extBut D.l1z) hx fun hb ib sb => wpAny_pure (wpAny_pure ?_))
  refine wpAny_bind (wpAny_bind (wpAny_holding ?_))
  show wpAny _ _ (Builtin.SmallTypes.nextOf (.ref i2) >>= _) _ _ _
  refine wpAny_bind (RZ.nextOf_tuple_item (s := { s with heap := hb }) ((h2.extBut sa.extBut D.i2z).extBut sb.extBut D.i12.symm) ((hl2.extBut sa.extBut D.l2z).extBut sb.extBut D.l2i1) hy fun hc ic sc => wpAny_pure (wpAny_pure (wpAny_pure ?_)))
  show wpAny _ _ (newTuple [x, y] >>= _) _ _ _
  refine wpAny_bind (wpAny_newTuple (wpAny_pure ⟨_, rfl, ?_⟩))
  have hsz : hc.objs.size = s.heap.objs.size := by rw [sc.1, sb.1, sa.1]
  have zc : ZipG hc z TI TO (rawInt T) true := sc.extBut _ _ D.i2z.symm (sb.extBut _ _ D.i1z.symm za)
  show Q (.ref hc.objs.size) _
  have hp : IsPair (hc.push { cls := .type "tuple", data := .seq #[x, y] }) hc.objs.size x y := Heap.get?_push_size _ rfl
  rw [hsz] at hp ⊢
  exact hQ _ (Heap.get?_push_of_some _ zc) ((ib.extBut sc.extBut D.i12).at fun o e => Heap.get?_push_of_some _ e) (ic.at fun o e => Heap.get?_push_of_some _ e) hp fun c o c1 c2 c3 e => Heap.get?_push_of_some _ (sc.extBut _ _ c3 (sb.extBut _ _ c2 (sa.extBut _ _ c1 e)))
/-- the rest of a zip comes to its end -/
def ZEnd (z TO i1 i2 : Addr) (s : Shared) (E : Value → Shared → Prop) : Prop := ∀ h' e, (∀ c o, c ≠ z → c ≠ TO → c ≠ i1 → c ≠ i2 → s.heap.get? c = some o → h'.get? c = some o) → (∃ o, h'.get? e = some o ∧ o.cls = .type "StopIteration") → E (.ref e) { s with heap := h' }
theorem zn_freeEnd {z TI TO i1 i2 l1 l2 : Addr} {k1 k2 : Nat} {f : Bool} {xs ys : Array Value} {v a b : Value} {Q : Fin → Shared → Prop} (hh : A.handled = none) (D : ZipApart z TI TO i1 i2 l1 l2) (hF : ZFree prog w A E z s)
    (hz : ZipG s.heap z TI TO v f) (hTI : IsPair s.heap TI (.ref i1) (.ref i2)) (hTO : IsPair s.heap TO a b)
    (h1 : s.heap.IsTupleIter i1 l1 k1) (h2 : s.heap.IsTupleIter i2 l2 k2) (hl1 : s.heap.IsTuple l1 xs) (hl2 : s.heap.IsTuple l2 ys) (hend : xs[k1]? = none ∨ ys[k2]? = none)
    (hE : ZEnd z TO i1 i2 s E) : wpAny (model prog w) A (Builtin.«zip.__next__» ⟨[.ref z], []⟩) Q E s := by
  show wpAny _ _ (field (.ref z) 2 >>= _) _ _ _
  refine wpAny_bind (wpAny_field hz rfl (x := .bool false) rfl ?_)
  show wpAny _ _ (field (.ref z) 3 >>= _) _ _ _
  refine wpAny_bind (wpAny_field hz rfl (x := .ref TI) rfl (wpAny_bind (wpAny_seqItems hTI rfl ?_)))
  show wpAny _ _ (Builtin.SmallTypes.ownedTupleIsFree (.ref z) >>= _) _ _ _
  refine wpAny_bind (hF _ ?_)
  simp only [if_true]
  refine wpAny_bind (wpAny_rule (wpAny_bind (wpAny_field hz rfl (x := .ref TO) rfl (wpAny_bind (wpAny_setField_rec hz (by simp) fun ha za sa => ?_)))))
  replace za : ZipG ha z TI TO .ellipsis f := za
  refine wpAny_bind ?_
  simp only [List.zipIdx_cons, List.zipIdx_nil, List.forIn_cons, List.forIn_nil]
  refine wpAny_bind (wpAny_bind (wpAny_onRaise ?_))
  show wpAny _ _ (Builtin.SmallTypes.nextOf (.ref i1) >>= _) _ _ _
  by_cases hx : xs[k1]? = none
  · refine wpAny_bind (RZ.nextOf_tuple_end hh (h1.extBut sa.extBut D.i1z) (hl1.extBut sa.extBut D.l1z) hx fun hb e sb ⟨oe, hoe, hce⟩ => ?_)
    have zb : ZipG hb z TI TO .ellipsis f := sb _ _ D.i1z.symm za
    have ez : e ≠ z := fun x => by subst x; rw [zb] at hoe; cases hoe; simp at hce
    exact wpAny_setField_rec zb (by simp) fun hc _ sc => hE hc e (fun c o c1 _ c3 _ x => sc.extBut _ _ c1 (sb _ _ c3 (sa.extBut _ _ c1 x))) ⟨oe, sc.extBut _ _ ez hoe, hce⟩
  · obtain ⟨x, hx⟩ := Option.ne_none_iff_exists'.mp hx
    have hy : ys[k2]? = none := hend.resolve_left fun q => by rw [hx] at q; cases q
    refine wpAny_bind (RZ.nextOf_tuple_item (h1.extBut sa.extBut D.i1z) (hl1.extBut sa.extBut D.l1z) hx fun hb ib sb => wpAny_pure ?_)
    have tb : IsPair hb TO a b := sb.extBut _ _ D.TOi1 (sa.extBut _ _ D.TOz hTO)
    refine wpAny_bind (wpAny_seqItems tb rfl (wpAny_bind (wpAny_updateSeq_pair tb fun hc tc sc => wpAny_bind (wpAny_letGo (wpAny_pure ?_)))))
    refine wpAny_bind (wpAny_bind (wpAny_onRaise ?_))
    show wpAny _ _ (Builtin.SmallTypes.nextOf (.ref i2) >>= _) _ _ _
    refine wpAny_bind (RZ.nextOf_tuple_end hh (((h2.extBut sa.extBut D.i2z).extBut sb.extBut D.i12.symm).extBut sc.extBut D.TOi2.symm)
      (((hl2.extBut sa.extBut D.l2z).extBut sb.extBut D.l2i1).extBut sc.extBut D.l2TO) hy fun hd e sd ⟨oe, hoe, hce⟩ => ?_)
    have zd : ZipG hd z TI TO .ellipsis f := sd _ _ D.i2z.symm (sc.extBut _ _ D.TOz.symm (sb.extBut _ _ D.i1z.symm za))
    have ez : e ≠ z := fun x => by subst x; rw [zd] at hoe; cases hoe; simp at hce
    exact wpAny_setField_rec zd (by simp) fun he _ se => hE he e (fun c o c1 c2 c3 c4 x => se.extBut _ _ c1 (sd _ _ c4 (sc.extBut _ _ c2 (sb.extBut _ _ c3 (sa.extBut _ _ c1 x))))) ⟨oe, se.extBut _ _ ez hoe, hce⟩
theorem zn_heldEnd {z TI TO T i1 i2 l1 l2 : Addr} {f : Bool} {oT : Obj} {k1 k2 : Nat} {xs ys : Array Value} {Q : Fin → Shared → Prop} (hh : A.handled = none) (D : ZipApart z TI TO i1 i2 l1 l2)
    (hz : ZipG s.heap z TI TO (rawInt T) f) (hT : s.heap.get? T = some oT) (hTI : IsPair s.heap TI (.ref i1) (.ref i2))
    (h1 : s.heap.IsTupleIter i1 l1 k1) (h2 : s.heap.IsTupleIter i2 l2 k2) (hl1 : s.heap.IsTuple l1 xs) (hl2 : s.heap.IsTuple l2 ys) (hend : xs[k1]? = none ∨ ys[k2]? = none)
    (hE : ZEnd z TO i1 i2 s E) : wpAny (model prog w) A (Builtin.«zip.__next__» ⟨[.ref z], []⟩) Q E s := by
  show wpAny _ _ (field (.ref z) 2 >>= _) _ _ _
  refine wpAny_bind (wpAny_field hz rfl (x := .bool false) rfl ?_)
  show wpAny _ _ (field (.ref z) 3 >>= _) _ _ _
  refine wpAny_bind (wpAny_field hz rfl (x := .ref TI) rfl (wpAny_bind (wpAny_seqItems hTI rfl ?_)))
  show wpAny _ _ (Builtin.SmallTypes.ownedTupleIsFree (.ref z) >>= _) _ _ _
  refine wpAny_bind (wpAny_tupleHeld_zip hz hT fun ha za sa => ?_)
  simp only [Bool.false_eq_true, if_false]
  refine wpAny_bind ?_
  rw [← Array.forIn_toList]
  simp only [List.forIn_cons, List.forIn_nil]
  refine wpAny_bind (wpAny_bind (wpAny_holding ?_))
  show wpAny _ _ (Builtin.SmallTypes.nextOf (.ref i1) >>= _) _ _ _
  by_cases hx : xs[k1]? = none
  · exact wpAny_bind (RZ.nextOf_tuple_end (s := { s with heap := ha }) hh (h1.extBut sa.extBut D.i1z) (hl1.extBut sa.extBut D.l1z) hx fun hb e sb q => hE hb e (fun c o c1 _ c3 _ x => sb _ _ c3 (sa.extBut _ _ c1 x)) q)
  · obtain ⟨x, hx⟩ := Option.ne_none_iff_exists'.mp hx
    have hy : ys[k2]? = none := hend.resolve_left fun q => by rw [hx] at q; cases q
    refine wpAny_bind (RZ.nextOf_tuple_item (s := { s with heap := ha }) (h1.extBut sa.extBut D.i1z) (hl1.extBut sa.extBut D.l1z) hx fun hb ib sb => wpAny_pure (wpAny_pure ?_))
    refine wpAny_bind (wpAny_bind (wpAny_holding ?_))
    show wpAny _ _ (Builtin.SmallTypes.nextOf (.ref i2) >>= _) _ _ _
    exact wpAny_bind (RZ.nextOf_tuple_end (s := { s with heap := hb }) hh ((h2.extBut sa.extBut D.i2z).extBut sb.extBut D.i12.symm) ((hl2.extBut sa.extBut D.l2z).extBut sb.extBut D.l2i1) hy fun hc e sc q => hE hc e (fun c o c1 _ c3 c4 x => sc _ _ c4 (sb.extBut _ _ c3 (sa.extBut _ _ c1 x))) q)
/-- what is known of the zip at a turn -/
def ZOut (v : Value) : Prop := v = .none ∨ ∃ T : Addr, v = rawInt T
theorem zn_next {z TI TO i1 i2 l1 l2 : Addr} {k1 k2 : Nat} {f : Bool} {xs ys : Array Value} {v x y a b : Value} {Q : Option Value → Shared → Prop} (D : ZipApart z TI TO i1 i2 l1 l2) (ho : ZOut v)
    (hz : ZipG s.heap z TI TO v f) (hTI : IsPair s.heap TI (.ref i1) (.ref i2)) (hTO : IsPair s.heap TO a b)
    (h1 : s.heap.IsTupleIter i1 l1 k1) (h2 : s.heap.IsTupleIter i2 l2 k2) (hl1 : s.heap.IsTuple l1 xs) (hl2 : s.heap.IsTuple l2 ys) (hx : xs[k1]? = some x) (hy : ys[k2]? = some y)
    (hQ : ∀ h' v' f', ZOut v' → ZipG h' z TI TO v' f' → (∃ a b, IsPair h' TO a b) → h'.IsTupleIter i1 l1 (k1 + 1) → h'.IsTupleIter i2 l2 (k2 + 1) → IsPair h' s.heap.objs.size x y →
      (∀ c o, c ≠ z → c ≠ TO → c ≠ i1 → c ≠ i2 → s.heap.get? c = some o → h'.get? c = some o) → Q (some (.ref s.heap.objs.size)) { s with heap := h' }) : wpAny (model prog w) A (pyNext (.ref z)) Q E s := by
  have hTy : s.TypeIs (.ref z) "zip" := ⟨_, hz, rfl⟩
  unfold pyNext
  refine wpAny_bind (wpAny_attempt (wpAny_callSpecial?_slot (name := Str.ofString "__next__") hTy F.slot_zip_next (wpAny_call_entry F.slot_zip_next hTy F.entry_zip_next ?_ (F.args_zip_next_1 _))))
  have free : ∀ (E' : Value → Shared → Prop) (A' : Around) (Q' : Value → Shared → Prop), ZFree prog w A' E' z s → (∀ h' v' f', ZOut v' → ZipG h' z TI TO v' f' → (∃ a b, IsPair h' TO a b) → h'.IsTupleIter i1 l1 (k1 + 1) → h'.IsTupleIter i2 l2 (k2 + 1) → IsPair h' s.heap.objs.size x y →
      (∀ c o, c ≠ z → c ≠ TO → c ≠ i1 → c ≠ i2 → s.heap.get? c = some o → h'.get? c = some o) → Q' (.ref s.heap.objs.size) { s with heap := h' }) → wpAny (model prog w) A' (Builtin.«zip.__next__» ⟨[.ref z], []⟩) (fun fin s' => ∃ v, fin = .done (.ret v) ∧ Q' v s') E' s := fun E' A' Q' hF hq =>
    zn_free D hF hz hTI hTO h1 h2 hl1 hl2 hx hy fun h' a1 a2 a3 a4 a5 a6 => hq h' _ _ (.inr ⟨_, rfl⟩) a1 ⟨_, _, a2⟩ a3 a4 a5 a6
  rcases ho with rfl | ⟨T, rfl⟩
  · exact free _ _ _ (zfree_none hz) fun h' v' f' q0 q1 q2 q3 q4 q5 q6 => wpAny_pure (hQ h' v' f' q0 q1 q2 q3 q4 q5 q6)
  · cases hT : s.heap.get? T with
    | none => exact free _ _ _ (zfree_gone hz hT) fun h' v' f' q0 q1 q2 q3 q4 q5 q6 => wpAny_pure (hQ h' v' f' q0 q1 q2 q3 q4 q5 q6)
    | some oT => exact zn_held D hz hT hTI h1 h2 hl1 hl2 hx hy fun h' a1 a3 a4 a5 a6 => wpAny_pure (hQ h' _ _ (.inr ⟨T, rfl⟩) a1 ⟨_, _, a6 _ _ D.TOz D.TOi1 D.TOi2 hTO⟩ a3 a4 a5 fun c o c1 _ c3 c4 e => a6 c o c1 c3 c4 e)
theorem zn_stop {z TI TO i1 i2 l1 l2 : Addr} {k1 k2 : Nat} {f : Bool} {xs ys : Array Value} {v a b : Value} {Q : Option Value → Shared → Prop} (hh : A.handled = none) (D : ZipApart z TI TO i1 i2 l1 l2) (ho : ZOut v)
    (hz : ZipG s.heap z TI TO v f) (hTI : IsPair s.heap TI (.ref i1) (.ref i2)) (hTO : IsPair s.heap TO a b)
    (h1 : s.heap.IsTupleIter i1 l1 k1) (h2 : s.heap.IsTupleIter i2 l2 k2) (hl1 : s.heap.IsTuple l1 xs) (hl2 : s.heap.IsTuple l2 ys) (hend : xs[k1]? = none ∨ ys[k2]? = none)
    (hQ : ∀ h', (∀ c o, c ≠ z → c ≠ TO → c ≠ i1 → c ≠ i2 → s.heap.get? c = some o → h'.get? c = some o) → Q none { s with heap := h' }) : wpAny (model prog w) A (pyNext (.ref z)) Q E s := by
  have hTy : s.TypeIs (.ref z) "zip" := ⟨_, hz, rfl⟩
  unfold pyNext
  refine wpAny_bind (wpAny_attempt (wpAny_callSpecial?_slot (name := Str.ofString "__next__") hTy F.slot_zip_next (wpAny_call_entry F.slot_zip_next hTy F.entry_zip_next ?_ (F.args_zip_next_1 _))))
  have fin : ∀ (P : Value → Shared → Prop), (∀ h' e, (∀ c o, c ≠ z → c ≠ TO → c ≠ i1 → c ≠ i2 → s.heap.get? c = some o → h'.get? c = some o) → (∃ o, h'.get? e = some o ∧ o.cls = .type "StopIteration") → P (.ref e) { s with heap := h' }) → ZEnd z TO i1 i2 s P := fun P h => h
  rcases ho with rfl | ⟨T, rfl⟩
  · refine zn_freeEnd hh D (zfree_none hz) hz hTI hTO h1 h2 hl1 hl2 hend fun h' e hk ⟨o, ho, hc⟩ => ?_
    exact wpAny_bind (wpAny_isInstance (T := "StopIteration") (b := true) ⟨o, ho, hc⟩ isSubtype_stop (wpAny_pure (hQ _ hk)))
  · cases hT : s.heap.get? T with
    | none =>
      refine zn_freeEnd hh D (zfree_gone hz hT) hz hTI hTO h1 h2 hl1 hl2 hend fun h' e hk ⟨o, ho, hc⟩ => ?_
      exact wpAny_bind (wpAny_isInstance (T := "StopIteration") (b := true) ⟨o, ho, hc⟩ isSubtype_stop (wpAny_pure (hQ _ hk)))
    | some oT =>
      refine zn_heldEnd hh D hz hT hTI h1 h2 hl1 hl2 hend fun h' e hk ⟨o, ho, hc⟩ => ?_
      exact wpAny_bind (wpAny_isInstance (T := "StopIteration") (b := true) ⟨o, ho, hc⟩ isSubtype_stop (wpAny_pure (hQ _ hk)))
end
end DL
set_option Elab.async false
set_option linter.all false
set_option maxRecDepth 100000
set_option maxHeartbeats 1000000
namespace DL
open PySem PySem.Spec PyProof.Rows L2
theorem zipG_iter {prog : Program} {w : World} {A : Around} {E : Value → Shared → Prop} {s : Shared} {z TI TO : Addr} {v : Value} {f : Bool} {Q : Value → Shared → Prop} (hz : ZipG s.heap z TI TO v f) (h : Q (.ref z) s) : wpAny (model prog w) A (pyIter (.ref z)) Q E s := by
  have hT : s.TypeIs (.ref z) "zip" := ⟨_, hz, rfl⟩
  exact wpAny_pyIter_slot hT F.slot_zip_iter (wpAny_call_entry F.slot_zip_iter hT F.entry_zip_iter (show wpAny _ _ (ret (.ref z)) _ _ s from wpAny_pure ⟨_, rfl, "zip", _, hT, F.slot_zip_next.lookup, h⟩) (F.args_zip_iter_1 _))
theorem turn_zipN {P : Program} {w : World} {K : PySem.W.Frag} {y : Str} {py : Pos} {a b z TI TO i1 i2 : Addr} (D : ZipApart z TI TO i1 i2 a b) :
    Turn P w K (.Name y py) (RZ.ItzT K a b) [z, TI, TO, i1, i2] z (fun i h => (∃ v f, ZOut v ∧ ZipG h z TI TO v f) ∧ IsPair h TI (.ref i1) (.ref i2) ∧ (∃ x y, IsPair h TO x y) ∧ h.IsTupleIter i1 a i ∧ h.IsTupleIter i2 b i) where
  mem := by simp
  obj := fun i h st c hc => by
    obtain ⟨⟨v, f, _, hz⟩, hTI, ⟨x, y, hTO⟩, ⟨o1, e1, _, d1⟩, ⟨o2, e2, _, d2⟩⟩ := st
    have e' : c = z ∨ c = TI ∨ c = TO ∨ c = i1 ∨ c = i2 := by simpa using hc
    rcases e' with rfl | rfl | rfl | rfl | rfl
    · exact ⟨_, hz, fun v q => nomatch q⟩
    · exact ⟨_, hTI, fun v q => nomatch q⟩
    · exact ⟨_, hTO, fun v q => nomatch q⟩
    · exact ⟨o1, e1, fun v q => by rw [d1] at q; cases q⟩
    · exact ⟨o2, e2, fun v q => by rw [d2] at q; cases q⟩
  keep := fun i h h' ⟨⟨v, f, ho, hz⟩, hTI, ⟨x, y, hTO⟩, h1, h2⟩ k =>
    ⟨⟨v, f, ho, k z (by simp) _ hz⟩, k TI (by simp) _ hTI, ⟨x, y, k TO (by simp) _ hTO⟩, h1.at fun o q => k i1 (by simp) o q, h2.at fun o q => k i2 (by simp) o q⟩
  item := by
    intro X hP hw hK hc i pins s σ H E I hf st hg
    subst hP hw hK
    obtain ⟨⟨v, f, ho, hz⟩, hTI, ⟨x0, y0, hTO⟩, h1, h2⟩ := st
    obtain ⟨xs, ys, x, y, hqx, hqy, hx, hy⟩ := hg
    obtain ⟨its, rv, p, _⟩ := I.tuple hqx
    obtain ⟨its2, rv2, p2, _⟩ := I.tuple hqy
    obtain ⟨u, hu, ru⟩ := rv.get hx
    obtain ⟨u2, hu2, ru2⟩ := rv2.get hy
    have hzl : z < s.heap.objs.size := Heap.lt_size hz
    have lt : ∀ c, c ∈ [z, TI, TO, i1, i2] → c < s.heap.objs.size := fun c hcm => by
      have e' : c = z ∨ c = TI ∨ c = TO ∨ c = i1 ∨ c = i2 := by simpa using hcm
      rcases e' with rfl | rfl | rfl | rfl | rfl
      · exact hzl
      · exact Heap.lt_size hTI
      · exact Heap.lt_size hTO
      · obtain ⟨_, e1, _⟩ := h1; exact Heap.lt_size e1
      · obtain ⟨_, e2, _⟩ := h2; exact Heap.lt_size e2
    refine zn_next D ho hz hTI hTO h1 h2 p p2 (x := u) (y := u2) (by simpa using hu) (by simpa using hu2) fun h' v' f' ho' z' TO' h1' h2' hT hk => ⟨_, rfl, wpAny_pure ?_⟩
    have new : ObjOk X.prog X.w (upd H s.heap.objs.size (.tup [x, y])) h' s.heap.objs.size (.tup [x, y]) :=
      ⟨by show 2 ≤ sizeLine; decide, [u, u2], .cons ru (.cons ru2 .nil), ⟨_, hT, rfl, _, rfl⟩⟩
    have I1 : Inv X pins σ (upd H s.heap.objs.size (.tup [x, y])) { s with heap := h' } :=
      I.turnedNew (t' := s.toks) (ch := [z, TI, TO, i1, i2]) (fun c o hb q => hk c o (fun q' => hb (by simp [q'])) (fun q' => hb (by simp [q'])) (fun q' => hb (by simp [q'])) (fun q' => hb (by simp [q'])) q) hf (Nat.le_refl _) new
    refine ⟨.ref s.heap.objs.size, _, I1, rfl, ⟨_, x, y, rfl, I.hok.fresh (Nat.le_refl _), rfl, fun l hl => by rw [I.tuple_inj hl hqx]; exact hx, fun l hl => by rw [I.tuple_inj hl hqy]; exact hy⟩, ⟨⟨v', f', ho', z'⟩, hk _ _ D.TIz D.TITO D.TIi1 D.TIi2 hTI, TO', h1', h2'⟩, fun c hcm => ?_⟩
    rw [upd_ne (Nat.ne_of_lt (lt c hcm))]
    exact (hf c hcm).1
  done := by
    intro X hP hw hK hc i pins s σ H E I hf st hg
    subst hP hw hK
    obtain ⟨⟨v, f, ho, hz⟩, hTI, ⟨x0, y0, hTO⟩, h1, h2⟩ := st
    obtain ⟨xs, ys, hqx, hqy, hend⟩ := hg
    obtain ⟨its, rv, p, _⟩ := I.tuple hqx
    obtain ⟨its2, rv2, p2, _⟩ := I.tuple hqy
    have l1 := rv.length
    have l2 := rv2.length
    have he : its.toArray[i]? = none ∨ its2.toArray[i]? = none := hend.elim (fun q => .inl (by simp; omega)) fun q => .inr (by simp; omega)
    exact zn_stop (I.ok.hd hc) D ho hz hTI hTO h1 h2 p p2 he fun h' hk => ⟨rfl, I.turnedL (t' := s.toks) (ch := [z, TI, TO, i1, i2]) (fun c o hb q =>
      hk c o (fun q' => hb (by simp [q'])) (fun q' => hb (by simp [q'])) (fun q' => hb (by simp [q'])) (fun q' => hb (by simp [q'])) q) hf⟩
  self := fun A i s Q E ⟨⟨v, f, _, hz⟩, _⟩ h => zipG_iter hz h
section
variable {X : Cx} {W : WX} {a b e e2 : Expr} {f g : Fe} {pos : Pos}
def iZipN (K : PySem.W.Frag) (ta : TA) : TI := fun σ H R => ta σ H fun vs H1 => ∃ a b xs ys, vs = [.ref a, .ref b] ∧ SqT K H1 a xs ∧ SqT K H1 b ys ∧ R (RZ.ItzT K a b) H1
theorem pi_zipN {ta : TA} {p py : Pos} {y : Str} (hg : Gl X "zip") (hm : X.mg "zip" = none) (ha : PA X [e, e2] ta)
    (hs : starEach [e, e2] X.env = (false, eval e X.env) :: starEach [e2] X.env := by rfl) (hpl : (backTo pos (starEach [e2] X.env)).any (·.1) = false := by rfl) :
    PI X (.Name y py) (.Call (.Name "zip" p) [e, e2] [] pos) (iZipN X.K ta) := by
  refine ⟨fun pins s σ H R I h => ?_⟩
  refine Call_ (ld_blt I hg hm PyProof.Rows.boot_zip (PyProof.Rows.callWith_type1 (thn (ha.run pos pins s σ H _ I h) fun us s1 ⟨vs, H1, I1, r1, a, b, xs, ys, ex, hqx, hqy, q⟩ => ?_) hs hpl))
  subst ex
  cases r1 with
  | cons r rr =>
    cases rr with
    | cons r' rr =>
      cases rr
      cases r
      cases r'
      have fr : ∀ k, FpOk X pins H1 (s1.heap.objs.size + k) := fun k => I1.fpOk (Nat.le_add_right _ _) (I1.hok.fresh (Nat.le_add_right _ _))
      obtain ⟨its, rv, p1, _⟩ := I1.tuple hqx
      obtain ⟨its2, rv2, p2, _⟩ := I1.tuple hqy
      have lt1 := p1
      have lt2 := p2
      obtain ⟨o1, ho1, _⟩ := lt1
      obtain ⟨o2, ho2, _⟩ := lt2
      refine RZ.call_zipT (show s1.heap.IsTuple a its.toArray from p1) (show s1.heap.IsTuple b its2.toArray from p2) fun h' hz hTI hTO h1 h2 hsz hk => wpAny_pyIter_zip hz ?_
      refine ⟨s1.heap.objs.size + 4, [s1.heap.objs.size + 4, s1.heap.objs.size + 2, s1.heap.objs.size + 3, s1.heap.objs.size, s1.heap.objs.size + 1], _, _, H1, rfl, I1.kept (t' := s1.toks) hk, turn_zipN (PySem.W.ktu_apart s1.heap.objs.size a b (Heap.lt_size ho1) (Heap.lt_size ho2)), ⟨⟨_, _, .inl rfl, hz⟩, hTI, ⟨_, _, hTO⟩, h1, h2⟩, fun c hcm => ?_, q⟩
      have e' : c = s1.heap.objs.size + 4 ∨ c = s1.heap.objs.size + 2 ∨ c = s1.heap.objs.size + 3 ∨ c = s1.heap.objs.size ∨ c = s1.heap.objs.size + 1 := by simpa using hcm
      rcases e' with rfl | rfl | rfl | rfl | rfl
      · exact fr 4
      · exact fr 2
      · exact fr 3
      · exact fr 0
      · exact fr 1
def ofZipN : List D → M SrcV
  | [.p (.tuple xs), .p (.tuple ys)] => fun S => .ok (.zip (.p (.tuple xs)) (.p (.tuple ys))) S
  | _ => M.bad
def srcZipN (f g : Fe) : Fsrc := fun ρ => M.bind (aCons f (aCons g aNil) ρ) ofZipN
/-- for y in zip(a, b), tuples -/
theorem di_zipN {p py : Pos} {y : Str} (hg : Gl X "zip") (hm : X.mg "zip" = none) (ha : DE X W a f) (hb : DE X W b g) (hs : starEach [a, b] X.env = (false, eval a X.env) :: starEach [b] X.env := by rfl) (hs2 : starEach [b] X.env = (false, eval b X.env) :: starEach [] X.env := by rfl)
    (hpl : (backTo pos (starEach [b] X.env)).any (·.1) = false := by rfl) : DI X W (.Name y py) (.Call (.Name "zip" p) [a, b] [] pos) (srcZipN f g) :=
  ⟨fun pins s σ H T I ⟨w, ρ, S, R, E, P⟩ => (pi_zipN hg hm (da_cons ha (da_cons hb da_nil hs2) hs) hs hpl).run pins s σ H T I (by
    refine stepA R E P fun vs w1 H1 S1 ds g1 R1 E1 V1 P1 => ?_
    unfold ofZipN at P1
    split at P1
    · obtain ⟨x, y, rfl, vx, vy⟩ := RepVs.two V1
      have vx' := vx.cases_p
      have vy' := vy.cases_p
      cases vx' with | tup hx rx =>
      cases vy' with | tup hy ry =>
      exact ⟨_, _, _, _, rfl, SqT.of (R1.same _ _ hx), SqT.of (R1.same _ _ hy), P1 w1 H1 (Grow.refl _) R1 _ (src_zipT vx vy)⟩
    · exact P1.elim)⟩
end
end DL
set_option Elab.async false
set_option linter.all false
set_option maxRecDepth 100000
set_option maxHeartbeats 4000000
namespace DL
open PySem PySem.Spec L2
section
variable {X : Cx} {W : WX} {pos : Pos} {u : Fs} {tb : Fb}
/-! ### while -/
def loopW (tb : Fb) (u : Fs) : Nat → Fs
  | 0 => fun _ _ => .bad
  | n + 1 => fun ρ S => bindS ρ (tb ρ S) fun b S1 => if b = true then (match u ρ S1 with
      | .nx ρ' S' => loopW tb u n ρ' S'
      | .ct ρ' S' => loopW tb u n ρ' S'
      | .bk ρ' S' => .nx ρ' S'
      | r => r) else .nx ρ S1
theorem ds_while {c : Expr} {body : List Stmt} (n : Nat) (hp : PassesOwn (model X.prog X.w) X.A X.env X.xe) (hc : DT X W c tb) (hb : DSs X W body u) : DS X W (.While c body [] pos) (loopW tb u n) := (ps_while hp hc hb).imp fun En σ H ⟨w, ρ, S, R, E, P⟩ => by
  refine ⟨fun m σ H => ∃ w1 ρ1 S1, GrowD w w1 ∧ Rep X.gm w1 H S1 ∧ RepE w1 σ ρ1 ∧ PostS X.gm W En w1 (loopW tb u m ρ1 S1), ⟨n, w, ρ, S, (Grow.refl w).d, R, E, P⟩, ?_⟩
  rintro m σ1 H1 ⟨w1, ρ1, S1, g1, R1, E1, P1⟩
  cases m with
  | zero => exact P1.elim
  | succ m =>
    unfold loopW at P1
    refine stepTS R1 E1 P1 fun b w2 H2 S2 g2 R2 E2 P2 => ?_
    cases b with
    | false =>
      rw [if_neg Bool.false_ne_true] at P2 ⊢
      exact P2 σ1 w2 H2 (Grow.refl _) R2 E2
    | true =>
      rw [if_pos rfl] at P2 ⊢
      refine ⟨fun σ H => ∃ w1 ρ1 S1, GrowD w w1 ∧ Rep X.gm w1 H S1 ∧ RepE w1 σ ρ1 ∧ PostS X.gm W En w1 (loopW tb u m ρ1 S1), fun σ' H' q' => ⟨m, Nat.lt_succ_self m, q'⟩, w2, ρ1, S2, R2, E2, ?_⟩
      cases q : u ρ1 S2 with
      | nx ρ' S' => rw [q] at P2; exact fun σ' w' H' g' R' E' => ⟨w', ρ', S', (g1.trans g2.d).trans g'.d, R', E', P2.grow g'⟩
      | ct ρ' S' => rw [q] at P2; exact fun σ' w' H' g' R' E' => ⟨w', ρ', S', (g1.trans g2.d).trans g'.d, R', E', P2.grow g'⟩
      | bk ρ' S' => rw [q] at P2; exact P2
      | rt d S' => rw [q] at P2; exact P2
      | exc x ρ' S' => rw [q] at P2; exact P2
      | bad => rw [q] at P2; exact P2
end
end DL
set_option Elab.async false
set_option linter.all false
set_option maxRecDepth 100000
set_option maxHeartbeats 4000000
namespace DL
open PySem PySem.Spec L2
/-! ### [.. for .. in .. if .. for .. in .. if ..] -/
def loopCC (sv : SrcV) (t : Tg) (tb : Fb) (fsrc1 : Fsrc) (vs1 : List Nat) (t1 : Tg) (tb1 : Fb) (el : Fe) : Nat → Nat → Sl → List D → Store → R (List D)
  | 0, i, ρ, acc, S => match sv.nxt i S with
    | some none => .ok acc S
    | _ => .bad
  | k + 1, i, ρ, acc, S => match sv.nxt i S with
    | some (some d) => match t d ρ with
      | some ρ1 => bindN (tb ρ1 S) fun b S1 => if b = true then bindN (fsrc1 ρ1 S1) fun sv1 S2 => bindN (loopC sv1 t1 tb1 el (sv1.count S2) 0 (wipeD ρ1 vs1) acc S2) fun acc' S3 => loopCC sv t tb fsrc1 vs1 t1 tb1 el k (i + 1) ρ acc' S3
        else loopCC sv t tb fsrc1 vs1 t1 tb1 el k (i + 1) ρ acc S1
      | none => .bad
    | _ => .bad
def eLc2 (fsrc : Fsrc) (vs : List Nat) (t : Tg) (tb : Fb) (fsrc1 : Fsrc) (vs1 : List Nat) (t1 : Tg) (tb1 : Fb) (el : Fe) : Fe := fun ρ => M.bind (fsrc ρ) fun sv => M.bind (fun S => loopCC sv t tb fsrc1 vs1 t1 tb1 el (sv.count S) 0 (wipeD ρ vs) [] S) kAcc
theorem wipe_get : ∀ (vs : List Nat) (σ : L2.St) (k : Nat), (L2.wipe σ vs)[k]? = if k ∈ vs then (σ[k]?).map (fun _ => none) else σ[k]?
  | [], σ, k => by simp [L2.wipe]
  | v :: vs, σ, k => by
    simp only [L2.wipe, List.getElem?_set, L2.wipe_length]
    by_cases e : v = k
    · subst e
      simp only [if_true, List.mem_cons, true_or]
      by_cases l : v < σ.length
      · simp [l]
      · simp [l]
    · rw [if_neg e, wipe_get vs σ k]
      simp [List.mem_cons, Ne.symm e]
theorem tgc_oneM {mg : Gm} {i : Nat} {vs : List Nat} (hi : i ∈ vs) : TgC mg (gName i) (tName i) vs := fun w σ0 ρ x d H S Q R E V P =>
  P _ (E.set i V) (by
    refine List.ext_getElem? fun k => ?_
    simp only [wipe_get, List.getElem?_set, L2.wipe_length]
    by_cases h : k ∈ vs
    · simp only [h, if_true]
      by_cases e : i = k
      · subst e
        by_cases l : i < σ0.length <;> simp [l]
      · rw [if_neg e]
        by_cases l : k < σ0.length <;> simp [l]
    · have e : i ≠ k := fun e => h (e ▸ hi)
      simp [h, e])
theorem tgc_twoM {mg : Gm} {K : PySem.W.Frag} {i j : Nat} {vs : List Nat} (hi : i ∈ vs) (hj : j ∈ vs) : TgC mg (gTup K 2 (gCons (gName i) (gCons (gName j) gNil))) (tTupT 2 (tsCons (tName i) (tsCons (tName j) tsNil))) vs := fun w σ0 ρ x d H S Q R E V P => by
  cases d with
  | o i => exact P.elim
  | s ns => exact P.elim
  | p d =>
    cases d with
    | tuple ds =>
      have V := V.cases_p
      cases V with | tup hx rx =>
      match ds, rx, P with
      | [], _, P => exact P.elim
      | [_], _, P => exact P.elim
      | [a, b], .cons r1 (.cons r2 .nil), P =>
        refine ⟨_, _, rfl, SqT.of (R.same _ _ hx), rfl, _, _, rfl, _, _, rfl, rfl, ?_⟩
        refine P _ ((E.set i (show RepV w _ (.p a) from r1)).set j (show RepV w _ (.p b) from r2)) ?_
        refine List.ext_getElem? fun k => ?_
        simp only [wipe_get, List.getElem?_set, List.length_set, L2.wipe_length]
        by_cases h : k ∈ vs
        · simp only [h, if_true]
          by_cases l : k < σ0.length
          · by_cases e : j = k
            · subst e; simp [l]
            · by_cases e2 : i = k
              · subst e2; simp [e, l]
              · simp [e, e2, l]
          · by_cases e : j = k
            · subst e; simp [l]
            · by_cases e2 : i = k
              · subst e2; simp [e, l]
              · simp [e, e2, l]
        · have e : i ≠ k := fun e => h (e ▸ hi)
          have e2 : j ≠ k := fun e => h (e ▸ hj)
          simp [h, e, e2]
      | _ :: _ :: _ :: _, _, P => exact P.elim
    | _ => exact P.elim
/-- a list that grows at D0, known to nobody -/
structure Hold (mg : Gm) (w : Wd) (D0 : Addr) (H : Hp) (S : Store) (xs : List V) (acc : List D) : Prop where
  r : Rep mg w H S
  b : w.B D0 = none
  z : w.Z D0 = none
  m : D0 ∉ w.m
  h : H D0 = some (.lst xs)
  v : RepVs w xs acc
section
variable {mg : Gm} {w w3 : Wd} {D0 : Addr} {H H3 : Hp} {S S3 : Store} {xs : List V} {acc : List D}
abbrev Wd.bk (w : Wd) (D0 : Addr) (xs : List V) : Wd := { w with B := upd w.B D0 (.lst xs) }
theorem Hold.back (h : Hold mg w D0 H S xs acc) : Rep mg (w.bk D0 xs) H S := h.r.back h.h h.z h.m
theorem Hold.fin (h : Hold mg w D0 H S xs acc) (g : Grow (w.bk D0 xs) w3) (R3 : Rep mg w3 H3 S3) : Grow w { w3 with B := w.B } ∧ Hold mg { w3 with B := w.B } D0 H3 S3 xs acc := by
  have eB : w3.B = upd w.B D0 (.lst xs) := g.b
  have hB : w3.B D0 = some (.lst xs) := by rw [eB]; exact upd_same
  have g' : Grow w { w3 with B := w.B } := ⟨g.k, rfl, g.z, g.m⟩
  exact ⟨g', R3.unback eB h.b, h.b, (R3.bz _ _ hB).1, (R3.bz _ _ hB).2, R3.bg _ _ hB, RepVs.grow g' h.v⟩
theorem Hold.app (h : Hold mg w D0 H S xs acc) {y : V} {d : D} (V : RepV w y d) : Hold mg w D0 (upd H D0 (.lst (xs ++ [y]))) S (xs ++ [y]) (acc ++ [d]) := by
  obtain ⟨RB, b1, zB, mB, hd, r⟩ := h
  refine ⟨⟨RB.kk, fun b u e => ?_, fun b u e => ?_, RB.bz, RB.len, RB.nd, fun i a c h1 h2 => ?_⟩, b1, zB, mB, upd_same, r.append (.cons V .nil)⟩
  · have : b ≠ D0 := ne_of_none e b1
    rw [upd_ne this]; exact RB.bg b u e
  · have : b ≠ D0 := ne_of_none e zB
    rw [upd_ne this]; exact RB.same b u e
  · obtain ⟨za, u, hu, r⟩ := RB.cell i a c h1 h2
    have : a ≠ D0 := fun e => mB (e ▸ List.mem_of_getElem? h1)
    exact ⟨za, u, by rw [upd_ne this]; exact hu, r⟩
end
theorem GrowD.ofB {w w1 : Wd} {B : Hp} (g : GrowD w w1) : GrowD w { w1 with B := B } := ⟨g.k, g.z, g.m⟩
section
variable {X : Cx} {W : WX} {e : Expr} {fsrc fsrc1 : Fsrc} {vs vs1 : List Nat} {t t1 : Tg} {tb tb1 : Fb} {el : Fe} {g g1 : TG}
theorem tLc2_of (hg : TgC X.gm g t vs) (hg1 : TgC X.gm g1 t1 vs1) {σ : L2.St} {H : Hp} {Q : VK} (h : tD X.gm W (eLc2 fsrc vs t tb fsrc1 vs1 t1 tb1 el) σ H Q) : tLc2 (tDI X.gm W fsrc) g (tDT X.gm Wno tb) (tDI X.gm Wno fsrc1) g1 (tDT X.gm Wno tb1) (tD X.gm Wno el) vs vs1 σ H Q := by
  obtain ⟨w, ρ, S, R, E, P⟩ := h
  refine ⟨w, ρ, S, R, E, ?_⟩
  unfold eLc2 at P
  rw [M.bind_eq] at P
  cases h : fsrc ρ S with
  | bad => rw [h] at P; exact P
  | exc x S' => rw [h] at P; exact P
  | ok sv S' =>
    rw [h] at P
    intro w' H' g' R' J hJ D0 hD
    have P : Post X.gm W σ w Q (M.bind (fun S => loopCC sv t tb fsrc1 vs1 t1 tb1 el (sv.count S) 0 (wipeD ρ vs) [] S) kAcc S') := P
    rw [M.bind_eq] at P
    have P := P.grow g'
    obtain ⟨R0, b0, z0, m0⟩ := R'.lay (.lst []) hD
    refine ⟨fun i m H => ∃ w1 S1 acc xs, Grow w' w1 ∧ Hold X.gm w1 D0 H S1 xs acc ∧ Post X.gm W σ w1 Q (DL.R.bind (loopCC sv t tb fsrc1 vs1 t1 tb1 el m i (wipeD ρ vs) acc S1) kAcc),
      ⟨_, w', S', [], [], Grow.refl _, ⟨R0, b0, z0, m0, upd_same, .nil⟩, P⟩, ?_⟩
    rintro i m H1 ⟨w1, S1, acc, xs, gg, O, P1⟩
    cases m with
    | zero =>
      unfold loopCC at P1
      cases q : sv.nxt i S1 with
      | none => rw [q] at P1; exact P1.elim
      | some o =>
        rw [q] at P1
        cases o with
        | some d => exact P1.elim
        | none =>
          refine .inl ⟨hJ.stop i w1 H1 S1 gg.d O.r q, ?_⟩
          have P1 : Post X.gm W σ w1 Q (kAcc acc S1) := P1
          unfold kAcc at P1
          cases q2 : asPs acc with
          | none => rw [q2] at P1; exact P1.elim
          | some es =>
            rw [q2] at P1
            obtain ⟨g2, R2⟩ := O.r.freeze O.h O.b O.z O.m
            exact P1 _ _ g2 R2 _ (.lst upd_same (RepPs.mono g2.z _ _ (asPs_rep q2 O.v)))
    | succ m =>
      unfold loopCC at P1
      cases q : sv.nxt i S1 with
      | none => rw [q] at P1; exact P1.elim
      | some o =>
        rw [q] at P1
        cases o with
        | none => exact P1.elim
        | some d =>
          obtain ⟨h1, h2⟩ := hJ.go i w1 H1 S1 d gg.d O.r q
          let Wx : Nat → Nat → Hp → Prop := fun i m H => ∃ w1 S1 acc xs, Grow w' w1 ∧ Hold X.gm w1 D0 H S1 xs acc ∧ Post X.gm W σ w1 Q (DL.R.bind (loopCC sv t tb fsrc1 vs1 t1 tb1 el m i (wipeD ρ vs) acc S1) kAcc)
          refine .inr ⟨h1, Wx (i + 1) m, fun H' q' => ⟨m, Nat.lt_succ_self m, q'⟩, fun x H2 y => ?_⟩
          obtain ⟨h1', h2'⟩ := hJ.go i _ H1 S1 d (show GrowD w' (w1.bk D0 xs) from gg.d.ofB) O.back q
          obtain ⟨w2, g2, R2, V2⟩ := h2' x H2 y
          have E2 : RepE w2 (wipe σ vs) (wipeD ρ vs) := (RepE.wipe E vs).growD (((g'.trans gg).d.ofB (B := (w1.bk D0 xs).B)).trans g2.d)
          refine hg w2 σ (wipeD ρ vs) x d H2 S1 _ R2 E2 V2 ?_
          dsimp only at P1
          cases q2 : t d (wipeD ρ vs) with
          | none => rw [q2] at P1; exact P1.elim
          | some ρ2 =>
            rw [q2] at P1
            intro σ2 Eσ hw
            refine ⟨hw, w2, ρ2, S1, R2, Eσ, ?_⟩
            dsimp only at P1
            cases q3 : tb ρ2 S1 with
            | bad => rw [q3] at P1; exact P1.elim
            | exc x S3 => rw [q3] at P1; exact P1.elim
            | ok b S3 =>
              rw [q3] at P1
              dsimp only [bindN] at P1
              intro w3 H3 g3 R3
              cases b with
              | false =>
                rw [if_neg Bool.false_ne_true] at P1 ⊢
                obtain ⟨gB, OB⟩ := O.fin (g2.trans g3) R3
                exact ⟨_, S3, acc, xs, gg.trans gB, OB, P1.grow gB⟩
              | true =>
                rw [if_pos rfl] at P1 ⊢
                refine ⟨w3, ρ2, S3, R3, Eσ.grow g3, ?_⟩
                cases q4 : fsrc1 ρ2 S3 with
                | bad => rw [q4] at P1; exact P1.elim
                | exc x S4 => rw [q4] at P1; exact P1.elim
                | ok sv1 S4 =>
                  rw [q4] at P1
                  dsimp only at P1
                  intro w4 H4 g4 R4 J1 hJ1
                  obtain ⟨gB, OB⟩ := O.fin ((g2.trans g3).trans g4) R4
                  have E4 : RepE w4 σ2 ρ2 := Eσ.grow (g3.trans g4)
                  have gB4 : GrowD w4 { w4 with B := w1.B } := (Grow.refl w4).d.ofB
                  generalize hwB : ({ w4 with B := w1.B } : Wd) = wB at gB OB gB4
                  refine ⟨fun j k H => ∃ w5 S5 acc5 xs5, Grow wB w5 ∧ Hold X.gm w5 D0 H S5 xs5 acc5 ∧ Post X.gm W σ w5 Q (DL.R.bind (bindN (loopC sv1 t1 tb1 el k j (wipeD ρ2 vs1) acc5 S5) fun acc' S3 => loopCC sv t tb fsrc1 vs1 t1 tb1 el m (i + 1) (wipeD ρ vs) acc' S3) kAcc),
                    ⟨_, wB, S4, acc, xs, Grow.refl _, OB, P1.grow gB⟩, ?_⟩
                  rintro j k H5 ⟨w5, S5, acc5, xs5, g5, O5, P5⟩
                  have gJ : GrowD w4 w5 := gB4.trans g5.d
                  cases k with
                  | zero =>
                    unfold loopC at P5
                    cases q5 : sv1.nxt j S5 with
                    | none => rw [q5] at P5; exact P5.elim
                    | some o =>
                      rw [q5] at P5
                      cases o with
                      | some d => exact P5.elim
                      | none => exact .inl ⟨hJ1.stop j w5 H5 S5 gJ O5.r q5, w5, S5, acc5, xs5, gg.trans (gB.trans g5), O5, P5⟩
                  | succ k =>
                    unfold loopC at P5
                    cases q5 : sv1.nxt j S5 with
                    | none => rw [q5] at P5; exact P5.elim
                    | some o =>
                      rw [q5] at P5
                      cases o with
                      | none => exact P5.elim
                      | some d5 =>
                        obtain ⟨h3, h4⟩ := hJ1.go j w5 H5 S5 d5 gJ O5.r q5
                        let Wy : Nat → Nat → Hp → Prop := fun j k H => ∃ w5 S5 acc5 xs5, Grow wB w5 ∧ Hold X.gm w5 D0 H S5 xs5 acc5 ∧ Post X.gm W σ w5 Q (DL.R.bind (bindN (loopC sv1 t1 tb1 el k j (wipeD ρ2 vs1) acc5 S5) fun acc' S3 => loopCC sv t tb fsrc1 vs1 t1 tb1 el m (i + 1) (wipeD ρ vs) acc' S3) kAcc)
                        refine .inr ⟨h3, Wy (j + 1) k, fun H' q' => ⟨k, Nat.lt_succ_self k, q'⟩, fun x6 H6 y6 => ?_⟩
                        obtain ⟨_, h4'⟩ := hJ1.go j _ H5 S5 d5 (show GrowD w4 (w5.bk D0 xs5) from gJ.ofB) O5.back q5
                        obtain ⟨w6, g6, R6, V6⟩ := h4' x6 H6 y6
                        have E6 : RepE w6 (wipe σ2 vs1) (wipeD ρ2 vs1) := (RepE.wipe E4 vs1).growD ((gJ.ofB (B := (w5.bk D0 xs5).B)).trans g6.d)
                        refine hg1 w6 σ2 (wipeD ρ2 vs1) x6 d5 H6 S5 _ R6 E6 V6 ?_
                        dsimp only at P5
                        cases q6 : t1 d5 (wipeD ρ2 vs1) with
                        | none => rw [q6] at P5; exact P5.elim
                        | some ρ7 =>
                          rw [q6] at P5
                          intro σ7 E7 hw7
                          refine ⟨hw7, w6, ρ7, S5, R6, E7, ?_⟩
                          dsimp only at P5
                          cases q7 : tb1 ρ7 S5 with
                          | bad => rw [q7] at P5; exact P5.elim
                          | exc x S3 => rw [q7] at P5; exact P5.elim
                          | ok b7 S7 =>
                            rw [q7] at P5
                            dsimp only [bindN] at P5
                            intro w7 H7 g7 R7
                            cases b7 with
                            | false =>
                              rw [if_neg Bool.false_ne_true] at P5 ⊢
                              obtain ⟨gC, OC⟩ := O5.fin (g6.trans g7) R7
                              exact ⟨_, S7, acc5, xs5, g5.trans gC, OC, P5.grow gC⟩
                            | true =>
                              rw [if_pos rfl] at P5 ⊢
                              refine ⟨w7, ρ7, S7, R7, E7.grow g7, ?_⟩
                              cases q8 : el ρ7 S7 with
                              | bad => rw [q8] at P5; exact P5.elim
                              | exc x S4 => rw [q8] at P5; exact P5.elim
                              | ok yd S8 =>
                                rw [q8] at P5
                                dsimp only at P5
                                intro w8 H8 g8 R8 yv V8
                                obtain ⟨gC, OC⟩ := O5.fin ((g6.trans g7).trans g8) R8
                                by_cases hl : acc5.length < sizeLine
                                · rw [if_pos hl] at P5
                                  exact ⟨xs5, OC.h, by rw [OC.v.length]; exact hl, _, S8, acc5 ++ [yd], xs5 ++ [yv], g5.trans gC, OC.app (V8.growD ((Grow.refl w8).d.ofB)), P5.grow gC⟩
                                · rw [if_neg hl] at P5
                                  exact P5.elim
theorem de_lc2I {elt tg iter tg1 iter1 : Expr} {ifs ifs1 : List Expr} {scope : Scope} {own : List (Str × Nat)} {ix : List Nat} {pos : Pos} (hc : X.calm = true) (hN : X.N.Nodup) (hi : DI X W tg iter fsrc) (ok : BlkOk X.N X.env.scope scope own) (hv : ∀ i ∈ vs1, i ∈ own.map (·.2))
    (hT : TgC X.gm g t ix) (hg : ∀ (s : Shared) (H : Hp) (C : Addr) (cl : List (Str × Addr)) (fp : List Addr), PG (X.blk s H scope (compEnvC scope cl C X.env) fp) tg g) (ht : ∀ (s : Shared) (H : Hp) (C : Addr) (cl : List (Str × Addr)) (fp : List Addr), PTs (X.blk s H scope (compEnvC scope cl C X.env) fp) ifs (tDT X.gm Wno tb))
    (hi1 : ∀ (s : Shared) (H : Hp) (C : Addr) (cl : List (Str × Addr)) (fp : List Addr), DI (X.blk s H scope (compEnvC scope cl C X.env) fp) Wno tg1 iter1 fsrc1)
    (hT1 : TgC X.gm g1 t1 vs1) (hg1 : ∀ (s : Shared) (H : Hp) (C : Addr) (cl : List (Str × Addr)) (fp : List Addr), PG (X.blk s H scope (compEnvC scope cl C X.env) fp) tg1 g1) (ht1 : ∀ (s : Shared) (H : Hp) (C : Addr) (cl : List (Str × Addr)) (fp : List Addr), PTs (X.blk s H scope (compEnvC scope cl C X.env) fp) ifs1 (tDT X.gm Wno tb1))
    (he : ∀ (s : Shared) (H : Hp) (C : Addr) (cl : List (Str × Addr)) (fp : List Addr), DE (X.blk s H scope (compEnvC scope cl C X.env) fp) Wno elt el) (hx : own.map (·.2) = ix := by rfl) (hs : ∀ x, foldedSetIterable iter X.env x = pure x := by intro _; rfl) (hs1 : ∀ env x, foldedSetIterable iter1 env x = pure x := by intro _ _; rfl) :
    DE X W (.ListComp elt [⟨tg, iter, ifs, 0⟩, ⟨tg1, iter1, ifs1, 0⟩] scope pos) (eLc2 fsrc ix t tb fsrc1 vs1 t1 tb1 el) := by
  subst hx
  exact (pe_lc2 hc hN hi ok hv hg ht hi1 hg1 ht1 he hs hs1).imp fun σ H Q h => tLc2_of hT hT1 h
theorem ds_setLc2I {i : Nat} {y : Str} {py : Pos} {elt tg iter tg1 iter1 : Expr} {ifs ifs1 : List Expr} {scope : Scope} {own : List (Str × Nat)} {ix : List Nat} {pos spos : Pos} (hc : X.calm = true) (hN : X.N.Nodup) (hy : X.N[i]? = some y) (hyl : X.env.scope.names.lookup y = some .local)
    (hsw : swapsWith (.ListComp elt [⟨tg, iter, ifs, 0⟩, ⟨tg1, iter1, ifs1, 0⟩] scope pos) (some (.Name y py)) spos.line X.env = pure true) (hi : DI X W tg iter fsrc) (ok : BlkOk X.N X.env.scope scope own) (hv : ∀ i ∈ vs1, i ∈ own.map (·.2))
    (hT : TgC X.gm g t ix) (hg : ∀ (s : Shared) (H : Hp) (C : Addr) (cl : List (Str × Addr)) (fp : List Addr), PG (X.blk s H scope (compEnvC scope cl C X.env) fp) tg g) (ht : ∀ (s : Shared) (H : Hp) (C : Addr) (cl : List (Str × Addr)) (fp : List Addr), PTs (X.blk s H scope (compEnvC scope cl C X.env) fp) ifs (tDT X.gm Wno tb))
    (hi1 : ∀ (s : Shared) (H : Hp) (C : Addr) (cl : List (Str × Addr)) (fp : List Addr), DI (X.blk s H scope (compEnvC scope cl C X.env) fp) Wno tg1 iter1 fsrc1)
    (hT1 : TgC X.gm g1 t1 vs1) (hg1 : ∀ (s : Shared) (H : Hp) (C : Addr) (cl : List (Str × Addr)) (fp : List Addr), PG (X.blk s H scope (compEnvC scope cl C X.env) fp) tg1 g1) (ht1 : ∀ (s : Shared) (H : Hp) (C : Addr) (cl : List (Str × Addr)) (fp : List Addr), PTs (X.blk s H scope (compEnvC scope cl C X.env) fp) ifs1 (tDT X.gm Wno tb1))
    (he : ∀ (s : Shared) (H : Hp) (C : Addr) (cl : List (Str × Addr)) (fp : List Addr), DE (X.blk s H scope (compEnvC scope cl C X.env) fp) Wno elt el) (hx : own.map (·.2) = ix := by rfl) (hs : ∀ x, foldedSetIterable iter X.env x = pure x := by intro _; rfl) (hs1 : ∀ env x, foldedSetIterable iter1 env x = pure x := by intro _ _; rfl) :
    DS X W (.Assign [.Name y py] (.ListComp elt [⟨tg, iter, ifs, 0⟩, ⟨tg1, iter1, ifs1, 0⟩] scope pos) spos) (sSet i (eLc2 fsrc ix t tb fsrc1 vs1 t1 tb1 el)) := by
  subst hx
  exact (ps_setLc2 hc hN hy hyl hsw hi ok hv hg ht hi1 hg1 ht1 he hs hs1).imp fun En σ H ⟨w, ρ, S, R, E, P⟩ => by
    refine tLc2_of (W := W) (fsrc := fsrc) (t := t) (tb := tb) (fsrc1 := fsrc1) (vs1 := vs1) (t1 := t1) (tb1 := tb1) (el := el) hT hT1 ?_
    exact stepES R E P fun v w1 H1 S1 d g1 R1 E1 V1 P1 => P1 _ w1 H1 (Grow.refl _) R1 (E1.set i V1)
end
/-! ### max, min of a list of ints -/
def big (a : Int) : List Int → Int
  | [] => a
  | b :: r => big (if a < b then b else a) r
def small (a : Int) : List Int → Int
  | [] => a
  | b :: r => small (if b < a then b else a) r
theorem big_mem : ∀ (r : List Int) (a : Int), big a r ∈ a :: r
  | [], a => by simp [big]
  | b :: r, a => by
    have h := big_mem r (if a < b then b else a)
    simp only [big, List.mem_cons] at h ⊢
    split at h <;> rename_i q <;> simp only [q, if_true, if_false] <;> rcases h with h | h <;> simp [h]
theorem le_big : ∀ (r : List Int) (a : Int), ∀ y ∈ a :: r, y ≤ big a r
  | [], a => by simp [big]
  | b :: r, a => by
    intro y hy
    have h := le_big r (if a < b then b else a)
    simp only [big, List.mem_cons] at hy h ⊢
    have h0 := h _ (.inl rfl)
    rcases hy with rfl | rfl | hy
    · split at h0 <;> rename_i q <;> simp only [q, if_true, if_false] <;> omega
    · split at h0 <;> rename_i q <;> simp only [q, if_true, if_false] <;> omega
    · exact h _ (.inr hy)
theorem small_mem : ∀ (r : List Int) (a : Int), small a r ∈ a :: r
  | [], a => by simp [small]
  | b :: r, a => by
    have h := small_mem r (if b < a then b else a)
    simp only [small, List.mem_cons] at h ⊢
    split at h <;> rename_i q <;> simp only [q, if_true, if_false] <;> rcases h with h | h <;> simp [h]
theorem small_le : ∀ (r : List Int) (a : Int), ∀ y ∈ a :: r, small a r ≤ y
  | [], a => by simp [small]
  | b :: r, a => by
    intro y hy
    have h := small_le r (if b < a then b else a)
    simp only [small, List.mem_cons] at hy h ⊢
    have h0 := h _ (.inl rfl)
    rcases hy with rfl | rfl | hy
    · split at h0 <;> rename_i q <;> simp only [q, if_true, if_false] <;> omega
    · split at h0 <;> rename_i q <;> simp only [q, if_true, if_false] <;> omega
    · exact h _ (.inr hy)
def maxI : List Int → Option Int
  | [] => none
  | n :: ns => some (big n ns)
def minI : List Int → Option Int
  | [] => none
  | n :: ns => some (small n ns)
def fMaxL : D → M D := fun x S => ofO S ((items S x).bind fun ds => (asInts ds).bind fun ns => (maxI ns).map fun i => .p (.int i))
def fMinL : D → M D := fun x S => ofO S ((items S x).bind fun ds => (asInts ds).bind fun ns => (minI ns).map fun i => .p (.int i))
section
variable {X : Cx} {W : WX} {e : Expr} {f : Fe} {pos : Pos}
theorem ok_maxL : C1ok X (rMax X.K) (on1 fMaxL) := ok_on1 fun w H S x d W σ Q R v P => by
  unfold fMaxL at P
  cases q : items S d with
  | none => rw [q] at P; exact P.elim
  | some ds =>
    rw [q] at P
    dsimp only [Option.bind] at P
    cases q2 : asInts ds with
    | none => rw [q2] at P; exact P.elim
    | some es =>
      rw [q2] at P
      dsimp only at P
      cases es with
      | nil => exact P.elim
      | cons n ns =>
        obtain ⟨a, xs, rfl, hs, r⟩ := items_sq R v q
        rw [asInts_rep q2 r] at hs
        refine ⟨a, n :: ns, rfl, hs, Nat.succ_pos _, fun m hm hle => ?_⟩
        have e : m = big n ns := Int.le_antisymm (le_big ns n m hm) (hle _ (big_mem ns n))
        subst e
        exact Post.here R P (.int _)
theorem ok_minL : C1ok X (rMin X.K) (on1 fMinL) := ok_on1 fun w H S x d W σ Q R v P => by
  unfold fMinL at P
  cases q : items S d with
  | none => rw [q] at P; exact P.elim
  | some ds =>
    rw [q] at P
    dsimp only [Option.bind] at P
    cases q2 : asInts ds with
    | none => rw [q2] at P; exact P.elim
    | some es =>
      rw [q2] at P
      dsimp only at P
      cases es with
      | nil => exact P.elim
      | cons n ns =>
        obtain ⟨a, xs, rfl, hs, r⟩ := items_sq R v q
        rw [asInts_rep q2 r] at hs
        refine ⟨a, n :: ns, rfl, hs, Nat.succ_pos _, fun m hm hle => ?_⟩
        have e : m = small n ns := Int.le_antisymm (hle _ (small_mem ns n)) (small_le ns n m hm)
        subst e
        exact Post.here R P (.int _)
theorem de_maxL {p : Pos} (hg : Gl X "max") (hm : X.mg "max" = none) (hc : X.calm = true) (ha : DE X W e f) (he : starEach [e] X.env = (false, eval e X.env) :: starEach [] X.env := by rfl) (hpl : (backTo pos (starEach [] X.env)).any (·.1) = false := by rfl) :
    DE X W (.Call (.Name "max" p) [e] [] pos) (eCB (on1 fMaxL) (aCons f aNil)) := de_callB (cr_max hc) ok_maxL hg hm PyProof.Rows.boot_max (da_cons ha da_nil he) (by decide) (by decide) he hpl
theorem de_minL {p : Pos} (hg : Gl X "min") (hm : X.mg "min" = none) (hc : X.calm = true) (ha : DE X W e f) (he : starEach [e] X.env = (false, eval e X.env) :: starEach [] X.env := by rfl) (hpl : (backTo pos (starEach [] X.env)).any (·.1) = false := by rfl) :
    DE X W (.Call (.Name "min" p) [e] [] pos) (eCB (on1 fMinL) (aCons f aNil)) := de_callB (cr_min hc) ok_minL hg hm PyProof.Rows.boot_min (da_cons ha da_nil he) (by decide) (by decide) he hpl
end
end DL
set_option Elab.async false
set_option linter.all false
set_option maxRecDepth 100000
set_option maxHeartbeats 4000000
namespace DL
open PySem PySem.Spec L2
/-! ### sorted of pairs of small numbers -/
abbrev pairD (e : Int × Int) : PyData := .tuple [.int e.1, .int e.2]
def pcode (e : Int × Int) : Int := e.1 * 1000 + e.2
def asPairs : List D → Option (List (Int × Int))
  | [] => some []
  | .p (.tuple [.int a, .int b]) :: r => if (0 ≤ a ∧ a < 1000) ∧ 0 ≤ b ∧ b < 1000 then (asPairs r).map ((a, b) :: ·) else none
  | _ :: _ => none
def sortE (es : List (Int × Int)) : List (Int × Int) := es.mergeSort fun a b => decide (pcode a ≤ pcode b)
def fSort2 : D → M D := fun x S => ofO S ((items S x).bind fun ds => (asPairs ds).bind fun es => if es.length < 64 then some (.p (.list ((sortE es).map pairD))) else none)
theorem paired_perm {α β : Type} {P : α → β → Prop} {xs ys : List α} (h : ys.Perm xs) : ∀ {ds : List β}, Paired P xs ds → ∃ es : List β, es.Perm ds ∧ Paired P ys es := by
  induction h with
  | nil => intro ds p; exact ⟨ds, .refl _, p⟩
  | cons x h ih =>
    intro ds p
    cases p with
    | cons p1 p2 =>
      obtain ⟨es, h1, h2⟩ := ih p2
      exact ⟨_ :: es, h1.cons _, .cons p1 h2⟩
  | swap x y l =>
    intro ds p
    cases p with
    | cons p1 p2 =>
      cases p2 with
      | cons p3 p4 => exact ⟨_, List.Perm.swap _ _ _, .cons p3 (.cons p1 p4)⟩
  | trans h1 h2 ih1 ih2 =>
    intro ds p
    obtain ⟨es, e1, e2⟩ := ih2 p
    obtain ⟨fs, f1, f2⟩ := ih1 e2
    exact ⟨fs, f1.trans e1, f2⟩
theorem paired_mem {α β : Type} {P : α → β → Prop} : ∀ {xs : List α} {ds : List β}, Paired P xs ds → ∀ x ∈ xs, ∃ d ∈ ds, P x d
  | [], _, _, x, hx => by cases hx
  | _ :: _, _, .cons p1 p2, x, hx => by
    rcases List.mem_cons.mp hx with rfl | hx
    · exact ⟨_, by simp, p1⟩
    · obtain ⟨d, hd, h⟩ := paired_mem p2 x hx
      exact ⟨d, by simp [hd], h⟩
theorem paired_mem2 {α β : Type} {P : α → β → Prop} : ∀ {xs : List α} {ds : List β}, Paired P xs ds → ∀ d ∈ ds, ∃ x ∈ xs, P x d
  | _, [], _, d, hd => by cases hd
  | _, _ :: _, .cons p1 p2, d, hd => by
    rcases List.mem_cons.mp hd with rfl | hd
    · exact ⟨_, by simp, p1⟩
    · obtain ⟨x, hx, h⟩ := paired_mem2 p2 d hd
      exact ⟨x, by simp [hx], h⟩
theorem paired_pair {α β : Type} {P : α → β → Prop} {R : α → α → Prop} {R' : β → β → Prop} (h : ∀ a b c d, P a c → P b d → R a b → R' c d) : ∀ {xs : List α} {ds : List β}, Paired P xs ds → xs.Pairwise R → ds.Pairwise R'
  | [], _, .nil, _ => List.Pairwise.nil
  | _ :: _, _, .cons p1 p2, q => by
    have q := List.pairwise_cons.mp q
    refine List.pairwise_cons.mpr ⟨fun d hd => ?_, paired_pair h p2 q.2⟩
    obtain ⟨x, hx, hp⟩ := paired_mem2 p2 d hd
    exact h _ _ _ _ p1 hp (q.1 x hx)
theorem asPairs_rep {w : Wd} : ∀ {ds : List D} {es : List (Int × Int)} {vs : List V}, asPairs ds = some es → RepVs w vs ds → Paired (fun v e => RepP w.Z v (pairD e) ∧ (0 ≤ e.1 ∧ e.1 < 1000) ∧ 0 ≤ e.2 ∧ e.2 < 1000) vs es
  | [], es, vs, h, r => by cases h; cases r; exact .nil
  | d :: ds, es, vs, h, r => by
    unfold asPairs at h
    split at h
    · cases ‹_ :: _ = []›
    · rename_i a b r' heq
      cases heq
      split at h
      · rename_i hb
        obtain ⟨ms, q, e⟩ := Option.map_eq_some_iff.mp h
        subst e
        cases r with
        | cons r1 r2 => exact .cons ⟨r1, hb⟩ (asPairs_rep q r2)
      · cases h
    · cases h
theorem Paired.toRepPs {w : Wd} : ∀ {vs : List V} {es : List (Int × Int)}, Paired (fun v e => RepP w.Z v (pairD e) ∧ (0 ≤ e.1 ∧ e.1 < 1000) ∧ 0 ≤ e.2 ∧ e.2 < 1000) vs es → RepPs w.Z vs (es.map pairD)
  | [], _, .nil => .nil
  | _ :: _, _, .cons p1 p2 => .cons p1.1 (Paired.toRepPs p2)
theorem pcode_inj {a b : Int × Int} (ha : (0 ≤ a.1 ∧ a.1 < 1000) ∧ 0 ≤ a.2 ∧ a.2 < 1000) (hb : (0 ≤ b.1 ∧ b.1 < 1000) ∧ 0 ≤ b.2 ∧ b.2 < 1000) (h : pcode a = pcode b) : a = b := by
  unfold pcode at h
  have : a.1 = b.1 := by omega
  have : a.2 = b.2 := by omega
  exact Prod.ext ‹_› ‹_›
theorem sortE_pair (es : List (Int × Int)) : (sortE es).Pairwise fun a b => pcode a ≤ pcode b := by
  have := List.pairwise_mergeSort (le := fun (a b : Int × Int) => decide (pcode a ≤ pcode b)) (fun a b c h1 h2 => by simp at *; omega) (fun a b => by simp; omega) es
  exact this.imp (fun h => by simpa using h)
theorem sortE_perm (es : List (Int × Int)) : (sortE es).Perm es := List.mergeSort_perm _ _
section
variable {X : Cx} {W : WX} {e : Expr} {f : Fe} {pos : Pos}
theorem tupI_of {w : Wd} {H : Hp} {S : Store} {x : V} {a b : Int} (R : Rep X.gm w H S) (r : RepP w.Z x (.tuple [.int a, .int b])) : TupI X.K H x [a, b] := by
  cases r with
  | tup hx rx =>
    match rx with
    | .cons r1 (.cons r2 .nil) =>
      cases r1; cases r2
      exact ⟨_, rfl, SqT.of (R.same _ _ hx)⟩
theorem ok_sort2 : C1ok X (rSortU X.K 2 1000) (on1 fSort2) := ok_on1 fun w H S x d W σ Q R v P => by
  unfold fSort2 at P
  cases q : items S d with
  | none => rw [q] at P; exact P.elim
  | some ds =>
    rw [q] at P
    dsimp only [Option.bind] at P
    cases q2 : asPairs ds with
    | none => rw [q2] at P; exact P.elim
    | some es =>
      rw [q2] at P
      dsimp only at P
      by_cases hl : es.length < 64
      · rw [if_pos hl] at P
        obtain ⟨a, xs, rfl, hs, r⟩ := items_sq R v q
        have pr := asPairs_rep q2 r
        have len : xs.length = es.length := Paired.length pr
        refine ⟨a, xs, rfl, hs, by omega, fun x hx => ?_, fun ys p hp hsort hn => ?_⟩
        · obtain ⟨e, he, h1, h2⟩ := paired_mem pr x hx
          exact ⟨[e.1, e.2], tupI_of R h1, rfl, fun m hm => by
            simp only [List.mem_cons, List.not_mem_nil, or_false] at hm
            rcases hm with rfl | rfl
            · exact h2.1
            · exact h2.2⟩
        · obtain ⟨es', hp', pr'⟩ := paired_perm hp pr
          have so : es'.Pairwise fun a b => pcode a ≤ pcode b := paired_pair (fun x y c d hc hd h => by
            have := h _ _ (tupI_of R hc.1) (tupI_of R hd.1)
            simp only [TS.code, List.length_cons, List.length_nil] at this
            unfold pcode
            omega) pr' hsort
          have bd : ∀ e ∈ es', (0 ≤ e.1 ∧ e.1 < 1000) ∧ 0 ≤ e.2 ∧ e.2 < 1000 := fun e he => by
            obtain ⟨x, _, h⟩ := paired_mem2 pr' e he
            exact h.2
          have eq : es' = sortE es := List.Perm.eq_of_pairwise (le := fun a b => pcode a ≤ pcode b) (fun a b ha hb h1 h2 => pcode_inj (bd a ha) (bd b ((hp'.trans (sortE_perm es).symm).symm.mem_iff.mp hb)) (Int.le_antisymm h1 h2)) so (sortE_pair es) (hp'.trans (sortE_perm es).symm)
          subst eq
          exact Post.newLst R P (Paired.toRepPs pr') hn
      · rw [if_neg hl] at P; exact P.elim
theorem de_sort2 {p : Pos} (hg : Gl X "sorted") (hm : X.mg "sorted" = none) (hc : X.calm = true) (ha : DE X W e f) (he : starEach [e] X.env = (false, eval e X.env) :: starEach [] X.env := by rfl) (hpl : (backTo pos (starEach [] X.env)).any (·.1) = false := by rfl) :
    DE X W (.Call (.Name "sorted" p) [e] [] pos) (eCB (on1 fSort2) (aCons f aNil)) := de_callB (cr_sortT (by decide)) ok_sort2 hg hm PyProof.Rows.boot_sorted (da_cons ha da_nil he) (by decide) (by decide) he hpl
end
end DL
set_option Elab.async false
set_option linter.all false
set_option maxRecDepth 100000
set_option maxHeartbeats 4000000
namespace DL
open PySem PySem.Spec L2 PyProof.Rows
/-! ### x == y by an own __eq__ -/
structure EqC (K : PySem.W.Frag) (C : Addr) : Prop where
  tup : PySem.W.subIn K (.type "tuple") (.ref C) = some false
abbrev E00 : XK := fun _ _ _ => False
def TyQ (H : Hp) (C : Addr) (y : V) (tb : Value) : Prop := (∃ b dy gs, y = .ref b ∧ H b = some (.ins C dy gs) ∧ tb = .ref C) ∨ (∃ b ys, y = .ref b ∧ H b = some (.tup ys) ∧ tb = .type "tuple")
def rEqO (X : Cx) (C : Addr) (F : List D → M D) : R2 := fun x y H Q => ∃ a dx fs tb, x = .ref a ∧ H a = some (.ins C dx fs) ∧ TyQ H C y tb ∧ PySem.W.notFirst X.K C tb = true ∧ spD X.gm F [x, y] H (fun v H' => (∃ b, v = .bl b) ∧ Q v H') E00
section
variable {X : Cx} {W : WX} {e1 e2 : Expr} {f g : Fe} {pos : Pos} {lv : Nat} {C : Addr} {F : List D → M D} {ps : List Str}
theorem op_eqO (M : MethOk X.prog X.w X.K X.mg X.base C "__eq__" ps lv F) (hr : Room lv X.A) : OpR X (compareOp .Eq) (rEqO X C F) := by
  obtain ⟨fa, fd, hs, hf, hkp, hb, FN⟩ := M.ex
  intro pins s σ H x y v u Q I rx ry hq
  obtain ⟨a, dx, fs, tb, rfl, ha, hy, hn, hsp⟩ := hq
  show wpAny (model X.prog X.w) X.A (richCompare .Eq v u) (EP X pins σ Q) X.xe s
  cases (show v = Value.ref a from rx)
  obtain ⟨mA, J, _⟩ := ins_get I.hok ha
  obtain ⟨od, J, _⟩ := J.look
  obtain ⟨m, hF⟩ := I.fr
  have look : PySem.W.Looks (model X.prog X.w) s.heap (typeOf u) tb := by
    rcases hy with ⟨b, dy, gs, rfl, hb', rfl⟩ | ⟨b, ys, rfl, hb', rfl⟩
    · cases (show u = Value.ref b from ry)
      obtain ⟨mB, J', _⟩ := ins_get I.hok hb'
      obtain ⟨od', J', _⟩ := J'.look
      exact J'.type
    · cases (show u = Value.ref b from ry)
      obtain ⟨_, _, _, o, h1, h2, _⟩ := (show ObjOk X.prog X.w H s.heap b (.tup ys) from I.hok b _ hb')
      exact h2 ▸ (PySem.W.Looks.ld h1).andThen .now
  refine PySem.W.cmp_K (op := .Eq) (tb := tb) hr.units0 hF I.ok.mod.kin J look hn hs hf ?_
  have e0 : Env0 X.prog X.w X.K X.mg X.base X.A X.stack s H := I.env0
  have hl := FN.len _ _ _ _ hsp
  have r2 : Vals [V.ref a, y] [Value.ref a, u] := .cons rfl (.cons ry .nil)
  refine wpAny_call (codeAny_mono (FN.run X.A X.stack s H ⟨[.ref a, u], []⟩ [.ref a, u] [.ref a, y] _ E00 hr e0 (by
    have := hb s [.ref a, u] I.kIn (by simpa using hl)
    simpa using this) r2 hsp) fun r s' hq => ?_)
  cases r with
  | error e => obtain ⟨_, _, _, _, _, _, _, _, _, _, _, _, z⟩ := hq; exact z.elim
  | ok fl =>
    cases fl with
    | ret w =>
      obtain ⟨z, H', I', rz, ⟨b, ez⟩, ex⟩ := I.after hq
      subst ez
      cases (show w = Value.bool b from rz)
      exact ⟨.bl b, H', I', rfl, ex⟩
    | next => exact False.elim hq
    | brk => exact False.elim hq
    | cont => exact False.elim hq
/-- is it of the class -/
def ofC (c : Str) (S : Store) : D → Bool
  | .o i => match insAt S i with
    | some p => p.1 == c
    | none => false
  | _ => false
def isTupQ : D → Bool
  | .p (.tuple _) => true
  | _ => false
def onlyB : R D → R D
  | .ok (.p (.bool b)) S => .ok (.p (.bool b)) S
  | _ => .bad
def fEqO (c : Str) (F : List D → M D) : D → D → M D := fun x y S => if ofC c S x = true ∧ (ofC c S y = true ∨ isTupQ y = true) then onlyB (F [x, y] S) else .bad
theorem ofC_ins {w : Wd} {H : Hp} {S : Store} {x : V} {d : D} {c : Str} (hm : X.mg c = some (.ref C)) (R : Rep X.gm w H S) (v : RepV w x d) (h : ofC c S d = true) : ∃ a dx fs, x = .ref a ∧ H a = some (.ins C dx fs) := by
  cases d with
  | p d => cases h
  | s ns => cases h
  | o i =>
    unfold ofC at h
    dsimp only at h
    split at h
    · rename_i p q
      have hc : p.1 = c := by simpa using h
      obtain ⟨a, ha, rfl⟩ := v
      obtain ⟨oo, ho, r⟩ := R.at_ ha (insAt_some q)
      obtain ⟨C', dx, xs, rfl, hmg, rf⟩ := r.ins_inv
      have hmg : X.mg p.1 = some (.ref C') := hmg
      rw [hc, hm] at hmg
      cases hmg
      exact ⟨a, dx, xs, rfl, ho⟩
    · cases h
theorem ok_eqO {c : Str} (hm : X.mg c = some (.ref C)) (q : EqC X.K C) : R2ok X (rEqO X C F) (fEqO c F) := fun w H S x y dx dy W σ Q R vx vy P => by
  unfold fEqO at P
  split at P
  · rename_i h
    obtain ⟨a, dxa, fs, rfl, ha⟩ := ofC_ins hm R vx h.1
    have hy : ∃ tb, TyQ H C y tb ∧ PySem.W.notFirst X.K C tb = true := by
      rcases h.2 with h2 | h2
      · obtain ⟨b, dyb, gs, rfl, hb⟩ := ofC_ins hm R vy h2
        exact ⟨.ref C, .inl ⟨b, dyb, gs, rfl, hb, rfl⟩, by simp [PySem.W.notFirst]⟩
      · cases dy with
        | p d =>
          cases d with
          | tuple ds =>
            have vy := vy.cases_p
            cases vy with
            | tup h3 h4 => exact ⟨.type "tuple", .inr ⟨_, _, rfl, R.same _ _ h3, rfl⟩, by simp [PySem.W.notFirst, q.tup]⟩
          | _ => cases h2
        | o i => cases h2
        | s ns => cases h2
    obtain ⟨tb, h3, h4⟩ := hy
    refine ⟨a, dxa, fs, tb, rfl, ha, h3, h4, w, [dx, dy], S, R, .cons vx (.cons vy .nil), ?_⟩
    cases r : F [dx, dy] S with
    | bad => rw [r] at P; exact P.elim
    | exc z S4 => rw [r] at P; exact P.elim
    | ok d S4 =>
      rw [r] at P
      cases d with
      | p d =>
        cases d with
        | bool b =>
          intro w' H' g' R' v V
          cases V.cases_p
          exact ⟨⟨b, rfl⟩, P w' H' g' R' _ (.bl b)⟩
        | _ => exact P.elim
      | o i => exact P.elim
      | s ns => exact P.elim
  · exact P.elim
theorem de_eqO {c : Str} (hm : X.mg c = some (.ref C)) (q : EqC X.K C) (M : MethOk X.prog X.w X.K X.mg X.base C "__eq__" ps lv F) (hr : Room lv X.A) (ha : DE X W e1 f) (hb : DE X W e2 g) : DE X W (.Compare e1 [.Eq] [e2] pos) (eBin (fEqO c F) f g) := de_cmp (op_eqO M hr) (ok_eqO hm q) ha hb (nomark _)
theorem dt_eqO {c : Str} (hm : X.mg c = some (.ref C)) (q : EqC X.K C) (M : MethOk X.prog X.w X.K X.mg X.base C "__eq__" ps lv F) (hr : Room lv X.A) (ha : DE X W e1 f) (hb : DE X W e2 g) : DT X W (.Compare e1 [.Eq] [e2] pos) (eT (eBin (fEqO c F) f g)) := dt_cmp (op_eqO M hr) (ok_eqO hm q) ha hb (nomark _)
end
end DL
set_option Elab.async false
set_option linter.all false
set_option maxRecDepth 100000
set_option maxHeartbeats 4000000
namespace DL
open PySem PySem.Spec PyProof.Rows L2
/-! ### >= of integers or of tuples of integers -/
def lexGe : List Int → List Int → Bool
  | [], [] => true
  | [], _ :: _ => false
  | _ :: _, [] => true
  | a :: as, b :: bs => if a = b then lexGe as bs else decide (a ≥ b)
theorem lexGe_not : ∀ (xs ys : List Int), lexGe xs ys = !lexLt xs ys
  | [], [] => rfl
  | [], _ :: _ => rfl
  | _ :: _, [] => rfl
  | a :: as, b :: bs => by
    unfold lexGe lexLt
    by_cases h : a = b
    · simp [h, lexGe_not as bs]
    · simp [h]
      by_cases h2 : a < b
      · have : ¬ b ≤ a := by omega
        simp [h2, this]
      · have : b ≤ a := by omega
        simp [h2, this]
def fGeD : D → D → M D
  | .p (.int i), .p (.int j) => M.pure (.p (.bool (decide (j ≤ i))))
  | .p (.tuple xs), .p (.tuple ys) => fun S => match asIP xs, asIP ys with
    | some a, some b => .ok (.p (.bool (!lexLt a b))) S
    | _, _ => .bad
  | _, _ => M.bad
theorem lexAtG_eq : ∀ (xs ys : List Int) (e r : Nat → Bool) (i : Nat), (∀ j (h1 : j < xs.length) (h2 : j < ys.length), e (i + j) = decide (xs[j] = ys[j])) → (∀ j (h1 : j < xs.length) (h2 : j < ys.length), r (i + j) = decide (xs[j] ≥ ys[j])) →
    Ob.lexAt e r (decide (xs.length ≥ ys.length)) i (min xs.length ys.length) = lexGe xs ys
  | [], [], _, _, _, _, _ => by simp [Ob.lexAt, lexGe]
  | [], _ :: _, _, _, _, _, _ => by simp [Ob.lexAt, lexGe]
  | _ :: _, [], _, _, _, _, _ => by simp [Ob.lexAt, lexGe]
  | a :: as, b :: bs, e, r, i, he, hr => by
    have h0 := he 0 (by simp) (by simp)
    have h1 := hr 0 (by simp) (by simp)
    simp only [Nat.add_zero, List.getElem_cons_zero] at h0 h1
    have em : min (a :: as).length (b :: bs).length = min as.length bs.length + 1 := by simp
    have el : decide ((a :: as).length ≥ (b :: bs).length) = decide (as.length ≥ bs.length) := by simp
    rw [em, el, Ob.lexAt, h0]
    have ih := lexAtG_eq as bs e r (i + 1) (fun j h1 h2 => by
      have := he (j + 1) (by simp; omega) (by simp; omega)
      simpa [Nat.add_assoc, Nat.add_comm 1] using this) (fun j h1 h2 => by
      have := hr (j + 1) (by simp; omega) (by simp; omega)
      simpa [Nat.add_assoc, Nat.add_comm 1] using this)
    by_cases hab : a = b
    · rw [if_pos (by simp [hab]), ih]; simp [lexGe, hab]
    · rw [if_neg (by simp [hab]), h1]; simp [lexGe, hab]
def rTupGe (K : PySem.W.Frag) : R2 := fun x y H Q => ∃ a b xs ys, x = .ref a ∧ y = .ref b ∧ SqT K H a (List.map V.int xs) ∧ SqT K H b (List.map V.int ys) ∧ Q (.bl (lexGe xs ys)) H
theorem op_tupGe {X : Cx} (hu : X.A.units + 64 < cLine) : OpR X (compareOp .GtE) (rTupGe X.K) := by
  intro pins s σ H x y v u Q I rx ry h
  obtain ⟨a, b, xs, ys, rfl, rfl, h1, h2, q⟩ := h
  cases rx
  cases ry
  obtain ⟨its, r1, ⟨o1, e1, c1, n1, d1⟩, _⟩ := I.tuple h1
  obtain ⟨its2, r2, ⟨o2, e2, c2, n2, d2⟩, _⟩ := I.tuple h2
  obtain ⟨l1, v1⟩ := Vals.ints r1
  obtain ⟨l2, v2⟩ := Vals.ints r2
  have t1 : s.heap.IsTuple a its.toArray := ⟨o1, e1, c1, n1, d1⟩
  have t2 : s.heap.IsTuple b its2.toArray := ⟨o2, e2, c2, n2, d2⟩
  have hu' : X.A.units < cLine := by omega
  have he : ∀ j (h1 : j < its.toArray.size) (h2 : j < its2.toArray.size), SeqAt.EqAt X.A.in1 s its.toArray[j] its2.toArray[j] ((fun j => decide (xs.getD j 0 = ys.getD j 0)) j) := fun j h1 h2 => by
    simp only [List.size_toArray] at h1 h2
    obtain ⟨t, e1⟩ := v1 j (by omega) h1
    obtain ⟨t', e2⟩ := v2 j (by omega) h2
    simp only [List.getElem_toArray, e1, e2]
    have a1 : xs.getD j 0 = xs[j]'(by omega) := by simp [show j < xs.length by omega]
    have a2 : ys.getD j 0 = ys[j]'(by omega) := by simp [show j < ys.length by omega]
    rw [a1, a2]
    have e : decide (xs[j]'(by omega) = ys[j]'(by omega)) = (xs[j]'(by omega) == ys[j]'(by omega)) := by
      by_cases h : xs[j]'(by omega) = ys[j]'(by omega) <;> simp [h]
    rw [e]
    exact SeqAt.EqAt.int_int _ _ _ _
  have hr : ∀ j (h1 : j < its.toArray.size) (h2 : j < its2.toArray.size), (fun j => decide (xs.getD j 0 = ys.getD j 0)) j = false → Ob.RcOp .GtE X.A.in1 s its.toArray[j] its2.toArray[j] ((fun j => decide (xs.getD j 0 ≥ ys.getD j 0)) j) := fun j h1 h2 _ => by
    simp only [List.size_toArray] at h1 h2
    obtain ⟨t, e1⟩ := v1 j (by omega) h1
    obtain ⟨t', e2⟩ := v2 j (by omega) h2
    simp only [List.getElem_toArray, e1, e2]
    have a1 : xs.getD j 0 = xs[j]'(by omega) := by simp [show j < xs.length by omega]
    have a2 : ys.getD j 0 = ys[j]'(by omega) := by simp [show j < ys.length by omega]
    rw [a1, a2]
    exact Ob.RcOp.ge_int _ _ _ _
  have R := Ob.RcOp.tuples_ge t1 t2 hu' he hr
  have ex : Ob.lexAt (fun j => decide (xs.getD j 0 = ys.getD j 0)) (fun j => decide (xs.getD j 0 ≥ ys.getD j 0)) (decide (its.toArray.size ≥ its2.toArray.size)) 0 (min its.toArray.size its2.toArray.size) = lexGe xs ys := by
    simp only [List.size_toArray]
    rw [l1, l2]
    refine lexAtG_eq xs ys _ _ 0 (fun j h1 h2 => ?_) (fun j h1 h2 => ?_)
    · simp [h1, h2]
    · simp [h1, h2]
  rw [ex] at R
  exact R _ _ _ _ ⟨.bl _, H, I, rfl, q⟩
def rGeD (K : PySem.W.Frag) : R2 := fun x y H Q => (rI0 fun i j => .bl (decide (j ≤ i))) x y H Q ∨ rTupGe K x y H Q
section
variable {X : Cx} {W : WX} {a b : Expr} {f g : Fe} {pos : Pos}
theorem op_geD (hu : X.A.units + 64 < cLine) : OpR X (compareOp .GtE) (rGeD X.K) := op_ge.or (op_tupGe hu)
theorem ok_geD : R2ok X (rGeD X.K) fGeD := by
  intro w H S x y dx dy W σ Q R vx vy P
  unfold fGeD at P
  split at P
  · cases vx.cases_p; cases vy.cases_p
    exact .inl ⟨_, _, rfl, rfl, Post.here R P (.bl _)⟩
  · rename_i ds es
    cases ha : asIP ds with
    | none => rw [ha] at P; exact P.elim
    | some ns =>
      cases hb : asIP es with
      | none => rw [ha, hb] at P; exact P.elim
      | some ms =>
        rw [ha, hb] at P
        have vx := vx.cases_p
        have vy := vy.cases_p
        cases vx with | tup hx rx =>
        cases vy with | tup hy ry =>
        have e1 := asIP_rep ha rx
        have e2 := asIP_rep hb ry
        subst e1 e2
        have P : Post X.gm W σ w Q (.ok (.p (.bool (!lexLt ns ms))) S) := P
        exact .inr ⟨_, _, ns, ms, rfl, rfl, SqT.of (R.same _ _ hx), SqT.of (R.same _ _ hy), by rw [lexGe_not]; exact Post.here R P (.bl _)⟩
  · exact P.elim
theorem de_geD (hu : X.A.units + 64 < cLine) (ha : DE X W a f) (hb : DE X W b g) : DE X W (.Compare a [.GtE] [b] pos) (eBin fGeD f g) := de_cmp (op_geD hu) ok_geD ha hb (nomark _)
theorem dt_geD (hu : X.A.units + 64 < cLine) (ha : DE X W a f) (hb : DE X W b g) : DT X W (.Compare a [.GtE] [b] pos) (eT (eBin fGeD f g)) := dt_cmp (op_geD hu) ok_geD ha hb (nomark _)
end
end DL
set_option Elab.async false
set_option linter.all false
set_option maxRecDepth 100000
set_option maxHeartbeats 4000000
namespace DL
open PySem PySem.Spec L2 PyProof.Rows
/-! ### tuple * 1: the same one -/
theorem tuple_mul1 (l : Addr) (items : Array Value) (n : Nat) (dd : Option Addr) (sl : Array (Option Value)) (x : Int) (u : Tok) (hx : x = 1) :
    Meets (Builtin.«tuple.__mul__» ⟨[.ref l, .int x u], []⟩) (fun _ R s => s.heap.get? l = some { cls := .type "tuple", dict := dd, data := .seq items n, slots := sl } ∧
      R (.ok (.ret (Value.ref l))) s) :=
  .of_wp fun prog w A R s h => by
    obtain ⟨hp, g, d, tk, os⟩ := s
    obtain ⟨hl, h⟩ := h
    have f1 := AutoSeq1.idx_int
    have c0 : (decide (x < -(2 ^ 63)) || decide (x ≥ 2 ^ 63)) = false := by
      rw [decide_eq_false (by omega), decide_eq_false (by omega)] <;> rfl
    have c1 : (items.isEmpty || x == 1) = true := by rw [hx]; simp
    wp_walk using wpAny_loadPart' hl
    repeat (first
      | (refine wpAny_ite_false (decide_eq_false (by rw [c0]; exact Bool.false_ne_true)) ?_; wp_walk using wpAny_loadPart' hl)
      | (refine wpAny_ite_true (decide_eq_true (by rw [c1])) ?_; wp_walk using wpAny_loadPart' hl))
    exact ⟨_, rfl, h⟩
def rRep1 (K : PySem.W.Frag) : R2 := fun x y H Q => ∃ l xs, x = .ref l ∧ y = .int 1 ∧ SqT K H l xs ∧ Q (.ref l) H
section
variable {X : Cx} {W : WX} {a b : Expr} {f g : Fe} {pos : Pos}
theorem op_rep1 : OpR X (binaryOp .Mult) (rRep1 X.K) := by
  intro pins s σ H x y v u Q I rx ry h
  obtain ⟨l, xs, rfl, rfl, hT, q⟩ := h
  cases rx
  obtain ⟨t, rfl⟩ := ry
  obtain ⟨its, r, ⟨⟨cls, dd, data, sl⟩, ho, hc, n, hd⟩, hs⟩ := I.tuple hT
  simp only at hc hd
  subst hc hd
  exact wpAny_binaryOp_repeat_ref (T := "tuple") (U := "int") (by decide) ⟨_, ho, rfl⟩ (fun s' => typeIs_int s' 1 t) noFill_tuple_mul F.fills_int_mul F.slot_int_rmul repeat_tuple F.slot_int_index.lookup
    (call_meets F.slot_int_rmul (typeIs_int s 1 t) F.entry_int_rmul (F.args_int_rmul_2 _ _) (int_rmul_tuple 1 t l its.toArray n dd sl)
      ⟨ho, rfl, ⟨_, ho, rfl⟩, call_meets F.slot_tuple_mul ⟨_, ho, rfl⟩ F.entry_tuple_mul (F.args_tuple_mul_2 _ _) (tuple_mul1 l its.toArray n dd sl 1 t rfl) ⟨ho, .ref l, H, I, rfl, q⟩⟩)
def fRepM : D → D → M D
  | .p (.tuple ds), .p (.int k) => fun S => if k = 1 then .ok (.p (.tuple ds)) S else if ds ≠ [] ∧ 2 ≤ k ∧ k ≤ 1000 ∧ ds.length ≤ 1000 then .ok (.p (.tuple (List.replicate k.toNat ds).flatten)) S else .bad
  | _, _ => M.bad
theorem ok_repM : R2ok X (fun x y H Q => rRep1 X.K x y H Q ∨ rRepT X.K x y H Q) fRepM := by
  intro w H S x y dx dy W σ Q R vx vy P
  unfold fRepM at P
  split at P
  · have vx' := vx.cases_p
    cases vy.cases_p
    split at P
    · rename_i h1
      subst h1
      have vx2 := vx'
      cases vx' with
      | tup hx rx => exact .inl ⟨_, _, rfl, rfl, SqT.of (R.same _ _ hx), Post.here R P vx2⟩
    · cases vx' with | tup hx rx =>
      split at P
      · rename_i hc
        obtain ⟨h0, h1, h2, h3⟩ := hc
        exact .inr ⟨_, _, _, rfl, rfl, SqT.of (R.same _ _ hx), fun z => h0 (by subst z; cases rx; rfl), h1, h2, by rw [rx.length]; exact h3, fun p hp => Post.newTup R P (rx.repl _) hp⟩
      · exact P.elim
  · exact P.elim
theorem de_repM (ha : DE X W a f) (hb : DE X W b g) : DE X W (.BinOp a .Mult b pos) (eBin fRepM f g) := de_bin (op_rep1.or op_repT) ok_repM ha hb
end
end DL
set_option Elab.async false
set_option linter.all false
set_option maxRecDepth 100000
set_option maxHeartbeats 4000000
namespace DL
open PySem PySem.Spec L2
/-! ### the least of a list of tuples of ints; max(list or tuple of ints); max(list, default=0) -/
theorem kt_ints : ∀ ns ms : List Int, PyProof.Rows.lexLt PyProof.Rows.itemOrd (PySem.W.keyToksAll (ns.map PyData.int)) (PySem.W.keyToksAll (ms.map PyData.int)) = lexLt ns ms
  | [], [] => by
    unfold lexLt
    exact PyProof.Rows.lex_irrefl _
  | [], m :: ms => by
    unfold lexLt
    simp only [List.map_nil, List.map_cons, PySem.W.toks_all_cons, PySem.W.keyToksAll]
    rfl
  | n :: ns, [] => by
    unfold lexLt
    simp only [List.map_nil, List.map_cons, PySem.W.toks_all_cons, PySem.W.keyToksAll]
    rfl
  | n :: ns, m :: ms => by
    rw [List.map_cons, List.map_cons, PySem.W.dataLt_cons (by simp [PySem.W.alike]), kt_ints ns ms, PySem.W.dataLt_int]
    simp only [lexLt, PyData.eqv, beq_iff_eq]
theorem dl_tups (ns ms : List Int) : PySem.W.dataLt (.tuple (ns.map PyData.int)) (.tuple (ms.map PyData.int)) = lexLt ns ms := by
  rw [PySem.W.dataLt_tuple, kt_ints]
theorem alike_ints : ∀ ns ms : List Int, PySem.W.alikeAll (ns.map PyData.int) (ms.map PyData.int) = true
  | [], _ => by simp [PySem.W.alikeAll]
  | _ :: _, [] => by simp [PySem.W.alikeAll]
  | n :: ns, m :: ms => by simp [PySem.W.alikeAll, PySem.W.alike, alike_ints ns ms]
theorem depth_ints : ∀ ns : List Int, PyData.depthAll (ns.map PyData.int) = 0
  | [] => by simp [PyData.depthAll]
  | n :: ns => by simp [PyData.depthAll, PyData.depth, depth_ints ns]
theorem reads_ints {h : Heap} : ∀ {ns : List Int} {us : List Value}, Vals (ns.map V.int) us → ReadsAll h us (ns.map PyData.int) []
  | [], _, .nil => .nil
  | n :: ns, _, .cons r rs => by
    obtain ⟨t, rfl⟩ := r
    exact ReadsAll.cons (as := []) (bs := []) (.int n t) (reads_ints rs)
theorem reads_tup {X : Cx} {pins : List (Addr × Obj)} {σ : L2.St} {H : Hp} {s : Shared} (I : Inv X pins σ H s) {a : Addr} {ns : List Int} (h : SqT X.K H a (ns.map V.int)) : Reads s.heap (.ref a) (.tuple (ns.map PyData.int)) [] := by
  obtain ⟨its, r, ⟨o, e, c, n, d⟩, _⟩ := I.tuple h
  exact Reads.tuple e c d (reads_ints r)
def minFrom (a : List Int) : List (List Int) → List Int
  | [] => a
  | b :: r => minFrom (if lexLt b a = true then b else a) r
theorem minFrom_fold : ∀ (xs : List (List Int)) (a : List Int), minFrom a xs = xs.foldl (fun a y => if lexLt y a = true then y else a) a
  | [], _ => rfl
  | b :: r, a => minFrom_fold r _
def minT : List (List Int) → Option (List Int)
  | [] => none
  | n :: ns => some (minFrom n ns)
def asTups : List D → Option (List (List Int))
  | [] => some []
  | .p (.tuple ds) :: r => (asIP ds).bind fun ns => (asTups r).map (ns :: ·)
  | _ :: _ => none
def rMinT (K : PySem.W.Frag) : List V → Hp → VK → Prop := fun vs H Q => ∃ (a : Addr) (xs : List V) (n : List Int) (nss : List (List Int)), vs = [V.ref a] ∧ SqL K H a xs ∧ Paired (fun x ns => TupI K H x ns) xs (n :: nss) ∧ ∀ (i : Nat) x, xs[i]? = some x → (n :: nss)[i]? = some (minFrom n nss) → Q x H
theorem paired_at {α β : Type} {P : α → β → Prop} : ∀ {xs : List α} {ys : List β}, Paired P xs ys → ∀ (i : Nat) (x : α), xs[i]? = some x → ∃ y, ys[i]? = some y ∧ P x y
  | _, _, .nil, _, _, h => by simp at h
  | _, _, .cons p ps, 0, x, h => by
    simp only [List.getElem?_cons_zero, Option.some.injEq] at h
    subst h
    exact ⟨_, rfl, p⟩
  | _, _, .cons p ps, i + 1, x, h => by
    simp only [List.getElem?_cons_succ] at h ⊢
    exact paired_at ps i x h
theorem paired_at2 {α β : Type} {P : α → β → Prop} : ∀ {xs : List α} {ys : List β}, Paired P xs ys → ∀ (i : Nat) (y : β), ys[i]? = some y → ∃ x, xs[i]? = some x ∧ P x y
  | _, _, .nil, _, _, h => by simp at h
  | _, _, .cons p ps, 0, x, h => by
    simp only [List.getElem?_cons_zero, Option.some.injEq] at h
    subst h
    exact ⟨_, rfl, p⟩
  | _, _, .cons p ps, i + 1, x, h => by
    simp only [List.getElem?_cons_succ] at h ⊢
    exact paired_at2 ps i x h
theorem cr_minT {X : Cx} (hc : X.calm = true) (hu : X.A.units + 64 < cLine) : CallR X (.builtin "min") (rMinT X.K) := by
  intro pins s σ H vs us Q I r h
  obtain ⟨a, xs, n, nss, rfl, hs, hp, q⟩ := h
  obtain ⟨its, rv, hl, _⟩ := I.list hs
  rw [Vals.ref1 r]
  have len1 : xs.length = its.length := Paired.length rv
  have len2 : xs.length = nss.length + 1 := Paired.length hp
  have at_ : ∀ (i : Nat) (v : Value), its.toArray[i]? = some v → ∃ x, xs[i]? = some x ∧ RelV x v ∧ TupI X.K H x ((n :: nss).getD i []) ∧ Reads s.heap v (.tuple (((n :: nss).getD i []).map PyData.int)) [] := fun i v hv => by
    have hv : its[i]? = some v := by simpa using hv
    obtain ⟨x, hx, rx⟩ := paired_at2 rv i v hv
    obtain ⟨ns, hn, ht⟩ := paired_at hp i x hx
    have e : (n :: nss).getD i [] = ns := by rw [List.getD_eq_getElem?_getD, hn]; rfl
    rw [e]
    refine ⟨x, hx, rx, ht, ?_⟩
    obtain ⟨t, rfl, hT⟩ := ht
    have rx : v = .ref t := rx
    subst rx
    exact reads_tup I hT
  refine call_min_walkH (PySem.W.iter_listW (A := X.A.in1) (I.ok.hd hc) hl.isList fun s₂ e W st hfp hw hk => ?_)
  refine ⟨_, _, _, _, _, _, _, s.heap, (fun i j => lexLt ((n :: nss).getD i []) ((n :: nss).getD j [])), rfl, W, st, hfp, by rw [List.size_toArray]; omega, hw, hk, fun i j vi vj s' Q' E' hk' hi hj hq => ?_, fun v s' hP m => ?_⟩
  · obtain ⟨_, _, _, _, r1⟩ := at_ i vi hi
    obtain ⟨_, _, _, _, r2⟩ := at_ j vj hj
    refine PySem.W.rcLt_alike _ _ X.A.in1 s' vi vj _ _ (PySem.W.reads_keeps hk' r1) (PySem.W.reads_keeps hk' r2) (by simp only [PySem.W.alike]; exact alike_ints _ _) (by simp) ?_ _ _ E' Q' ?_
    · have e1 : X.A.in1.units = X.A.units + 1 := rfl
      have e2 : (PyData.tuple (((n :: nss).getD i []).map PyData.int)).depth = 1 := by simp [PyData.depth, depth_ints]
      rw [e1, e2]
      omega
    · rw [dl_tups]; exact hq
  · obtain ⟨h', tk, rfl, hk'⟩ := PySem.W.moved_old e rfl m
    obtain ⟨x, hx, rx, ht, _⟩ := at_ _ v hP
    have e1 : its.toArray.size - 1 = nss.length := by rw [List.size_toArray]; omega
    obtain ⟨e3, e2⟩ := PySem.W.argBest_fold lexLt [] n nss nss.length (Nat.le_refl _)
    rw [List.take_length] at e2
    rw [e1] at hx
    refine ⟨x, H, I.kept hk', rx, q _ x hx ?_⟩
    rw [minFrom_fold, ← e2]
    generalize argBest _ _ = i at e3
    have hi : i < (n :: nss).length := by simp; omega
    rw [List.getD_eq_getElem?_getD, List.getElem?_eq_getElem hi]
    rfl
theorem asIP_eq : ∀ {ds : List PyData} {ns : List Int}, asIP ds = some ns → ds = ns.map PyData.int
  | [], ns, h => by cases h; rfl
  | d :: ds, ns, h => by
    cases d with
    | int i =>
      obtain ⟨ms, q, e⟩ := Option.map_eq_some_iff.mp (show (asIP ds).map (i :: ·) = some ns from h)
      subst e
      rw [asIP_eq q]; rfl
    | _ => cases h
theorem asTups_rep {mg : Gm} {w : Wd} {H : Hp} {S : Store} (R : Rep mg w H S) : ∀ {ds : List D} {nss : List (List Int)} {vs : List V}, asTups ds = some nss → RepVs w vs ds → Paired (fun v ns => TupI mg.K H v ns ∧ RepV w v (.p (.tuple (ns.map PyData.int)))) vs nss
  | [], nss, vs, h, r => by cases h; cases r; exact .nil
  | d :: ds, nss, vs, h, r => by
    unfold asTups at h
    split at h
    · cases ‹_ :: _ = []›
    · rename_i es r' heq
      cases heq
      cases h1 : asIP es with
      | none => rw [h1] at h; cases h
      | some ns =>
        rw [h1] at h
        obtain ⟨ms, q, e⟩ := Option.map_eq_some_iff.mp (show (asTups ds).map (ns :: ·) = some nss from h)
        subst e
        have e3 := asIP_eq h1
        subst e3
        cases r with
        | cons r1 r2 =>
          refine .cons ?_ (asTups_rep R q r2)
          refine ⟨?_, r1⟩
          have r1 := r1.cases_p
          cases r1 with | tup hx rx =>
          have e1 := asIP_rep h1 rx
          subst e1
          exact ⟨_, rfl, SqT.of (R.same _ _ hx)⟩
    · cases h
theorem Paired.imp {α β : Type} {P P' : α → β → Prop} (h : ∀ a b, P a b → P' a b) : ∀ {xs : List α} {ys : List β}, Paired P xs ys → Paired P' xs ys
  | _, _, .nil => .nil
  | _, _, .cons p ps => .cons (h _ _ p) (Paired.imp h ps)
def fMinA : D → M D := fun x S => ofO S ((items S x).bind fun ds => match asInts ds with
  | some ns => (minI ns).map fun i => .p (.int i)
  | none => (asTups ds).bind fun nss => (minT nss).map fun ns => .p (.tuple (ns.map PyData.int)))
def fMaxA : D → M D := fun x S => match x with
  | .p (.tuple ds) => ofO S ((asIP ds).bind fun ns => (maxI ns).map fun i => .p (.int i))
  | _ => fMaxL x S
def maxD0 : List Int → Int
  | [] => 0
  | n :: ns => big n ns
def fMaxD0 : D → M D := fun x S => ofO S ((items S x).bind fun ds => (asInts ds).map fun ns => .p (.int (maxD0 ns)))
theorem callR_or {X : Cx} {f : Value} {r r' : List V → Hp → VK → Prop} (h : CallR X f r) (h' : CallR X f r') : CallR X f (fun vs H Q => r vs H Q ∨ r' vs H Q) := by
  intro pins s σ H vs us Q I rv q
  rcases q with q | q
  · exact h pins s σ H vs us Q I rv q
  · exact h' pins s σ H vs us Q I rv q
section
variable {X : Cx} {W : WX} {e : Expr} {f : Fe} {pos : Pos}
theorem ok_minA : C1ok X (fun vs H Q => rMin X.K vs H Q ∨ rMinT X.K vs H Q) (on1 fMinA) := ok_on1 fun w H S x d W σ Q R v P => by
  unfold fMinA at P
  cases q : items S d with
  | none => rw [q] at P; exact P.elim
  | some ds =>
    rw [q] at P
    dsimp only [Option.bind] at P
    obtain ⟨a, xs, rfl, hs, r⟩ := items_sq R v q
    cases q2 : asInts ds with
    | some es =>
      rw [q2] at P
      dsimp only at P
      cases es with
      | nil => exact P.elim
      | cons n ns =>
        rw [asInts_rep q2 r] at hs
        refine .inl ⟨a, n :: ns, rfl, hs, Nat.succ_pos _, fun m hm hle => ?_⟩
        have e : m = small n ns := Int.le_antisymm (hle _ (small_mem ns n)) (small_le ns n m hm)
        subst e
        exact Post.here R P (.int _)
    | none =>
      rw [q2] at P
      dsimp only at P
      cases q3 : asTups ds with
      | none => rw [q3] at P; exact P.elim
      | some nss =>
        rw [q3] at P
        dsimp only at P
        cases nss with
        | nil => exact P.elim
        | cons n nss =>
          have pr := asTups_rep R q3 r
          refine .inr ⟨a, xs, n, nss, rfl, hs, Paired.imp (fun _ _ h => h.1) pr, fun i x hx hn => ?_⟩
          obtain ⟨ns, h1, h2⟩ := paired_at pr i x hx
          rw [hn] at h1
          cases h1
          exact Post.here R P h2.2
theorem de_minA {p : Pos} (hu : X.A.units + 64 < cLine) (hg : Gl X "min") (hm : X.mg "min" = none) (hc : X.calm = true) (ha : DE X W e f) (he : starEach [e] X.env = (false, eval e X.env) :: starEach [] X.env := by rfl) (hpl : (backTo pos (starEach [] X.env)).any (·.1) = false := by rfl) :
    DE X W (.Call (.Name "min" p) [e] [] pos) (eCB (on1 fMinA) (aCons f aNil)) := de_callB (callR_or (cr_min hc) (cr_minT hc hu)) ok_minA hg hm PyProof.Rows.boot_min (da_cons ha da_nil he) (by decide) (by decide) he hpl
/-- max of a tuple of ints -/
def rMaxT (K : PySem.W.Frag) : List V → Hp → VK → Prop := fun vs H Q => ∃ (a : Addr) (n : Int) (ns : List Int), vs = [V.ref a] ∧ SqT K H a ((n :: ns).map V.int) ∧ Q (.int (big n ns)) H
theorem big_fold : ∀ (ns : List Int) (n : Int), big n ns = ns.foldl max n
  | [], _ => rfl
  | b :: r, a => by
    rw [big, big_fold r, List.foldl_cons]
    congr 1
    split <;> omega
theorem alikeAll_ints (ns : List Int) : PySem.W.AlikeAll (ns.map PyData.int) := by
  refine ⟨fun x hx y hy => ?_, fun x hx => ?_⟩
  · obtain ⟨i, _, rfl⟩ := List.mem_map.mp hx
    obtain ⟨j, _, rfl⟩ := List.mem_map.mp hy
    simp [PySem.W.alike]
  · obtain ⟨i, _, rfl⟩ := List.mem_map.mp hx
    simp
theorem cr_maxT (hc : X.calm = true) (hu : X.A.units + 64 < cLine) : CallR X (.builtin "max") (rMaxT X.K) := by
  intro pins s σ H vs us Q I r h
  obtain ⟨a, n, ns, rfl, hs, q⟩ := h
  obtain ⟨its, rv, hl, _⟩ := I.tuple hs
  rw [Vals.ref1 r]
  refine PySem.W.max_tuple_data (x := .int n) (xs := ns.map PyData.int) (I.ok.hd hc) hl (reads_ints (ns := n :: ns) rv) (alikeAll_ints (n :: ns)) ?_ fun i v h' tk bs hv hr hk => ?_
  · have := depth_ints (n :: ns)
    rw [List.map_cons] at this
    rw [this]
    omega
  · rw [PySem.W.maxD_ints, ← big_fold] at hr
    cases hr with
    | int _ t => exact ⟨.int _, H, I.kept hk, ⟨t, rfl⟩, q⟩
theorem ok_maxA : C1ok X (fun vs H Q => rMax X.K vs H Q ∨ rMaxT X.K vs H Q) (on1 fMaxA) := ok_on1 fun w H S x d W σ Q R v P => by
  unfold fMaxA at P
  split at P
  · rename_i ds
    cases q2 : asIP ds with
    | none => rw [q2] at P; exact P.elim
    | some ns =>
      rw [q2] at P
      dsimp only [Option.bind] at P
      cases ns with
      | nil => exact P.elim
      | cons n ns =>
        have v := v.cases_p
        cases v with | tup hx rx =>
        have e1 := asIP_rep q2 rx
        subst e1
        exact .inr ⟨_, n, ns, rfl, SqT.of (R.same _ _ hx), Post.here R P (.int _)⟩
  · exact .inl (ok_maxL w H S [x] [d] W σ Q R (.cons v .nil) P)
theorem de_maxA {p : Pos} (hu : X.A.units + 64 < cLine) (hg : Gl X "max") (hm : X.mg "max" = none) (hc : X.calm = true) (ha : DE X W e f) (he : starEach [e] X.env = (false, eval e X.env) :: starEach [] X.env := by rfl) (hpl : (backTo pos (starEach [] X.env)).any (·.1) = false := by rfl) :
    DE X W (.Call (.Name "max" p) [e] [] pos) (eCB (on1 fMaxA) (aCons f aNil)) := de_callB (callR_or (cr_max hc) (cr_maxT hc hu)) ok_maxA hg hm PyProof.Rows.boot_max (da_cons ha da_nil he) (by decide) (by decide) he hpl
/-- max(xs, default=d) of a list of ints -/
def rMaxD (K : PySem.W.Frag) : List V → List V → Hp → VK → Prop := fun vs zs H Q => ∃ (a : Addr) (ns : List Int), vs = [V.ref a] ∧ zs = [V.int 0] ∧ SqL K H a (ns.map V.int) ∧ Q (.int (maxD0 ns)) H
theorem cr_maxD (hc : X.calm = true) (hu : X.A.units + 64 < cLine) : CallRK X (.builtin "max") [Str.ofString "default"] (rMaxD X.K) := by
  intro pins s σ H vs zs us ws Q I r rz h
  obtain ⟨a, ns, rfl, rfl, hs, q⟩ := h
  obtain ⟨its, rv, hl, _⟩ := I.list hs
  rw [Vals.ref1 r]
  obtain ⟨u, rfl⟩ : ∃ u, ws = [u] := by
    cases rz with | cons _ r2 => cases r2; exact ⟨_, rfl⟩
  have ru : RelV (.int 0) u := by cases rz with | cons r1 _ => exact r1
  refine PySem.W.max_list_default (xs := ns.map PyData.int) (I.ok.hd hc) hl.isList (reads_ints rv) (alikeAll_ints ns) ?_ (fun e h' tk hk => ?_) fun y ys i v h' tk bs e hv hr hk => ?_
  · rw [depth_ints]; omega
  · cases ns with
    | nil => exact ⟨.int 0, H, I.kept hk, ru, q⟩
    | cons _ _ => cases e
  · cases ns with
    | nil => cases e
    | cons n ns =>
      cases e
      rw [PySem.W.maxD_ints, ← big_fold] at hr
      cases hr with
      | int _ t => exact ⟨.int _, H, I.kept hk, ⟨t, rfl⟩, q⟩
theorem de_maxD0 {p kpos cp : Pos} {j : Nat} (hu : X.A.units + 64 < cLine) (hg : Gl X "max") (hm : X.mg "max" = none) (hc : X.calm = true) (ha : DE X W e f) (he : starEach [e] X.env = (false, eval e X.env) :: starEach [] X.env := by rfl)
    (he2 : backTo pos (starEach [e] X.env) = (false, eval e X.env) :: backTo pos (starEach [] X.env) := by rfl) (hpl : (backTo pos (starEach [e] X.env)).any (·.1) = false := by rfl)
    (hall : (backToKw pos (keywordEach [⟨some (Str.ofString "default"), .Constant (.int 0) j cp, kpos⟩] X.env)).all (·.1.isSome) = true := by rfl) (hnone : (backToKw pos (keywordEach [⟨some (Str.ofString "default"), .Constant (.int 0) j cp, kpos⟩] X.env)).any (·.1.isNone) = false := by rfl)
    (hks : (backToKw pos (keywordEach [⟨some (Str.ofString "default"), .Constant (.int 0) j cp, kpos⟩] X.env)).filterMap (·.1) = [Str.ofString "default"] := by rfl) :
    DE X W (.Call (.Name "max" p) [e] [⟨some (Str.ofString "default"), .Constant (.int 0) j cp, kpos⟩] pos) (eCB (on1 fMaxD0) (aCons f aNil)) :=
  (pe_callBK (cr_maxD hc hu) hg hm PyProof.Rows.boot_max (da_cons ha da_nil he) (pk_cons pe_int pk_nil) (by decide) (by decide) he2 hpl hall hnone hks).imp fun σ H Q ⟨w, ρ, S, R, E, P⟩ =>
  stepA R E P fun vs w1 H1 S1 ds g1 R1 E1 V1 P1 => by
    show rMaxD X.K vs [V.int 0] H1 Q
    unfold on1 at P1
    split at P1
    · obtain ⟨x, rfl, v⟩ := RepVs.one V1
      unfold fMaxD0 at P1
      rename_i d
      cases q : items S1 d with
      | none => rw [q] at P1; exact P1.elim
      | some ds =>
        rw [q] at P1
        dsimp only [Option.bind] at P1
        cases q2 : asInts ds with
        | none => rw [q2] at P1; exact P1.elim
        | some es =>
          rw [q2] at P1
          obtain ⟨a, xs, rfl, hs, r⟩ := items_sq R1 v q
          rw [asInts_rep q2 r] at hs
          exact ⟨a, es, rfl, rfl, hs, Post.here R1 P1 (.int _)⟩
    · exact P1.elim
end
end DL
set_option Elab.async false
set_option linter.all false
set_option maxRecDepth 100000
set_option maxHeartbeats 4000000
namespace DL
open PySem PySem.Spec L2
/-! ### isinstance of what may be an own object, against a built-in class -/
theorem kit_base {K : PySem.W.Frag} {C : Addr} {T : String} {b : Bool} (hT : PySem.W.kitMeta T = true) (h : PySem.W.mroIn K C (.type T) = some b) : PySem.W.kitOne K (.ref C) (.type T) = some b := by
  have ne : ¬ ((Value.ref C == Value.type T) = true) := by simp
  unfold PySem.W.kitOne PySem.W.kitCls
  simp only [if_neg ne, hT, if_true]
  exact h
def fIsiC (c : Str) (T : String) : D → M D := fun x S => match x with
  | .o i => match insAt S i with
    | some p => if p.1 = c then .ok (.p (.bool false)) S else .bad
    | none => fIsi T (.o i) S
  | x => fIsi T x S
section
variable {X : Cx} {W : WX} {e : Expr} {f : Fe} {pos : Pos}
theorem de_isiC {C : Addr} {c : Str} {T : String} {y : Str} {p p2 : Pos} (hmc : X.mg c = some (.ref C)) (TC : IsC X.K C) (hk : PySem.W.kitOne X.K (.ref C) (.type T) = some false) (hg : Gl X "isinstance") (hm : X.mg "isinstance" = none) (hgT : Gl X y) (hmT : X.mg y = none) (hv : bootBuiltins y = some (.type T)) (ha : DE X W e f)
    (hnT : y ≠ "__name__" := by decide) (hdT : (y == ("__debug__" : Str)) = false := by decide)
    (he : starEach [e, .Name y p2] X.env = (false, eval e X.env) :: starEach [.Name y p2] X.env := by rfl) (he' : starEach [.Name y p2] X.env = (false, eval (.Name y p2) X.env) :: starEach [] X.env := by rfl) (hpl : (backTo pos (starEach [.Name y p2] X.env)).any (·.1) = false := by rfl) :
    DE X W (.Call (.Name "isinstance" p) [e, .Name y p2] [] pos) (eUn (fIsiC c T) f) :=
  (pe_callB call_isi hg hm PyProof.Rows.boot_isinstance (pa_cons ha (pa_cons (pe_bltn (v := .ty T) hgT hmT hv rfl hnT hdT) pa_nil he') he) (by decide) (by decide) he hpl).imp fun σ H Q ⟨w, ρ, S, R, E, P⟩ => by
    refine stepE R E P fun x w1 H1 S1 d g1 R1 E1 V1 P1 => ?_
    have old : Post X.gm W σ w1 Q (fIsi T d S1) → rIsi X.K [x, .ty T] H1 Q := fun P1 => by
      unfold fIsi at P1
      cases q : tyC S1 d with
      | none => rw [q] at P1; exact P1.elim
      | some t =>
        rw [q] at P1
        dsimp only [Option.bind] at P1
        cases q2 : kitB t T with
        | none => rw [q2] at P1; exact P1.elim
        | some b =>
          rw [q2] at P1
          exact ⟨_, _, _, _, _, rfl, .ty T, tyC_ty R1 V1 q, kit_ty q2, Post.here R1 P1 (.bl _)⟩
    cases d with
    | s ns => exact old P1
    | p d => exact old P1
    | o i =>
      unfold fIsiC at P1
      dsimp only at P1
      cases q : insAt S1 i with
      | none => rw [q] at P1; exact old P1
      | some pr =>
        rw [q] at P1
        dsimp only at P1
        by_cases hc : pr.1 = c
        · rw [if_pos hc] at P1
          obtain ⟨a, ha, rfl⟩ := id V1
          obtain ⟨oo, ho, r⟩ := R1.at_ ha (insAt_some q)
          obtain ⟨C', dx, xs, rfl, hmg, rf⟩ := r.ins_inv
          have hmg : X.mg pr.1 = some (.ref C') := hmg
          rw [hc, hmc] at hmg
          cases hmg
          exact ⟨_, _, _, _, _, rfl, .ty T, .base (.ins ho TC.cl TC.ca TC.hn TC.htk TC.hm), hk, Post.here R1 P1 (.bl _)⟩
        · rw [if_neg hc] at P1; exact P1.elim
end
end DL
set_option Elab.async false
set_option linter.all false
set_option maxRecDepth 100000
set_option maxHeartbeats 400000
namespace LK
open PySem
/-! runs and their events, as data -/
abbrev Es := List (Int × Int)
def inE (g : Int) : PyData := .tuple [.str "in", .int g]
def outE (g : Int) : PyData := .tuple [.str "out", .int g]
/-- parts that may stand in a run of f -/
def gp (E : Es) : Int → List PyData → Bool
  | _, [] => true
  | f, .int i :: ps => decide (1 ≤ i) && decide (i ≤ 999999) && gp E f ps
  | f, .tuple [.int g, .tuple qs] :: ps => decide ((f, g) ∈ E) && gp E g qs && gp E f ps
  | _, _ :: _ => false
termination_by _ ps => sizeOf ps
/-- the events of parts -/
def evP : List PyData → List PyData
  | [] => []
  | .tuple [.int g, .tuple qs] :: ps => inE g :: (evP qs ++ outE g :: evP ps)
  | p :: ps => p :: evP ps
termination_by ps => sizeOf ps
/-- parts that are integers and pairs of an integer and such parts -/
def sp : List PyData → Bool
  | [] => true
  | .int _ :: ps => sp ps
  | .tuple [.int _, .tuple qs] :: ps => sp qs && sp ps
  | _ :: _ => false
termination_by ps => sizeOf ps
theorem gp_nil {E : Es} {f : Int} : gp E f [] = true := by unfold gp; rfl
theorem gp_int {E : Es} {f i : Int} {ps : List PyData} : gp E f (.int i :: ps) = (decide (1 ≤ i) && decide (i ≤ 999999) && gp E f ps) := by rw [gp]
theorem gp_run {E : Es} {f g : Int} {qs ps : List PyData} : gp E f (.tuple [.int g, .tuple qs] :: ps) = (decide ((f, g) ∈ E) && gp E g qs && gp E f ps) := by rw [gp]
theorem evP_nil : evP [] = [] := by rw [evP]
theorem evP_int {i : Int} {ps : List PyData} : evP (.int i :: ps) = .int i :: evP ps := by rw [evP]; simp
theorem evP_run {g : Int} {qs ps : List PyData} : evP (.tuple [.int g, .tuple qs] :: ps) = inE g :: (evP qs ++ outE g :: evP ps) := by rw [evP]
theorem sp_nil : sp [] = true := by rw [sp]
theorem sp_int {i : Int} {ps : List PyData} : sp (.int i :: ps) = sp ps := by rw [sp]
theorem sp_run {g : Int} {qs ps : List PyData} : sp (.tuple [.int g, .tuple qs] :: ps) = (sp qs && sp ps) := by rw [sp]
/-- how parts are looked at -/
inductive PK : PyData → Prop
  | int (i : Int) : PK (.int i)
  | run (g : Int) (qs : List PyData) : PK (.tuple [.int g, .tuple qs])
theorem sp_pk {p : PyData} {ps : List PyData} (h : sp (p :: ps) = true) : PK p := by
  unfold sp at h
  split at h
  · rename_i e; cases e
  · rename_i e; cases e; exact .int _
  · rename_i e; cases e; exact .run _ _
  · cases h
theorem gp_sp {E : Es} : ∀ (f : Int) (ps : List PyData), gp E f ps = true → sp ps = true
  | f, [], _ => sp_nil
  | f, p :: ps, h => by
    unfold gp at h
    split at h
    · rename_i e; cases e
    · rename_i i ps' e
      cases e
      rw [sp_int]
      simp only [Bool.and_eq_true] at h
      exact gp_sp _ ps h.2
    · rename_i g qs ps' e
      cases e
      rw [sp_run]
      simp only [Bool.and_eq_true] at h ⊢
      exact ⟨gp_sp g qs h.1.2, gp_sp _ ps h.2⟩
    · cases h
termination_by _ ps => sizeOf ps
theorem sp_append : ∀ (ps qs : List PyData), sp (ps ++ qs) = (sp ps && sp qs)
  | [], qs => by rw [sp_nil]; simp
  | p :: ps, qs => by
    by_cases hk : PK p
    · cases hk with
      | int i => rw [List.cons_append, sp_int, sp_int, sp_append ps qs]
      | run g rs => rw [List.cons_append, sp_run, sp_run, sp_append ps qs, Bool.and_assoc]
    · have h1 : sp (p :: (ps ++ qs)) = false := by
        cases h : sp (p :: (ps ++ qs)) with
        | false => rfl
        | true => exact absurd (sp_pk h) hk
      have h2 : sp (p :: ps) = false := by
        cases h : sp (p :: ps) with
        | false => rfl
        | true => exact absurd (sp_pk h) hk
      rw [List.cons_append, h1, h2]; rfl
theorem gp_append {E : Es} {f : Int} : ∀ (ps qs : List PyData), gp E f (ps ++ qs) = (gp E f ps && gp E f qs)
  | [], qs => by rw [gp_nil]; simp
  | p :: ps, qs => by
    by_cases hk : PK p
    · cases hk with
      | int i => rw [List.cons_append, gp_int, gp_int, gp_append ps qs]; simp only [Bool.and_assoc]
      | run g rs => rw [List.cons_append, gp_run, gp_run, gp_append ps qs]; simp only [Bool.and_assoc]
    · have h1 : gp E f (p :: (ps ++ qs)) = false := by
        cases h : gp E f (p :: (ps ++ qs)) with
        | false => rfl
        | true => exact absurd (sp_pk (gp_sp _ _ h)) hk
      have h2 : gp E f (p :: ps) = false := by
        cases h : gp E f (p :: ps) with
        | false => rfl
        | true => exact absurd (sp_pk (gp_sp _ _ h)) hk
      rw [List.cons_append, h1, h2]; rfl
theorem evP_other {p : PyData} {ps : List PyData} (h : ∀ g qs, p ≠ .tuple [.int g, .tuple qs]) : evP (p :: ps) = p :: evP ps := by
  rw [evP]
  intro g qs e
  exact h g qs e
theorem evP_append : ∀ (ps qs : List PyData), evP (ps ++ qs) = evP ps ++ evP qs
  | [], qs => by rw [evP_nil]; simp
  | p :: ps, qs => by
    by_cases hk : ∃ g rs, p = .tuple [.int g, .tuple rs]
    · obtain ⟨g, rs, rfl⟩ := hk
      rw [List.cons_append, evP_run, evP_run, evP_append ps qs]; simp
    · have hk' : ∀ g rs, p ≠ .tuple [.int g, .tuple rs] := fun g rs e => hk ⟨g, rs, e⟩
      rw [List.cons_append, evP_other hk', evP_other hk', evP_append ps qs]; simp
/-! a run -/
def trE (f : Int) (ps : List PyData) : List PyData := inE f :: (evP ps ++ [outE f])
def isIn : PyData → Bool
  | .tuple [.str s, _] => s == "in"
  | _ => false
def isInt : PyData → Bool
  | .int _ => true
  | _ => false
def intOf : PyData → Option Int
  | .int i => some i
  | _ => none
def few (es : List PyData) : Bool :=
  decide (((es.filter isIn).length : Int) ≤ 200) && decide (((es.filter isInt).length : Int) + ((es.filter isIn).length : Int) - 1 ≤ 400) && decide ((es.filterMap intOf).sum ≤ 999999)
theorem isIn_inE {g : Int} : isIn (inE g) = true := by
  show (("in" : Str) == "in") = true
  decide +kernel
theorem isIn_outE {g : Int} : isIn (outE g) = false := by
  show (("out" : Str) == "in") = false
  decide +kernel
theorem isInt_inE {g : Int} : isInt (inE g) = false := rfl
theorem isInt_outE {g : Int} : isInt (outE g) = false := rfl
theorem intOf_inE {g : Int} : intOf (inE g) = none := rfl
theorem intOf_outE {g : Int} : intOf (outE g) = none := rfl
/-- the counts of parts: runs, integers, their sum -/
def cR (ps : List PyData) : Nat := ((evP ps).filter isIn).length
def cI (ps : List PyData) : Nat := ((evP ps).filter isInt).length
def cT (ps : List PyData) : Int := ((evP ps).filterMap intOf).sum
theorem cR_nil : cR [] = 0 := by simp [cR, evP_nil]
theorem cI_nil : cI [] = 0 := by simp [cI, evP_nil]
theorem cT_nil : cT [] = 0 := by simp [cT, evP_nil]
theorem cR_int {i : Int} {ps : List PyData} : cR (.int i :: ps) = cR ps := by simp [cR, evP_int, isIn]
theorem cI_int {i : Int} {ps : List PyData} : cI (.int i :: ps) = cI ps + 1 := by
  unfold cI
  rw [evP_int, List.filter_cons_of_pos (by rfl)]; rfl
theorem cT_int {i : Int} {ps : List PyData} : cT (.int i :: ps) = i + cT ps := by simp [cT, evP_int, intOf]
theorem cR_run {g : Int} {qs ps : List PyData} : cR (.tuple [.int g, .tuple qs] :: ps) = 1 + cR qs + cR ps := by
  simp [cR, evP_run, isIn_inE, isIn_outE, List.filter_append]; omega
theorem cI_run {g : Int} {qs ps : List PyData} : cI (.tuple [.int g, .tuple qs] :: ps) = cI qs + cI ps := by
  simp [cI, evP_run, isInt_inE, isInt_outE, List.filter_append]
theorem cT_run {g : Int} {qs ps : List PyData} : cT (.tuple [.int g, .tuple qs] :: ps) = cT qs + cT ps := by
  simp [cT, evP_run, List.filterMap_cons, intOf_inE, intOf_outE, List.filterMap_append]
theorem cR_append (ps qs : List PyData) : cR (ps ++ qs) = cR ps + cR qs := by simp [cR, evP_append]
theorem cI_append (ps qs : List PyData) : cI (ps ++ qs) = cI ps + cI qs := by simp [cI, evP_append]
theorem cT_append (ps qs : List PyData) : cT (ps ++ qs) = cT ps + cT qs := by simp [cT, evP_append]
theorem few_trE (f : Int) (ps : List PyData) : few (trE f ps) = (decide (cR ps + 1 ≤ 200) && decide (cI ps + cR ps ≤ 400) && decide (cT ps ≤ 999999)) := by
  have a : ((trE f ps).filter isIn).length = cR ps + 1 := by simp [trE, cR, isIn_inE, isIn_outE]
  have b : ((trE f ps).filter isInt).length = cI ps := by simp [trE, cI, isInt_inE, isInt_outE]
  have c : ((trE f ps).filterMap intOf).sum = cT ps := by simp [trE, cT, List.filterMap_cons, intOf_inE, intOf_outE]
  unfold few
  rw [a, b, c]
  congr 2
  · simp; constructor <;> (intro h; omega)
  · simp; constructor <;> (intro h; omega)
theorem len_evP : ∀ (ps : List PyData), sp ps = true → (evP ps).length = cI ps + 2 * cR ps
  | [], _ => by simp [evP_nil, cI_nil, cR_nil]
  | p :: ps, h => by
    cases sp_pk h with
    | int i =>
      rw [sp_int] at h
      rw [evP_int, cI_int, cR_int, List.length_cons, len_evP ps h]; omega
    | run g qs =>
      rw [sp_run, Bool.and_eq_true] at h
      rw [evP_run, cI_run, cR_run]
      simp [len_evP ps h.2, len_evP qs h.1]; omega
termination_by ps => sizeOf ps
theorem few_len {f : Int} {ps : List PyData} (hs : sp ps = true) (h : few (trE f ps) = true) : (trE f ps).length ≤ 601 := by
  rw [few_trE] at h
  simp only [Bool.and_eq_true, decide_eq_true_eq] at h
  have := len_evP ps hs
  simp [trE]; omega
end LK
set_option Elab.async false
set_option linter.all false
set_option maxRecDepth 100000
set_option maxHeartbeats 400000
namespace LK
open PySem
def inRange (lo hi : Int) : PyData → Bool
  | .int i => decide (lo ≤ i) && decide (i ≤ hi)
  | _ => false
/-- a pair of an integer and a tuple -/
def runLike : PyData → Bool
  | .tuple [.int _, .tuple _] => true
  | _ => false
/-- a walk that goes on (inl) or returns (inr) -/
def walkF {α β γ : Type} (f : α → γ → α ⊕ β) : α → List γ → α ⊕ β
  | a, [] => .inl a
  | a, p :: ps => match f a p with
    | .inl a' => walkF f a' ps
    | .inr b => .inr b
theorem walkF_inl {α β γ : Type} {f : α → γ → α ⊕ β} {a a' : α} {p : γ} {ps : List γ} (h : f a p = .inl a') : walkF f a (p :: ps) = walkF f a' ps := by
  rw [walkF, h]
theorem walkF_inr {α β γ : Type} {f : α → γ → α ⊕ β} {a : α} {b : β} {p : γ} {ps : List γ} (h : f a p = .inr b) : walkF f a (p :: ps) = .inr b := by
  rw [walkF, h]
def headInt : PyData → Int
  | .tuple (.int g :: _) => g
  | _ => 0
/-! what the program adds of a run's events -/
def addStep (E : Es) (rec : PyData → List PyData → Bool × List PyData) (f : Int) (evs : List PyData) (p : PyData) : List PyData ⊕ List PyData :=
  if 601 < evs.length then .inr evs
  else if inRange 1 999999 p = true then .inl (evs ++ [p])
  else if runLike p = true ∧ (f, headInt p) ∈ E then (match rec p evs with
    | (true, evs') => .inl evs'
    | (false, evs') => .inr evs')
  else .inr evs
def addF (E : Es) : Nat → PyData → List PyData → Bool × List PyData
  | n + 1, .tuple [.int f, .tuple ps], evs => match walkF (addStep E (addF E n) f) (evs ++ [inE f]) ps with
    | .inl evs' => (true, evs' ++ [outE f])
    | .inr evs' => (false, evs')
  | _, _, evs => (false, evs)
/-- the edges of calls: upward, of at most five functions -/
def EOk (E : Es) : Prop := ∀ g f, (g, f) ∈ E → 0 ≤ g ∧ g < f ∧ f ≤ 4
theorem runLike_inv {p : PyData} (h : runLike p = true) : ∃ g qs, p = .tuple [.int g, .tuple qs] := by
  unfold runLike at h
  split at h
  · exact ⟨_, _, rfl⟩
  · cases h
theorem inRange_inv {p : PyData} (h : inRange 1 999999 p = true) : ∃ i, p = .int i ∧ 1 ≤ i ∧ i ≤ 999999 := by
  unfold inRange at h
  split at h
  · rename_i i
    simp only [Bool.and_eq_true, decide_eq_true_eq] at h
    exact ⟨i, rfl, h.1, h.2⟩
  · cases h
theorem trE_len {f : Int} {ps : List PyData} : (trE f ps).length = (evP ps).length + 2 := by simp [trE]
mutual
theorem walk_add {E : Es} (hE : EOk E) (n : Nat) (f : Int) : ∀ (ps : List PyData) (evs : List PyData), 0 ≤ f → 5 ≤ f + n + 1 →
    match walkF (addStep E (addF E n) f) evs ps with
    | .inl r => r = evs ++ evP ps ∧ gp E f ps = true
    | .inr _ => gp E f ps = true → 601 < evs.length + (evP ps).length
  | [], evs, _, _ => by
    show evs = evs ++ evP [] ∧ gp E f [] = true
    rw [evP_nil, gp_nil]; simp
  | p :: ps, evs, h0, hf => by
    unfold walkF
    by_cases h1 : 601 < evs.length
    · have : addStep E (addF E n) f evs p = .inr evs := by unfold addStep; rw [if_pos h1]
      rw [this]
      intro _
      omega
    · by_cases h2 : inRange 1 999999 p = true
      · have : addStep E (addF E n) f evs p = .inl (evs ++ [p]) := by unfold addStep; rw [if_neg h1, if_pos h2]
        rw [this]
        obtain ⟨i, rfl, hi1, hi2⟩ := inRange_inv h2
        have ih := walk_add hE n f ps (evs ++ [.int i]) h0 hf
        show match walkF (addStep E (addF E n) f) (evs ++ [.int i]) ps with | .inl r => _ | .inr _ => _
        revert ih
        cases walkF (addStep E (addF E n) f) (evs ++ [.int i]) ps with
        | inl r =>
          rintro ⟨e, hg⟩
          refine ⟨?_, ?_⟩
          · rw [e, evP_int]; simp
          · rw [gp_int, hg]; simp [hi1, hi2]
        | inr r =>
          intro ih hg
          rw [gp_int] at hg
          simp only [Bool.and_eq_true] at hg
          have := ih hg.2
          rw [evP_int]
          simp at this ⊢; omega
      · by_cases h3 : runLike p = true ∧ (f, headInt p) ∈ E
        · obtain ⟨g, qs, rfl⟩ := runLike_inv h3.1
          have he : (f, g) ∈ E := h3.2
          have hb := hE f g he
          have h3' : runLike (.tuple [.int g, .tuple qs]) = true ∧ (f, headInt (.tuple [.int g, .tuple qs])) ∈ E := h3
          have e0 : addStep E (addF E n) f evs (.tuple [.int g, .tuple qs]) = match addF E n (.tuple [.int g, .tuple qs]) evs with
              | (true, evs') => .inl evs'
              | (false, evs') => .inr evs' := by unfold addStep; rw [if_neg h1, if_neg h2, if_pos h3']
          rw [e0]
          have ia := run_add hE n g qs evs (by omega) hb.2.2 (by omega)
          revert ia
          generalize addF E n (.tuple [.int g, .tuple qs]) evs = r
          obtain ⟨b, evs'⟩ := r
          cases b with
          | true =>
            rintro ⟨e, hg⟩
            show match walkF (addStep E (addF E n) f) evs' ps with | .inl r => _ | .inr _ => _
            have ih := walk_add hE n f ps evs' h0 hf
            revert ih
            have e : evs' = evs ++ trE g qs := e
            have hg : gp E g qs = true := hg
            cases walkF (addStep E (addF E n) f) evs' ps with
            | inl r =>
              rintro ⟨e2, hg2⟩
              refine ⟨?_, ?_⟩
              · rw [e2, e, evP_run]; simp [trE]
              · rw [gp_run, hg, hg2]; simp [he]
            | inr r =>
              intro ih hg2
              rw [gp_run] at hg2
              simp only [Bool.and_eq_true] at hg2
              have := ih hg2.2
              rw [evP_run]
              rw [e, List.length_append, trE_len] at this
              simp at this ⊢; omega
          | false =>
            intro ia hg
            rw [gp_run] at hg
            simp only [Bool.and_eq_true] at hg
            have := ia hg.1.2
            rw [trE_len] at this
            rw [evP_run]
            simp; omega
        · have : addStep E (addF E n) f evs p = .inr evs := by unfold addStep; rw [if_neg h1, if_neg h2, if_neg h3]
          rw [this]
          intro hg
          exfalso
          cases sp_pk (gp_sp _ _ hg) with
          | int i =>
            rw [gp_int] at hg
            simp only [Bool.and_eq_true] at hg
            exact h2 (by simp [inRange]; simpa using hg.1)
          | run g qs =>
            rw [gp_run] at hg
            simp only [Bool.and_eq_true, decide_eq_true_eq] at hg
            exact h3 ⟨rfl, hg.1.1⟩
termination_by ps => (n, ps.length)
theorem run_add {E : Es} (hE : EOk E) (n : Nat) (g : Int) (qs evs : List PyData) (h0 : 0 ≤ g) (h4 : g ≤ 4) (hf : 5 ≤ g + n) :
    match addF E n (.tuple [.int g, .tuple qs]) evs with
    | (true, evs') => evs' = evs ++ trE g qs ∧ gp E g qs = true
    | (false, _) => gp E g qs = true → 601 < evs.length + (trE g qs).length := by
  cases n with
  | zero =>
    show gp E g qs = true → _
    intro h
    exfalso
    omega
  | succ n =>
    have ih := walk_add hE n g qs (evs ++ [inE g]) h0 (by omega)
    show match (match walkF (addStep E (addF E n) g) (evs ++ [inE g]) qs with
      | .inl evs' => (true, evs' ++ [outE g])
      | .inr evs' => (false, evs')) with | (true, evs') => _ | (false, _) => _
    revert ih
    cases walkF (addStep E (addF E n) g) (evs ++ [inE g]) qs with
    | inl r =>
      rintro ⟨e, hg⟩
      exact ⟨by rw [e]; simp [trE], hg⟩
    | inr r =>
      intro ih hg
      have := ih hg
      rw [trE_len]
      simp at this; omega
termination_by (n, 0)
end
end LK
set_option Elab.async false
set_option linter.all false
set_option maxRecDepth 100000
set_option maxHeartbeats 400000
namespace LK
open PySem
/-! the law's look at a run -/
abbrev Td := List (PyData × Int)
def scanF (E : Es) (w : Int) : Td × Int → PyData → (Td × Int) ⊕ Unit
  | (todo, t), .tuple (.int g :: rest) => if (w, g) ∈ E then .inl (todo ++ [(.tuple (.int g :: rest), g)], t) else .inr ()
  | (todo, t), .int i => if 1 ≤ i ∧ i ≤ 999999 then .inl (todo, t + i) else .inr ()
  | _, _ => .inr ()
def popF (todo : Td) : Option (Int × List PyData) := match todo.getLast? with
  | some (.tuple [.int g, .tuple qs], w) => if g = w then some (w, qs) else none
  | _ => none
def isRunL (E : Es) : Nat → Td → Int → Int → Int → Bool
  | 0, _, _, _, _ => false
  | k + 1, todo, num, t, p => if todo = [] then decide (t ≤ 999999) && decide (p ≤ 400) else
    if 200 < num + 1 then false else
    match popF todo with
    | none => false
    | some (w, qs) => match walkF (scanF E w) (todo.dropLast, t) qs with
      | .inl (todo', t') => isRunL E k todo' (num + 1) t' (p + qs.length)
      | .inr _ => false
def okT (E : Es) (x : PyData × Int) : Bool := match x with
  | (.tuple [.int g, .tuple qs], w) => decide (g = w) && gp E w qs
  | _ => false
abbrev fs (l : Td) : List PyData := l.map (·.1)
theorem okT_inv {E : Es} {x : PyData × Int} (h : okT E x = true) : ∃ qs, x = (.tuple [.int x.2, .tuple qs], x.2) ∧ gp E x.2 qs = true := by
  obtain ⟨d, w⟩ := x
  unfold okT at h
  split at h
  · rename_i g qs w' e
    cases e
    simp only [Bool.and_eq_true, decide_eq_true_eq] at h
    obtain ⟨rfl, h⟩ := h
    exact ⟨qs, rfl, h⟩
  · cases h
theorem scan_ok {E : Es} {w : Int} : ∀ (qs : List PyData) (todo : Td) (t : Int), match walkF (scanF E w) (todo, t) qs with
    | .inl (todo2, t2) => ∃ new, todo2 = todo ++ new ∧ gp E w qs = new.all (okT E) ∧ (gp E w qs = true → cR qs = cR (fs new) ∧ t + cT qs = t2 + cT (fs new) ∧ cI qs + cR qs + new.length = qs.length + cI (fs new) + cR (fs new))
    | .inr _ => gp E w qs = false
  | [], todo, t => by
    show ∃ new, todo = todo ++ new ∧ _
    exact ⟨[], by simp, by rw [gp_nil]; rfl, fun _ => ⟨rfl, by simp [cT_nil], by simp [cI_nil, cR_nil]⟩⟩
  | p :: qs, todo, t => by
    by_cases hk : ∃ i, p = .int i
    · obtain ⟨i, rfl⟩ := hk
      by_cases hi : 1 ≤ i ∧ i ≤ 999999
      · have e : scanF E w (todo, t) (.int i) = .inl (todo, t + i) := by
          show (if 1 ≤ i ∧ i ≤ 999999 then _ else _) = _
          rw [if_pos hi]
        rw [walkF_inl e]
        have ih := scan_ok (E := E) (w := w) qs todo (t + i)
        revert ih
        cases hw : walkF (scanF E w) (todo, t + i) qs with
        | inl r =>
          obtain ⟨todo2, t2⟩ := r
          rintro ⟨new, e1, e2, e3⟩
          refine ⟨new, e1, by rw [gp_int, e2]; simp [hi.1, hi.2], fun hg => ?_⟩
          rw [gp_int] at hg
          simp only [Bool.and_eq_true] at hg
          obtain ⟨h1, h2, h3⟩ := e3 hg.2
          rw [cR_int, cT_int, cI_int]
          refine ⟨h1, by omega, by simp; omega⟩
        | inr r =>
          intro ih
          show gp E w (.int i :: qs) = false
          have ih : gp E w qs = false := ih
          rw [gp_int, ih]; simp
      · have e : scanF E w (todo, t) (.int i) = .inr () := by
          show (if 1 ≤ i ∧ i ≤ 999999 then _ else _) = _
          rw [if_neg hi]
        rw [walkF_inr e]
        show gp E w (.int i :: qs) = false
        rw [gp_int]
        cases h : (decide (1 ≤ i) && decide (i ≤ 999999)) with
        | false => rfl
        | true => exact absurd (by simpa using h) hi
    · by_cases ht : ∃ g rest, p = .tuple (.int g :: rest)
      · obtain ⟨g, rest, rfl⟩ := ht
        by_cases he : (w, g) ∈ E
        · have e : scanF E w (todo, t) (.tuple (.int g :: rest)) = .inl (todo ++ [(.tuple (.int g :: rest), g)], t) := by
            show (if (w, g) ∈ E then _ else _) = _
            rw [if_pos he]
          rw [walkF_inl e]
          have ih := scan_ok (E := E) (w := w) qs (todo ++ [(.tuple (.int g :: rest), g)]) t
          revert ih
          have hp : gp E w (.tuple (.int g :: rest) :: qs) = (okT E (.tuple (.int g :: rest), g) && gp E w qs) := by
            by_cases hr : ∃ rs, rest = [.tuple rs]
            · obtain ⟨rs, rfl⟩ := hr
              rw [gp_run]
              simp [okT, he]
            · have h1 : okT E (.tuple (.int g :: rest), g) = false := by
                cases h : okT E (.tuple (.int g :: rest), g) with
                | false => rfl
                | true =>
                  obtain ⟨qs', e, _⟩ := okT_inv h
                  simp at e
                  exact absurd ⟨qs', e⟩ hr
              rw [h1]
              cases h : gp E w (.tuple (.int g :: rest) :: qs) with
              | false => rfl
              | true =>
                have := sp_pk (gp_sp _ _ h)
                cases this with
                | run g' rs => exact absurd ⟨rs, rfl⟩ hr
          cases hw : walkF (scanF E w) (todo ++ [(.tuple (.int g :: rest), g)], t) qs with
          | inl r =>
            obtain ⟨todo2, t2⟩ := r
            rintro ⟨new, e1, e2, e3⟩
            refine ⟨(.tuple (.int g :: rest), g) :: new, by rw [e1]; simp, by rw [hp, e2]; rfl, fun hg => ?_⟩
            rw [hp] at hg
            simp only [Bool.and_eq_true] at hg
            obtain ⟨h1, h2, h3⟩ := e3 hg.2
            obtain ⟨rs, er, hgr⟩ := okT_inv hg.1
            simp at er
            subst er
            rw [cR_run, cT_run, cI_run]
            show _ = cR (.tuple [.int g, .tuple rs] :: fs new) ∧ _ = t2 + cT (.tuple [.int g, .tuple rs] :: fs new) ∧ _ = _ + cI (.tuple [.int g, .tuple rs] :: fs new) + cR (.tuple [.int g, .tuple rs] :: fs new)
            rw [cR_run, cT_run, cI_run]
            refine ⟨by omega, by omega, by simp; omega⟩
          | inr r =>
            intro ih
            show gp E w (.tuple (.int g :: rest) :: qs) = false
            have ih : gp E w qs = false := ih
            rw [hp, ih]; simp
        · have e : scanF E w (todo, t) (.tuple (.int g :: rest)) = .inr () := by
            show (if (w, g) ∈ E then _ else _) = _
            rw [if_neg he]
          rw [walkF_inr e]
          show gp E w (.tuple (.int g :: rest) :: qs) = false
          cases h : gp E w (.tuple (.int g :: rest) :: qs) with
          | false => rfl
          | true =>
            have := sp_pk (gp_sp _ _ h)
            cases this with
            | run g' rs =>
              rw [gp_run] at h
              simp only [Bool.and_eq_true, decide_eq_true_eq] at h
              exact absurd h.1.1 he
      · have e : scanF E w (todo, t) p = .inr () := by
          unfold scanF
          split
          · exact absurd ⟨_, _, rfl⟩ ht
          · exact absurd ⟨_, rfl⟩ hk
          · rfl
        rw [walkF_inr e]
        show gp E w (p :: qs) = false
        cases h : gp E w (p :: qs) with
        | false => rfl
        | true =>
          have := sp_pk (gp_sp _ _ h)
          cases this with
          | int i => exact absurd ⟨_, rfl⟩ hk
          | run g' rs => exact absurd ⟨_, _, rfl⟩ ht
theorem snoc_of {α : Type} {l : List α} (h : l ≠ []) : ∃ i x, l = i ++ [x] := ⟨l.dropLast, l.getLast h, (List.dropLast_concat_getLast h).symm⟩
theorem popF_snoc {i : Td} {x : PyData × Int} {E : Es} : match popF (i ++ [x]) with
    | some (w, qs) => x = (.tuple [.int w, .tuple qs], w) ∧ okT E x = gp E w qs
    | none => okT E x = false := by
  unfold popF
  rw [List.getLast?_concat]
  obtain ⟨d, w⟩ := x
  split
  · rename_i e
    split at e
    · rename_i e2
      cases e2
      split at e
      · rename_i hgw
        cases e
        subst hgw
        exact ⟨rfl, by simp [okT]⟩
      · cases e
    · cases e
  · rename_i e
    cases h : okT E (d, w) with
    | false => rfl
    | true =>
      obtain ⟨qs, e2, _⟩ := okT_inv h
      simp at e2
      subst e2
      simp at e
theorem isRunL_bad {E : Es} : ∀ (k : Nat) (todo : Td) (num t p : Int), todo.all (okT E) = false → isRunL E k todo num t p = false
  | 0, _, _, _, _, _ => rfl
  | k + 1, todo, num, t, p, h => by
    have hn : todo ≠ [] := by rintro rfl; cases h
    obtain ⟨i, x, rfl⟩ := snoc_of hn
    unfold isRunL
    rw [if_neg hn]
    split
    · rfl
    have hpop := popF_snoc (i := i) (x := x) (E := E)
    revert hpop
    cases popF (i ++ [x]) with
    | none => intro _; rfl
    | some r =>
      obtain ⟨w, qs⟩ := r
      rintro ⟨hx, ho⟩
      rw [List.dropLast_concat]
      have hs := scan_ok (E := E) (w := w) qs i t
      revert hs
      show (match walkF (scanF E w) (i, t) qs with | .inl (todo2, t2) => _ | .inr _ => _) → (match walkF (scanF E w) (i, t) qs with | .inl (todo', t') => isRunL E k todo' (num + 1) t' (p + qs.length) | .inr _ => false) = false
      cases walkF (scanF E w) (i, t) qs with
      | inr _ => intro _; rfl
      | inl r =>
        obtain ⟨todo2, t2⟩ := r
        rintro ⟨new, e1, e2, _⟩
        refine isRunL_bad k todo2 _ _ _ ?_
        rw [e1, List.all_append, ← e2, ← ho]
        rw [List.all_append] at h
        simpa [Bool.and_comm] using h
theorem fs_snoc {i : Td} {x : PyData × Int} : fs (i ++ [x]) = fs i ++ [x.1] := by simp
theorem isRunL_good {E : Es} : ∀ (k : Nat) (todo : Td) (num t p : Int), todo.all (okT E) = true → num + k = 201 →
    isRunL E k todo num t p = decide (num + cR (fs todo) ≤ 200 ∧ t + cT (fs todo) ≤ 999999 ∧ p + cI (fs todo) + cR (fs todo) - todo.length ≤ 400)
  | 0, todo, num, t, p, _, hn => by
    have : ¬ (num + cR (fs todo) ≤ 200 ∧ t + cT (fs todo) ≤ 999999 ∧ p + cI (fs todo) + cR (fs todo) - todo.length ≤ 400) := by
      intro h; omega
    rw [decide_eq_false this]; rfl
  | k + 1, todo, num, t, p, h, hn => by
    unfold isRunL
    by_cases he : todo = []
    · subst he
      rw [if_pos rfl]
      have hz : num ≤ 200 := by omega
      simp [cR_nil, cT_nil, cI_nil, hz]
    · rw [if_neg he]
      obtain ⟨i, x, rfl⟩ := snoc_of he
      rw [List.all_append] at h
      simp only [Bool.and_eq_true, List.all_cons, List.all_nil, Bool.and_true] at h
      have hpop := popF_snoc (i := i) (x := x) (E := E)
      revert hpop
      cases popF (i ++ [x]) with
      | none => intro ho; have ho : okT E x = false := ho; rw [ho] at h; cases h.2
      | some r =>
        obtain ⟨w, qs⟩ := r
        rintro ⟨hx, ho⟩
        have hg : gp E w qs = true := by
          have ho : okT E x = gp E w qs := ho
          rw [← ho]; exact h.2
        have hx1 : x.1 = .tuple [.int w, .tuple qs] := by rw [hx]
        have c1 : cR (fs (i ++ [x])) = cR (fs i) + 1 + cR qs := by rw [fs_snoc, cR_append, hx1, cR_run, cR_nil]; omega
        have c2 : cI (fs (i ++ [x])) = cI (fs i) + cI qs := by rw [fs_snoc, cI_append, hx1, cI_run, cI_nil]; omega
        have c3 : cT (fs (i ++ [x])) = cT (fs i) + cT qs := by rw [fs_snoc, cT_append, hx1, cT_run, cT_nil]; omega
        rw [c1, c2, c3]
        by_cases hz : 200 < num + 1
        · rw [if_pos hz]
          symm
          apply decide_eq_false
          intro hh
          omega
        · rw [if_neg hz, List.dropLast_concat]
          have hs := scan_ok (E := E) (w := w) qs i t
          revert hs
          show (match walkF (scanF E w) (i, t) qs with | .inl (todo2, t2) => _ | .inr _ => _) → (match walkF (scanF E w) (i, t) qs with | .inl (todo', t') => isRunL E k todo' (num + 1) t' (p + qs.length) | .inr _ => false) = _
          cases walkF (scanF E w) (i, t) qs with
          | inr _ => intro hf; have hf : gp E w qs = false := hf; rw [hg] at hf; cases hf
          | inl r =>
            obtain ⟨todo2, t2⟩ := r
            rintro ⟨new, e1, e2, e3⟩
            obtain ⟨d1, d2, d3⟩ := e3 hg
            have hall : todo2.all (okT E) = true := by rw [e1, List.all_append, ← e2, hg, h.1]; rfl
            show isRunL E k todo2 (num + 1) t2 (p + qs.length) = _
            rw [isRunL_good k todo2 _ _ _ hall (by omega), e1]
            have f1 : cR (fs (i ++ new)) = cR (fs i) + cR (fs new) := by show cR (List.map _ _) = _; rw [List.map_append, cR_append]
            have f2 : cI (fs (i ++ new)) = cI (fs i) + cI (fs new) := by show cI (List.map _ _) = _; rw [List.map_append, cI_append]
            have f3 : cT (fs (i ++ new)) = cT (fs i) + cT (fs new) := by show cT (List.map _ _) = _; rw [List.map_append, cT_append]
            rw [f1, f2, f3]
            simp only [List.length_append, List.length_cons, List.length_nil]
            congr 1
            apply propext
            constructor <;> (rintro ⟨a1, a2, a3⟩; refine ⟨by omega, by omega, by omega⟩)
/-- a run, as the document tells it -/
def goodRun (E : Es) : PyData → Bool
  | .tuple [.int f, .tuple ps] => decide (f = 0) && gp E 0 ps && few (trE 0 ps)
  | _ => false
theorem isRunL_eq {E : Es} (v : PyData) : isRunL E 201 [(v, 0)] 0 0 0 = goodRun E v := by
  cases h : okT E (v, 0) with
  | false =>
    rw [isRunL_bad 201 [(v, 0)] 0 0 0 (by simp [h])]
    unfold goodRun
    split
    · rename_i f ps
      unfold okT at h
      simp only at h
      by_cases hf : f = 0
      · simp [hf] at h; simp [h]
      · simp [hf]
    · rfl
  | true =>
    obtain ⟨qs, e, hg⟩ := okT_inv h
    simp at e hg
    subst e
    rw [isRunL_good 201 _ 0 0 0 (by simp [h]) (by omega)]
    simp only [goodRun, hg, few_trE]
    show decide (0 + ((cR [PyData.tuple [.int 0, .tuple qs]] : Nat) : Int) ≤ 200 ∧ 0 + cT [PyData.tuple [.int 0, .tuple qs]] ≤ 999999 ∧ 0 + ((cI [PyData.tuple [.int 0, .tuple qs]] : Nat) : Int) + ((cR [PyData.tuple [.int 0, .tuple qs]] : Nat) : Int) - ((1 : Nat) : Int) ≤ 400) = _
    rw [cR_run, cT_run, cI_run, cR_nil, cT_nil, cI_nil]
    simp only [decide_true, Bool.true_and]
    rw [← Bool.decide_and, ← Bool.decide_and]
    congr 1
    apply propext
    constructor <;> (intro hh; omega)
/-- what the program's reading of a run tells -/
theorem add_good {E : Es} (hE : EOk E) (n : Nat) (hn : 5 ≤ n) (f : Int) (ps : List PyData) : (match addF E n (.tuple [.int f, .tuple ps]) [] with
    | (true, evs) => if f = 0 ∧ few evs = true then some evs else none
    | (false, _) => none) = if goodRun E (.tuple [.int f, .tuple ps]) = true then some (trE f ps) else none := by
  by_cases hf : f = 0
  · subst hf
    have h := run_add hE n 0 ps [] (by omega) (by omega) (by omega)
    revert h
    generalize addF E n (.tuple [.int 0, .tuple ps]) [] = r
    obtain ⟨b, evs⟩ := r
    cases b with
    | true =>
      rintro ⟨e, hg⟩
      have e : evs = [] ++ trE 0 ps := e
      have hg : gp E 0 ps = true := hg
      rw [e, List.nil_append]
      simp [goodRun, hg]
    | false =>
      intro h
      have h : gp E 0 ps = true → 601 < ([] : List PyData).length + (trE 0 ps).length := h
      rw [if_neg]
      intro hh
      simp only [goodRun, Bool.and_eq_true] at hh
      have h1 := h hh.1.2
      have h2 := few_len (gp_sp _ _ hh.1.2) hh.2
      simp at h1; omega
  · have : goodRun E (.tuple [.int f, .tuple ps]) = false := by simp [goodRun, hf]
    rw [this]
    split
    · simp [hf]
    · simp
end LK
set_option Elab.async false
set_option linter.all false
set_option maxRecDepth 100000
set_option maxHeartbeats 400000
namespace LK
open PySem
/-! reading events: the law's way and the program's -/
abbrev Sk := List (Int × List PyData)
def runD (f : Int) (ps : List PyData) : PyData := .tuple [.int f, .tuple ps]
theorem evP_runD {f : Int} {qs : List PyData} : evP [runD f qs] = trE f qs := by
  unfold runD; rw [evP_run, evP_nil]; rfl
def readF (s : Sk × Option PyData) (ev : PyData) : (Sk × Option PyData) ⊕ Unit :=
  match s with
  | (_, some _) => .inr ()
  | (st, none) => match ev with
    | .tuple [.str x, .int g] =>
      if (x == "in") = true then .inl ((g, []) :: st, none) else
      if (x == "out") = true then (match st with
        | [] => .inr ()
        | [(f, ps)] => if f = g then .inl ([], some (runD f ps)) else .inr ()
        | (f, ps) :: (f2, qs) :: r => if f = g then .inl ((f2, qs ++ [runD f ps]) :: r, none) else .inr ())
      else .inr ()
    | .int i => (match st with
        | [] => .inr ()
        | (f, ps) :: r => .inl ((f, ps ++ [.int i]) :: r, none))
    | _ => .inr ()
def readR (E : Es) (evs : List PyData) : Option PyData := match walkF readF ([], none) evs with
  | .inl (_, some r) => if goodRun E r = true then some r else none
  | _ => none
def fl : Sk → List PyData
  | [] => []
  | (f, ps) :: r => fl r ++ inE f :: evP ps
theorem str_eq {x y : Str} (h : (x == y) = true) : x = y := eq_of_beq h
theorem in_ne_out : (("out" : Str) == "in") = false := by decide +kernel
theorem read_step {st : Sk} {ev : PyData} {s : Sk × Option PyData} (h : readF (st, none) ev = .inl s) :
    (s.2 = none ∧ fl s.1 = fl st ++ [ev]) ∨ ∃ f ps, s.2 = some (runD f ps) ∧ s.1 = [] ∧ trE f ps = fl st ++ [ev] := by
  unfold readF at h
  dsimp only at h
  split at h
  · rename_i x g
    by_cases h1 : (x == "in") = true
    · rw [if_pos h1] at h
      cases h
      have := str_eq h1
      subst this
      exact .inl ⟨rfl, by simp [fl, evP_nil, inE]⟩
    · rw [if_neg h1] at h
      by_cases h2 : (x == "out") = true
      · rw [if_pos h2] at h
        have := str_eq h2
        subst this
        split at h
        · cases h
        · rename_i f ps
          by_cases hf : f = g
          · rw [if_pos hf] at h
            cases h
            subst hf
            exact .inr ⟨f, ps, rfl, rfl, by simp [fl, trE, outE]⟩
          · rw [if_neg hf] at h; cases h
        · rename_i f ps f2 qs r
          by_cases hf : f = g
          · rw [if_pos hf] at h
            cases h
            subst hf
            refine .inl ⟨rfl, ?_⟩
            simp [fl, evP_append, evP_runD, trE, outE]
          · rw [if_neg hf] at h; cases h
      · rw [if_neg h2] at h; cases h
  · rename_i i
    split at h
    · cases h
    · rename_i f ps r
      cases h
      exact .inl ⟨rfl, by simp [fl, evP_append, evP_int, evP_nil]⟩
  · cases h
theorem read_sound : ∀ (evs : List PyData) (st : Sk) (s : Sk × Option PyData), walkF readF (st, none) evs = .inl s →
    ∀ r, s.2 = some r → ∃ f ps, r = runD f ps ∧ fl st ++ evs = trE f ps
  | [], st, s, h, r, hr => by
    cases h; cases hr
  | ev :: evs, st, s, h, r, hr => by
    cases q : readF (st, none) ev with
    | inr _ => rw [walkF_inr q] at h; cases h
    | inl s1 =>
      rw [walkF_inl q] at h
      obtain ⟨st1, d1⟩ := s1
      rcases read_step q with ⟨e1, e2⟩ | ⟨f, ps, e1, e2, e3⟩
      · dsimp only at e1 e2
        subst e1
        obtain ⟨f, ps, h1, h2⟩ := read_sound evs st1 s h r hr
        exact ⟨f, ps, h1, by rw [← h2, e2]; simp⟩
      · dsimp only at e1 e2
        subst e1 e2
        cases evs with
        | nil =>
          cases h
          cases hr
          exact ⟨f, ps, rfl, by rw [e3]⟩
        | cons ev2 evs =>
          rw [walkF_inr (b := ()) (by rfl)] at h; cases h
theorem read_in {st : Sk} {g : Int} : readF (st, none) (inE g) = .inl ((g, []) :: st, none) := by
  unfold readF inE
  dsimp only
  rw [if_pos (by decide +kernel)]
theorem out_ne_in : ¬ (("out" : Str) == "in") = true := by decide +kernel
theorem read_out {r : Sk} {f f2 : Int} {ps qs : List PyData} : readF ((f, ps) :: (f2, qs) :: r, none) (outE f) = .inl ((f2, qs ++ [runD f ps]) :: r, none) := by
  unfold readF outE
  dsimp only
  rw [if_neg out_ne_in, if_pos (by decide +kernel), if_pos rfl]
theorem read_out1 {f : Int} {ps : List PyData} : readF ([(f, ps)], none) (outE f) = .inl ([], some (runD f ps)) := by
  unfold readF outE
  dsimp only
  rw [if_neg out_ne_in, if_pos (by decide +kernel), if_pos rfl]
theorem read_complete : ∀ (ps es : List PyData) (f : Int) (q : List PyData) (r : Sk), sp ps = true →
    walkF readF ((f, q) :: r, none) (evP ps ++ es) = walkF readF ((f, q ++ ps) :: r, none) es
  | [], es, f, q, r, _ => by rw [evP_nil]; simp
  | p :: ps, es, f, q, r, h => by
    cases sp_pk h with
    | int i =>
      rw [sp_int] at h
      rw [evP_int, List.cons_append, walkF_inl (a' := ((f, q ++ [.int i]) :: r, none)) rfl, read_complete ps es f _ r h]
      simp
    | run g qs =>
      rw [sp_run, Bool.and_eq_true] at h
      rw [evP_run, List.cons_append, walkF_inl read_in, List.append_assoc, read_complete qs _ g [] _ h.1, List.nil_append, List.cons_append, walkF_inl read_out, read_complete ps es f _ r h.2]
      simp [runD]
termination_by ps => sizeOf ps
theorem read_tr {E : Es} {f : Int} {ps : List PyData} (h : sp ps = true) : readR E (trE f ps) = if goodRun E (runD f ps) = true then some (runD f ps) else none := by
  have : walkF readF ([], none) (trE f ps) = .inl ([], some (runD f ps)) := by
    unfold trE
    rw [walkF_inl read_in, read_complete ps _ f [] [] h, List.nil_append, walkF_inl read_out1]
    rfl
  unfold readR
  rw [this]
theorem readR_iff {E : Es} {evs : List PyData} {r : PyData} : readR E evs = some r ↔ ∃ ps, r = runD 0 ps ∧ gp E 0 ps = true ∧ few (trE 0 ps) = true ∧ evs = trE 0 ps := by
  constructor
  · intro h
    unfold readR at h
    split at h
    · rename_i st r' e
      obtain ⟨f, ps, e1, e2⟩ := read_sound evs [] _ e r' rfl
      by_cases hg : goodRun E r' = true
      · rw [if_pos hg] at h
        cases h
        subst e1
        have hg2 := hg
        simp only [goodRun, runD, Bool.and_eq_true, decide_eq_true_eq] at hg2
        obtain ⟨⟨rfl, h2⟩, h3⟩ := hg2
        exact ⟨ps, rfl, h2, h3, by simpa [fl] using e2⟩
      · rw [if_neg hg] at h; cases h
    · cases h
  · rintro ⟨ps, rfl, h1, h2, rfl⟩
    rw [read_tr (gp_sp _ _ h1)]
    have : goodRun E (runD 0 ps) = true := by simp [goodRun, runD, h1, h2]
    rw [if_pos this]
/-! the program's way -/
def joinF (E : Es) (st : Sk) (ev : PyData) : Sk ⊕ Unit :=
  match st, ev with
  | (f, ps) :: r, .int i => .inl ((f, ps ++ [.int i]) :: r)
  | (f, ps) :: r, .tuple [.str x, .int g] =>
    if (x == "in") = true then (if (f, g) ∈ E then .inl ((g, []) :: (f, ps) :: r) else .inr ()) else
    (match r with
      | [] => .inr ()
      | (f2, qs) :: r2 => if f = g then .inl ((f2, qs ++ [runD f ps]) :: r2) else .inr ())
  | _, _ => .inr ()
/-- what the program takes for an event -/
def isEvB (k : Int) : PyData → Bool
  | .int i => inRange 1 999999 (.int i)
  | .tuple [.str x, .int g] => ((x == "in") || (x == "out")) && decide (0 ≤ g) && decide (g ≤ k - 1)
  | _ => false
def okS (E : Es) : Sk → Prop
  | [] => False
  | [(f, ps)] => f = 0 ∧ gp E f ps = true
  | (f, ps) :: (f2, qs) :: r => gp E f ps = true ∧ (f2, f) ∈ E ∧ okS E ((f2, qs) :: r)
theorem okS_head {E : Es} {f : Int} {ps ps' : List PyData} {r : Sk} (h : okS E ((f, ps) :: r)) (hp : gp E f ps = true → gp E f ps' = true) : okS E ((f, ps') :: r) := by
  cases r with
  | nil => exact ⟨h.1, hp h.2⟩
  | cons x r => obtain ⟨f2, qs⟩ := x; exact ⟨hp h.1, h.2⟩
theorem join_step {E : Es} {k : Int} {st st' : Sk} {ev : PyData} (ho : okS E st) (he : isEvB k ev = true) (h : joinF E st ev = .inl st') : okS E st' ∧ fl st' = fl st ++ [ev] := by
  unfold joinF at h
  split at h
  · rename_i f ps r i
    cases h
    refine ⟨okS_head ho fun hg => ?_, by simp [fl, evP_append, evP_int, evP_nil]⟩
    rw [gp_append, hg, gp_int, gp_nil]
    simpa [isEvB, inRange] using he
  · rename_i f ps r x g
    by_cases h1 : (x == "in") = true
    · rw [if_pos h1] at h
      have := str_eq h1
      subst this
      by_cases h2 : (f, g) ∈ E
      · rw [if_pos h2] at h
        cases h
        exact ⟨⟨gp_nil, h2, ho⟩, by simp [fl, evP_nil, inE]⟩
      · rw [if_neg h2] at h; cases h
    · rw [if_neg h1] at h
      have hx : x = "out" := by
        simp only [isEvB, Bool.and_eq_true, Bool.or_eq_true] at he
        rcases he.1.1 with e | e
        · exact absurd e h1
        · exact str_eq e
      subst hx
      split at h
      · cases h
      · rename_i f2 qs r2
        by_cases hf : f = g
        · rw [if_pos hf] at h
          cases h
          subst hf
          refine ⟨okS_head ho.2.2 fun hg => ?_, by simp [fl, evP_append, evP_runD, trE, outE]⟩
          rw [gp_append, hg]
          unfold runD
          rw [gp_run, gp_nil, ho.1]
          simp [ho.2.1]
        · rw [if_neg hf] at h; cases h
  · cases h
theorem join_sound {E : Es} {k : Int} : ∀ (evs : List PyData) (st st' : Sk), okS E st → (∀ e ∈ evs, isEvB k e = true) → walkF (joinF E) st evs = .inl st' → okS E st' ∧ fl st' = fl st ++ evs
  | [], st, st', ho, _, h => by cases h; exact ⟨ho, by simp⟩
  | ev :: evs, st, st', ho, he, h => by
    cases q : joinF E st ev with
    | inr _ => rw [walkF_inr q] at h; cases h
    | inl s1 =>
      rw [walkF_inl q] at h
      obtain ⟨h1, h2⟩ := join_step ho (he ev (by simp)) q
      obtain ⟨h3, h4⟩ := join_sound evs s1 st' h1 (fun e hx => he e (by simp [hx])) h
      exact ⟨h3, by rw [h4, h2]; simp⟩
theorem join_in {E : Es} {r : Sk} {f g : Int} {ps : List PyData} (h : (f, g) ∈ E) : joinF E ((f, ps) :: r) (inE g) = .inl ((g, []) :: (f, ps) :: r) := by
  unfold joinF inE
  dsimp only
  rw [if_pos (by decide +kernel), if_pos h]
theorem join_out {E : Es} {r : Sk} {f f2 : Int} {ps qs : List PyData} : joinF E ((f, ps) :: (f2, qs) :: r) (outE f) = .inl ((f2, qs ++ [runD f ps]) :: r) := by
  unfold joinF outE
  dsimp only
  rw [if_neg out_ne_in, if_pos rfl]
theorem join_complete {E : Es} : ∀ (ps es : List PyData) (f : Int) (q : List PyData) (r : Sk), gp E f ps = true →
    walkF (joinF E) ((f, q) :: r) (evP ps ++ es) = walkF (joinF E) ((f, q ++ ps) :: r) es
  | [], es, f, q, r, _ => by rw [evP_nil]; simp
  | p :: ps, es, f, q, r, h => by
    cases sp_pk (gp_sp _ _ h) with
    | int i =>
      rw [gp_int] at h
      simp only [Bool.and_eq_true] at h
      rw [evP_int, List.cons_append, walkF_inl (a' := (f, q ++ [.int i]) :: r) rfl, join_complete ps es f _ r h.2]
      simp
    | run g qs =>
      rw [gp_run] at h
      simp only [Bool.and_eq_true, decide_eq_true_eq] at h
      rw [evP_run, List.cons_append, walkF_inl (join_in h.1.1), List.append_assoc, join_complete qs _ g [] _ h.1.2, List.nil_append, List.cons_append, walkF_inl join_out, join_complete ps es f _ r h.2]
      simp [runD]
termination_by ps => sizeOf ps
/-- the whole of the program's reading, once the events are events and few -/
def is0 (w : Str) : PyData → Bool
  | .tuple [.str x, .int g] => (x == w) && decide (g = 0)
  | _ => false
def one0 (w : Str) : List PyData → Bool
  | [e] => is0 w e
  | _ => false
theorem one0_inv {w : Str} {l : List PyData} (h : one0 w l = true) : l = [.tuple [.str w, .int 0]] := by
  unfold one0 at h
  split at h
  · unfold is0 at h
    split at h
    · simp only [Bool.and_eq_true, decide_eq_true_eq] at h
      rw [str_eq h.1, h.2]
    · cases h
  · cases h
def joinR (E : Es) (evs : List PyData) : Option PyData :=
  if (one0 "in" (evs.take 1) && one0 "out" (evs.drop (evs.length - 1))) = true then (match walkF (joinF E) [(0, [])] ((evs.drop 1).take (evs.length - 2)) with
    | .inl [(_, ps)] => some (runD 0 ps)
    | _ => none) else none
def progR (E : Es) (k : Int) (evs : List PyData) : Option PyData := if evs.all (isEvB k) = true ∧ few evs = true then joinR E evs else none
/-- the edges are of so many functions -/
def EIn (E : Es) (k : Int) : Prop := 1 ≤ k ∧ ∀ g f, (g, f) ∈ E → 0 ≤ f ∧ f ≤ k - 1
theorem evB_gp {E : Es} {k : Int} (hk : EIn E k) : ∀ (f : Int) (ps : List PyData), gp E f ps = true → (evP ps).all (isEvB k) = true
  | f, [], _ => by rw [evP_nil]; rfl
  | f, p :: ps, h => by
    cases sp_pk (gp_sp _ _ h) with
    | int i =>
      rw [gp_int] at h
      simp only [Bool.and_eq_true] at h
      rw [evP_int, List.all_cons, evB_gp hk f ps h.2]
      simpa [isEvB, inRange] using h.1
    | run g qs =>
      rw [gp_run] at h
      simp only [Bool.and_eq_true, decide_eq_true_eq] at h
      have hg := hk.2 f g h.1.1
      have e1 : isEvB k (inE g) = true := by
        show (((("in" : Str) == "in") || (("in" : Str) == "out")) && decide (0 ≤ g) && decide (g ≤ k - 1)) = true
        have : (("in" : Str) == "in") = true := by decide +kernel
        rw [this]; simp; omega
      have e2 : isEvB k (outE g) = true := by
        show (((("out" : Str) == "in") || (("out" : Str) == "out")) && decide (0 ≤ g) && decide (g ≤ k - 1)) = true
        have : (("out" : Str) == "out") = true := by decide +kernel
        rw [this]; simp; omega
      rw [evP_run, List.all_cons, List.all_append, List.all_cons, e1, e2, evB_gp hk g qs h.1.2, evB_gp hk f ps h.2]
      rfl
termination_by _ ps => sizeOf ps
theorem evB_tr {E : Es} {k : Int} (hk : EIn E k) {ps : List PyData} (h : gp E 0 ps = true) : (trE 0 ps).all (isEvB k) = true := by
  have e1 : isEvB k (inE 0) = true := by
    show (((("in" : Str) == "in") || (("in" : Str) == "out")) && decide ((0 : Int) ≤ 0) && decide ((0 : Int) ≤ k - 1)) = true
    have : (("in" : Str) == "in") = true := by decide +kernel
    have := hk.1
    rw [‹(("in" : Str) == "in") = true›]; simp; omega
  have e2 : isEvB k (outE 0) = true := by
    show (((("out" : Str) == "in") || (("out" : Str) == "out")) && decide ((0 : Int) ≤ 0) && decide ((0 : Int) ≤ k - 1)) = true
    have : (("out" : Str) == "out") = true := by decide +kernel
    have := hk.1
    rw [‹(("out" : Str) == "out") = true›]; simp; omega
  unfold trE
  rw [List.all_cons, List.all_append, List.all_cons, e1, e2, evB_gp hk 0 ps h]
  rfl
theorem okS_one {E : Es} {f : Int} {ps : List PyData} (h : okS E [(f, ps)]) : f = 0 ∧ gp E 0 ps = true := by
  have h : f = 0 ∧ gp E f ps = true := h
  obtain ⟨rfl, h2⟩ := h
  exact ⟨rfl, h2⟩
theorem progR_iff {E : Es} {k : Int} (hk : EIn E k) {evs : List PyData} {r : PyData} : progR E k evs = some r ↔ ∃ ps, r = runD 0 ps ∧ gp E 0 ps = true ∧ few (trE 0 ps) = true ∧ evs = trE 0 ps := by
  constructor
  · intro h
    unfold progR at h
    by_cases h1 : evs.all (isEvB k) = true ∧ few evs = true
    · rw [if_pos h1] at h
      unfold joinR at h
      by_cases h2' : (one0 "in" (evs.take 1) && one0 "out" (evs.drop (evs.length - 1))) = true
      · rw [if_pos h2'] at h
        have h2 : evs.take 1 = [inE 0] ∧ evs.drop (evs.length - 1) = [outE 0] := by
          simp only [Bool.and_eq_true] at h2'
          exact ⟨one0_inv h2'.1, one0_inv h2'.2⟩
        split at h
        · rename_i f ps e
          cases h
          have hm : ∀ e ∈ (evs.drop 1).take (evs.length - 2), isEvB k e = true := fun e he => by
            have := List.mem_of_mem_drop (List.mem_of_mem_take he)
            exact List.all_eq_true.mp h1.1 e this
          obtain ⟨h3, h4⟩ := join_sound _ _ _ (show okS E [(0, [])] from ⟨rfl, gp_nil⟩) hm e
          obtain ⟨rfl, h5⟩ := okS_one h3
          have h6 : inE 0 :: evP ps = inE 0 :: (evs.drop 1).take (evs.length - 2) := by
            simpa [fl, evP_nil] using h4
          have h7 : evP ps = (evs.drop 1).take (evs.length - 2) := by simpa using h6
          have hev : evs = trE 0 ps := by
            have hl : 2 ≤ evs.length := by
              rcases Nat.lt_or_ge evs.length 2 with hlt | hge
              · exfalso
                match evs, h2, hlt with
                | [], h2, _ => simp at h2
                | [a], h2, _ =>
                  simp at h2
                  have := h2.1.symm.trans h2.2
                  simp only [inE, outE, PyData.tuple.injEq, List.cons.injEq, PyData.str.injEq] at this
                  have e := this.1
                  have hn := in_ne_out
                  rw [← e] at hn
                  have : (("in" : Str) == "in") = true := by decide +kernel
                  rw [this] at hn; cases hn
                | _ :: _ :: _, _, h => simp at h; omega
              · exact hge
            have s1 : evs = evs.take 1 ++ evs.drop 1 := (List.take_append_drop 1 evs).symm
            have s2 : evs.drop 1 = (evs.drop 1).take (evs.length - 2) ++ (evs.drop 1).drop (evs.length - 2) := (List.take_append_drop _ _).symm
            have s3 : (evs.drop 1).drop (evs.length - 2) = evs.drop (evs.length - 1) := by
              rw [List.drop_drop]; congr 1; omega
            rw [s1, s2, s3, h2.1, h2.2, ← h7]
            rfl
          exact ⟨ps, rfl, h5, hev ▸ h1.2, hev⟩
        · cases h
      · rw [if_neg h2'] at h; cases h
    · rw [if_neg h1] at h; cases h
  · rintro ⟨ps, rfl, h1, h2, rfl⟩
    unfold progR
    rw [if_pos ⟨evB_tr hk h1, h2⟩]
    unfold joinR
    have hl : (trE 0 ps).length = (evP ps).length + 2 := trE_len
    have t1 : (trE 0 ps).take 1 = [inE 0] := by simp [trE]
    have t2 : (trE 0 ps).drop ((trE 0 ps).length - 1) = [outE 0] := by
      rw [hl]
      simp [trE]
    have t3 : ((trE 0 ps).drop 1).take ((trE 0 ps).length - 2) = evP ps := by
      rw [hl]
      simp [trE]
    have c1 : one0 "in" [inE 0] = true := by decide +kernel
    have c2 : one0 "out" [outE 0] = true := by decide +kernel
    rw [t1, t2, c1, c2, if_pos (by rfl), t3]
    have := join_complete (E := E) ps [] 0 [] [] h1
    rw [List.append_nil] at this
    rw [this]
    rfl
theorem progR_eq {E : Es} {k : Int} (hk : EIn E k) (evs : List PyData) : progR E k evs = readR E evs := by
  apply Option.ext
  intro r
  rw [progR_iff hk, readR_iff]
end LK
set_option Elab.async false
set_option linter.all false
set_option maxRecDepth 100000
namespace LK
open PySem PySem.Spec L2 DL
/-! ways, as lists of numbers -/
def lw (w : List Int) : Int := w.getLast?.getD 0
theorem lw_app (w : List Int) (j : Int) : lw (w ++ [j]) = j := by simp [lw]
def stepW (ws : Es) (w : List Int) : List (List Int) := ws.filterMap fun e => if e.1 = lw w then some (w ++ [e.2]) else none
def stepL (ws : Es) (lv : List (List Int)) : List (List Int) := lv.flatMap (stepW ws)
def ups (ws : Es) : Nat → List (List Int) → List (List Int) → List (List Int)
  | 0, fd, _ => fd
  | t + 1, fd, lv => ups ws t (fd ++ lv) (stepL ws lv)
def sing (n : Nat) : List (List Int) := (List.range n).map fun (k : Nat) => [(k : Int)]
def waysOf (n : Nat) (ws : Es) : List (List Int) := ups ws 8 [] (sing n)
theorem ups_nil (ws : Es) : ∀ (t : Nat) (fd : List (List Int)), ups ws t fd [] = fd
  | 0, _ => rfl
  | t + 1, fd => by
    show ups ws t (fd ++ []) (stepL ws []) = fd
    rw [List.append_nil]
    exact ups_nil ws t fd
/-- pairs of pieces -/
structure WOk (n : Nat) (ws : Es) : Prop where
  n1 : 1 ≤ n
  n8 : n ≤ 8
  ed : ∀ g f, (g, f) ∈ ws → 0 ≤ g ∧ g < f ∧ f < (n : Int)
  up : ws.Pairwise fun (a b : Int × Int) => DL.lexLt [a.1, a.2] [b.1, b.2] = true
/-- a way: ascending pieces -/
structure WayOk (n : Nat) (w : List Int) : Prop where
  ne : w ≠ []
  up : w.Pairwise (· < ·)
  le : ∀ x ∈ w, x ≤ lw w
  lo : ∀ x ∈ w, 0 ≤ x
  hi : lw w < n
theorem WayOk.mem {n : Nat} {w : List Int} (h : WayOk n w) {x : Int} (hx : x ∈ w) : 0 ≤ x ∧ x < n := ⟨h.lo x hx, Int.lt_of_le_of_lt (h.le x hx) h.hi⟩
theorem lw_mem {w : List Int} (h : w ≠ []) : lw w ∈ w := by
  unfold lw
  rw [List.getLast?_eq_some_getLast h]
  exact List.getLast_mem h
theorem WayOk.app {n : Nat} {ws : Es} (hw : WOk n ws) {w : List Int} (h : WayOk n w) {j : Int} (hj : (lw w, j) ∈ ws) : WayOk n (w ++ [j]) := by
  obtain ⟨h0, h1, h2⟩ := hw.ed _ _ hj
  refine ⟨by simp, ?_, fun x hx => ?_, fun x hx => ?_, by rw [lw_app]; exact h2⟩
  · rw [List.pairwise_append]
    refine ⟨h.up, by simp, fun a ha b hb => ?_⟩
    have : b = j := by simpa using hb
    subst this
    exact Int.lt_of_le_of_lt (h.le a ha) h1
  · rw [lw_app]
    rcases List.mem_append.mp hx with hx | hx
    · have := h.le x hx; omega
    · have : x = j := by simpa using hx
      omega
  · rcases List.mem_append.mp hx with hx | hx
    · exact h.lo x hx
    · have : x = j := by simpa using hx
      have := h.lo _ (lw_mem h.ne)
      omega
theorem stepW_mem {ws : Es} {w v : List Int} (h : v ∈ stepW ws w) : ∃ j, (lw w, j) ∈ ws ∧ v = w ++ [j] := by
  obtain ⟨e, he, h⟩ := List.mem_filterMap.mp h
  split at h
  · rename_i q
    refine ⟨e.2, ?_, by simpa using h.symm⟩
    rw [← q]; exact he
  · cases h
/-- the ways of one level -/
structure LvOk (n : Nat) (t : Nat) (lv : List (List Int)) : Prop where
  ok : ∀ w ∈ lv, WayOk n w
  hi : ∀ w ∈ lv, (t : Int) ≤ lw w
theorem LvOk.step {n t : Nat} {ws : Es} (hw : WOk n ws) {lv : List (List Int)} (h : LvOk n t lv) : LvOk n (t + 1) (stepL ws lv) := by
  have key : ∀ v ∈ stepL ws lv, ∃ w ∈ lv, ∃ j, (lw w, j) ∈ ws ∧ v = w ++ [j] := fun v hv => by
    obtain ⟨w, hw, hv⟩ := List.mem_flatMap.mp hv
    exact ⟨w, hw, stepW_mem hv⟩
  refine ⟨fun v hv => ?_, fun v hv => ?_⟩
  · obtain ⟨w, hl, j, hj, rfl⟩ := key v hv
    exact (h.ok w hl).app hw hj
  · obtain ⟨w, hl, j, hj, rfl⟩ := key v hv
    rw [lw_app]
    have := (hw.ed _ _ hj).2.1
    have := h.hi w hl
    omega
theorem LvOk.nil {n t : Nat} {lv : List (List Int)} (h : LvOk n t lv) (ht : n ≤ t) : lv = [] := by
  cases lv with
  | nil => rfl
  | cons w lv =>
    have h1 := h.hi w (by simp)
    have h2 := (h.ok w (by simp)).hi
    omega
theorem sing_ok (n : Nat) : LvOk n 0 (sing n) := by
  have key : ∀ w ∈ sing n, ∃ k : Nat, k < n ∧ w = [(k : Int)] := fun w hw => by
    obtain ⟨k, hk, rfl⟩ := List.mem_map.mp hw
    exact ⟨k, List.mem_range.mp hk, rfl⟩
  refine ⟨fun w hw => ?_, fun w hw => ?_⟩
  · obtain ⟨k, hk, rfl⟩ := key w hw
    exact ⟨by simp, by simp, by simp [lw], by simp, by simp [lw]; omega⟩
  · obtain ⟨k, hk, rfl⟩ := key w hw
    simp [lw]
/-! how many there are -/
def potW (w : List Int) : Nat := 2 ^ (7 - (lw w).toNat)
def pot (lv : List (List Int)) : Nat := (lv.map potW).sum
theorem pot_app (a b : List (List Int)) : pot (a ++ b) = pot a + pot b := by simp [pot]
theorem lex_snd {a b : Int × Int} (h : DL.lexLt [a.1, a.2] [b.1, b.2] = true) (e : a.1 = b.1) : a.2 < b.2 := by
  simp only [DL.lexLt] at h
  rw [e] at h
  simp at h
  omega
theorem pot_step1 {n : Nat} {w : List Int} : ∀ {ws : Es} (m : Nat), (∀ g f, (g, f) ∈ ws → 0 ≤ g ∧ g < f ∧ f < (n : Int)) → n ≤ 8 → ws.Pairwise (fun (a b : Int × Int) => DL.lexLt [a.1, a.2] [b.1, b.2] = true) →
    m < 8 → (∀ e ∈ ws, e.1 = lw w → (m : Int) < e.2) → pot (stepW ws w) + 1 ≤ 2 ^ (7 - m)
  | [], m, _, _, _, _, _ => by
    show 0 + 1 ≤ _
    exact Nat.succ_le_of_lt (Nat.two_pow_pos _)
  | e :: ws, m, h1, h8, h2, hm, h3 => by
    have hp := List.pairwise_cons.mp h2
    have hx := h1 e.1 e.2 (by simp)
    by_cases q : e.1 = lw w
    · have s : stepW (e :: ws) w = (w ++ [e.2]) :: stepW ws w := by simp [stepW, q]
      have hmm := h3 e (by simp) q
      have ih := pot_step1 (n := n) (w := w) (ws := ws) e.2.toNat (fun g f hf => h1 g f (by simp [hf])) h8 hp.2 (by omega) (fun e' he' q' => by
        have := lex_snd (hp.1 e' he') (q.trans q'.symm)
        omega)
      rw [s]
      show potW (w ++ [e.2]) + pot (stepW ws w) + 1 ≤ _
      unfold potW
      rw [lw_app]
      have e2 : 7 - m = (7 - (m + 1)) + 1 := by omega
      have mono : 2 ^ (7 - e.2.toNat) ≤ 2 ^ (7 - (m + 1)) := Nat.pow_le_pow_right (by omega) (by omega)
      rw [e2, Nat.pow_succ]
      omega
    · have s : stepW (e :: ws) w = stepW ws w := by simp [stepW, q]
      rw [s]
      exact pot_step1 m (fun g f hf => h1 g f (by simp [hf])) h8 hp.2 hm (fun e' he' => h3 e' (by simp [he']))
theorem pot_stepW {n : Nat} {ws : Es} (hw : WOk n ws) {w : List Int} (h : WayOk n w) : pot (stepW ws w) + 1 ≤ potW w := by
  have h1 := h.hi
  have h2 := h.lo _ (lw_mem h.ne)
  have := hw.n8
  refine pot_step1 (n := n) (lw w).toNat hw.ed hw.n8 hw.up (by omega) fun e he q => ?_
  have := (hw.ed e.1 e.2 he).2.1
  omega
theorem pot_step {n : Nat} {ws : Es} (hw : WOk n ws) : ∀ {lv : List (List Int)}, (∀ w ∈ lv, WayOk n w) → pot (stepL ws lv) + lv.length ≤ pot lv
  | [], _ => by simp [stepL, pot]
  | w :: lv, h => by
    have ih := pot_step hw (lv := lv) (fun w' hw' => h w' (by simp [hw']))
    have h1 := pot_stepW hw (h w (by simp))
    have s : stepL ws (w :: lv) = stepW ws w ++ stepL ws lv := rfl
    rw [s, pot_app]
    show _ ≤ potW w + pot lv
    simp only [List.length_cons]
    omega
theorem len_le_pot (lv : List (List Int)) : lv.length ≤ pot lv := by
  induction lv with
  | nil => simp [pot]
  | cons w lv ih =>
    show lv.length + 1 ≤ potW w + pot lv
    have : 0 < potW w := Nat.two_pow_pos _
    omega
theorem pot_sing (n : Nat) (h : n ≤ 8) : pot (sing n) ≤ 255 := by
  have : ∀ n, n ≤ 8 → pot (sing n) ≤ 255 := by
    intro n hn
    match n, hn with
    | 0, _ => decide
    | 1, _ => decide
    | 2, _ => decide
    | 3, _ => decide
    | 4, _ => decide
    | 5, _ => decide
    | 6, _ => decide
    | 7, _ => decide
    | 8, _ => decide
    | n + 9, hn => omega
  exact this n h
/-- what is found: it grows, each a way -/
structure UpOk (n : Nat) (t : Nat) (fd lv : List (List Int)) : Prop where
  few : fd.length + pot lv ≤ 255
  lv : LvOk n t lv
  fd : ∀ w ∈ fd, WayOk n w
theorem UpOk.step {n t : Nat} {ws : Es} (hw : WOk n ws) {fd lv : List (List Int)} (h : UpOk n t fd lv) : UpOk n (t + 1) (fd ++ lv) (stepL ws lv) := by
  refine ⟨?_, h.lv.step hw, fun w h' => ?_⟩
  · have := pot_step hw h.lv.ok
    have := h.few
    rw [List.length_append]
    omega
  · rcases List.mem_append.mp h' with h' | h'
    · exact h.fd w h'
    · exact h.lv.ok w h'
theorem up_sing {n : Nat} (h : n ≤ 8) : UpOk n 0 [] (sing n) := ⟨by simpa using pot_sing n h, sing_ok n, by simp⟩
theorem ups_ok {n : Nat} {ws : Es} (hw : WOk n ws) : ∀ (k t : Nat) (fd lv : List (List Int)), UpOk n t fd lv → UpOk n (t + k) (ups ws k fd lv) [] ∧ ∀ w ∈ fd, w ∈ ups ws k fd lv
  | 0, t, fd, lv, h => ⟨⟨by have := h.few; show fd.length + 0 ≤ 255; omega, ⟨by simp, by simp⟩, h.fd⟩, fun w hw => hw⟩
  | k + 1, t, fd, lv, h => by
    obtain ⟨h1, h2⟩ := ups_ok hw k (t + 1) _ _ (h.step hw)
    refine ⟨by rw [show t + (k + 1) = t + 1 + k by omega]; exact h1, fun w hw => h2 w (by simp [hw])⟩
theorem waysOf_ok {n : Nat} {ws : Es} (hw : WOk n ws) : ∀ w ∈ waysOf n ws, WayOk n w := (ups_ok hw 8 0 _ _ (up_sing hw.n8)).1.fd
theorem waysOf_few {n : Nat} {ws : Es} (hw : WOk n ws) : (waysOf n ws).length ≤ 255 := by
  have := (ups_ok hw 8 0 _ _ (up_sing hw.n8)).1.few
  unfold waysOf
  omega
theorem waysOf_sing {n : Nat} {ws : Es} (hw : WOk n ws) {k : Nat} (hk : k < n) : [(k : Int)] ∈ waysOf n ws := by
  have h := up_sing hw.n8
  exact (ups_ok hw 7 1 _ _ (h.step hw)).2 _ (by simp [sing]; exact ⟨k, hk, rfl⟩)
/-! lengths -/
def wl (ls : List Int) (w : List Int) : Int := (w.map fun k => ls.getD k.toNat 0).sum
def isMax (L : List Int) (m : Int) : Prop := m ∈ L ∧ ∀ y ∈ L, y ≤ m
theorem isMax_one {L : List Int} {a b : Int} (h : isMax L a) (k : isMax L b) : a = b := Int.le_antisymm (k.2 a h.1) (h.2 b k.1)
theorem maxI_is {L : List Int} (h : L ≠ []) : ∃ m, maxI L = some m ∧ isMax L m := by
  cases L with
  | nil => exact absurd rfl h
  | cons a r => exact ⟨_, rfl, big_mem r a, le_big r a⟩
theorem isMax_maxI {L : List Int} {m : Int} (h : isMax L m) : maxI L = some m := by
  obtain ⟨m', e, k⟩ := maxI_is (L := L) (fun e => by rw [e] at h; cases h.1)
  rw [e, isMax_one h k]
theorem sum_set {ls : List Int} {p : Nat} {add : Int} : ∀ {w : List Int}, w.Pairwise (· < ·) → (∀ x ∈ w, 0 ≤ x ∧ x < ls.length) → p < ls.length →
    wl (ls.set p (ls.getD p 0 + add)) w = wl ls w + if (p : Int) ∈ w then add else 0
  | [], _, _, _ => by simp [wl]
  | k :: w, h, hr, hp => by
    have hc := List.pairwise_cons.mp h
    have ih := sum_set (add := add) hc.2 (fun x hx => hr x (by simp [hx])) hp
    have hk := hr k (by simp)
    have e : (ls.set p (ls.getD p 0 + add)).getD k.toNat 0 = ls.getD k.toNat 0 + if k = p then add else 0 := by
      rw [List.getD_eq_getElem?_getD, List.getD_eq_getElem?_getD, List.getElem?_set]
      by_cases q : p = k.toNat
      · have q2 : k = p := by omega
        rw [if_pos q, if_pos hp, if_pos q2, ← q]
        simp
      · have q2 : ¬ k = p := by omega
        rw [if_neg q, if_neg q2]
        simp
    show (ls.set p (ls.getD p 0 + add)).getD k.toNat 0 + wl _ w = (ls.getD k.toNat 0 + wl ls w) + _
    rw [ih, e]
    by_cases q : k = p
    · have : ¬ (p : Int) ∈ w := fun hm => by have := hc.1 _ hm; omega
      simp [q, this]
      omega
    · have q' : ¬ (p : Int) = k := fun e => q e.symm
      simp only [q, if_false, List.mem_cons, q', false_or]
      omega
theorem grown_max {n : Nat} {ws : Es} (hw : WOk n ws) {ls : List Int} (hl : ls.length = n) {p : Nat} (hp : p < n) {far top more : Int}
    (hf : isMax ((waysOf n ws).map (wl ls)) far) (ht : isMax (((waysOf n ws).filter fun w => decide ((p : Int) ∈ w)).map (wl ls)) top) (hm : 0 ≤ more) :
    isMax ((waysOf n ws).map (wl (ls.set p (ls.getD p 0 + (far - top + more))))) (far + more) := by
  have key : ∀ w ∈ waysOf n ws, wl (ls.set p (ls.getD p 0 + (far - top + more))) w = wl ls w + if (p : Int) ∈ w then far - top + more else 0 := fun w h => by
    have o := waysOf_ok hw w h
    exact sum_set o.up (fun x hx => by have := o.mem hx; omega) (by omega)
  obtain ⟨w, hw1, e⟩ := List.mem_map.mp ht.1
  have hw2 := List.mem_filter.mp hw1
  refine ⟨List.mem_map.mpr ⟨w, hw2.1, ?_⟩, fun y hy => ?_⟩
  · rw [key w hw2.1, if_pos (by simpa using hw2.2)]
    omega
  · obtain ⟨v, hv, rfl⟩ := List.mem_map.mp hy
    rw [key v hv]
    by_cases q : (p : Int) ∈ v
    · rw [if_pos q]
      have := ht.2 (wl ls v) (List.mem_map.mpr ⟨v, List.mem_filter.mpr ⟨hv, by simpa using q⟩, rfl⟩)
      omega
    · rw [if_neg q]
      have := hf.2 (wl ls v) (List.mem_map.mpr ⟨v, hv, rfl⟩)
      omega
end LK
set_option Elab.async false
set_option linter.all false
set_option maxRecDepth 100000
namespace LK
open PySem PySem.Spec L2 DL
/-! heights -/
def preds (ws : Es) (p : Nat) : List Int := (ws.filter fun e => decide (e.2 = (p : Int))).map (·.1)
def hNext (ls : List Int) (ws : Es) (fd : List Int) : Int := ls.getD fd.length 0 + maxD0 ((preds ws fd.length).map fun i => fd.getD i.toNat 0)
def htsN (ls : List Int) (ws : Es) : Nat → List Int
  | 0 => []
  | k + 1 => htsN ls ws k ++ [hNext ls ws (htsN ls ws k)]
theorem htsN_len (ls : List Int) (ws : Es) : ∀ k, (htsN ls ws k).length = k
  | 0 => rfl
  | k + 1 => by rw [htsN, List.length_append, htsN_len ls ws k]; rfl
def hAt (ls : List Int) (ws : Es) (p : Nat) : Int := hNext ls ws (htsN ls ws p)
theorem htsN_get (ls : List Int) (ws : Es) : ∀ k i, i < k → (htsN ls ws k).getD i 0 = hAt ls ws i
  | 0, i, h => by omega
  | k + 1, i, h => by
    have hl := htsN_len ls ws k
    rw [htsN, List.getD_eq_getElem?_getD]
    by_cases q : i < k
    · rw [List.getElem?_append_left (by omega), ← List.getD_eq_getElem?_getD]
      exact htsN_get ls ws k i q
    · have : i = k := by omega
      subst this
      rw [List.getElem?_append_right (by omega), hl]
      simp [hAt]
theorem preds_lt {n : Nat} {ws : Es} (hw : WOk n ws) {p : Nat} {i : Int} (h : i ∈ preds ws p) : 0 ≤ i ∧ i < p ∧ (i, (p : Int)) ∈ ws := by
  obtain ⟨e, he, rfl⟩ := List.mem_map.mp h
  have := List.mem_filter.mp he
  have h2 : e.2 = (p : Int) := by simpa using this.2
  have h3 := hw.ed e.1 e.2 this.1
  rw [h2] at h3
  refine ⟨h3.1, h3.2.1, ?_⟩
  rw [← h2]; exact this.1
theorem hAt_eq {n : Nat} {ws : Es} (hw : WOk n ws) (ls : List Int) (p : Nat) : hAt ls ws p = ls.getD p 0 + maxD0 ((preds ws p).map fun i => hAt ls ws i.toNat) := by
  unfold hAt hNext
  rw [htsN_len]
  congr 2
  refine List.map_congr_left fun i hi => ?_
  have := preds_lt hw hi
  exact htsN_get ls ws p i.toNat (by omega)
theorem maxD0_ge {L : List Int} {y : Int} (h : y ∈ L) : y ≤ maxD0 L := by
  cases L with
  | nil => cases h
  | cons n ns => exact le_big ns n y h
theorem maxD0_mem {L : List Int} (h : L ≠ []) : maxD0 L ∈ L := by
  cases L with
  | nil => exact absurd rfl h
  | cons n ns => exact big_mem ns n
theorem big0 {L : List Int} (h : ∀ y ∈ L, 0 ≤ y) : big 0 L = maxD0 L := by
  cases L with
  | nil => rfl
  | cons n ns =>
    have := h n (by simp)
    show big (if 0 < n then n else 0) ns = big n ns
    congr 1
    split <;> omega
theorem maxD0_nn {L : List Int} (h : ∀ y ∈ L, 0 ≤ y) : 0 ≤ maxD0 L := by
  cases L with
  | nil => exact Int.le_refl _
  | cons n ns => exact Int.le_trans (h n (by simp)) (maxD0_ge (L := n :: ns) (by simp))
theorem hAt_nn {n : Nat} {ws : Es} (hw : WOk n ws) {ls : List Int} (h0 : ∀ k, 0 ≤ ls.getD k 0) : ∀ p, 0 ≤ hAt ls ws p := fun p => by
  induction p using Nat.strongRecOn with
  | ind p ih =>
    rw [hAt_eq hw]
    have := h0 p
    have : 0 ≤ maxD0 ((preds ws p).map fun i => hAt ls ws i.toNat) := maxD0_nn fun y hy => by
      obtain ⟨i, hi, rfl⟩ := List.mem_map.mp hy
      have := preds_lt hw hi
      exact ih _ (by omega)
    omega
/-! what all ways keep -/
theorem ups_all {ws : Es} {P : List Int → Prop} (step : ∀ w j, P w → (lw w, j) ∈ ws → P (w ++ [j])) : ∀ (t : Nat) (fd lv : List (List Int)), (∀ w ∈ fd, P w) → (∀ w ∈ lv, P w) → ∀ w ∈ ups ws t fd lv, P w
  | 0, fd, lv, h1, _ => h1
  | t + 1, fd, lv, h1, h2 => ups_all step t _ _ (fun w hw => (List.mem_append.mp hw).elim (h1 w) (h2 w)) fun w hw => by
    obtain ⟨v, hv, h⟩ := List.mem_flatMap.mp hw
    obtain ⟨j, hj, rfl⟩ := stepW_mem h
    exact step v j (h2 v hv) hj
theorem wl_app (ls : List Int) (w : List Int) (j : Int) : wl ls (w ++ [j]) = wl ls w + ls.getD j.toNat 0 := by simp [wl]
theorem ways_le {n : Nat} {ws : Es} (hw : WOk n ws) {ls : List Int} (h0 : ∀ k, 0 ≤ ls.getD k 0) : ∀ w ∈ waysOf n ws, wl ls w ≤ hAt ls ws (lw w).toNat ∧ 0 ≤ lw w :=
  ups_all (P := fun w => wl ls w ≤ hAt ls ws (lw w).toNat ∧ 0 ≤ lw w) (fun w j ⟨h1, h2⟩ hj => by
    have hr := hw.ed _ _ hj
    rw [lw_app, wl_app]
    refine ⟨?_, by omega⟩
    rw [hAt_eq hw ls j.toNat]
    have hp : lw w ∈ preds ws j.toNat := List.mem_map.mpr ⟨(lw w, j), List.mem_filter.mpr ⟨hj, by simp; omega⟩, rfl⟩
    have := maxD0_ge (L := (preds ws j.toNat).map fun i => hAt ls ws i.toNat) (List.mem_map.mpr ⟨_, hp, rfl⟩)
    omega) 8 [] (sing n) (fun w h => by cases h) fun w h => by
      obtain ⟨k, hk, rfl⟩ := List.mem_map.mp h
      refine ⟨?_, by simp [lw]⟩
      have e : lw [(k : Int)] = k := rfl
      rw [e, hAt_eq hw]
      have : 0 ≤ maxD0 ((preds ws k).map fun i => hAt ls ws i.toNat) := maxD0_nn fun y hy => by
        obtain ⟨i, hi, rfl⟩ := List.mem_map.mp hy
        exact hAt_nn hw h0 _
      simp [wl]
      omega
/-! the levels -/
def lvl (ws : Es) (lv : List (List Int)) : Nat → List (List Int)
  | 0 => lv
  | t + 1 => stepL ws (lvl ws lv t)
theorem lvl_shift (ws : Es) (lv : List (List Int)) : ∀ t, lvl ws (stepL ws lv) t = lvl ws lv (t + 1)
  | 0 => rfl
  | t + 1 => by rw [lvl, lvl_shift ws lv t]; rfl
theorem ups_mem {ws : Es} : ∀ (t : Nat) (fd lv : List (List Int)) (w : List Int), w ∈ ups ws t fd lv ↔ w ∈ fd ∨ ∃ s, s < t ∧ w ∈ lvl ws lv s
  | 0, fd, lv, w => by simp [ups]
  | t + 1, fd, lv, w => by
    rw [ups, ups_mem t, List.mem_append]
    constructor
    · rintro ((h | h) | ⟨s, hs, h⟩)
      · exact .inl h
      · exact .inr ⟨0, by omega, h⟩
      · exact .inr ⟨s + 1, by omega, by rw [← lvl_shift]; exact h⟩
    · rintro (h | ⟨s, hs, h⟩)
      · exact .inl (.inl h)
      · cases s with
        | zero => exact .inl (.inr h)
        | succ s => exact .inr ⟨s, by omega, by rw [lvl_shift]; exact h⟩
theorem lvl_ok {n : Nat} {ws : Es} (hw : WOk n ws) : ∀ t, LvOk n t (lvl ws (sing n) t)
  | 0 => sing_ok n
  | t + 1 => (lvl_ok hw t).step hw
theorem ways_app {n : Nat} {ws : Es} (hw : WOk n ws) {w : List Int} {j : Int} (h : w ∈ waysOf n ws) (hj : (lw w, j) ∈ ws) : w ++ [j] ∈ waysOf n ws := by
  obtain h | ⟨s, hs, h⟩ := (ups_mem 8 [] (sing n) w).mp h
  · cases h
  · have h1 : w ++ [j] ∈ lvl ws (sing n) (s + 1) := List.mem_flatMap.mpr ⟨w, h, List.mem_filterMap.mpr ⟨(lw w, j), hj, by simp⟩⟩
    by_cases q : s + 1 < 8
    · exact (ups_mem 8 [] (sing n) _).mpr (.inr ⟨s + 1, q, h1⟩)
    · have := (lvl_ok hw (s + 1)).nil (by have := hw.n8; omega)
      rw [this] at h1
      cases h1
theorem ways_at {n : Nat} {ws : Es} (hw : WOk n ws) (ls : List Int) : ∀ p, p < n → ∃ w ∈ waysOf n ws, lw w = (p : Int) ∧ wl ls w = hAt ls ws p := fun p => by
  induction p using Nat.strongRecOn with
  | ind p ih =>
    intro hp
    rw [hAt_eq hw]
    by_cases q : preds ws p = []
    · refine ⟨[(p : Int)], waysOf_sing hw hp, rfl, ?_⟩
      rw [q]
      simp [wl, maxD0]
    · have hm := maxD0_mem (L := (preds ws p).map fun i => hAt ls ws i.toNat) (by simpa using q)
      obtain ⟨i, hi, e⟩ := List.mem_map.mp hm
      have hr := preds_lt hw hi
      obtain ⟨w, h1, h2, h3⟩ := ih i.toNat (by omega) (by omega)
      have e2 : lw w = i := by omega
      refine ⟨w ++ [(p : Int)], ways_app hw h1 (by rw [e2]; exact hr.2.2), lw_app _ _, ?_⟩
      rw [wl_app, ← e, h3]
      show _ + ls.getD p 0 = _
      omega
theorem htsN_mem (ls : List Int) (ws : Es) (k : Nat) (y : Int) : y ∈ htsN ls ws k ↔ ∃ i, i < k ∧ y = hAt ls ws i := by
  induction k with
  | zero => simp [htsN]
  | succ k ih =>
    rw [htsN, List.mem_append, ih]
    constructor
    · rintro (⟨i, hi, e⟩ | h)
      · exact ⟨i, by omega, e⟩
      · have h : y = hNext ls ws (htsN ls ws k) := by simpa using h
        exact ⟨k, by omega, h⟩
    · rintro ⟨i, hi, e⟩
      by_cases q : i < k
      · exact .inl ⟨i, q, e⟩
      · have : i = k := by omega
        subst this
        exact .inr (by rw [e]; simp [hAt])
theorem hts_far {n : Nat} {ws : Es} (hw : WOk n ws) {ls : List Int} (h0 : ∀ k, 0 ≤ ls.getD k 0) {m : Int} (hm : isMax ((waysOf n ws).map (wl ls)) m) : isMax (htsN ls ws n) m := by
  obtain ⟨w, h1, rfl⟩ := List.mem_map.mp hm.1
  have h2 := ways_le hw h0 w h1
  have h3 := (waysOf_ok hw w h1).hi
  have up : ∀ p, p < n → hAt ls ws p ≤ wl ls w := fun p hp => by
    obtain ⟨v, v1, _, v3⟩ := ways_at hw ls p hp
    have := hm.2 _ (List.mem_map.mpr ⟨v, v1, rfl⟩)
    omega
  refine ⟨(htsN_mem ls ws n _).mpr ⟨(lw w).toNat, by omega, Int.le_antisymm h2.1 (up _ (by omega))⟩, fun y hy => ?_⟩
  obtain ⟨i, hi, rfl⟩ := (htsN_mem ls ws n y).mp hy
  exact up i hi
end LK
set_option Elab.async false
set_option linter.all false
set_option maxRecDepth 100000
namespace LK
open PySem PySem.Spec L2 DL
def top (i : Nat) : Stmt := PySem.Challenge.pw_sureticks_k35_whole_longest_ways.main.body.getD i (.Pass ⟨0, 0, 0, 0⟩)
abbrev ENs : List Str := ["InvalidLengths", "InvalidWaits", "TickError"]
structure Txt (P : Program) (K : PySem.W.Frag) (mg : Str → Option Value) (C_Work : Addr) : Prop where
  b_abs : mg "abs" = none
  b_all : mg "all" = none
  b_bool : mg "bool" = none
  b_int : mg "int" = none
  b_isinstance : mg "isinstance" = none
  b_len : mg "len" = none
  b_list : mg "list" = none
  b_max : mg "max" = none
  b_min : mg "min" = none
  b_range : mg "range" = none
  b_str : mg "str" = none
  b_sum : mg "sum" = none
  b_tuple : mg "tuple" = none
  b_zip : mg "zip" = none
  c_MOST_LENGTH : ∃ t, mg "MOST_LENGTH" = some (.int 999999 t)
  c_MOST_PIECES : ∃ t, mg "MOST_PIECES" = some (.int 8 t)
  g_Work : mg "Work" = some (.ref C_Work)
  cl_Work : Cls K C_Work
  mk_Work : MkC K C_Work
  is_Work : IsC K C_Work
  nt_Work : PySem.W.kitOne K (.ref C_Work) (.type "tuple") = some false
  n_Work_lengths : NoAttr K C_Work "lengths"
  n_Work_waits : NoAttr K C_Work "waits"
  x_InvalidLengths : ErrTxt P K mg "InvalidLengths" "value"
  x_InvalidWaits : ErrTxt P K mg "InvalidWaits" "value"
section
variable {P : Program} {w : World} {K : PySem.W.Frag} {mg : Str → Option Value} {base : Heap} {C_Work : Addr}
abbrev s__law_is_due : Stmt := (top 30)
abbrev N__law_is_due : List Str := ["told", "due"]
theorem sc__law_is_due : FnScope N__law_is_due ["told", "due"] (defScope s__law_is_due) := ⟨rfl, rfl, rfl, by decide +kernel, rfl, by decide +kernel, by decide +kernel⟩
def g__law_is_due : Fs := (sRet (eIf (eT (eVar 1)) (eBin (fIs false) (eVar 0) (eC (.bool true))) (eBin (fIs false) (eVar 0) (eC (.bool false)))))
def F__law_is_due : List D → M D := bodyF 2 2 g__law_is_due
set_option maxHeartbeats 2000000 in
theorem d__law_is_due (T : Txt P K mg C_Work) (At : DefAt K mg "_law_is_due" s__law_is_due ["told", "due"]) : DefOk P w K mg base "_law_is_due" ["told", "due"] 1 F__law_is_due :=
  def_ok At sc__law_is_due fun f cdv A outer s H E hr => (dss_one (ds_ret (de_if (dt_val (de_var 1)) (de_is (de_var 0) de_bl) (de_is (de_var 0) de_bl))))
abbrev s__law_whole : Stmt := (top 28)
abbrev N__law_whole : List Str := ["value"]
theorem sc__law_whole : FnScope N__law_whole ["value"] (defScope s__law_whole) := ⟨rfl, rfl, rfl, by decide +kernel, rfl, by decide +kernel, by decide +kernel⟩
def g__law_whole : Fs := (sRet (eAnd (eUn (fIsi "int") (eVar 0)) (eNot (eUn (fIsi "bool") (eVar 0)))))
def F__law_whole : List D → M D := bodyF 1 1 g__law_whole
set_option maxHeartbeats 2000000 in
theorem d__law_whole (T : Txt P K mg C_Work) (At : DefAt K mg "_law_whole" s__law_whole ["value"]) : DefOk P w K mg base "_law_whole" ["value"] 1 F__law_whole :=
  def_ok At sc__law_whole fun f cdv A outer s H E hr => (dss_one (ds_ret (de_and (de_isi rfl T.b_isinstance rfl T.b_int PyProof.Rows.boot_int (de_var 0)) (de_one (de_not (de_isi rfl T.b_isinstance rfl T.b_bool PyProof.Rows.boot_bool (de_var 0)))))))
abbrev s__law_is_numbers : Stmt := (top 29)
abbrev N__law_is_numbers : List Str := ["value", "many", "one"]
theorem sc__law_is_numbers : FnScope N__law_is_numbers ["value", "many"] (defScope s__law_is_numbers) := ⟨rfl, rfl, rfl, by decide +kernel, rfl, by decide +kernel, by decide +kernel⟩
abbrev t__law_is_numbers_1 : Fb := (bOr (bNot (eT (eCB F__law_whole (aCons (eVar 2) aNil)))) (bOr (eT (eBin fLt (eVar 2) (eC (.int 0)))) (eT (eBin fGe (eVar 2) (eVar 1)))))
abbrev c__law_is_numbers_1 : Fe := (eLc (srcSeq (eVar 0)) [2] (tName 2) t__law_is_numbers_1 (eVar 2))
abbrev b__law_is_numbers_1 : Fs := (sRet (eBin (fEq false) c__law_is_numbers_1 (eLst aNil)))
def g__law_is_numbers : Fs := (sSeq (sIf (bNot (eT (eUn (fIsiC "Work" "tuple") (eVar 0)))) (sRet (eC (.bool false))) sNil) b__law_is_numbers_1)
def F__law_is_numbers : List D → M D := bodyF 2 3 g__law_is_numbers
set_option maxHeartbeats 2000000 in
theorem d__law_is_numbers (T : Txt P K mg C_Work) (At : DefAt K mg "_law_is_numbers" s__law_is_numbers ["value", "many"]) (D__law_whole : DefOk P w K mg base "_law_whole" ["value"] 1 F__law_whole) : DefOk P w K mg base "_law_is_numbers" ["value", "many"] 2 F__law_is_numbers :=
  def_ok At sc__law_is_numbers fun f cdv A outer s H E hr => (dss_cons (ds_if (dt_not (dt_val (de_isiC T.g_Work T.is_Work T.nt_Work rfl T.b_isinstance rfl T.b_tuple PyProof.Rows.boot_tuple (de_var 0)))) (dss_one (ds_ret de_bl)) dss_nil) (dss_one (ds_ret (de_eq hr.units (de_lcI rfl sc__law_is_numbers.nd (di_seq (de_var 0)) (blkOk_by (own := [("one", 2)]) (N := N__law_is_numbers) (sc := defScope s__law_is_numbers) (by decide +kernel)) tgc_one (fun _ _ _ _ _ => pg_name (i := 2) sc__law_is_numbers.nd rfl (by first | exact Or.inl rfl | exact Or.inr rfl)) (fun _ _ _ _ _ => dts_one (DW.dt (dw_or (dt_not (dt_val (de_callD D__law_whole (hr.mono (by first | decide | omega | (simp only [Nat.add_eq]; omega))) rfl takes0 (da_cons (de_var 2) da_nil)))) (dw_or (dt_lt (de_var 2) de_int) (dw_or1 (dt_ge (de_var 2) (de_var 1))))))) (fun _ _ _ _ _ => (de_var 2))) (de_lst da_nil)))))
abbrev s__law_are_heights : Stmt := (top 37)
abbrev N__law_are_heights : List Str := ["work", "many", "value", "k", "pair"]
theorem sc__law_are_heights : FnScope N__law_are_heights ["work", "many", "value"] (defScope s__law_are_heights) := ⟨rfl, rfl, rfl, by decide +kernel, rfl, by decide +kernel, by decide +kernel⟩
abbrev t__law_are_heights_1 : Fb := (eT (eBin fLt (eBin fIx (eVar 2) (eBin fIx (eVar 4) (eC (.int 1)))) (eBin fAdd (eBin fIx (eBin fIx (eVar 0) (eC (.int 0))) (eBin fIx (eVar 4) (eC (.int 1)))) (eBin fIx (eVar 2) (eBin fIx (eVar 4) (eC (.int 0)))))))
abbrev s__law_are_heights_1 : Fsrc := (srcSeq (eBin fIx (eVar 0) (eC (.int 1))))
abbrev c__law_are_heights_1 : Fe := (eLc s__law_are_heights_1 [4] (tName 4) t__law_are_heights_1 (eVar 4))
abbrev b__law_are_heights_1 : Fs := (sRet (eBin (fEq false) c__law_are_heights_1 (eLst aNil)))
abbrev t__law_are_heights_2 : Fb := (eT (eBin fLt (eBin fIx (eVar 2) (eVar 3)) (eBin fIx (eBin fIx (eVar 0) (eC (.int 0))) (eVar 3))))
abbrev s__law_are_heights_2 : Fsrc := (srcRng1 (eCB (on1 fLen) (aCons (eVar 2) aNil)))
abbrev c__law_are_heights_2 : Fe := (eLc s__law_are_heights_2 [3] (tName 3) t__law_are_heights_2 (eVar 3))
abbrev b__law_are_heights_2 : Fs := (sSeq (sIf (eT (eBin (fEq true) c__law_are_heights_2 (eLst aNil))) (sRet (eC (.bool false))) sNil) b__law_are_heights_1)
def g__law_are_heights : Fs := (sSeq (sIf (bOr (bNot (eT (eCB F__law_whole (aCons (eVar 1) aNil)))) (bOr (eT (eBin fLt (eVar 1) (eC (.int 0)))) (bOr (bNot (eT (eCB F__law_is_numbers (aCons (eVar 2) (aCons (eBin fPow (eC (.int 10)) (eC (.int 12))) aNil))))) (bOr (eT (eBin (fEq true) (eCB (on1 fLen) (aCons (eVar 2) aNil)) (eCB (on1 fLen) (aCons (eBin fIx (eVar 0) (eC (.int 0))) aNil)))) (eT (eBin fGt (eCB (on1 fMaxA) (aCons (eVar 2) aNil)) (eVar 1))))))) (sRet (eC (.bool false))) sNil) b__law_are_heights_2)
def F__law_are_heights : List D → M D := bodyF 3 5 g__law_are_heights
set_option maxHeartbeats 2000000 in
theorem d__law_are_heights (T : Txt P K mg C_Work) (At : DefAt K mg "_law_are_heights" s__law_are_heights ["work", "many", "value"]) (D__law_is_numbers : DefOk P w K mg base "_law_is_numbers" ["value", "many"] 2 F__law_is_numbers) (D__law_whole : DefOk P w K mg base "_law_whole" ["value"] 1 F__law_whole) : DefOk P w K mg base "_law_are_heights" ["work", "many", "value"] 3 F__law_are_heights :=
  def_ok At sc__law_are_heights fun f cdv A outer s H E hr => (dss_cons (ds_if (DW.dt (dw_or (dt_not (dt_val (de_callD D__law_whole (hr.mono (by first | decide | omega | (simp only [Nat.add_eq]; omega))) rfl (takes_of rfl rfl rfl rfl) (da_cons (de_var 1) da_nil)))) (dw_or (dt_lt (de_var 1) de_int) (dw_or (dt_not (dt_val (de_callD D__law_is_numbers (hr.mono (by first | decide | omega | (simp only [Nat.add_eq]; omega))) rfl (takes_of rfl rfl rfl rfl) (da_cons (de_var 2) (da_cons (de_pow de_int de_int) da_nil))))) (dw_or (dt_ne hr.units (de_len rfl T.b_len (de_var 2)) (de_len rfl T.b_len (de_item (de_var 0) de_int))) (dw_or1 (dt_gt (de_maxA hr.units rfl T.b_max rfl (de_var 2)) (de_var 1)))))))) (dss_one (ds_ret de_bl)) dss_nil) (dss_cons (ds_if (dt_ne hr.units (de_lcI rfl sc__law_are_heights.nd (di_rng1 rfl T.b_range (de_len rfl T.b_len (de_var 2))) (blkOk_by (own := [("k", 3)]) (N := N__law_are_heights) (sc := defScope s__law_are_heights) (by decide +kernel)) tgc_one (fun _ _ _ _ _ => pg_name (i := 3) sc__law_are_heights.nd rfl (by first | exact Or.inl rfl | exact Or.inr rfl)) (fun _ _ _ _ _ => dts_one (dt_lt (de_item (de_var 2) (de_var 3)) (de_item (de_item (de_var 0) de_int) (de_var 3)))) (fun _ _ _ _ _ => (de_var 3))) (de_lst da_nil)) (dss_one (ds_ret de_bl)) dss_nil) (dss_one (ds_ret (de_eq hr.units (de_lcI rfl sc__law_are_heights.nd (di_seq (de_item (de_var 0) de_int)) (blkOk_by (own := [("pair", 4)]) (N := N__law_are_heights) (sc := defScope s__law_are_heights) (by decide +kernel)) tgc_one (fun _ _ _ _ _ => pg_name (i := 4) sc__law_are_heights.nd rfl (by first | exact Or.inl rfl | exact Or.inr rfl)) (fun _ _ _ _ _ => dts_one (dt_lt (de_item (de_var 2) (de_item (de_var 4) de_int)) (de_add (de_item (de_item (de_var 0) de_int) (de_item (de_var 4) de_int)) (de_item (de_var 2) (de_item (de_var 4) de_int))))) (fun _ _ _ _ _ => (de_var 4))) (de_lst da_nil))))))
abbrev s_is_integer : Stmt := (top 5)
abbrev N_is_integer : List Str := ["value"]
theorem sc_is_integer : FnScope N_is_integer ["value"] (defScope s_is_integer) := ⟨rfl, rfl, rfl, by decide +kernel, rfl, by decide +kernel, by decide +kernel⟩
def g_is_integer : Fs := (sRet (eAnd (eUn (fIsi "int") (eVar 0)) (eNot (eUn (fIsi "bool") (eVar 0)))))
def F_is_integer : List D → M D := bodyF 1 1 g_is_integer
set_option maxHeartbeats 2000000 in
theorem d_is_integer (T : Txt P K mg C_Work) (At : DefAt K mg "is_integer" s_is_integer ["value"]) : DefOk P w K mg base "is_integer" ["value"] 1 F_is_integer :=
  def_ok At sc_is_integer fun f cdv A outer s H E hr => (dss_one (ds_ret (de_and (de_isi rfl T.b_isinstance rfl T.b_int PyProof.Rows.boot_int (de_var 0)) (de_one (de_not (de_isi rfl T.b_isinstance rfl T.b_bool PyProof.Rows.boot_bool (de_var 0)))))))
abbrev s_is_integer_in : Stmt := (top 6)
abbrev N_is_integer_in : List Str := ["value", "low", "high"]
theorem sc_is_integer_in : FnScope N_is_integer_in ["value", "low", "high"] (defScope s_is_integer_in) := ⟨rfl, rfl, rfl, by decide +kernel, rfl, by decide +kernel, by decide +kernel⟩
def g_is_integer_in : Fs := (sRet (eAnd (eCB F_is_integer (aCons (eVar 0) aNil)) (eChain fLe fLe (eVar 1) (eVar 0) (eVar 2))))
def F_is_integer_in : List D → M D := bodyF 3 3 g_is_integer_in
set_option maxHeartbeats 2000000 in
theorem d_is_integer_in (T : Txt P K mg C_Work) (At : DefAt K mg "is_integer_in" s_is_integer_in ["value", "low", "high"]) (D_is_integer : DefOk P w K mg base "is_integer" ["value"] 1 F_is_integer) : DefOk P w K mg base "is_integer_in" ["value", "low", "high"] 2 F_is_integer_in :=
  def_ok At sc_is_integer_in fun f cdv A outer s H E hr => (dss_one (ds_ret (de_and (de_callD D_is_integer (hr.mono (by first | decide | omega | (simp only [Nat.add_eq]; omega))) rfl (takes_of rfl rfl rfl rfl) (da_cons (de_var 0) da_nil)) (de_one (de_chain op_le op_le (ok_int0 fun _ _ _ => .bl _) (ok_int0 fun _ _ _ => .bl _) (de_var 1) (de_var 0) (de_var 2))))))
abbrev s_is_number : Stmt := (top 7)
abbrev N_is_number : List Str := ["value"]
theorem sc_is_number : FnScope N_is_number ["value"] (defScope s_is_number) := ⟨rfl, rfl, rfl, by decide +kernel, rfl, by decide +kernel, by decide +kernel⟩
def g_is_number : Fs := (sRet (eAnd (eCB F_is_integer (aCons (eVar 0) aNil)) (eBin fGe (eVar 0) (eC (.int 0)))))
def F_is_number : List D → M D := bodyF 1 1 g_is_number
set_option maxHeartbeats 2000000 in
theorem d_is_number (T : Txt P K mg C_Work) (At : DefAt K mg "is_number" s_is_number ["value"]) (D_is_integer : DefOk P w K mg base "is_integer" ["value"] 1 F_is_integer) : DefOk P w K mg base "is_number" ["value"] 2 F_is_number :=
  def_ok At sc_is_number fun f cdv A outer s H E hr => (dss_one (ds_ret (de_and (de_callD D_is_integer (hr.mono (by first | decide | omega | (simp only [Nat.add_eq]; omega))) rfl (takes_of rfl rfl rfl rfl) (da_cons (de_var 0) da_nil)) (de_one (de_ge (de_var 0) de_int)))))
abbrev s_heights_hold : Stmt := (top 20)
abbrev N_heights_hold : List Str := ["work", "many", "value", "height", "length", "i", "j"]
theorem sc_heights_hold : FnScope N_heights_hold ["work", "many", "value"] (defScope s_heights_hold) := ⟨rfl, rfl, rfl, by decide +kernel, rfl, by decide +kernel, by decide +kernel⟩
abbrev e_heights_hold_1 : Fe := (eBin fGe (eBin fIx (eVar 2) (eVar 6)) (eBin fAdd (eBin fIx (eVar 2) (eVar 5)) (eBin fIx (eUn (fFld "Work" "lengths") (eVar 0)) (eVar 6))))
abbrev s_heights_hold_1 : Fsrc := (srcSeq (eUn (fFld "Work" "waits") (eVar 0)))
abbrev c_heights_hold_1 : Fe := (eLc s_heights_hold_1 [5, 6] (tTupT 2 (tsCons (tName 5) (tsCons (tName 6) tsNil))) (fun _ => M.pure true) e_heights_hold_1)
abbrev e_heights_hold_2 : Fe := (eBin fGe (eVar 3) (eVar 4))
abbrev s_heights_hold_2 : Fsrc := (srcZip2 (eVar 2) (eUn (fFld "Work" "lengths") (eVar 0)))
abbrev c_heights_hold_2 : Fe := (eLc s_heights_hold_2 [3, 4] (tTupT 2 (tsCons (tName 3) (tsCons (tName 4) tsNil))) (fun _ => M.pure true) e_heights_hold_2)
abbrev e_heights_hold_3 : Fe := (eCB F_is_integer_in (aCons (eVar 3) (aCons (eC (.int 0)) (aCons (eVar 1) aNil))))
abbrev c_heights_hold_3 : Fe := (eLc (srcSeq (eVar 2)) [3] (tName 3) (fun _ => M.pure true) e_heights_hold_3)
abbrev b_heights_hold_1 : Fs := (sRet (eAnd (eCB (on1 fAll) (aCons c_heights_hold_3 aNil)) (eAnd (eCB (on1 fAll) (aCons c_heights_hold_2 aNil)) (eCB (on1 fAll) (aCons c_heights_hold_1 aNil)))))
def g_heights_hold : Fs := (sSeq (sIf (bOr (bNot (eT (eCB F_is_number (aCons (eVar 1) aNil)))) (bOr (bNot (eT (eUn (fIsiC "Work" "tuple") (eVar 2)))) (eT (eBin (fEq true) (eCB (on1 fLen) (aCons (eVar 2) aNil)) (eCB (on1 fLen) (aCons (eUn (fFld "Work" "lengths") (eVar 0)) aNil)))))) (sRet (eC (.bool false))) sNil) b_heights_hold_1)
def F_heights_hold : List D → M D := bodyF 3 7 g_heights_hold
set_option maxHeartbeats 2000000 in
theorem d_heights_hold (T : Txt P K mg C_Work) (At : DefAt K mg "heights_hold" s_heights_hold ["work", "many", "value"]) (D_is_integer_in : DefOk P w K mg base "is_integer_in" ["value", "low", "high"] 2 F_is_integer_in) (D_is_number : DefOk P w K mg base "is_number" ["value"] 2 F_is_number) : DefOk P w K mg base "heights_hold" ["work", "many", "value"] 3 F_heights_hold :=
  def_ok At sc_heights_hold fun f cdv A outer s H E hr => (dss_cons (ds_if (DW.dt (dw_or (dt_not (dt_val (de_callD D_is_number (hr.mono (by first | decide | omega | (simp only [Nat.add_eq]; omega))) rfl (takes_of rfl rfl rfl rfl) (da_cons (de_var 1) da_nil)))) (dw_or (dt_not (dt_val (de_isiC T.g_Work T.is_Work T.nt_Work rfl T.b_isinstance rfl T.b_tuple PyProof.Rows.boot_tuple (de_var 2)))) (dw_or1 (dt_ne hr.units (de_len rfl T.b_len (de_var 2)) (de_len rfl T.b_len (de_fld T.g_Work T.cl_Work T.n_Work_lengths (de_var 0)))))))) (dss_one (ds_ret de_bl)) dss_nil) (dss_one (ds_ret (de_and (de_all rfl T.b_all rfl (de_lcI rfl sc_heights_hold.nd (di_seq (de_var 2)) (blkOk_by (own := [("height", 3)]) (N := N_heights_hold) (sc := defScope s_heights_hold) (by decide +kernel)) tgc_one (fun _ _ _ _ _ => pg_name (i := 3) sc_heights_hold.nd rfl (by first | exact Or.inl rfl | exact Or.inr rfl)) (fun _ _ _ _ _ => dts_nil) (fun _ _ _ _ _ => (de_callD D_is_integer_in (hr.mono (by first | decide | omega | (simp only [Nat.add_eq]; omega))) rfl takes0 (da_cons (de_var 3) (da_cons de_int (da_cons (de_var 1) da_nil))))))) (de_and (de_all rfl T.b_all rfl (de_lcI rfl sc_heights_hold.nd (di_zip rfl T.b_zip (de_var 2) (de_fld T.g_Work T.cl_Work T.n_Work_lengths (de_var 0))) (blkOk_by (own := [("height", 3), ("length", 4)]) (N := N_heights_hold) (sc := defScope s_heights_hold) (by decide +kernel)) tgc_two (fun _ _ _ _ _ => pg_tup rfl (pgs_cons (pg_name (i := 3) sc_heights_hold.nd rfl (by first | exact Or.inl rfl | exact Or.inr rfl)) (pgs_cons (pg_name (i := 4) sc_heights_hold.nd rfl (by first | exact Or.inl rfl | exact Or.inr rfl)) pgs_nil))) (fun _ _ _ _ _ => dts_nil) (fun _ _ _ _ _ => (de_ge (de_var 3) (de_var 4))))) (de_one (de_all rfl T.b_all rfl (de_lcI rfl sc_heights_hold.nd (di_seq (de_fld T.g_Work T.cl_Work T.n_Work_waits (de_var 0))) (blkOk_by (own := [("i", 5), ("j", 6)]) (N := N_heights_hold) (sc := defScope s_heights_hold) (by decide +kernel)) tgc_two (fun _ _ _ _ _ => pg_tup rfl (pgs_cons (pg_name (i := 5) sc_heights_hold.nd rfl (by first | exact Or.inl rfl | exact Or.inr rfl)) (pgs_cons (pg_name (i := 6) sc_heights_hold.nd rfl (by first | exact Or.inl rfl | exact Or.inr rfl)) pgs_nil))) (fun _ _ _ _ _ => dts_nil) (fun _ _ _ _ _ => (de_ge (de_item (de_var 2) (de_var 6)) (de_add (de_item (de_var 2) (de_var 5)) (de_item (de_fld T.g_Work T.cl_Work T.n_Work_lengths (de_var 0)) (de_var 6)))))))))))))
abbrev s__law_take : Stmt := (top 26)
abbrev N__law_take : List Str := ["box", "many", "got"]
theorem sc__law_take : FnScope N__law_take ["box", "many"] (defScope s__law_take) := ⟨rfl, rfl, rfl, by decide +kernel, rfl, by decide +kernel, by decide +kernel⟩
abbrev b__law_take_1 : Fs := (sRet (eBin fMod (eCB (on1 fInt) (aCons (eBin fDiv (eBin fIx (eVar 0) (eC (.int 1))) (eC (.int 8191))) aNil)) (eVar 1)))
abbrev b__law_take_2 : Fs := (sSeq (sItem (eVar 0) (eC (.int 1)) (eBin fMod (eCB (on1 fInt) (aCons (eBin fAdd (eBin fMul (eBin fIx (eVar 0) (eC (.int 1))) (eC (.int 39373))) (eC (.int 69621))) aNil)) (eC (.int 2147483647)))) b__law_take_1)
abbrev b__law_take_3 : Fs := (sSeq (sItem (eVar 0) (eC (.int 0)) (eBin fDivW (eBin fIx (eVar 0) (eC (.int 0))) (eVar 1))) (sRet (eVar 2)))
def g__law_take : Fs := (sSeq (sIf (eT (eBin fGt (eBin fIx (eVar 0) (eC (.int 0))) (eC (.int 0)))) (sSeq (sSet 2 (eBin fMod (eCB (on1 fInt) (aCons (eBin fIx (eVar 0) (eC (.int 0))) aNil)) (eVar 1))) b__law_take_3) sNil) b__law_take_2)
def F__law_take : List D → M D := bodyF 2 3 g__law_take
set_option maxHeartbeats 2000000 in
theorem d__law_take (T : Txt P K mg C_Work) (At : DefAt K mg "_law_take" s__law_take ["box", "many"]) : DefOk P w K mg base "_law_take" ["box", "many"] 1 F__law_take :=
  def_ok At sc__law_take fun f cdv A outer s H E hr => (dss_cons (ds_if (dt_gt (de_item (de_var 0) de_int) de_int) (dss_cons (ds_set (i := 2) sc__law_take.nd rfl (by first | exact Or.inl rfl | exact Or.inr rfl) (de_mod (de_toInt rfl T.b_int (de_item (de_var 0) de_int)) (de_var 1))) (dss_cons (ds_item (de_var 0) de_int (de_fdivW (de_item (de_var 0) de_int) (de_var 1))) (dss_one (ds_ret (de_var 2))))) dss_nil) (dss_cons (ds_item (de_var 0) de_int (de_mod (de_toInt rfl T.b_int (de_add (de_mul (de_item (de_var 0) de_int) de_int) de_int)) de_int)) (dss_one (ds_ret (de_mod (de_toInt rfl T.b_int (de_fdiv (de_item (de_var 0) de_int) de_int)) (de_var 1))))))
abbrev s__law_pick : Stmt := (top 27)
abbrev N__law_pick : List Str := ["box", "some"]
theorem sc__law_pick : FnScope N__law_pick ["box", "some"] (defScope s__law_pick) := ⟨rfl, rfl, rfl, by decide +kernel, rfl, by decide +kernel, by decide +kernel⟩
def g__law_pick : Fs := (sRet (eBin fIx (eVar 1) (eCB F__law_take (aCons (eVar 0) (aCons (eCB (on1 fLen) (aCons (eVar 1) aNil)) aNil)))))
def F__law_pick : List D → M D := bodyF 2 2 g__law_pick
set_option maxHeartbeats 2000000 in
theorem d__law_pick (T : Txt P K mg C_Work) (At : DefAt K mg "_law_pick" s__law_pick ["box", "some"]) (D__law_take : DefOk P w K mg base "_law_take" ["box", "many"] 1 F__law_take) : DefOk P w K mg base "_law_pick" ["box", "some"] 2 F__law_pick :=
  def_ok At sc__law_pick fun f cdv A outer s H E hr => (dss_one (ds_ret (de_item (de_var 1) (de_callD D__law_take (hr.mono (by first | decide | omega | (simp only [Nat.add_eq]; omega))) rfl (takes_of rfl rfl rfl rfl) (da_cons (de_var 0) (da_cons (de_len rfl T.b_len (de_var 1)) da_nil))))))
abbrev s__law_spoilt : Stmt := (top 31)
abbrev N__law_spoilt : List Str := ["box", "value", "deep", "at", "how"]
theorem sc__law_spoilt : FnScope N__law_spoilt ["box", "value", "deep"] (defScope s__law_spoilt) := ⟨rfl, rfl, rfl, by decide +kernel, rfl, by decide +kernel, by decide +kernel⟩
def g__law_spoilt (Fself : List D → M D) : Fs := (sSeq (sIf (eT (eUn (fIsi "tuple") (eVar 1))) (sSeq (sSet 3 (eCB F__law_take (aCons (eVar 0) (aCons (eBin fAdd (eCB (on1 fLen) (aCons (eVar 1) aNil)) (eC (.int 1))) aNil)))) (sSeq (sIf (bAnd (eT (eBin (fEq true) (eVar 1) (eTup aNil))) (bAnd (eT (eBin fGt (eVar 2) (eC (.int 0)))) (eT (eBin fGt (eCB F__law_take (aCons (eVar 0) (aCons (eC (.int 5)) aNil))) (eC (.int 0)))))) (sSeq (sSet 3 (eBin fMod (eCB (on1 fInt) (aCons (eVar 3) aNil)) (eCB (on1 fLen) (aCons (eVar 1) aNil)))) (sRet (eBin fAdd (eBin fAdd (eSl (eVar 1) oNone (oSome (eVar 3))) (eTup (aCons (eCB Fself (aCons (eVar 0) (aCons (eBin fIx (eVar 1) (eVar 3)) (aCons (eBin fSub (eVar 2) (eC (.int 1))) aNil)))) aNil))) (eSl (eVar 1) (oSome (eBin fAdd (eVar 3) (eC (.int 1)))) oNone)))) sNil) (sSeq (sSet 4 (eCB F__law_take (aCons (eVar 0) (aCons (eC (.int 8)) aNil)))) (sSeq (sIf (eT (eBin (fEq false) (eVar 4) (eC (.int 0)))) (sRet (eCB (on1 fList) (aCons (eVar 1) aNil))) sNil) (sSeq (sIf (eT (eBin (fEq false) (eVar 4) (eC (.int 1)))) (sRet (eBin fAdd (eSl (eVar 1) oNone (oSome (eVar 3))) (eSl (eVar 1) (oSome (eBin fAdd (eVar 3) (eC (.int 1)))) oNone))) sNil) (sSeq (sIf (eT (eBin (fEq false) (eVar 4) (eC (.int 2)))) (sRet (eBin fAdd (eBin fAdd (eSl (eVar 1) oNone (oSome (eVar 3))) (eSl (eVar 1) (oSome (eVar 3)) (oSome (eBin fAdd (eVar 3) (eC (.int 1)))))) (eSl (eVar 1) (oSome (eVar 3)) oNone))) sNil) (sSeq (sIf (eT (eBin (fEq false) (eVar 4) (eC (.int 3)))) (sRet (eBin fAdd (eSl (eVar 1) (oSome (eVar 3)) oNone) (eSl (eVar 1) oNone (oSome (eVar 3))))) sNil) (sSeq (sIf (eT (eBin (fEq false) (eVar 4) (eC (.int 4)))) (sRet (eBin fAdd (eVar 1) (eTup (aCons (eTup aNil) aNil)))) sNil) (sSeq (sIf (eT (eBin (fEq false) (eVar 4) (eC (.int 5)))) (sRet (eBin fAdd (eBin fAdd (eSl (eVar 1) oNone (oSome (eVar 3))) (eTup (aCons (eC (.int 0)) aNil))) (eSl (eVar 1) (oSome (eVar 3)) oNone))) sNil) (sSeq (sIf (eT (eBin (fEq false) (eVar 4) (eC (.int 6)))) (sRet (eBin fAdd (eSl (eVar 1) oNone (oSome (eUn fNeg (eC (.int 1))))) (eSl (eVar 1) oNone (oSome (eC (.int 1)))))) sNil) (sRet (eC .none)))))))))))) sNil) (sSeq (sIf (eT (eUn (fIsi "str") (eVar 1))) (sRet (eCB F__law_pick (aCons (eVar 0) (aCons (eLst (aCons (eBin fAdd (eVar 1) (eC (.str "b"))) (aCons (eC (.str "")) (aCons (eSl (eVar 1) (oSome (eC (.int 1))) oNone) (aCons (eBin fAdd (eC (.str "a")) (eVar 1)) (aCons (eC (.int 0)) aNil)))))) aNil)))) sNil) (sSeq (sIf (eT (eCB F__law_whole (aCons (eVar 1) aNil))) (sRet (eCB F__law_pick (aCons (eVar 0) (aCons (eLst (aCons (eBin fAdd (eVar 1) (eC (.int 1))) (aCons (eBin fSub (eVar 1) (eC (.int 1))) (aCons (eBin fGt (eVar 1) (eC (.int 0))) (aCons (eBin fSub (eUn fNeg (eC (.int 1))) (eVar 1)) (aCons (eTup (aCons (eVar 1) aNil)) (aCons (eC .none) (aCons (eCB (on1 fStr) (aCons (eVar 1) aNil)) (aCons (eBin fAdd (eVar 1) (eC (.int 16))) aNil))))))))) aNil)))) sNil) (sRet (eCB F__law_pick (aCons (eVar 0) (aCons (eLst (aCons (eC (.int 0)) (aCons (eTup aNil) (aCons (eC (.str "none")) aNil)))) aNil)))))))
def F__law_spoilt : Nat → List D → M D
  | 0 => fun _ => M.bad
  | n + 1 => bodyF 3 5 (g__law_spoilt (F__law_spoilt n))
-- recursive: _law_spoilt
set_option maxHeartbeats 2000000 in
theorem d__law_spoilt (T : Txt P K mg C_Work) (At : DefAt K mg "_law_spoilt" s__law_spoilt ["box", "value", "deep"]) (D__law_pick : DefOk P w K mg base "_law_pick" ["box", "some"] 2 F__law_pick) (D__law_whole : DefOk P w K mg base "_law_whole" ["value"] 1 F__law_whole) (D__law_take : DefOk P w K mg base "_law_take" ["box", "many"] 1 F__law_take) : ∀ n : Nat, DefOk P w K mg base "_law_spoilt" ["box", "value", "deep"] (3 + n) (F__law_spoilt n)
  | 0 => def_none At
  | n + 1 => by
    have ih := d__law_spoilt T At D__law_pick D__law_whole D__law_take n
    exact def_ok At sc__law_spoilt fun f cdv A outer s H E hr => (dss_cons (ds_if (dt_val (de_isi rfl T.b_isinstance rfl T.b_tuple PyProof.Rows.boot_tuple (de_var 1))) (dss_cons (ds_set (i := 3) sc__law_spoilt.nd rfl (by first | exact Or.inl rfl | exact Or.inr rfl) (de_callD D__law_take (hr.mono (by first | decide | omega | (simp only [Nat.add_eq]; omega))) rfl (takes_of rfl rfl rfl rfl) (da_cons (de_var 0) (da_cons (de_add (de_len rfl T.b_len (de_var 1)) de_int) da_nil)))) (dss_cons (ds_if (DW.dt (dw_and (dt_ne hr.units (de_var 1) (de_tup da_nil)) (dw_and (dt_gt (de_var 2) de_int) (dw_and1 (dt_gt (de_callD D__law_take (hr.mono (by first | decide | omega | (simp only [Nat.add_eq]; omega))) rfl (takes_of rfl rfl rfl rfl) (da_cons (de_var 0) (da_cons de_int da_nil))) de_int))))) (dss_cons (ds_set (i := 3) sc__law_spoilt.nd rfl (by first | exact Or.inl rfl | exact Or.inr rfl) (de_mod (de_toInt rfl T.b_int (de_var 3)) (de_len rfl T.b_len (de_var 1)))) (dss_one (ds_ret (de_add (de_add (de_slice (de_var 1) do_none (do_some (de_var 3))) (de_tup (da_cons (de_callD ih (hr.mono (by first | decide | omega | (simp only [Nat.add_eq]; omega))) rfl (takes_of rfl rfl rfl rfl) (da_cons (de_var 0) (da_cons (de_item (de_var 1) (de_var 3)) (da_cons (de_sub (de_var 2) de_int) da_nil)))) da_nil))) (de_slice (de_var 1) (do_some (de_add (de_var 3) de_int)) do_none))))) dss_nil) (dss_cons (ds_set (i := 4) sc__law_spoilt.nd rfl (by first | exact Or.inl rfl | exact Or.inr rfl) (de_callD D__law_take (hr.mono (by first | decide | omega | (simp only [Nat.add_eq]; omega))) rfl (takes_of rfl rfl rfl rfl) (da_cons (de_var 0) (da_cons de_int da_nil)))) (dss_cons (ds_if (dt_eq hr.units (de_var 4) de_int) (dss_one (ds_ret (de_list rfl T.b_list (de_var 1)))) dss_nil) (dss_cons (ds_if (dt_eq hr.units (de_var 4) de_int) (dss_one (ds_ret (de_add (de_slice (de_var 1) do_none (do_some (de_var 3))) (de_slice (de_var 1) (do_some (de_add (de_var 3) de_int)) do_none)))) dss_nil) (dss_cons (ds_if (dt_eq hr.units (de_var 4) de_int) (dss_one (ds_ret (de_add (de_add (de_slice (de_var 1) do_none (do_some (de_var 3))) (de_slice (de_var 1) (do_some (de_var 3)) (do_some (de_add (de_var 3) de_int)))) (de_slice (de_var 1) (do_some (de_var 3)) do_none)))) dss_nil) (dss_cons (ds_if (dt_eq hr.units (de_var 4) de_int) (dss_one (ds_ret (de_add (de_slice (de_var 1) (do_some (de_var 3)) do_none) (de_slice (de_var 1) do_none (do_some (de_var 3)))))) dss_nil) (dss_cons (ds_if (dt_eq hr.units (de_var 4) de_int) (dss_one (ds_ret (de_add (de_var 1) (de_tup (da_cons (de_tup da_nil) da_nil))))) dss_nil) (dss_cons (ds_if (dt_eq hr.units (de_var 4) de_int) (dss_one (ds_ret (de_add (de_add (de_slice (de_var 1) do_none (do_some (de_var 3))) (de_tup (da_cons de_int da_nil))) (de_slice (de_var 1) (do_some (de_var 3)) do_none)))) dss_nil) (dss_cons (ds_if (dt_eq hr.units (de_var 4) de_int) (dss_one (ds_ret (de_add (de_slice (de_var 1) do_none (do_some (de_neg de_int))) (de_slice (de_var 1) do_none (do_some de_int))))) dss_nil) (dss_one (ds_ret de_non)))))))))))) dss_nil) (dss_cons (ds_if (dt_val (de_isi rfl T.b_isinstance rfl T.b_str PyProof.Rows.boot_str (de_var 1))) (dss_one (ds_ret (de_callD D__law_pick (hr.mono (by first | decide | omega | (simp only [Nat.add_eq]; omega))) rfl (takes_of rfl rfl rfl rfl) (da_cons (de_var 0) (da_cons (de_lst (da_cons (de_add (de_var 1) de_str) (da_cons de_str (da_cons (de_slice (de_var 1) (do_some de_int) do_none) (da_cons (de_add de_str (de_var 1)) (da_cons de_int da_nil)))))) da_nil))))) dss_nil) (dss_cons (ds_if (dt_val (de_callD D__law_whole (hr.mono (by first | decide | omega | (simp only [Nat.add_eq]; omega))) rfl (takes_of rfl rfl rfl rfl) (da_cons (de_var 1) da_nil))) (dss_one (ds_ret (de_callD D__law_pick (hr.mono (by first | decide | omega | (simp only [Nat.add_eq]; omega))) rfl (takes_of rfl rfl rfl rfl) (da_cons (de_var 0) (da_cons (de_lst (da_cons (de_add (de_var 1) de_int) (da_cons (de_sub (de_var 1) de_int) (da_cons (de_gt (de_var 1) de_int) (da_cons (de_sub (de_neg de_int) (de_var 1)) (da_cons (de_tup (da_cons (de_var 1) da_nil)) (da_cons de_non (da_cons (de_toStr rfl T.b_str (de_var 1)) (da_cons (de_add (de_var 1) de_int) da_nil))))))))) da_nil))))) dss_nil) (dss_one (ds_ret (de_callD D__law_pick (hr.mono (by first | decide | omega | (simp only [Nat.add_eq]; omega))) rfl (takes_of rfl rfl rfl rfl) (da_cons (de_var 0) (da_cons (de_lst (da_cons de_int (da_cons (de_tup da_nil) (da_cons de_str da_nil)))) da_nil))))))))
abbrev s_heights : Stmt := (top 19)
abbrev N_heights : List Str := ["work", "found", "piece", "ahead", "i", "j"]
theorem sc_heights : FnScope N_heights ["work"] (defScope s_heights) := ⟨rfl, rfl, rfl, by decide +kernel, rfl, by decide +kernel, by decide +kernel⟩
abbrev b_heights_1 : Fs := (sRet (eCB (on1 fTuple) (aCons (eVar 1) aNil)))
abbrev b_heights_2 : Fs := (sExpr (eApp (eVar 1) (eBin fAdd (eBin fIx (eUn (fFld "Work" "lengths") (eVar 0)) (eVar 2)) (eCB (on1 fMaxD0) (aCons (eVar 3) aNil)))))
abbrev e_heights_1 : Fe := (eBin fIx (eVar 1) (eVar 4))
abbrev t_heights_1 : Fb := (eT (eBin (fEq false) (eVar 5) (eVar 2)))
abbrev s_heights_1 : Fsrc := (srcSeq (eUn (fFld "Work" "waits") (eVar 0)))
abbrev s_heights_2 : Fsrc := (srcRng1 (eCB (on1 fLen) (aCons (eUn (fFld "Work" "lengths") (eVar 0)) aNil)))
abbrev l_heights_1 : Fs := (sSeq (sSet 3 (eLc s_heights_1 [4, 5] (tTupT 2 (tsCons (tName 4) (tsCons (tName 5) tsNil))) t_heights_1 e_heights_1)) b_heights_2)
abbrev b_heights_3 : Fs := (sSeq (sFor s_heights_2 (tName 2) l_heights_1) b_heights_1)
def g_heights : Fs := (sSeq (sSet 1 (eCell aNil)) b_heights_3)
def F_heights : List D → M D := bodyF 1 6 g_heights
set_option maxHeartbeats 2000000 in
theorem d_heights (T : Txt P K mg C_Work) (At : DefAt K mg "heights" s_heights ["work"]) : DefOk P w K mg base "heights" ["work"] 1 F_heights :=
  def_ok At sc_heights fun f cdv A outer s H E hr => (dss_cons (ds_set (i := 1) sc_heights.nd rfl (by first | exact Or.inl rfl | exact Or.inr rfl) (de_cell da_nil)) (dss_cons (ds_for (passes_of rfl) rfl (di_rng1 rfl T.b_range (de_len rfl T.b_len (de_fld T.g_Work T.cl_Work T.n_Work_lengths (de_var 0)))) (dg_name (i := 2) sc_heights.nd rfl (by first | exact Or.inl rfl | exact Or.inr rfl)) (dss_cons (ds_setLcI (i := 3) rfl sc_heights.nd rfl rfl (sw_true rfl rfl rfl (by decide +kernel)) (di_seq (de_fld T.g_Work T.cl_Work T.n_Work_waits (de_var 0))) (blkOk_by (own := [("i", 4), ("j", 5)]) (N := N_heights) (sc := defScope s_heights) (by decide +kernel)) tgc_two (fun _ _ _ _ _ => pg_tup rfl (pgs_cons (pg_name (i := 4) sc_heights.nd rfl (by first | exact Or.inl rfl | exact Or.inr rfl)) (pgs_cons (pg_name (i := 5) sc_heights.nd rfl (by first | exact Or.inl rfl | exact Or.inr rfl)) pgs_nil))) (fun _ _ _ _ _ => dts_one (dt_eq hr.units (de_var 5) (de_var 2))) (fun _ _ _ _ _ => (de_item (de_var 1) (de_var 4)))) (dss_one (ds_expr (de_app (de_var 1) (de_add (de_item (de_fld T.g_Work T.cl_Work T.n_Work_lengths (de_var 0)) (de_var 2)) (de_maxD0 hr.units rfl T.b_max rfl (de_var 3)))))))) (dss_one (ds_ret (de_tuple rfl T.b_tuple (de_var 1))))))
abbrev s__law_heights : Stmt := (top 36)
abbrev N__law_heights : List Str := ["work", "found", "k", "i", "j"]
theorem sc__law_heights : FnScope N__law_heights ["work"] (defScope s__law_heights) := ⟨rfl, rfl, rfl, by decide +kernel, rfl, by decide +kernel, by decide +kernel⟩
abbrev b__law_heights_1 : Fs := (sRet (eCB (on1 fTuple) (aCons (eVar 1) aNil)))
abbrev e__law_heights_1 : Fe := (eBin fIx (eVar 1) (eVar 3))
abbrev t__law_heights_1 : Fb := (eT (eBin (fEq false) (eVar 4) (eVar 2)))
abbrev s__law_heights_1 : Fsrc := (srcSeq (eBin fIx (eVar 0) (eC (.int 1))))
abbrev c__law_heights_1 : Fe := (eLc s__law_heights_1 [3, 4] (tTupT 2 (tsCons (tName 3) (tsCons (tName 4) tsNil))) t__law_heights_1 e__law_heights_1)
abbrev s__law_heights_2 : Fsrc := (srcRng1 (eCB (on1 fLen) (aCons (eBin fIx (eVar 0) (eC (.int 0))) aNil)))
abbrev l__law_heights_1 : Fs := (sExpr (eApp (eVar 1) (eBin fAdd (eBin fIx (eBin fIx (eVar 0) (eC (.int 0))) (eVar 2)) (eCB (on1 fMaxL) (aCons (eBin fAdd (eLst (aCons (eC (.int 0)) aNil)) c__law_heights_1) aNil)))))
abbrev b__law_heights_2 : Fs := (sSeq (sFor s__law_heights_2 (tName 2) l__law_heights_1) b__law_heights_1)
def g__law_heights : Fs := (sSeq (sSet 1 (eCell aNil)) b__law_heights_2)
def F__law_heights : List D → M D := bodyF 1 5 g__law_heights
set_option maxHeartbeats 2000000 in
theorem d__law_heights (T : Txt P K mg C_Work) (At : DefAt K mg "_law_heights" s__law_heights ["work"]) : DefOk P w K mg base "_law_heights" ["work"] 1 F__law_heights :=
  def_ok At sc__law_heights fun f cdv A outer s H E hr => (dss_cons (ds_set (i := 1) sc__law_heights.nd rfl (by first | exact Or.inl rfl | exact Or.inr rfl) (de_cell da_nil)) (dss_cons (ds_for (passes_of rfl) rfl (di_rng1 rfl T.b_range (de_len rfl T.b_len (de_item (de_var 0) de_int))) (dg_name (i := 2) sc__law_heights.nd rfl (by first | exact Or.inl rfl | exact Or.inr rfl)) (dss_one (ds_expr (de_app (de_var 1) (de_add (de_item (de_item (de_var 0) de_int) (de_var 2)) (de_maxL rfl T.b_max rfl (de_add (de_lst (da_cons de_int da_nil)) (de_lcI rfl sc__law_heights.nd (di_seq (de_item (de_var 0) de_int)) (blkOk_by (own := [("i", 3), ("j", 4)]) (N := N__law_heights) (sc := defScope s__law_heights) (by decide +kernel)) tgc_two (fun _ _ _ _ _ => pg_tup rfl (pgs_cons (pg_name (i := 3) sc__law_heights.nd rfl (by first | exact Or.inl rfl | exact Or.inr rfl)) (pgs_cons (pg_name (i := 4) sc__law_heights.nd rfl (by first | exact Or.inl rfl | exact Or.inr rfl)) pgs_nil))) (fun _ _ _ _ _ => dts_one (dt_eq hr.units (de_var 4) (de_var 2))) (fun _ _ _ _ _ => (de_item (de_var 1) (de_var 3))))))))))) (dss_one (ds_ret (de_tuple rfl T.b_tuple (de_var 1))))))
abbrev s__length : Stmt := (top 23)
abbrev N__length : List Str := ["work", "way", "piece"]
theorem sc__length : FnScope N__length ["work", "way"] (defScope s__length) := ⟨rfl, rfl, rfl, by decide +kernel, rfl, by decide +kernel, by decide +kernel⟩
abbrev e__length_1 : Fe := (eBin fIx (eUn (fFld "Work" "lengths") (eVar 0)) (eVar 2))
abbrev c__length_1 : Fe := (eLc (srcSeq (eVar 1)) [2] (tName 2) (fun _ => M.pure true) e__length_1)
def g__length : Fs := (sRet (eCB (on1 fSum) (aCons c__length_1 aNil)))
def F__length : List D → M D := bodyF 2 3 g__length
set_option maxHeartbeats 2000000 in
theorem d__length (T : Txt P K mg C_Work) (At : DefAt K mg "_length" s__length ["work", "way"]) : DefOk P w K mg base "_length" ["work", "way"] 1 F__length :=
  def_ok At sc__length fun f cdv A outer s H E hr => (dss_one (ds_ret (de_sum rfl T.b_sum rfl (de_lcI rfl sc__length.nd (di_seq (de_var 1)) (blkOk_by (own := [("piece", 2)]) (N := N__length) (sc := defScope s__length) (by decide +kernel)) tgc_one (fun _ _ _ _ _ => pg_name (i := 2) sc__length.nd rfl (by first | exact Or.inl rfl | exact Or.inr rfl)) (fun _ _ _ _ _ => dts_nil) (fun _ _ _ _ _ => (de_item (de_fld T.g_Work T.cl_Work T.n_Work_lengths (de_var 0)) (de_var 2)))))))
abbrev s__all_ways : Stmt := (top 22)
abbrev N__all_ways : List Str := ["work", "found", "latest", "piece", "way", "i", "j"]
theorem sc__all_ways : FnScope N__all_ways ["work"] (defScope s__all_ways) := ⟨rfl, rfl, rfl, by decide +kernel, rfl, by decide +kernel, by decide +kernel⟩
abbrev e__all_ways_1 : Fe := (eBin fAdd (eVar 4) (eTup (aCons (eVar 6) aNil)))
abbrev t__all_ways_1 : Fb := (eT (eBin (fEq false) (eVar 5) (eBin fIx (eVar 4) (eUn fNeg (eC (.int 1))))))
abbrev s__all_ways_1 : Fsrc := (srcSeq (eUn (fFld "Work" "waits") (eVar 0)))
abbrev b__all_ways_1 : Fs := (sSet 2 (eLc2 (srcSeq (eVar 2)) [4, 5, 6] (tName 4) (fun _ => M.pure true) s__all_ways_1 [5, 6] (tTupT 2 (tsCons (tName 5) (tsCons (tName 6) tsNil))) t__all_ways_1 e__all_ways_1))
abbrev t__all_ways_2 : Fb := (eT (eBin fGt (eCB (on1 fLen) (aCons (eVar 2) aNil)) (eC (.int 0))))
abbrev l__all_ways_1 : Fs := (sSeq (sSet 1 (eBin fAdd (eVar 1) (eVar 2))) b__all_ways_1)
abbrev b__all_ways_2 : Fs := (sSeq (loopW t__all_ways_2 l__all_ways_1 20) (sRet (eVar 1)))
abbrev e__all_ways_2 : Fe := (eTup (aCons (eVar 3) aNil))
abbrev s__all_ways_2 : Fsrc := (srcRng1 (eCB (on1 fLen) (aCons (eUn (fFld "Work" "lengths") (eVar 0)) aNil)))
abbrev b__all_ways_3 : Fs := (sSeq (sSet 2 (eLc s__all_ways_2 [3] (tName 3) (fun _ => M.pure true) e__all_ways_2)) b__all_ways_2)
def g__all_ways : Fs := (sSeq (sSet 1 (eLst aNil)) b__all_ways_3)
def F__all_ways : List D → M D := bodyF 1 7 g__all_ways
set_option maxHeartbeats 2000000 in
theorem d__all_ways (T : Txt P K mg C_Work) (At : DefAt K mg "_all_ways" s__all_ways ["work"]) : DefOk P w K mg base "_all_ways" ["work"] 1 F__all_ways :=
  def_ok At sc__all_ways fun f cdv A outer s H E hr => (dss_cons (ds_set (i := 1) sc__all_ways.nd rfl (by first | exact Or.inl rfl | exact Or.inr rfl) (de_lst da_nil)) (dss_cons (ds_setLcI (i := 2) rfl sc__all_ways.nd rfl rfl (sw_true rfl rfl rfl (by decide +kernel)) (di_rng1 rfl T.b_range (de_len rfl T.b_len (de_fld T.g_Work T.cl_Work T.n_Work_lengths (de_var 0)))) (blkOk_by (own := [("piece", 3)]) (N := N__all_ways) (sc := defScope s__all_ways) (by decide +kernel)) tgc_one (fun _ _ _ _ _ => pg_name (i := 3) sc__all_ways.nd rfl (by first | exact Or.inl rfl | exact Or.inr rfl)) (fun _ _ _ _ _ => dts_nil) (fun _ _ _ _ _ => (de_tup (da_cons (de_var 3) da_nil)))) (dss_cons (ds_while 20 (passes_of rfl) (dt_gt (de_len rfl T.b_len (de_var 2)) de_int) (dss_cons (ds_set (i := 1) sc__all_ways.nd rfl (by first | exact Or.inl rfl | exact Or.inr rfl) (de_add (de_var 1) (de_var 2))) (dss_one (ds_setLc2I (i := 2) rfl sc__all_ways.nd rfl rfl (sw_true rfl rfl rfl (by decide +kernel)) (di_seq (de_var 2)) (blkOk_by (own := [("way", 4), ("i", 5), ("j", 6)]) (N := N__all_ways) (sc := defScope s__all_ways) (by decide +kernel)) (by decide +kernel) (tgc_oneM (by decide)) (fun _ _ _ _ _ => pg_name (i := 4) sc__all_ways.nd rfl (by first | exact Or.inl rfl | exact Or.inr rfl)) (fun _ _ _ _ _ => dts_nil) (fun _ _ _ _ _ => (di_seq (de_fld T.g_Work T.cl_Work T.n_Work_waits (de_var 0)))) tgc_two (fun _ _ _ _ _ => pg_tup rfl (pgs_cons (pg_name (i := 5) sc__all_ways.nd rfl (by first | exact Or.inl rfl | exact Or.inr rfl)) (pgs_cons (pg_name (i := 6) sc__all_ways.nd rfl (by first | exact Or.inl rfl | exact Or.inr rfl)) pgs_nil))) (fun _ _ _ _ _ => dts_one (dt_eq hr.units (de_var 5) (de_item (de_var 4) (de_neg de_int)))) (fun _ _ _ _ _ => (de_add (de_var 4) (de_tup (da_cons (de_var 6) da_nil)))))))) (dss_one (ds_ret (de_var 1))))))
abbrev s_ending : Stmt := (top 17)
abbrev N_ending : List Str := ["work", "way"]
theorem sc_ending : FnScope N_ending ["work"] (defScope s_ending) := ⟨rfl, rfl, rfl, by decide +kernel, rfl, by decide +kernel, by decide +kernel⟩
abbrev e_ending_1 : Fe := (eCB F__length (aCons (eVar 0) (aCons (eVar 1) aNil)))
abbrev s_ending_1 : Fsrc := (srcSeq (eCB F__all_ways (aCons (eVar 0) aNil)))
abbrev c_ending_1 : Fe := (eLc s_ending_1 [1] (tName 1) (fun _ => M.pure true) e_ending_1)
def g_ending : Fs := (sRet (eCB (on1 fMaxL) (aCons c_ending_1 aNil)))
def F_ending : List D → M D := bodyF 1 2 g_ending
set_option maxHeartbeats 2000000 in
theorem d_ending (T : Txt P K mg C_Work) (At : DefAt K mg "ending" s_ending ["work"]) (D__all_ways : DefOk P w K mg base "_all_ways" ["work"] 1 F__all_ways) (D__length : DefOk P w K mg base "_length" ["work", "way"] 1 F__length) : DefOk P w K mg base "ending" ["work"] 2 F_ending :=
  def_ok At sc_ending fun f cdv A outer s H E hr => (dss_one (ds_ret (de_maxL rfl T.b_max rfl (de_lcI rfl sc_ending.nd (di_seq (de_callD D__all_ways (hr.mono (by first | decide | omega | (simp only [Nat.add_eq]; omega))) rfl (takes_of rfl rfl rfl rfl) (da_cons (de_var 0) da_nil))) (blkOk_by (own := [("way", 1)]) (N := N_ending) (sc := defScope s_ending) (by decide +kernel)) tgc_one (fun _ _ _ _ _ => pg_name (i := 1) sc_ending.nd rfl (by first | exact Or.inl rfl | exact Or.inr rfl)) (fun _ _ _ _ _ => dts_nil) (fun _ _ _ _ _ => (de_callD D__length (hr.mono (by first | decide | omega | (simp only [Nat.add_eq]; omega))) rfl takes0 (da_cons (de_var 0) (da_cons (de_var 1) da_nil))))))))
abbrev s_longest : Stmt := (top 18)
abbrev N_longest : List Str := ["work", "end", "way"]
theorem sc_longest : FnScope N_longest ["work"] (defScope s_longest) := ⟨rfl, rfl, rfl, by decide +kernel, rfl, by decide +kernel, by decide +kernel⟩
abbrev t_longest_1 : Fb := (eT (eBin (fEq false) (eCB F__length (aCons (eVar 0) (aCons (eVar 2) aNil))) (eVar 1)))
abbrev s_longest_1 : Fsrc := (srcSeq (eCB F__all_ways (aCons (eVar 0) aNil)))
abbrev c_longest_1 : Fe := (eLc s_longest_1 [2] (tName 2) t_longest_1 (eVar 2))
abbrev b_longest_1 : Fs := (sRet (eCB (on1 fMinA) (aCons c_longest_1 aNil)))
def g_longest : Fs := (sSeq (sSet 1 (eCB F_ending (aCons (eVar 0) aNil))) b_longest_1)
def F_longest : List D → M D := bodyF 1 3 g_longest
set_option maxHeartbeats 2000000 in
theorem d_longest (T : Txt P K mg C_Work) (At : DefAt K mg "longest" s_longest ["work"]) (D__length : DefOk P w K mg base "_length" ["work", "way"] 1 F__length) (D__all_ways : DefOk P w K mg base "_all_ways" ["work"] 1 F__all_ways) (D_ending : DefOk P w K mg base "ending" ["work"] 2 F_ending) : DefOk P w K mg base "longest" ["work"] 3 F_longest :=
  def_ok At sc_longest fun f cdv A outer s H E hr => (dss_cons (ds_set (i := 1) sc_longest.nd rfl (by first | exact Or.inl rfl | exact Or.inr rfl) (de_callD D_ending (hr.mono (by first | decide | omega | (simp only [Nat.add_eq]; omega))) rfl (takes_of rfl rfl rfl rfl) (da_cons (de_var 0) da_nil))) (dss_one (ds_ret (de_minA hr.units rfl T.b_min rfl (de_lcI rfl sc_longest.nd (di_seq (de_callD D__all_ways (hr.mono (by first | decide | omega | (simp only [Nat.add_eq]; omega))) rfl (takes_of rfl rfl rfl rfl) (da_cons (de_var 0) da_nil))) (blkOk_by (own := [("way", 2)]) (N := N_longest) (sc := defScope s_longest) (by decide +kernel)) tgc_one (fun _ _ _ _ _ => pg_name (i := 2) sc_longest.nd rfl (by first | exact Or.inl rfl | exact Or.inr rfl)) (fun _ _ _ _ _ => dts_one (dt_eq hr.units (de_callD D__length (hr.mono (by first | decide | omega | (simp only [Nat.add_eq]; omega))) rfl takes0 (da_cons (de_var 0) (da_cons (de_var 2) da_nil))) (de_var 1))) (fun _ _ _ _ _ => (de_var 2)))))))
abbrev s__law_length : Stmt := (top 35)
abbrev N__law_length : List Str := ["work", "way", "k"]
theorem sc__law_length : FnScope N__law_length ["work", "way"] (defScope s__law_length) := ⟨rfl, rfl, rfl, by decide +kernel, rfl, by decide +kernel, by decide +kernel⟩
abbrev e__law_length_1 : Fe := (eBin fIx (eBin fIx (eVar 0) (eC (.int 0))) (eVar 2))
abbrev c__law_length_1 : Fe := (eLc (srcSeq (eVar 1)) [2] (tName 2) (fun _ => M.pure true) e__law_length_1)
def g__law_length : Fs := (sRet (eCB (on1 fSum) (aCons c__law_length_1 aNil)))
def F__law_length : List D → M D := bodyF 2 3 g__law_length
set_option maxHeartbeats 2000000 in
theorem d__law_length (T : Txt P K mg C_Work) (At : DefAt K mg "_law_length" s__law_length ["work", "way"]) : DefOk P w K mg base "_law_length" ["work", "way"] 1 F__law_length :=
  def_ok At sc__law_length fun f cdv A outer s H E hr => (dss_one (ds_ret (de_sum rfl T.b_sum rfl (de_lcI rfl sc__law_length.nd (di_seq (de_var 1)) (blkOk_by (own := [("k", 2)]) (N := N__law_length) (sc := defScope s__law_length) (by decide +kernel)) tgc_one (fun _ _ _ _ _ => pg_name (i := 2) sc__law_length.nd rfl (by first | exact Or.inl rfl | exact Or.inr rfl)) (fun _ _ _ _ _ => dts_nil) (fun _ _ _ _ _ => (de_item (de_item (de_var 0) de_int) (de_var 2)))))))
abbrev s__law_ways : Stmt := (top 34)
abbrev N__law_ways : List Str := ["work", "lengths", "waits", "found", "level", "turn", "longer", "way", "k", "i", "j"]
theorem sc__law_ways : FnScope N__law_ways ["work"] (defScope s__law_ways) := ⟨rfl, rfl, rfl, by decide +kernel, rfl, by decide +kernel, by decide +kernel⟩
abbrev e__law_ways_1 : Fe := (eBin fAdd (eVar 7) (eTup (aCons (eVar 10) aNil)))
abbrev t__law_ways_1 : Fb := (eT (eBin (fEq false) (eVar 9) (eBin fIx (eVar 7) (eUn fNeg (eC (.int 1))))))
abbrev c__law_ways_1 : Fe := (eLc (srcSeq (eVar 2)) [9, 10] (tTupT 2 (tsCons (tName 9) (tsCons (tName 10) tsNil))) t__law_ways_1 e__law_ways_1)
abbrev l__law_ways_1 : Fs := (sSet 6 (eBin fAdd (eVar 6) c__law_ways_1))
abbrev b__law_ways_1 : Fs := (sSeq (sFor (srcSeq (eVar 4)) (tName 7) l__law_ways_1) (sSet 4 (eVar 6)))
abbrev b__law_ways_2 : Fs := (sSeq (sSet 6 (eLst aNil)) b__law_ways_1)
abbrev l__law_ways_2 : Fs := (sSeq (sSet 3 (eBin fAdd (eVar 3) (eVar 4))) b__law_ways_2)
abbrev b__law_ways_3 : Fs := (sSeq (sFor (srcRng1 (eC (.int 8))) (tName 5) l__law_ways_2) (sRet (eVar 3)))
abbrev e__law_ways_2 : Fe := (eTup (aCons (eVar 8) aNil))
abbrev s__law_ways_1 : Fsrc := (srcRng1 (eCB (on1 fLen) (aCons (eVar 1) aNil)))
abbrev b__law_ways_4 : Fs := (sSeq (sSet 4 (eLc s__law_ways_1 [8] (tName 8) (fun _ => M.pure true) e__law_ways_2)) b__law_ways_3)
abbrev b__law_ways_5 : Fs := (sSeq (sSet 3 (eLst aNil)) b__law_ways_4)
def g__law_ways : Fs := (sSeq (sAsg (eVar 0) (tTupT 2 (tsCons (tName 1) (tsCons (tName 2) tsNil)))) b__law_ways_5)
def F__law_ways : List D → M D := bodyF 1 11 g__law_ways
set_option maxHeartbeats 2000000 in
theorem d__law_ways (T : Txt P K mg C_Work) (At : DefAt K mg "_law_ways" s__law_ways ["work"]) : DefOk P w K mg base "_law_ways" ["work"] 1 F__law_ways :=
  def_ok At sc__law_ways fun f cdv A outer s H E hr => (dss_cons (ds_asg (de_var 0) (dg_tup rfl (dgs_cons (dg_name (i := 1) sc__law_ways.nd rfl (by first | exact Or.inl rfl | exact Or.inr rfl)) (dgs_cons (dg_name (i := 2) sc__law_ways.nd rfl (by first | exact Or.inl rfl | exact Or.inr rfl)) dgs_nil)))) (dss_cons (ds_set (i := 3) sc__law_ways.nd rfl (by first | exact Or.inl rfl | exact Or.inr rfl) (de_lst da_nil)) (dss_cons (ds_setLcI (i := 4) rfl sc__law_ways.nd rfl rfl (sw_true rfl rfl rfl (by decide +kernel)) (di_rng1 rfl T.b_range (de_len rfl T.b_len (de_var 1))) (blkOk_by (own := [("k", 8)]) (N := N__law_ways) (sc := defScope s__law_ways) (by decide +kernel)) tgc_one (fun _ _ _ _ _ => pg_name (i := 8) sc__law_ways.nd rfl (by first | exact Or.inl rfl | exact Or.inr rfl)) (fun _ _ _ _ _ => dts_nil) (fun _ _ _ _ _ => (de_tup (da_cons (de_var 8) da_nil)))) (dss_cons (ds_for (passes_of rfl) rfl (di_rng1 rfl T.b_range de_int) (dg_name (i := 5) sc__law_ways.nd rfl (by first | exact Or.inl rfl | exact Or.inr rfl)) (dss_cons (ds_set (i := 3) sc__law_ways.nd rfl (by first | exact Or.inl rfl | exact Or.inr rfl) (de_add (de_var 3) (de_var 4))) (dss_cons (ds_set (i := 6) sc__law_ways.nd rfl (by first | exact Or.inl rfl | exact Or.inr rfl) (de_lst da_nil)) (dss_cons (ds_for (passes_of rfl) rfl (di_seq (de_var 4)) (dg_name (i := 7) sc__law_ways.nd rfl (by first | exact Or.inl rfl | exact Or.inr rfl)) (dss_one (ds_set (i := 6) sc__law_ways.nd rfl (by first | exact Or.inl rfl | exact Or.inr rfl) (de_add (de_var 6) (de_lcI rfl sc__law_ways.nd (di_seq (de_var 2)) (blkOk_by (own := [("i", 9), ("j", 10)]) (N := N__law_ways) (sc := defScope s__law_ways) (by decide +kernel)) tgc_two (fun _ _ _ _ _ => pg_tup rfl (pgs_cons (pg_name (i := 9) sc__law_ways.nd rfl (by first | exact Or.inl rfl | exact Or.inr rfl)) (pgs_cons (pg_name (i := 10) sc__law_ways.nd rfl (by first | exact Or.inl rfl | exact Or.inr rfl)) pgs_nil))) (fun _ _ _ _ _ => dts_one (dt_eq hr.units (de_var 9) (de_item (de_var 7) (de_neg de_int)))) (fun _ _ _ _ _ => (de_add (de_var 7) (de_tup (da_cons (de_var 10) da_nil))))))))) (dss_one (ds_set (i := 4) sc__law_ways.nd rfl (by first | exact Or.inl rfl | exact Or.inr rfl) (de_var 6))))))) (dss_one (ds_ret (de_var 3)))))))
abbrev s_plain : Stmt := (top 12)
abbrev N_plain : List Str := ["value", "member"]
theorem sc_plain : FnScope N_plain ["value"] (defScope s_plain) := ⟨rfl, rfl, rfl, by decide +kernel, rfl, by decide +kernel, by decide +kernel⟩
abbrev b_plain_1 : Fs := (sRet (eCB (on1 fInt) (aCons (eVar 0) aNil)))
def g_plain (Fself : List D → M D) : Fs := (sSeq (sIf (eT (eUn (fIsi "tuple") (eVar 0))) (sRet (eCB (on1 fTuple) (aCons (eLc (srcSeq (eVar 0)) [1] (tName 1) (fun _ => M.pure true) (eCB Fself (aCons (eVar 1) aNil))) aNil))) sNil) b_plain_1)
def F_plain : Nat → List D → M D
  | 0 => fun _ => M.bad
  | n + 1 => bodyF 1 2 (g_plain (F_plain n))
-- recursive: plain
set_option maxHeartbeats 2000000 in
theorem d_plain (T : Txt P K mg C_Work) (At : DefAt K mg "plain" s_plain ["value"]) : ∀ n : Nat, DefOk P w K mg base "plain" ["value"] (1 + n) (F_plain n)
  | 0 => def_none At
  | n + 1 => by
    have ih := d_plain T At n
    exact def_ok At sc_plain fun f cdv A outer s H E hr => (dss_cons (ds_if (dt_val (de_isi rfl T.b_isinstance rfl T.b_tuple PyProof.Rows.boot_tuple (de_var 0))) (dss_one (ds_ret (de_tuple rfl T.b_tuple (de_lcI rfl sc_plain.nd (di_seq (de_var 0)) (blkOk_by (own := [("member", 1)]) (N := N_plain) (sc := defScope s_plain) (by decide +kernel)) tgc_one (fun _ _ _ _ _ => pg_name (i := 1) sc_plain.nd rfl (by first | exact Or.inl rfl | exact Or.inr rfl)) (fun _ _ _ _ _ => dts_nil) (fun _ _ _ _ _ => (de_callD ih (hr.mono (by first | decide | omega | (simp only [Nat.add_eq]; omega))) rfl takes0 (da_cons (de_var 1) da_nil))))))) dss_nil) (dss_one (ds_ret (de_toInt rfl T.b_int (de_var 0)))))
abbrev s_is_ascending : Stmt := (top 11)
abbrev N_is_ascending : List Str := ["members", "one", "other"]
theorem sc_is_ascending : FnScope N_is_ascending ["members"] (defScope s_is_ascending) := ⟨rfl, rfl, rfl, by decide +kernel, rfl, by decide +kernel, by decide +kernel⟩
abbrev e_is_ascending_1 : Fe := (eBin fLtD (eVar 1) (eVar 2))
abbrev s_is_ascending_1 : Fsrc := (srcZip2 (eVar 0) (eSl (eVar 0) (oSome (eC (.int 1))) oNone))
abbrev c_is_ascending_1 : Fe := (eLc s_is_ascending_1 [1, 2] (tTupT 2 (tsCons (tName 1) (tsCons (tName 2) tsNil))) (fun _ => M.pure true) e_is_ascending_1)
def g_is_ascending : Fs := (sRet (eCB (on1 fAll) (aCons c_is_ascending_1 aNil)))
def F_is_ascending : List D → M D := bodyF 1 3 g_is_ascending
set_option maxHeartbeats 2000000 in
theorem d_is_ascending (T : Txt P K mg C_Work) (At : DefAt K mg "is_ascending" s_is_ascending ["members"]) : DefOk P w K mg base "is_ascending" ["members"] 1 F_is_ascending :=
  def_ok At sc_is_ascending fun f cdv A outer s H E hr => (dss_one (ds_ret (de_all rfl T.b_all rfl (de_lcI rfl sc_is_ascending.nd (di_zip rfl T.b_zip (de_var 0) (de_slice (de_var 0) (do_some de_int) do_none)) (blkOk_by (own := [("one", 1), ("other", 2)]) (N := N_is_ascending) (sc := defScope s_is_ascending) (by decide +kernel)) tgc_two (fun _ _ _ _ _ => pg_tup rfl (pgs_cons (pg_name (i := 1) sc_is_ascending.nd rfl (by first | exact Or.inl rfl | exact Or.inr rfl)) (pgs_cons (pg_name (i := 2) sc_is_ascending.nd rfl (by first | exact Or.inl rfl | exact Or.inr rfl)) pgs_nil))) (fun _ _ _ _ _ => dts_nil) (fun _ _ _ _ _ => (de_ltD hr.units (de_var 1) (de_var 2)))))))
abbrev s_is_pair : Stmt := (top 8)
abbrev N_is_pair : List Str := ["value"]
theorem sc_is_pair : FnScope N_is_pair ["value"] (defScope s_is_pair) := ⟨rfl, rfl, rfl, by decide +kernel, rfl, by decide +kernel, by decide +kernel⟩
def g_is_pair : Fs := (sRet (eAnd (eUn (fIsi "tuple") (eVar 0)) (eBin (fEq false) (eCB (on1 fLen) (aCons (eVar 0) aNil)) (eC (.int 2)))))
def F_is_pair : List D → M D := bodyF 1 1 g_is_pair
set_option maxHeartbeats 2000000 in
theorem d_is_pair (T : Txt P K mg C_Work) (At : DefAt K mg "is_pair" s_is_pair ["value"]) : DefOk P w K mg base "is_pair" ["value"] 1 F_is_pair :=
  def_ok At sc_is_pair fun f cdv A outer s H E hr => (dss_one (ds_ret (de_and (de_isi rfl T.b_isinstance rfl T.b_tuple PyProof.Rows.boot_tuple (de_var 0)) (de_one (de_eq hr.units (de_len rfl T.b_len (de_var 0)) de_int)))))
abbrev s_is_upward_pair : Stmt := (top 9)
abbrev N_is_upward_pair : List Str := ["many", "value"]
theorem sc_is_upward_pair : FnScope N_is_upward_pair ["many", "value"] (defScope s_is_upward_pair) := ⟨rfl, rfl, rfl, by decide +kernel, rfl, by decide +kernel, by decide +kernel⟩
def g_is_upward_pair : Fs := (sRet (eAnd (eCB F_is_pair (aCons (eVar 1) aNil)) (eAnd (eCB F_is_integer_in (aCons (eBin fIx (eVar 1) (eC (.int 0))) (aCons (eC (.int 0)) (aCons (eBin fSub (eVar 0) (eC (.int 1))) aNil)))) (eAnd (eCB F_is_integer_in (aCons (eBin fIx (eVar 1) (eC (.int 1))) (aCons (eC (.int 0)) (aCons (eBin fSub (eVar 0) (eC (.int 1))) aNil)))) (eBin fLt (eBin fIx (eVar 1) (eC (.int 0))) (eBin fIx (eVar 1) (eC (.int 1))))))))
def F_is_upward_pair : List D → M D := bodyF 2 2 g_is_upward_pair
set_option maxHeartbeats 2000000 in
theorem d_is_upward_pair (T : Txt P K mg C_Work) (At : DefAt K mg "is_upward_pair" s_is_upward_pair ["many", "value"]) (D_is_integer_in : DefOk P w K mg base "is_integer_in" ["value", "low", "high"] 2 F_is_integer_in) (D_is_pair : DefOk P w K mg base "is_pair" ["value"] 1 F_is_pair) : DefOk P w K mg base "is_upward_pair" ["many", "value"] 3 F_is_upward_pair :=
  def_ok At sc_is_upward_pair fun f cdv A outer s H E hr => (dss_one (ds_ret (de_and (de_callD D_is_pair (hr.mono (by first | decide | omega | (simp only [Nat.add_eq]; omega))) rfl (takes_of rfl rfl rfl rfl) (da_cons (de_var 1) da_nil)) (de_and (de_callD D_is_integer_in (hr.mono (by first | decide | omega | (simp only [Nat.add_eq]; omega))) rfl (takes_of rfl rfl rfl rfl) (da_cons (de_item (de_var 1) de_int) (da_cons de_int (da_cons (de_sub (de_var 0) de_int) da_nil)))) (de_and (de_callD D_is_integer_in (hr.mono (by first | decide | omega | (simp only [Nat.add_eq]; omega))) rfl (takes_of rfl rfl rfl rfl) (da_cons (de_item (de_var 1) de_int) (da_cons de_int (da_cons (de_sub (de_var 0) de_int) da_nil)))) (de_one (de_lt (de_item (de_var 1) de_int) (de_item (de_var 1) de_int))))))))
abbrev s_are_upward_pairs : Stmt := (top 10)
abbrev N_are_upward_pairs : List Str := ["many", "value", "pair"]
theorem sc_are_upward_pairs : FnScope N_are_upward_pairs ["many", "value"] (defScope s_are_upward_pairs) := ⟨rfl, rfl, rfl, by decide +kernel, rfl, by decide +kernel, by decide +kernel⟩
abbrev e_are_upward_pairs_1 : Fe := (eCB F_is_upward_pair (aCons (eVar 0) (aCons (eVar 2) aNil)))
abbrev c_are_upward_pairs_1 : Fe := (eLc (srcSeq (eVar 1)) [2] (tName 2) (fun _ => M.pure true) e_are_upward_pairs_1)
def g_are_upward_pairs : Fs := (sRet (eAnd (eUn (fIsi "tuple") (eVar 1)) (eAnd (eCB (on1 fAll) (aCons c_are_upward_pairs_1 aNil)) (eCB F_is_ascending (aCons (eVar 1) aNil)))))
def F_are_upward_pairs : List D → M D := bodyF 2 3 g_are_upward_pairs
set_option maxHeartbeats 2000000 in
theorem d_are_upward_pairs (T : Txt P K mg C_Work) (At : DefAt K mg "are_upward_pairs" s_are_upward_pairs ["many", "value"]) (D_is_ascending : DefOk P w K mg base "is_ascending" ["members"] 1 F_is_ascending) (D_is_upward_pair : DefOk P w K mg base "is_upward_pair" ["many", "value"] 3 F_is_upward_pair) : DefOk P w K mg base "are_upward_pairs" ["many", "value"] 4 F_are_upward_pairs :=
  def_ok At sc_are_upward_pairs fun f cdv A outer s H E hr => (dss_one (ds_ret (de_and (de_isi rfl T.b_isinstance rfl T.b_tuple PyProof.Rows.boot_tuple (de_var 1)) (de_and (de_all rfl T.b_all rfl (de_lcI rfl sc_are_upward_pairs.nd (di_seq (de_var 1)) (blkOk_by (own := [("pair", 2)]) (N := N_are_upward_pairs) (sc := defScope s_are_upward_pairs) (by decide +kernel)) tgc_one (fun _ _ _ _ _ => pg_name (i := 2) sc_are_upward_pairs.nd rfl (by first | exact Or.inl rfl | exact Or.inr rfl)) (fun _ _ _ _ _ => dts_nil) (fun _ _ _ _ _ => (de_callD D_is_upward_pair (hr.mono (by first | decide | omega | (simp only [Nat.add_eq]; omega))) rfl takes0 (da_cons (de_var 0) (da_cons (de_var 2) da_nil)))))) (de_one (de_callD D_is_ascending (hr.mono (by first | decide | omega | (simp only [Nat.add_eq]; omega))) rfl (takes_of rfl rfl rfl rfl) (da_cons (de_var 1) da_nil)))))))
abbrev s__are_lengths : Stmt := (top 21)
abbrev N__are_lengths : List Str := ["value", "length"]
theorem sc__are_lengths : FnScope N__are_lengths ["value"] (defScope s__are_lengths) := ⟨rfl, rfl, rfl, by decide +kernel, rfl, by decide +kernel, by decide +kernel⟩
abbrev e__are_lengths_1 : Fe := (eCB F_is_integer_in (aCons (eVar 1) (aCons (eC (.int 0)) (aCons (eC (.int 999999)) aNil))))
abbrev c__are_lengths_1 : Fe := (eLc (srcSeq (eVar 0)) [1] (tName 1) (fun _ => M.pure true) e__are_lengths_1)
def g__are_lengths : Fs := (sRet (eAnd (eUn (fIsi "tuple") (eVar 0)) (eAnd (eChain fLe fLe (eC (.int 1)) (eCB (on1 fLen) (aCons (eVar 0) aNil)) (eC (.int 8))) (eCB (on1 fAll) (aCons c__are_lengths_1 aNil)))))
def F__are_lengths : List D → M D := bodyF 1 2 g__are_lengths
set_option maxHeartbeats 2000000 in
theorem d__are_lengths (T : Txt P K mg C_Work) (At : DefAt K mg "_are_lengths" s__are_lengths ["value"]) (D_is_integer_in : DefOk P w K mg base "is_integer_in" ["value", "low", "high"] 2 F_is_integer_in) : DefOk P w K mg base "_are_lengths" ["value"] 3 F__are_lengths :=
  def_ok At sc__are_lengths fun f cdv A outer s H E hr => (dss_one (ds_ret (de_and (de_isi rfl T.b_isinstance rfl T.b_tuple PyProof.Rows.boot_tuple (de_var 0)) (de_and (de_chain op_le op_le (ok_int0 fun _ _ _ => .bl _) (ok_int0 fun _ _ _ => .bl _) de_int (de_len rfl T.b_len (de_var 0)) (de_globE rfl T.c_MOST_PIECES)) (de_one (de_all rfl T.b_all rfl (de_lcI rfl sc__are_lengths.nd (di_seq (de_var 0)) (blkOk_by (own := [("length", 1)]) (N := N__are_lengths) (sc := defScope s__are_lengths) (by decide +kernel)) tgc_one (fun _ _ _ _ _ => pg_name (i := 1) sc__are_lengths.nd rfl (by first | exact Or.inl rfl | exact Or.inr rfl)) (fun _ _ _ _ _ => dts_nil) (fun _ _ _ _ _ => (de_callD D_is_integer_in (hr.mono (by first | decide | omega | (simp only [Nat.add_eq]; omega))) rfl takes0 (da_cons (de_var 1) (da_cons de_int (da_cons (de_globE rfl T.c_MOST_LENGTH) da_nil))))))))))))
abbrev s_m_Workdd_initdd : Stmt := (inClass (top 16) 0)
abbrev N_m_Workdd_initdd : List Str := ["self", "lengths", "waits"]
theorem sc_m_Workdd_initdd : FnScope N_m_Workdd_initdd ["self", "lengths", "waits"] (defScope s_m_Workdd_initdd) := ⟨rfl, rfl, rfl, by decide +kernel, rfl, by decide +kernel, by decide +kernel⟩
abbrev b_m_Workdd_initdd_1 : Fs := (sFld "Work" "waits" (eVar 0) (eCB (F_plain 20) (aCons (eVar 2) aNil)))
abbrev b_m_Workdd_initdd_2 : Fs := (sSeq (sFld "Work" "lengths" (eVar 0) (eCB (F_plain 20) (aCons (eVar 1) aNil))) b_m_Workdd_initdd_1)
abbrev b_m_Workdd_initdd_3 : Fs := (sSeq (sIf (bNot (eT (eCB F_are_upward_pairs (aCons (eCB (on1 fLen) (aCons (eVar 1) aNil)) (aCons (eVar 2) aNil))))) (sRaise "InvalidWaits" "value" (eVar 2)) sNil) b_m_Workdd_initdd_2)
def g_m_Workdd_initdd : Fs := (sSeq (sIf (bNot (eT (eCB F__are_lengths (aCons (eVar 1) aNil)))) (sRaise "InvalidLengths" "value" (eVar 1)) sNil) b_m_Workdd_initdd_3)
def F_m_Workdd_initdd : List D → M D := bodyF 3 3 g_m_Workdd_initdd
set_option maxHeartbeats 2000000 in
theorem d_m_Workdd_initdd (T : Txt P K mg C_Work) (At : MethAt K C_Work "__init__" "Work.__init__" s_m_Workdd_initdd ["self", "lengths", "waits"]) (D_plain : DefOk P w K mg base "plain" ["value"] 21 (F_plain 20)) (D_are_upward_pairs : DefOk P w K mg base "are_upward_pairs" ["many", "value"] 4 F_are_upward_pairs) (D__are_lengths : DefOk P w K mg base "_are_lengths" ["value"] 3 F__are_lengths) : MethOk P w K mg base C_Work "__init__" ["self", "lengths", "waits"] 22 F_m_Workdd_initdd :=
  meth_ok At sc_m_Workdd_initdd fun f cdv A outer s H E hr => (dss_cons (ds_if (dt_not (dt_val (de_callD D__are_lengths (hr.mono (by first | decide | omega | (simp only [Nat.add_eq]; omega))) rfl (takes_of rfl rfl rfl rfl) (da_cons (de_var 1) da_nil)))) (dss_one (ds_raise rfl T.x_InvalidLengths hr (takes_of rfl rfl rfl rfl) (de_var 1))) dss_nil) (dss_cons (ds_if (dt_not (dt_val (de_callD D_are_upward_pairs (hr.mono (by first | decide | omega | (simp only [Nat.add_eq]; omega))) rfl (takes_of rfl rfl rfl rfl) (da_cons (de_len rfl T.b_len (de_var 1)) (da_cons (de_var 2) da_nil))))) (dss_one (ds_raise rfl T.x_InvalidWaits hr (takes_of rfl rfl rfl rfl) (de_var 2))) dss_nil) (dss_cons (ds_fld T.g_Work T.cl_Work T.n_Work_lengths (de_var 0) (de_callD D_plain (hr.mono (by first | decide | omega | (simp only [Nat.add_eq]; omega))) rfl (takes_of rfl rfl rfl rfl) (da_cons (de_var 1) da_nil))) (dss_one (ds_fld T.g_Work T.cl_Work T.n_Work_waits (de_var 0) (de_callD D_plain (hr.mono (by first | decide | omega | (simp only [Nat.add_eq]; omega))) rfl (takes_of rfl rfl rfl rfl) (da_cons (de_var 2) da_nil)))))))
abbrev s__law_box : Stmt := (top 25)
abbrev N__law_box : List Str := ["script", "k", "cell", "great"]
theorem sc__law_box : FnScope N__law_box ["script", "k"] (defScope s__law_box) := ⟨rfl, rfl, rfl, by decide +kernel, rfl, by decide +kernel, by decide +kernel⟩
abbrev b__law_box_1 : Fs := (sRet (eCell (aCons (eVar 3) (aCons (eBin fAdd (eBin fMod (eCB (on1 fInt) (aCons (eBin fAdd (eBin fMul (eBin fMod (eCB (on1 fInt) (aCons (eVar 2) aNil)) (eC (.int 1000000007))) (eC (.int 48271))) (eBin fMul (eC (.int 613)) (eVar 1))) aNil)) (eC (.int 2147483647))) (eC (.int 1))) aNil))))
abbrev b__law_box_2 : Fs := (sSeq (sSet 3 (eBin fIx (eLst (aCons (eC (.int 0)) (aCons (eVar 2) aNil))) (eCB (on1 fInt) (aCons (eBin fGe (eVar 2) (eBin fPow (eC (.int 10)) (eC (.int 18)))) aNil)))) b__law_box_1)
abbrev b__law_box_3 : Fs := (sSeq (sIf (eT (eBin fLt (eVar 1) (eCB (on1 fLen) (aCons (eVar 0) aNil)))) (sSet 2 (eCB (on1 fAbs) (aCons (eBin fIx (eVar 0) (eVar 1)) aNil))) (sIf (eT (eBin fGt (eCB (on1 fLen) (aCons (eVar 0) aNil)) (eC (.int 0)))) (sSet 2 (eBin fAdd (eBin fMul (eBin fMod (eCB (on1 fInt) (aCons (eCB (on1 fAbs) (aCons (eBin fIx (eVar 0) (eBin fMod (eCB (on1 fInt) (aCons (eVar 1) aNil)) (eCB (on1 fLen) (aCons (eVar 0) aNil)))) aNil)) aNil)) (eC (.int 1000000007))) (eC (.int 31))) (eBin fMul (eC (.int 7919)) (eVar 1)))) sNil)) b__law_box_2)
def g__law_box : Fs := (sSeq (sSet 2 (eBin fAdd (eBin fMul (eC (.int 7919)) (eVar 1)) (eC (.int 101)))) b__law_box_3)
def F__law_box : List D → M D := bodyF 2 4 g__law_box
set_option maxHeartbeats 2000000 in
theorem d__law_box (T : Txt P K mg C_Work) (At : DefAt K mg "_law_box" s__law_box ["script", "k"]) : DefOk P w K mg base "_law_box" ["script", "k"] 1 F__law_box :=
  def_ok At sc__law_box fun f cdv A outer s H E hr => (dss_cons (ds_set (i := 2) sc__law_box.nd rfl (by first | exact Or.inl rfl | exact Or.inr rfl) (de_add (de_mul de_int (de_var 1)) de_int)) (dss_cons (ds_if (dt_lt (de_var 1) (de_len rfl T.b_len (de_var 0))) (dss_one (ds_set (i := 2) sc__law_box.nd rfl (by first | exact Or.inl rfl | exact Or.inr rfl) (de_abs rfl T.b_abs (de_item (de_var 0) (de_var 1))))) (dss_one (ds_if (dt_gt (de_len rfl T.b_len (de_var 0)) de_int) (dss_one (ds_set (i := 2) sc__law_box.nd rfl (by first | exact Or.inl rfl | exact Or.inr rfl) (de_add (de_mul (de_mod (de_toInt rfl T.b_int (de_abs rfl T.b_abs (de_item (de_var 0) (de_mod (de_toInt rfl T.b_int (de_var 1)) (de_len rfl T.b_len (de_var 0)))))) de_int) de_int) (de_mul de_int (de_var 1))))) dss_nil))) (dss_cons (ds_set (i := 3) sc__law_box.nd rfl (by first | exact Or.inl rfl | exact Or.inr rfl) (de_item (de_lst (da_cons de_int (da_cons (de_var 2) da_nil))) (de_toInt rfl T.b_int (de_ge (de_var 2) (de_pow de_int de_int))))) (dss_one (ds_ret (de_cell (da_cons (de_var 3) (da_cons (de_add (de_mod (de_toInt rfl T.b_int (de_add (de_mul (de_mod (de_toInt rfl T.b_int (de_var 2)) de_int) de_int) (de_mul de_int (de_var 1)))) de_int) de_int) da_nil))))))))
abbrev s__law_all_edges : Stmt := (top 32)
abbrev N__law_all_edges : List Str := ["n", "found", "g", "f"]
theorem sc__law_all_edges : FnScope N__law_all_edges ["n"] (defScope s__law_all_edges) := ⟨rfl, rfl, rfl, by decide +kernel, rfl, by decide +kernel, by decide +kernel⟩
abbrev e__law_all_edges_1 : Fe := (eTup (aCons (eVar 2) (aCons (eVar 3) aNil)))
abbrev s__law_all_edges_1 : Fsrc := (srcRng2 (eBin fAdd (eVar 2) (eC (.int 1))) (eVar 0))
abbrev c__law_all_edges_1 : Fe := (eLc s__law_all_edges_1 [3] (tName 3) (fun _ => M.pure true) e__law_all_edges_1)
abbrev l__law_all_edges_1 : Fs := (sSet 1 (eBin fAdd (eVar 1) c__law_all_edges_1))
abbrev b__law_all_edges_1 : Fs := (sSeq (sFor (srcRng1 (eVar 0)) (tName 2) l__law_all_edges_1) (sRet (eVar 1)))
def g__law_all_edges : Fs := (sSeq (sSet 1 (eLst aNil)) b__law_all_edges_1)
def F__law_all_edges : List D → M D := bodyF 1 4 g__law_all_edges
set_option maxHeartbeats 2000000 in
theorem d__law_all_edges (T : Txt P K mg C_Work) (At : DefAt K mg "_law_all_edges" s__law_all_edges ["n"]) : DefOk P w K mg base "_law_all_edges" ["n"] 1 F__law_all_edges :=
  def_ok At sc__law_all_edges fun f cdv A outer s H E hr => (dss_cons (ds_set (i := 1) sc__law_all_edges.nd rfl (by first | exact Or.inl rfl | exact Or.inr rfl) (de_lst da_nil)) (dss_cons (ds_for (passes_of rfl) rfl (di_rng1 rfl T.b_range (de_var 0)) (dg_name (i := 2) sc__law_all_edges.nd rfl (by first | exact Or.inl rfl | exact Or.inr rfl)) (dss_one (ds_set (i := 1) sc__law_all_edges.nd rfl (by first | exact Or.inl rfl | exact Or.inr rfl) (de_add (de_var 1) (de_lcI rfl sc__law_all_edges.nd (di_rng2 rfl T.b_range (de_add (de_var 2) de_int) (de_var 0)) (blkOk_by (own := [("f", 3)]) (N := N__law_all_edges) (sc := defScope s__law_all_edges) (by decide +kernel)) tgc_one (fun _ _ _ _ _ => pg_name (i := 3) sc__law_all_edges.nd rfl (by first | exact Or.inl rfl | exact Or.inr rfl)) (fun _ _ _ _ _ => dts_nil) (fun _ _ _ _ _ => (de_tup (da_cons (de_var 2) (da_cons (de_var 3) da_nil))))))))) (dss_one (ds_ret (de_var 1)))))
abbrev s__law_work : Stmt := (top 33)
abbrev N__law_work : List Str := ["script", "box", "many", "wide", "lengths", "most", "k", "pair"]
theorem sc__law_work : FnScope N__law_work ["script"] (defScope s__law_work) := ⟨rfl, rfl, rfl, by decide +kernel, rfl, by decide +kernel, by decide +kernel⟩
abbrev t__law_work_1 : Fb := (eT (eBin (fEq false) (eCB F__law_take (aCons (eVar 1) (aCons (eBin fAdd (eVar 5) (eC (.int 1))) aNil))) (eC (.int 0))))
abbrev s__law_work_1 : Fsrc := (srcSeq (eCB F__law_all_edges (aCons (eVar 2) aNil)))
abbrev c__law_work_1 : Fe := (eLc s__law_work_1 [7] (tName 7) t__law_work_1 (eVar 7))
abbrev b__law_work_1 : Fs := (sRet (eTup (aCons (eVar 4) (aCons (eCB (on1 fTuple) (aCons c__law_work_1 aNil)) aNil))))
abbrev b__law_work_2 : Fs := (sSeq (sSet 5 (eCB F__law_pick (aCons (eVar 1) (aCons (eLst (aCons (eC (.int 1)) (aCons (eC (.int 2)) (aCons (eC (.int 4)) aNil)))) aNil)))) b__law_work_1)
abbrev e__law_work_1 : Fe := (eCB F__law_take (aCons (eVar 1) (aCons (eVar 3) aNil)))
abbrev c__law_work_2 : Fe := (eLc (srcRng1 (eVar 2)) [6] (tName 6) (fun _ => M.pure true) e__law_work_1)
abbrev b__law_work_3 : Fs := (sSeq (sSet 4 (eCB (on1 fTuple) (aCons c__law_work_2 aNil))) b__law_work_2)
abbrev b__law_work_4 : Fs := (sSeq (sSet 3 (eCB F__law_pick (aCons (eVar 1) (aCons (eLst (aCons (eC (.int 3)) (aCons (eC (.int 10)) (aCons (eC (.int 1000000)) aNil)))) aNil)))) b__law_work_3)
abbrev b__law_work_5 : Fs := (sSeq (sSet 2 (eBin fAdd (eC (.int 1)) (eCB F__law_take (aCons (eVar 1) (aCons (eC (.int 8)) aNil))))) b__law_work_4)
def g__law_work : Fs := (sSeq (sSet 1 (eCB F__law_box (aCons (eVar 0) (aCons (eC (.int 0)) aNil)))) b__law_work_5)
def F__law_work : List D → M D := bodyF 1 8 g__law_work
set_option maxHeartbeats 2000000 in
theorem d__law_work (T : Txt P K mg C_Work) (At : DefAt K mg "_law_work" s__law_work ["script"]) (D__law_take : DefOk P w K mg base "_law_take" ["box", "many"] 1 F__law_take) (D__law_all_edges : DefOk P w K mg base "_law_all_edges" ["n"] 1 F__law_all_edges) (D__law_pick : DefOk P w K mg base "_law_pick" ["box", "some"] 2 F__law_pick) (D__law_box : DefOk P w K mg base "_law_box" ["script", "k"] 1 F__law_box) : DefOk P w K mg base "_law_work" ["script"] 3 F__law_work :=
  def_ok At sc__law_work fun f cdv A outer s H E hr => (dss_cons (ds_set (i := 1) sc__law_work.nd rfl (by first | exact Or.inl rfl | exact Or.inr rfl) (de_callD D__law_box (hr.mono (by first | decide | omega | (simp only [Nat.add_eq]; omega))) rfl (takes_of rfl rfl rfl rfl) (da_cons (de_var 0) (da_cons de_int da_nil)))) (dss_cons (ds_set (i := 2) sc__law_work.nd rfl (by first | exact Or.inl rfl | exact Or.inr rfl) (de_add de_int (de_callD D__law_take (hr.mono (by first | decide | omega | (simp only [Nat.add_eq]; omega))) rfl (takes_of rfl rfl rfl rfl) (da_cons (de_var 1) (da_cons de_int da_nil))))) (dss_cons (ds_set (i := 3) sc__law_work.nd rfl (by first | exact Or.inl rfl | exact Or.inr rfl) (de_callD D__law_pick (hr.mono (by first | decide | omega | (simp only [Nat.add_eq]; omega))) rfl (takes_of rfl rfl rfl rfl) (da_cons (de_var 1) (da_cons (de_lst (da_cons de_int (da_cons de_int (da_cons de_int da_nil)))) da_nil)))) (dss_cons (ds_set (i := 4) sc__law_work.nd rfl (by first | exact Or.inl rfl | exact Or.inr rfl) (de_tuple rfl T.b_tuple (de_lcI rfl sc__law_work.nd (di_rng1 rfl T.b_range (de_var 2)) (blkOk_by (own := [("k", 6)]) (N := N__law_work) (sc := defScope s__law_work) (by decide +kernel)) tgc_one (fun _ _ _ _ _ => pg_name (i := 6) sc__law_work.nd rfl (by first | exact Or.inl rfl | exact Or.inr rfl)) (fun _ _ _ _ _ => dts_nil) (fun _ _ _ _ _ => (de_callD D__law_take (hr.mono (by first | decide | omega | (simp only [Nat.add_eq]; omega))) rfl takes0 (da_cons (de_var 1) (da_cons (de_var 3) da_nil))))))) (dss_cons (ds_set (i := 5) sc__law_work.nd rfl (by first | exact Or.inl rfl | exact Or.inr rfl) (de_callD D__law_pick (hr.mono (by first | decide | omega | (simp only [Nat.add_eq]; omega))) rfl (takes_of rfl rfl rfl rfl) (da_cons (de_var 1) (da_cons (de_lst (da_cons de_int (da_cons de_int (da_cons de_int da_nil)))) da_nil)))) (dss_one (ds_ret (de_tup (da_cons (de_var 4) (da_cons (de_tuple rfl T.b_tuple (de_lcI rfl sc__law_work.nd (di_seq (de_callD D__law_all_edges (hr.mono (by first | decide | omega | (simp only [Nat.add_eq]; omega))) rfl (takes_of rfl rfl rfl rfl) (da_cons (de_var 2) da_nil))) (blkOk_by (own := [("pair", 7)]) (N := N__law_work) (sc := defScope s__law_work) (by decide +kernel)) tgc_one (fun _ _ _ _ _ => pg_name (i := 7) sc__law_work.nd rfl (by first | exact Or.inl rfl | exact Or.inr rfl)) (fun _ _ _ _ _ => dts_one (dt_eq hr.units (de_callD D__law_take (hr.mono (by first | decide | omega | (simp only [Nat.add_eq]; omega))) rfl takes0 (da_cons (de_var 1) (da_cons (de_add (de_var 5) de_int) da_nil))) de_int)) (fun _ _ _ _ _ => (de_var 7)))) da_nil))))))))))
abbrev s_law : Stmt := (top 38)
abbrev N_law : List Str := ["script", "work", "box", "made", "every", "far", "due", "many", "at", "values", "value", "number", "way", "one"]
theorem sc_law : FnScope N_law ["script"] (defScope s_law) := ⟨rfl, rfl, rfl, by decide +kernel, rfl, by decide +kernel, by decide +kernel⟩
abbrev b_law_1 : Fs := (sRet (eC (.bool true)))
abbrev s_law_1 : Fsrc := (srcSeq (eLst (aCons (eVar 5) (aCons (eBin fSub (eVar 5) (eC (.int 1))) (aCons (eBin fAdd (eVar 5) (eC (.int 1))) (aCons (eBin fAdd (eVar 5) (eC (.int 3))) (aCons (eC (.int 0)) (aCons (eBin fPow (eC (.int 10)) (eC (.int 9))) (aCons (eUn fNeg (eC (.int 1))) (aCons (eC .none) (aCons (eC (.bool true)) (aCons (eC (.str "1")) (aCons (eLst (aCons (eC (.int 0)) aNil)) aNil)))))))))))))
abbrev l_law_1 : Fs := (sIf (bNot (eT (eCB F__law_is_due (aCons (eCB F_heights_hold (aCons (eVar 3) (aCons (eVar 11) (aCons (eVar 10) aNil)))) (aCons (eCB F__law_are_heights (aCons (eVar 1) (aCons (eVar 11) (aCons (eVar 10) aNil)))) aNil))))) (sRet (eC (.bool false))) sNil)
abbrev l_law_2 : Fs := (sFor s_law_1 (tName 11) l_law_1)
abbrev b_law_2 : Fs := (sSeq (sFor (srcSeq (eVar 9)) (tName 10) l_law_2) b_law_1)
abbrev b_law_3 : Fs := (sSeq (sSet 9 (eBin fCat2 (eVar 9) (eCell (aCons (eCB (on1 fList) (aCons (eVar 6) aNil)) (aCons (eSl (eVar 6) (oSome (eC (.int 1))) oNone) (aCons (eBin fAdd (eVar 6) (eTup (aCons (eC (.int 0)) aNil))) (aCons (eC .none) (aCons (eC (.int 0)) (aCons (eTup aNil) (aCons (eUn fRev (eVar 6)) (aCons (eBin fRepM (eTup (aCons (eC (.bool true)) aNil)) (eVar 7)) (aCons (eBin fRepM (eTup (aCons (eC .none) aNil)) (eVar 7)) (aCons (eVar 3) (aCons (eCB (F__law_spoilt 20) (aCons (eVar 2) (aCons (eVar 6) (aCons (eC (.int 1)) aNil)))) (aCons (eCB (F__law_spoilt 20) (aCons (eVar 2) (aCons (eVar 6) (aCons (eC (.int 1)) aNil)))) (aCons (eBin fRepM (eTup (aCons (eBin fPow (eC (.int 10)) (eC (.int 9))) aNil)) (eVar 7)) aNil)))))))))))))))) b_law_2)
abbrev e_law_1 : Fe := (eBin fAdd (eVar 13) (eC (.int 1)))
abbrev c_law_1 : Fe := (eLc (srcSeq (eVar 6)) [13] (tName 13) (fun _ => M.pure true) e_law_1)
abbrev b_law_4 : Fs := (sSeq (sSet 9 (eCell (aCons (eVar 6) (aCons (eCB (on1 fTuple) (aCons c_law_1 aNil)) (aCons (eBin fAdd (eBin fAdd (eSl (eVar 6) oNone (oSome (eVar 8))) (eTup (aCons (eBin fAdd (eBin fIx (eVar 6) (eVar 8)) (eC (.int 3))) aNil))) (eSl (eVar 6) (oSome (eBin fAdd (eVar 8) (eC (.int 1)))) oNone)) (aCons (eBin fAdd (eBin fAdd (eSl (eVar 6) oNone (oSome (eVar 8))) (eTup (aCons (eCB (on2 fMax) (aCons (eC (.int 0)) (aCons (eBin fSub (eBin fIx (eVar 6) (eVar 8)) (eC (.int 1))) aNil))) aNil))) (eSl (eVar 6) (oSome (eBin fAdd (eVar 8) (eC (.int 1)))) oNone)) (aCons (eBin fIx (eVar 1) (eC (.int 0))) (aCons (eBin fRepM (eTup (aCons (eC (.int 0)) aNil)) (eVar 7)) (aCons (eBin fRepM (eTup (aCons (eVar 5) aNil)) (eVar 7)) aNil))))))))) b_law_3)
abbrev b_law_5 : Fs := (sSeq (sSet 8 (eCB F__law_take (aCons (eVar 2) (aCons (eVar 7) aNil)))) b_law_4)
abbrev b_law_6 : Fs := (sSeq (sSet 7 (eCB (on1 fLen) (aCons (eVar 6) aNil))) b_law_5)
abbrev b_law_7 : Fs := (sSeq (sIf (bOr (eT (eBin (fEq true) (eCB F_heights (aCons (eVar 3) aNil)) (eVar 6))) (eT (eBin (fEq true) (eCB (on1 fMaxA) (aCons (eVar 6) aNil)) (eVar 5)))) (sRet (eC (.bool false))) sNil) b_law_6)
abbrev b_law_8 : Fs := (sSeq (sSet 6 (eCB F__law_heights (aCons (eVar 1) aNil))) b_law_7)
abbrev t_law_1 : Fb := (eT (eBin (fEq false) (eCB F__law_length (aCons (eVar 1) (aCons (eVar 12) aNil))) (eVar 5)))
abbrev c_law_2 : Fe := (eLc (srcSeq (eVar 4)) [12] (tName 12) t_law_1 (eVar 12))
abbrev b_law_9 : Fs := (sSeq (sIf (bOr (eT (eBin (fEq true) (eCB F_ending (aCons (eVar 3) aNil)) (eVar 5))) (bOr (bNot (eT (eCB F__law_whole (aCons (eCB F_ending (aCons (eVar 3) aNil)) aNil)))) (eT (eBin (fEq true) (eCB F_longest (aCons (eVar 3) aNil)) (eCB (on1 fMinA) (aCons c_law_2 aNil)))))) (sRet (eC (.bool false))) sNil) b_law_8)
abbrev e_law_2 : Fe := (eCB F__law_length (aCons (eVar 1) (aCons (eVar 12) aNil)))
abbrev c_law_3 : Fe := (eLc (srcSeq (eVar 4)) [12] (tName 12) (fun _ => M.pure true) e_law_2)
abbrev b_law_10 : Fs := (sSeq (sSet 5 (eCB (on1 fMaxL) (aCons c_law_3 aNil))) b_law_9)
abbrev b_law_11 : Fs := (sSeq (sSet 4 (eCB F__law_ways (aCons (eVar 1) aNil))) b_law_10)
abbrev b_law_12 : Fs := (sSeq (sSet 3 (eCB (kMake "Work" F_m_Workdd_initdd) (aCons (eBin fIx (eVar 1) (eC (.int 0))) (aCons (eBin fIx (eVar 1) (eC (.int 1))) aNil)))) b_law_11)
abbrev b_law_13 : Fs := (sSeq (sSet 2 (eCB F__law_box (aCons (eVar 0) (aCons (eC (.int 4)) aNil)))) b_law_12)
def g_law : Fs := (sSeq (sSet 1 (eCB F__law_work (aCons (eVar 0) aNil))) b_law_13)
def F_law : List D → M D := bodyF 1 14 g_law
set_option maxHeartbeats 2000000 in
theorem d_law (T : Txt P K mg C_Work) (At : DefAt K mg "law" s_law ["script"]) (D__law_is_due : DefOk P w K mg base "_law_is_due" ["told", "due"] 1 F__law_is_due) (D__law_are_heights : DefOk P w K mg base "_law_are_heights" ["work", "many", "value"] 3 F__law_are_heights) (D_heights_hold : DefOk P w K mg base "heights_hold" ["work", "many", "value"] 3 F_heights_hold) (D__law_spoilt : DefOk P w K mg base "_law_spoilt" ["box", "value", "deep"] 23 (F__law_spoilt 20)) (D__law_take : DefOk P w K mg base "_law_take" ["box", "many"] 1 F__law_take) (D_heights : DefOk P w K mg base "heights" ["work"] 1 F_heights) (D__law_heights : DefOk P w K mg base "_law_heights" ["work"] 1 F__law_heights) (D_longest : DefOk P w K mg base "longest" ["work"] 3 F_longest) (D__law_length : DefOk P w K mg base "_law_length" ["work", "way"] 1 F__law_length) (D__law_whole : DefOk P w K mg base "_law_whole" ["value"] 1 F__law_whole) (D_ending : DefOk P w K mg base "ending" ["work"] 2 F_ending) (D__law_ways : DefOk P w K mg base "_law_ways" ["work"] 1 F__law_ways) (D_m_Workdd_initdd : MethOk P w K mg base C_Work "__init__" ["self", "lengths", "waits"] 22 F_m_Workdd_initdd) (D__law_box : DefOk P w K mg base "_law_box" ["script", "k"] 1 F__law_box) (D__law_work : DefOk P w K mg base "_law_work" ["script"] 3 F__law_work) : DefOk P w K mg base "law" ["script"] 24 F_law :=
  def_ok At sc_law fun f cdv A outer s H E hr => (dss_cons (ds_set (i := 1) sc_law.nd rfl (by first | exact Or.inl rfl | exact Or.inr rfl) (de_callD D__law_work (hr.mono (by first | decide | omega | (simp only [Nat.add_eq]; omega))) rfl (takes_of rfl rfl rfl rfl) (da_cons (de_var 0) da_nil))) (dss_cons (ds_set (i := 2) sc_law.nd rfl (by first | exact Or.inl rfl | exact Or.inr rfl) (de_callD D__law_box (hr.mono (by first | decide | omega | (simp only [Nat.add_eq]; omega))) rfl (takes_of rfl rfl rfl rfl) (da_cons (de_var 0) (da_cons de_int da_nil)))) (dss_cons (ds_set (i := 3) sc_law.nd rfl (by first | exact Or.inl rfl | exact Or.inr rfl) (de_makeD T.g_Work T.mk_Work D_m_Workdd_initdd (hr.mono (by first | decide | omega | (simp only [Nat.add_eq]; omega))) rfl (takes_of rfl rfl rfl rfl) (da_cons (de_item (de_var 1) de_int) (da_cons (de_item (de_var 1) de_int) da_nil)))) (dss_cons (ds_set (i := 4) sc_law.nd rfl (by first | exact Or.inl rfl | exact Or.inr rfl) (de_callD D__law_ways (hr.mono (by first | decide | omega | (simp only [Nat.add_eq]; omega))) rfl (takes_of rfl rfl rfl rfl) (da_cons (de_var 1) da_nil))) (dss_cons (ds_set (i := 5) sc_law.nd rfl (by first | exact Or.inl rfl | exact Or.inr rfl) (de_maxL rfl T.b_max rfl (de_lcI rfl sc_law.nd (di_seq (de_var 4)) (blkOk_by (own := [("way", 12)]) (N := N_law) (sc := defScope s_law) (by decide +kernel)) tgc_one (fun _ _ _ _ _ => pg_name (i := 12) sc_law.nd rfl (by first | exact Or.inl rfl | exact Or.inr rfl)) (fun _ _ _ _ _ => dts_nil) (fun _ _ _ _ _ => (de_callD D__law_length (hr.mono (by first | decide | omega | (simp only [Nat.add_eq]; omega))) rfl takes0 (da_cons (de_var 1) (da_cons (de_var 12) da_nil))))))) (dss_cons (ds_if (DW.dt (dw_or (dt_ne hr.units (de_callD D_ending (hr.mono (by first | decide | omega | (simp only [Nat.add_eq]; omega))) rfl (takes_of rfl rfl rfl rfl) (da_cons (de_var 3) da_nil)) (de_var 5)) (dw_or (dt_not (dt_val (de_callD D__law_whole (hr.mono (by first | decide | omega | (simp only [Nat.add_eq]; omega))) rfl (takes_of rfl rfl rfl rfl) (da_cons (de_callD D_ending (hr.mono (by first | decide | omega | (simp only [Nat.add_eq]; omega))) rfl (takes_of rfl rfl rfl rfl) (da_cons (de_var 3) da_nil)) da_nil)))) (dw_or1 (dt_ne hr.units (de_callD D_longest (hr.mono (by first | decide | omega | (simp only [Nat.add_eq]; omega))) rfl (takes_of rfl rfl rfl rfl) (da_cons (de_var 3) da_nil)) (de_minA hr.units rfl T.b_min rfl (de_lcI rfl sc_law.nd (di_seq (de_var 4)) (blkOk_by (own := [("way", 12)]) (N := N_law) (sc := defScope s_law) (by decide +kernel)) tgc_one (fun _ _ _ _ _ => pg_name (i := 12) sc_law.nd rfl (by first | exact Or.inl rfl | exact Or.inr rfl)) (fun _ _ _ _ _ => dts_one (dt_eq hr.units (de_callD D__law_length (hr.mono (by first | decide | omega | (simp only [Nat.add_eq]; omega))) rfl takes0 (da_cons (de_var 1) (da_cons (de_var 12) da_nil))) (de_var 5))) (fun _ _ _ _ _ => (de_var 12))))))))) (dss_one (ds_ret de_bl)) dss_nil) (dss_cons (ds_set (i := 6) sc_law.nd rfl (by first | exact Or.inl rfl | exact Or.inr rfl) (de_callD D__law_heights (hr.mono (by first | decide | omega | (simp only [Nat.add_eq]; omega))) rfl (takes_of rfl rfl rfl rfl) (da_cons (de_var 1) da_nil))) (dss_cons (ds_if (DW.dt (dw_or (dt_ne hr.units (de_callD D_heights (hr.mono (by first | decide | omega | (simp only [Nat.add_eq]; omega))) rfl (takes_of rfl rfl rfl rfl) (da_cons (de_var 3) da_nil)) (de_var 6)) (dw_or1 (dt_ne hr.units (de_maxA hr.units rfl T.b_max rfl (de_var 6)) (de_var 5))))) (dss_one (ds_ret de_bl)) dss_nil) (dss_cons (ds_set (i := 7) sc_law.nd rfl (by first | exact Or.inl rfl | exact Or.inr rfl) (de_len rfl T.b_len (de_var 6))) (dss_cons (ds_set (i := 8) sc_law.nd rfl (by first | exact Or.inl rfl | exact Or.inr rfl) (de_callD D__law_take (hr.mono (by first | decide | omega | (simp only [Nat.add_eq]; omega))) rfl (takes_of rfl rfl rfl rfl) (da_cons (de_var 2) (da_cons (de_var 7) da_nil)))) (dss_cons (ds_set (i := 9) sc_law.nd rfl (by first | exact Or.inl rfl | exact Or.inr rfl) (de_cell (da_cons (de_var 6) (da_cons (de_tuple rfl T.b_tuple (de_lcI rfl sc_law.nd (di_seq (de_var 6)) (blkOk_by (own := [("one", 13)]) (N := N_law) (sc := defScope s_law) (by decide +kernel)) tgc_one (fun _ _ _ _ _ => pg_name (i := 13) sc_law.nd rfl (by first | exact Or.inl rfl | exact Or.inr rfl)) (fun _ _ _ _ _ => dts_nil) (fun _ _ _ _ _ => (de_add (de_var 13) de_int)))) (da_cons (de_add (de_add (de_slice (de_var 6) do_none (do_some (de_var 8))) (de_tup (da_cons (de_add (de_item (de_var 6) (de_var 8)) de_int) da_nil))) (de_slice (de_var 6) (do_some (de_add (de_var 8) de_int)) do_none)) (da_cons (de_add (de_add (de_slice (de_var 6) do_none (do_some (de_var 8))) (de_tup (da_cons (de_max2 rfl T.b_max rfl de_int (de_sub (de_item (de_var 6) (de_var 8)) de_int)) da_nil))) (de_slice (de_var 6) (do_some (de_add (de_var 8) de_int)) do_none)) (da_cons (de_item (de_var 1) de_int) (da_cons (de_repM (de_tup (da_cons de_int da_nil)) (de_var 7)) (da_cons (de_repM (de_tup (da_cons (de_var 5) da_nil)) (de_var 7)) da_nil))))))))) (dss_cons (ds_set (i := 9) sc_law.nd rfl (by first | exact Or.inl rfl | exact Or.inr rfl) (de_add2 (de_var 9) (de_cell (da_cons (de_list rfl T.b_list (de_var 6)) (da_cons (de_slice (de_var 6) (do_some de_int) do_none) (da_cons (de_add (de_var 6) (de_tup (da_cons de_int da_nil))) (da_cons de_non (da_cons de_int (da_cons (de_tup da_nil) (da_cons (de_rev (de_var 6)) (da_cons (de_repM (de_tup (da_cons de_bl da_nil)) (de_var 7)) (da_cons (de_repM (de_tup (da_cons de_non da_nil)) (de_var 7)) (da_cons (de_var 3) (da_cons (de_callD D__law_spoilt (hr.mono (by first | decide | omega | (simp only [Nat.add_eq]; omega))) rfl (takes_of rfl rfl rfl rfl) (da_cons (de_var 2) (da_cons (de_var 6) (da_cons de_int da_nil)))) (da_cons (de_callD D__law_spoilt (hr.mono (by first | decide | omega | (simp only [Nat.add_eq]; omega))) rfl (takes_of rfl rfl rfl rfl) (da_cons (de_var 2) (da_cons (de_var 6) (da_cons de_int da_nil)))) (da_cons (de_repM (de_tup (da_cons (de_pow de_int de_int) da_nil)) (de_var 7)) da_nil)))))))))))))))) (dss_cons (ds_for (passes_of rfl) rfl (di_seq (de_var 9)) (dg_name (i := 10) sc_law.nd rfl (by first | exact Or.inl rfl | exact Or.inr rfl)) (dss_one (ds_for (passes_of rfl) rfl (di_seq (de_lst (da_cons (de_var 5) (da_cons (de_sub (de_var 5) de_int) (da_cons (de_add (de_var 5) de_int) (da_cons (de_add (de_var 5) de_int) (da_cons de_int (da_cons (de_pow de_int de_int) (da_cons (de_neg de_int) (da_cons de_non (da_cons de_bl (da_cons de_str (da_cons (de_lst (da_cons de_int da_nil)) da_nil))))))))))))) (dg_name (i := 11) sc_law.nd rfl (by first | exact Or.inl rfl | exact Or.inr rfl)) (dss_one (ds_if (dt_not (dt_val (de_callD D__law_is_due (hr.mono (by first | decide | omega | (simp only [Nat.add_eq]; omega))) rfl (takes_of rfl rfl rfl rfl) (da_cons (de_callD D_heights_hold (hr.mono (by first | decide | omega | (simp only [Nat.add_eq]; omega))) rfl (takes_of rfl rfl rfl rfl) (da_cons (de_var 3) (da_cons (de_var 11) (da_cons (de_var 10) da_nil)))) (da_cons (de_callD D__law_are_heights (hr.mono (by first | decide | omega | (simp only [Nat.add_eq]; omega))) rfl (takes_of rfl rfl rfl rfl) (da_cons (de_var 1) (da_cons (de_var 11) (da_cons (de_var 10) da_nil)))) da_nil))))) (dss_one (ds_ret de_bl)) dss_nil))))) (dss_one (ds_ret de_bl)))))))))))))))
set_option maxHeartbeats 2000000 in
theorem fn_law (T : Txt P K mg C_Work) {fa : Addr} {fd : FuncData} (Fn : Fun K "law" "law" s_law fa fd) (D__law_is_due : DefOk P w K mg base "_law_is_due" ["told", "due"] 1 F__law_is_due) (D__law_are_heights : DefOk P w K mg base "_law_are_heights" ["work", "many", "value"] 3 F__law_are_heights) (D_heights_hold : DefOk P w K mg base "heights_hold" ["work", "many", "value"] 3 F_heights_hold) (D__law_spoilt : DefOk P w K mg base "_law_spoilt" ["box", "value", "deep"] 23 (F__law_spoilt 20)) (D__law_take : DefOk P w K mg base "_law_take" ["box", "many"] 1 F__law_take) (D_heights : DefOk P w K mg base "heights" ["work"] 1 F_heights) (D__law_heights : DefOk P w K mg base "_law_heights" ["work"] 1 F__law_heights) (D_longest : DefOk P w K mg base "longest" ["work"] 3 F_longest) (D__law_length : DefOk P w K mg base "_law_length" ["work", "way"] 1 F__law_length) (D__law_whole : DefOk P w K mg base "_law_whole" ["value"] 1 F__law_whole) (D_ending : DefOk P w K mg base "ending" ["work"] 2 F_ending) (D__law_ways : DefOk P w K mg base "_law_ways" ["work"] 1 F__law_ways) (D_m_Workdd_initdd : MethOk P w K mg base C_Work "__init__" ["self", "lengths", "waits"] 22 F_m_Workdd_initdd) (D__law_box : DefOk P w K mg base "_law_box" ["script", "k"] 1 F__law_box) (D__law_work : DefOk P w K mg base "_law_work" ["script"] 3 F__law_work) : FnOk P w K mg base (L2.CX P w) 24 fa fd ["script"] (spD ⟨mg, K⟩ F_law) :=
  law_fn Fn sc_law fun cdv A outer s H E hr => (dss_cons (ds_set (i := 1) sc_law.nd rfl (by first | exact Or.inl rfl | exact Or.inr rfl) (de_callD D__law_work (hr.mono (by first | decide | omega | (simp only [Nat.add_eq]; omega))) rfl (takes_of rfl rfl rfl rfl) (da_cons (de_var 0) da_nil))) (dss_cons (ds_set (i := 2) sc_law.nd rfl (by first | exact Or.inl rfl | exact Or.inr rfl) (de_callD D__law_box (hr.mono (by first | decide | omega | (simp only [Nat.add_eq]; omega))) rfl (takes_of rfl rfl rfl rfl) (da_cons (de_var 0) (da_cons de_int da_nil)))) (dss_cons (ds_set (i := 3) sc_law.nd rfl (by first | exact Or.inl rfl | exact Or.inr rfl) (de_makeD T.g_Work T.mk_Work D_m_Workdd_initdd (hr.mono (by first | decide | omega | (simp only [Nat.add_eq]; omega))) rfl (takes_of rfl rfl rfl rfl) (da_cons (de_item (de_var 1) de_int) (da_cons (de_item (de_var 1) de_int) da_nil)))) (dss_cons (ds_set (i := 4) sc_law.nd rfl (by first | exact Or.inl rfl | exact Or.inr rfl) (de_callD D__law_ways (hr.mono (by first | decide | omega | (simp only [Nat.add_eq]; omega))) rfl (takes_of rfl rfl rfl rfl) (da_cons (de_var 1) da_nil))) (dss_cons (ds_set (i := 5) sc_law.nd rfl (by first | exact Or.inl rfl | exact Or.inr rfl) (de_maxL rfl T.b_max rfl (de_lcI rfl sc_law.nd (di_seq (de_var 4)) (blkOk_by (own := [("way", 12)]) (N := N_law) (sc := defScope s_law) (by decide +kernel)) tgc_one (fun _ _ _ _ _ => pg_name (i := 12) sc_law.nd rfl (by first | exact Or.inl rfl | exact Or.inr rfl)) (fun _ _ _ _ _ => dts_nil) (fun _ _ _ _ _ => (de_callD D__law_length (hr.mono (by first | decide | omega | (simp only [Nat.add_eq]; omega))) rfl takes0 (da_cons (de_var 1) (da_cons (de_var 12) da_nil))))))) (dss_cons (ds_if (DW.dt (dw_or (dt_ne hr.units (de_callD D_ending (hr.mono (by first | decide | omega | (simp only [Nat.add_eq]; omega))) rfl (takes_of rfl rfl rfl rfl) (da_cons (de_var 3) da_nil)) (de_var 5)) (dw_or (dt_not (dt_val (de_callD D__law_whole (hr.mono (by first | decide | omega | (simp only [Nat.add_eq]; omega))) rfl (takes_of rfl rfl rfl rfl) (da_cons (de_callD D_ending (hr.mono (by first | decide | omega | (simp only [Nat.add_eq]; omega))) rfl (takes_of rfl rfl rfl rfl) (da_cons (de_var 3) da_nil)) da_nil)))) (dw_or1 (dt_ne hr.units (de_callD D_longest (hr.mono (by first | decide | omega | (simp only [Nat.add_eq]; omega))) rfl (takes_of rfl rfl rfl rfl) (da_cons (de_var 3) da_nil)) (de_minA hr.units rfl T.b_min rfl (de_lcI rfl sc_law.nd (di_seq (de_var 4)) (blkOk_by (own := [("way", 12)]) (N := N_law) (sc := defScope s_law) (by decide +kernel)) tgc_one (fun _ _ _ _ _ => pg_name (i := 12) sc_law.nd rfl (by first | exact Or.inl rfl | exact Or.inr rfl)) (fun _ _ _ _ _ => dts_one (dt_eq hr.units (de_callD D__law_length (hr.mono (by first | decide | omega | (simp only [Nat.add_eq]; omega))) rfl takes0 (da_cons (de_var 1) (da_cons (de_var 12) da_nil))) (de_var 5))) (fun _ _ _ _ _ => (de_var 12))))))))) (dss_one (ds_ret de_bl)) dss_nil) (dss_cons (ds_set (i := 6) sc_law.nd rfl (by first | exact Or.inl rfl | exact Or.inr rfl) (de_callD D__law_heights (hr.mono (by first | decide | omega | (simp only [Nat.add_eq]; omega))) rfl (takes_of rfl rfl rfl rfl) (da_cons (de_var 1) da_nil))) (dss_cons (ds_if (DW.dt (dw_or (dt_ne hr.units (de_callD D_heights (hr.mono (by first | decide | omega | (simp only [Nat.add_eq]; omega))) rfl (takes_of rfl rfl rfl rfl) (da_cons (de_var 3) da_nil)) (de_var 6)) (dw_or1 (dt_ne hr.units (de_maxA hr.units rfl T.b_max rfl (de_var 6)) (de_var 5))))) (dss_one (ds_ret de_bl)) dss_nil) (dss_cons (ds_set (i := 7) sc_law.nd rfl (by first | exact Or.inl rfl | exact Or.inr rfl) (de_len rfl T.b_len (de_var 6))) (dss_cons (ds_set (i := 8) sc_law.nd rfl (by first | exact Or.inl rfl | exact Or.inr rfl) (de_callD D__law_take (hr.mono (by first | decide | omega | (simp only [Nat.add_eq]; omega))) rfl (takes_of rfl rfl rfl rfl) (da_cons (de_var 2) (da_cons (de_var 7) da_nil)))) (dss_cons (ds_set (i := 9) sc_law.nd rfl (by first | exact Or.inl rfl | exact Or.inr rfl) (de_cell (da_cons (de_var 6) (da_cons (de_tuple rfl T.b_tuple (de_lcI rfl sc_law.nd (di_seq (de_var 6)) (blkOk_by (own := [("one", 13)]) (N := N_law) (sc := defScope s_law) (by decide +kernel)) tgc_one (fun _ _ _ _ _ => pg_name (i := 13) sc_law.nd rfl (by first | exact Or.inl rfl | exact Or.inr rfl)) (fun _ _ _ _ _ => dts_nil) (fun _ _ _ _ _ => (de_add (de_var 13) de_int)))) (da_cons (de_add (de_add (de_slice (de_var 6) do_none (do_some (de_var 8))) (de_tup (da_cons (de_add (de_item (de_var 6) (de_var 8)) de_int) da_nil))) (de_slice (de_var 6) (do_some (de_add (de_var 8) de_int)) do_none)) (da_cons (de_add (de_add (de_slice (de_var 6) do_none (do_some (de_var 8))) (de_tup (da_cons (de_max2 rfl T.b_max rfl de_int (de_sub (de_item (de_var 6) (de_var 8)) de_int)) da_nil))) (de_slice (de_var 6) (do_some (de_add (de_var 8) de_int)) do_none)) (da_cons (de_item (de_var 1) de_int) (da_cons (de_repM (de_tup (da_cons de_int da_nil)) (de_var 7)) (da_cons (de_repM (de_tup (da_cons (de_var 5) da_nil)) (de_var 7)) da_nil))))))))) (dss_cons (ds_set (i := 9) sc_law.nd rfl (by first | exact Or.inl rfl | exact Or.inr rfl) (de_add2 (de_var 9) (de_cell (da_cons (de_list rfl T.b_list (de_var 6)) (da_cons (de_slice (de_var 6) (do_some de_int) do_none) (da_cons (de_add (de_var 6) (de_tup (da_cons de_int da_nil))) (da_cons de_non (da_cons de_int (da_cons (de_tup da_nil) (da_cons (de_rev (de_var 6)) (da_cons (de_repM (de_tup (da_cons de_bl da_nil)) (de_var 7)) (da_cons (de_repM (de_tup (da_cons de_non da_nil)) (de_var 7)) (da_cons (de_var 3) (da_cons (de_callD D__law_spoilt (hr.mono (by first | decide | omega | (simp only [Nat.add_eq]; omega))) rfl (takes_of rfl rfl rfl rfl) (da_cons (de_var 2) (da_cons (de_var 6) (da_cons de_int da_nil)))) (da_cons (de_callD D__law_spoilt (hr.mono (by first | decide | omega | (simp only [Nat.add_eq]; omega))) rfl (takes_of rfl rfl rfl rfl) (da_cons (de_var 2) (da_cons (de_var 6) (da_cons de_int da_nil)))) (da_cons (de_repM (de_tup (da_cons (de_pow de_int de_int) da_nil)) (de_var 7)) da_nil)))))))))))))))) (dss_cons (ds_for (passes_of rfl) rfl (di_seq (de_var 9)) (dg_name (i := 10) sc_law.nd rfl (by first | exact Or.inl rfl | exact Or.inr rfl)) (dss_one (ds_for (passes_of rfl) rfl (di_seq (de_lst (da_cons (de_var 5) (da_cons (de_sub (de_var 5) de_int) (da_cons (de_add (de_var 5) de_int) (da_cons (de_add (de_var 5) de_int) (da_cons de_int (da_cons (de_pow de_int de_int) (da_cons (de_neg de_int) (da_cons de_non (da_cons de_bl (da_cons de_str (da_cons (de_lst (da_cons de_int da_nil)) da_nil))))))))))))) (dg_name (i := 11) sc_law.nd rfl (by first | exact Or.inl rfl | exact Or.inr rfl)) (dss_one (ds_if (dt_not (dt_val (de_callD D__law_is_due (hr.mono (by first | decide | omega | (simp only [Nat.add_eq]; omega))) rfl (takes_of rfl rfl rfl rfl) (da_cons (de_callD D_heights_hold (hr.mono (by first | decide | omega | (simp only [Nat.add_eq]; omega))) rfl (takes_of rfl rfl rfl rfl) (da_cons (de_var 3) (da_cons (de_var 11) (da_cons (de_var 10) da_nil)))) (da_cons (de_callD D__law_are_heights (hr.mono (by first | decide | omega | (simp only [Nat.add_eq]; omega))) rfl (takes_of rfl rfl rfl rfl) (da_cons (de_var 1) (da_cons (de_var 11) (da_cons (de_var 10) da_nil)))) da_nil))))) (dss_one (ds_ret de_bl)) dss_nil))))) (dss_one (ds_ret de_bl)))))))))))))))
end
end LK
set_option Elab.async false
set_option linter.all false
set_option maxRecDepth 100000
namespace LK
open PySem PySem.Spec L2 DL
/-- a loop that leaves the store as it is -/
theorem loop_inv {sv : SrcV} {t : Tg} {u : Fs} {S : Store} (ds : List D) (hn : ∀ i, sv.nxt i S = some ds[i]?) (Pv : Nat → Sl → Prop)
    (step : ∀ (i : Nat) (d : D) (ρ : Sl), ds[i]? = some d → Pv i ρ → ∃ ρ1 ρ2, t d ρ = some ρ1 ∧ u ρ1 S = .nx ρ2 S ∧ Pv (i + 1) ρ2) :
    ∀ (m i : Nat) (ρ : Sl), i + m = ds.length → Pv i ρ → ∃ ρ', loopS sv t u m i ρ S = .nx ρ' S ∧ Pv ds.length ρ'
  | 0, i, ρ, h, p => by
    have e : i = ds.length := by omega
    subst e
    refine ⟨ρ, ?_, p⟩
    unfold loopS
    rw [hn, List.getElem?_eq_none (Nat.le_refl _)]
  | m + 1, i, ρ, h, p => by
    have hi : i < ds.length := by omega
    obtain ⟨ρ1, ρ2, e1, e2, p2⟩ := step i ds[i] ρ (List.getElem?_eq_getElem hi) p
    obtain ⟨ρ', e3, p3⟩ := loop_inv ds hn Pv step m (i + 1) ρ2 (by omega) p2
    refine ⟨ρ', ?_, p3⟩
    unfold loopS
    rw [hn, List.getElem?_eq_getElem hi]
    simp only [e1, e2]
    exact e3
theorem stp {u v : Fs} {ρ ρ' : Sl} {S S' : Store} (h : u ρ S = .nx ρ' S') : sSeq u v ρ S = v ρ' S' := by
  unfold sSeq; rw [h]; rfl
end LK
set_option Elab.async false
set_option linter.all false
set_option maxRecDepth 100000
namespace LK
open PySem PySem.Spec L2 DL
/-- a comprehension that leaves the store as it is: f tells of each item what is put, or that nothing is -/
theorem loopC_inv {sv : SrcV} {t : Tg} {tb : Fb} {el : Fe} {S : Store} (ds : List D) (hn : ∀ i, sv.nxt i S = some ds[i]?) (hz : ds.length < sizeLine) (f : D → Option PyData) {ρ : Sl}
    (step : ∀ (d : D), d ∈ ds → ∃ ρ1 b, t d ρ = some ρ1 ∧ tb ρ1 S = .ok b S ∧ (b = false → f d = none) ∧ (b = true → ∃ x, el ρ1 S = .ok (.p x) S ∧ f d = some x)) :
    ∀ (m i : Nat) (acc : List PyData), i + m = ds.length → acc.length ≤ i → loopC sv t tb el m i ρ (acc.map D.p) S = .ok ((acc ++ (ds.drop i).filterMap f).map D.p) S
  | 0, i, acc, h, ha => by
    have e : i = ds.length := by omega
    subst e
    unfold loopC
    rw [hn, List.getElem?_eq_none (Nat.le_refl _)]
    simp
  | m + 1, i, acc, h, ha => by
    have hi : i < ds.length := by omega
    obtain ⟨ρ1, b, e1, e2, hf, ht⟩ := step ds[i] (List.getElem_mem hi)
    unfold loopC
    rw [hn, List.getElem?_eq_getElem hi]
    simp only [e1, e2, bindN]
    have hd : ds.drop i = ds[i] :: ds.drop (i + 1) := List.drop_eq_getElem_cons hi
    cases b with
    | false =>
      rw [if_neg Bool.false_ne_true, loopC_inv ds hn hz f step m (i + 1) acc (by omega) (by omega), hd, List.filterMap_cons, hf rfl]
    | true =>
      obtain ⟨x, ex, fx⟩ := ht rfl
      rw [if_pos rfl]
      simp only [ex, bindN]
      rw [if_pos (by rw [List.length_map]; omega)]
      have ea : acc.map D.p ++ [D.p x] = (acc ++ [x]).map D.p := by simp
      rw [ea, loopC_inv ds hn hz f step m (i + 1) (acc ++ [x]) (by omega) (by rw [List.length_append]; simp; omega), hd, List.filterMap_cons, fx]
      simp
theorem asPs_map : ∀ (es : List PyData), asPs (es.map D.p) = some es
  | [] => rfl
  | e :: es => by
    have := asPs_map es
    simp [asPs, this]
/-- .. the whole of it -/
theorem comp_inv {fsrc : Fsrc} {vs : List Nat} {t : Tg} {tb : Fb} {el : Fe} {ρ : Sl} {S : Store} {sv : SrcV} (hsrc : fsrc ρ S = .ok sv S) (ds : List D) (hc : sv.count S = ds.length) (hn : ∀ i, sv.nxt i S = some ds[i]?) (hz : ds.length < sizeLine) (f : D → Option PyData)
    (step : ∀ (d : D), d ∈ ds → ∃ ρ1 b, t d (wipeD ρ vs) = some ρ1 ∧ tb ρ1 S = .ok b S ∧ (b = false → f d = none) ∧ (b = true → ∃ x, el ρ1 S = .ok (.p x) S ∧ f d = some x)) :
    eLc fsrc vs t tb el ρ S = .ok (.p (.list (ds.filterMap f))) S := by
  have e := loopC_inv ds hn hz f step ds.length 0 [] (by omega) (by simp)
  unfold eLc
  simp only [M.bind, hsrc]
  rw [hc, show ([] : List D) = ([] : List PyData).map D.p from rfl, e]
  simp only [kAcc, List.nil_append, List.drop_zero, asPs_map]
  rfl
end LK
set_option Elab.async false
set_option linter.all false
set_option maxRecDepth 100000
namespace LK
open PySem PySem.Spec L2 DL
/-- a loop over a tuple that changes the store, and may return -/
theorem loop_fold {α β : Type} {t : Tg} {u : Fs} (ps : List PyData) (f : α → PyData → α ⊕ β) (Rl : α → Sl → Store → Prop) (Fin : β → D → Store → Prop)
    (step : ∀ (p : PyData) (a : α) (ρ : Sl) (S : Store), p ∈ ps → Rl a ρ S → ∃ ρ1, t (.p p) ρ = some ρ1 ∧ match f a p with
      | .inl a' => ∃ ρ2 S2, u ρ1 S = .nx ρ2 S2 ∧ Rl a' ρ2 S2
      | .inr b => ∃ d S2, u ρ1 S = .rt d S2 ∧ Fin b d S2) :
    ∀ (m i : Nat) (a : α) (ρ : Sl) (S : Store), i + m = ps.length → Rl a ρ S → match walkF f a (ps.drop i) with
      | .inl a' => ∃ ρ' S', loopS (.seq (.p (.tuple ps))) t u m i ρ S = .nx ρ' S' ∧ Rl a' ρ' S'
      | .inr b => ∃ d S', loopS (.seq (.p (.tuple ps))) t u m i ρ S = .rt d S' ∧ Fin b d S'
  | 0, i, a, ρ, S, h, r => by
    have e : i = ps.length := by omega
    subst e
    rw [List.drop_eq_nil_of_le (Nat.le_refl _)]
    refine ⟨ρ, S, ?_, r⟩
    unfold loopS
    rw [show (SrcV.seq (.p (.tuple ps))).nxt ps.length S = some (ps.map D.p)[ps.length]? from rfl, List.getElem?_eq_none (by simp)]
  | m + 1, i, a, ρ, S, h, r => by
    have hi : i < ps.length := by omega
    have hd : ps.drop i = ps[i] :: ps.drop (i + 1) := List.drop_eq_getElem_cons hi
    have hx : (SrcV.seq (.p (.tuple ps))).nxt i S = some (some (.p ps[i])) := by
      show some (ps.map D.p)[i]? = _
      rw [List.getElem?_map, List.getElem?_eq_getElem hi]
      rfl
    obtain ⟨ρ1, e1, st⟩ := step ps[i] a ρ S (List.getElem_mem hi) r
    rw [hd]
    unfold walkF loopS
    rw [hx]
    simp only [e1]
    cases hf : f a ps[i] with
    | inl a' =>
      rw [hf] at st
      obtain ⟨ρ2, S2, e2, r2⟩ := st
      simp only [e2]
      exact loop_fold ps f Rl Fin step m (i + 1) a' ρ2 S2 (by omega) r2
    | inr b =>
      rw [hf] at st
      obtain ⟨d, S2, e2, q⟩ := st
      simp only [e2]
      exact ⟨d, S2, rfl, q⟩
end LK
set_option Elab.async false
set_option linter.all false
set_option maxRecDepth 100000
namespace LK
open PySem PySem.Spec L2 DL
/-- a loop whose items are known, that changes the store, and may return -/
theorem loop_foldS {α β : Type} {sv : SrcV} {t : Tg} {u : Fs} (ps : List PyData) (hn : ∀ i S, sv.nxt i S = some ((ps.map D.p)[i]?)) (f : α → PyData → α ⊕ β) (Rl : List PyData → α → Sl → Store → Prop) (Fin : β → D → Store → Prop)
    (step : ∀ (p : PyData) (rest : List PyData) (a : α) (ρ : Sl) (S : Store), p ∈ ps → Rl (p :: rest) a ρ S → ∃ ρ1, t (.p p) ρ = some ρ1 ∧ match f a p with
      | .inl a' => ∃ ρ2 S2, u ρ1 S = .nx ρ2 S2 ∧ Rl rest a' ρ2 S2
      | .inr b => ∃ d S2, u ρ1 S = .rt d S2 ∧ Fin b d S2) :
    ∀ (m i : Nat) (a : α) (ρ : Sl) (S : Store), i + m = ps.length → Rl (ps.drop i) a ρ S → match walkF f a (ps.drop i) with
      | .inl a' => ∃ ρ' S', loopS sv t u m i ρ S = .nx ρ' S' ∧ Rl [] a' ρ' S'
      | .inr b => ∃ d S', loopS sv t u m i ρ S = .rt d S' ∧ Fin b d S'
  | 0, i, a, ρ, S, h, r => by
    have e : i = ps.length := by omega
    subst e
    rw [List.drop_eq_nil_of_le (Nat.le_refl _)] at r ⊢
    refine ⟨ρ, S, ?_, r⟩
    unfold loopS
    rw [hn, List.getElem?_eq_none (by simp)]
  | m + 1, i, a, ρ, S, h, r => by
    have hi : i < ps.length := by omega
    have hd : ps.drop i = ps[i] :: ps.drop (i + 1) := List.drop_eq_getElem_cons hi
    have hx : sv.nxt i S = some (some (.p ps[i])) := by
      rw [hn, List.getElem?_map, List.getElem?_eq_getElem hi]
      rfl
    obtain ⟨ρ1, e1, st⟩ := step ps[i] (ps.drop (i + 1)) a ρ S (List.getElem_mem hi) (hd ▸ r)
    rw [hd]
    unfold walkF loopS
    rw [hx]
    simp only [e1]
    cases hf : f a ps[i] with
    | inl a' =>
      rw [hf] at st
      obtain ⟨ρ2, S2, e2, r2⟩ := st
      simp only [e2]
      exact loop_foldS ps hn f Rl Fin step m (i + 1) a' ρ2 S2 (by omega) r2
    | inr b =>
      rw [hf] at st
      obtain ⟨d, S2, e2, q⟩ := st
      simp only [e2]
      exact ⟨d, S2, rfl, q⟩
/-- .. as a statement -/
theorem for_fold {α β : Type} {src : Fsrc} {sv : SrcV} {t : Tg} {u : Fs} (ps : List PyData) (f : α → PyData → α ⊕ β) (Rl : List PyData → α → Sl → Store → Prop) (Fin : β → D → Store → Prop) {a : α} {ρ : Sl} {S S1 : Store}
    (hs : src ρ S = .ok sv S1) (hc : sv.count S1 = ps.length) (hn : ∀ i S, sv.nxt i S = some ((ps.map D.p)[i]?)) (h0 : Rl ps a ρ S1)
    (step : ∀ (p : PyData) (rest : List PyData) (a : α) (ρ : Sl) (S : Store), p ∈ ps → Rl (p :: rest) a ρ S → ∃ ρ1, t (.p p) ρ = some ρ1 ∧ match f a p with
      | .inl a' => ∃ ρ2 S2, u ρ1 S = .nx ρ2 S2 ∧ Rl rest a' ρ2 S2
      | .inr b => ∃ d S2, u ρ1 S = .rt d S2 ∧ Fin b d S2) :
    match walkF f a ps with
      | .inl a' => ∃ ρ' S', sFor src t u ρ S = .nx ρ' S' ∧ Rl [] a' ρ' S'
      | .inr b => ∃ d S', sFor src t u ρ S = .rt d S' ∧ Fin b d S' := by
  have L := loop_foldS ps hn f Rl Fin step ps.length 0 a ρ S1 (by omega) (by rw [List.drop_zero]; exact h0)
  rw [List.drop_zero] at L
  have e : sFor src t u ρ S = loopS sv t u ps.length 0 ρ S1 := by
    unfold sFor bindS
    rw [hs]
    show loopS _ _ _ (sv.count S1) 0 _ _ = _
    rw [hc]
  rw [e]
  exact L
theorem seq_tup_nxt (ps : List PyData) (i : Nat) (S : Store) : (SrcV.seq (.p (.tuple ps))).nxt i S = some ((ps.map D.p)[i]?) := rfl
theorem seq_lst_nxt (ps : List PyData) (i : Nat) (S : Store) : (SrcV.seq (.p (.list ps))).nxt i S = some ((ps.map D.p)[i]?) := rfl
theorem seq_tup_count (ps : List PyData) (S : Store) : (SrcV.seq (.p (.tuple ps))).count S = ps.length := by
  show ((some (ps.map D.p)).map List.length).getD 0 = ps.length
  simp
theorem seq_lst_count (ps : List PyData) (S : Store) : (SrcV.seq (.p (.list ps))).count S = ps.length := by
  show ((some (ps.map D.p)).map List.length).getD 0 = ps.length
  simp
/-- the numbers of a range -/
def rngL (lo : Int) (n : Nat) : List PyData := (List.range n).map fun (i : Nat) => .int (lo + i)
theorem rngL_len {lo : Int} {n : Nat} : (rngL lo n).length = n := by simp [rngL]
theorem rng_nxt (lo : Int) (n i : Nat) (S : Store) : (SrcV.rng lo n).nxt i S = some (((rngL lo n).map D.p)[i]?) := by
  show some (if i < n then some (D.p (.int (lo + i))) else none) = _
  by_cases h : i < n
  · simp [rngL, h]
  · simp [rngL, h]
theorem stpr {u v : Fs} {ρ : Sl} {S S' : Store} {d : D} (h : u ρ S = .rt d S') : sSeq u v ρ S = .rt d S' := by
  unfold sSeq; rw [h]; rfl
theorem walk_const {α β γ : Type} (f : α → γ → α ⊕ β) : ∀ (xs ys : List γ) (a : α), xs.length = ys.length → (∀ a x y, f a x = f a y) → walkF f a xs = walkF f a ys
  | [], [], _, _, _ => rfl
  | [], _ :: _, _, h, _ => by simp at h
  | _ :: _, [], _, h, _ => by simp at h
  | x :: xs, y :: ys, a, h, hf => by
    have e := hf a x y
    cases q : f a y with
    | inl a' => rw [walkF_inl (e.trans q), walkF_inl q]; exact walk_const f xs ys a' (by simpa using h) hf
    | inr b => rw [walkF_inr (e.trans q), walkF_inr q]
end LK
set_option Elab.async false
set_option linter.all false
set_option maxRecDepth 100000
namespace LK
open PySem PySem.Spec L2 DL
/-- a comprehension that may change the store: J tells of what is left, what is put, the store -/
theorem loopC_gen {sv : SrcV} {t : Tg} {tb : Fb} {el : Fe} {ρ : Sl} (ps : List PyData) (hn : ∀ i S, sv.nxt i S = some ((ps.map D.p)[i]?)) (hz : ps.length < 16777216) (J : List PyData → List PyData → Store → Prop)
    (step : ∀ (d : PyData) (rest acc : List PyData) (S : Store), d ∈ ps → J (d :: rest) acc S → ∃ ρ1 b S1, t (.p d) ρ = some ρ1 ∧ tb ρ1 S = .ok b S1 ∧ (b = false → J rest acc S1) ∧ (b = true → ∃ x S2, el ρ1 S1 = .ok (.p x) S2 ∧ J rest (acc ++ [x]) S2)) :
    ∀ (m i : Nat) (acc : List PyData) (S : Store), i + m = ps.length → acc.length ≤ i → J (ps.drop i) acc S → ∃ qs S', loopC sv t tb el m i ρ (acc.map D.p) S = .ok (qs.map D.p) S' ∧ J [] qs S'
  | 0, i, acc, S, h, ha, hj => by
    have e : i = ps.length := by omega
    subst e
    rw [List.drop_eq_nil_of_le (Nat.le_refl _)] at hj
    refine ⟨acc, S, ?_, hj⟩
    unfold loopC
    rw [hn, List.getElem?_eq_none (by simp)]
  | m + 1, i, acc, S, h, ha, hj => by
    have hi : i < ps.length := by omega
    have hd : ps.drop i = ps[i] :: ps.drop (i + 1) := List.drop_eq_getElem_cons hi
    rw [hd] at hj
    obtain ⟨ρ1, b, S1, e1, e2, hf, ht⟩ := step ps[i] _ acc S (List.getElem_mem hi) hj
    have hx : sv.nxt i S = some (some (.p ps[i])) := by
      rw [hn, List.getElem?_map, List.getElem?_eq_getElem hi]
      rfl
    unfold loopC
    rw [hx]
    simp only [e1, e2, bindN]
    cases b with
    | false =>
      rw [if_neg Bool.false_ne_true]
      exact loopC_gen ps hn hz J step m (i + 1) acc S1 (by omega) (by omega) (hf rfl)
    | true =>
      obtain ⟨x, S2, ex, hj2⟩ := ht rfl
      rw [if_pos rfl]
      simp only [ex, bindN]
      rw [if_pos (by rw [List.length_map, sizeLine_eq]; omega)]
      have ea : acc.map D.p ++ [D.p x] = (acc ++ [x]).map D.p := by simp
      rw [ea]
      exact loopC_gen ps hn hz J step m (i + 1) (acc ++ [x]) S2 (by omega) (by rw [List.length_append]; simp; omega) hj2
theorem comp_gen {fsrc : Fsrc} {vs : List Nat} {t : Tg} {tb : Fb} {el : Fe} {ρ : Sl} {S S0 : Store} {sv : SrcV} (hsrc : fsrc ρ S = .ok sv S0) (ps : List PyData) (hc : sv.count S0 = ps.length) (hn : ∀ i S, sv.nxt i S = some ((ps.map D.p)[i]?)) (hz : ps.length < 16777216) (J : List PyData → List PyData → Store → Prop) (h0 : J ps [] S0)
    (step : ∀ (d : PyData) (rest acc : List PyData) (S : Store), d ∈ ps → J (d :: rest) acc S → ∃ ρ1 b S1, t (.p d) (wipeD ρ vs) = some ρ1 ∧ tb ρ1 S = .ok b S1 ∧ (b = false → J rest acc S1) ∧ (b = true → ∃ x S2, el ρ1 S1 = .ok (.p x) S2 ∧ J rest (acc ++ [x]) S2)) :
    ∃ qs S', eLc fsrc vs t tb el ρ S = .ok (.p (.list qs)) S' ∧ J [] qs S' := by
  obtain ⟨qs, S', e, hj⟩ := loopC_gen ps hn hz J step ps.length 0 [] S0 (by omega) (by simp) (by rw [List.drop_zero]; exact h0)
  refine ⟨qs, S', ?_, hj⟩
  unfold eLc
  simp only [M.bind, hsrc]
  rw [hc, show ([] : List D) = ([] : List PyData).map D.p from rfl, e]
  simp only [kAcc, asPs_map]
  rfl
/-- a store that keeps what it had, but for a box -/
structure Kp (i : Nat) (S S' : Store) : Prop where
  len : S.length ≤ S'.length
  same : ∀ a, a < S.length → a ≠ i → S'[a]? = S[a]?
  box : ∃ b0 b1 : Int, S'[i]? = some (.lst [.p (.int b0), .p (.int b1)])
def Bx (i : Nat) (S : Store) : Prop := ∃ b0 b1 : Int, S[i]? = some (.lst [.p (.int b0), .p (.int b1)])
theorem Kp.refl {i : Nat} {S : Store} (h : Bx i S) : Kp i S S := ⟨Nat.le_refl _, fun _ _ _ => rfl, h⟩
theorem Kp.trans {i : Nat} {S S' S'' : Store} (h : Kp i S S') (g : Kp i S' S'') : Kp i S S'' :=
  ⟨Nat.le_trans h.len g.len, fun a ha hi => (g.same a (Nat.lt_of_lt_of_le ha h.len) hi).trans (h.same a ha hi), g.box⟩
theorem Bx.lt {i : Nat} {S : Store} (h : Bx i S) : i < S.length := by
  obtain ⟨b0, b1, h⟩ := h
  exact (List.getElem?_eq_some_iff.mp h).1
theorem Kp.ext {i : Nat} {S : Store} (h : Bx i S) (T : Store) : Kp i S (S ++ T) := by
  have hl := h.lt
  obtain ⟨b0, b1, h⟩ := h
  exact ⟨by simp, fun a ha _ => by rw [List.getElem?_append_left ha], b0, b1, by rw [List.getElem?_append_left hl]; exact h⟩
theorem Kp.put {i : Nat} {S : Store} (h : Bx i S) (b0 b1 : Int) : Kp i S (S.set i (.lst [.p (.int b0), .p (.int b1)])) :=
  ⟨by simp, fun a _ hi => by rw [List.getElem?_set_ne hi.symm], b0, b1, List.getElem?_set_self h.lt⟩
theorem Kp.get {i q : Nat} {S S' : Store} {c : Cell} (h : Kp i S S') (hq : S[q]? = some c) (hi : q ≠ i) : S'[q]? = some c :=
  (h.same q (List.getElem?_eq_some_iff.mp hq).1 hi).trans hq
end LK
set_option Elab.async false
set_option linter.all false
set_option maxRecDepth 100000
namespace LK
open PySem PySem.Spec L2 DL
/-! steps of an evaluation -/
section
variable {X Y Z : Fe} {ρ : Sl} {S S1 S2 S3 : Store} {d e : D} {a b c : PyData} {i : Nat}
theorem sRet_of (h : X ρ S = .ok d S1) : sRet X ρ S = .rt d S1 := by unfold sRet bindS; rw [h]
theorem sSet_of (h : X ρ S = .ok d S1) : sSet i X ρ S = .nx (ρ.set i (some d)) S1 := by unfold sSet bindS; rw [h]
theorem sExpr_of (h : X ρ S = .ok d S1) : sExpr X ρ S = .nx ρ S1 := by unfold sExpr bindS; rw [h]
theorem stSet {v : Fs} (h : X ρ S = .ok d S1) : sSeq (sSet i X) v ρ S = v (ρ.set i (some d)) S1 := stp (sSet_of h)
theorem stExpr {v : Fs} (h : X ρ S = .ok d S1) : sSeq (sExpr X) v ρ S = v ρ S1 := stp (sExpr_of h)
theorem un_of {F : D → M D} (h : X ρ S = .ok d S1) : eUn F X ρ S = F d S1 := by unfold eUn M.bind; rw [h]
theorem bin_of {F : D → D → M D} (h : X ρ S = .ok d S1) (g : Y ρ S1 = .ok e S2) : eBin F X Y ρ S = F d e S2 := by unfold eBin M.bind; simp only [h, g]
theorem cb0 {F : List D → M D} : eCB F aNil ρ S = F [] S := rfl
theorem cb1 {F : List D → M D} (h : X ρ S = .ok d S1) : eCB F (aCons X aNil) ρ S = F [d] S1 := by simp [eCB, aCons, aNil, M.bind, M.pure, h]
theorem cb2 {F : List D → M D} (h : X ρ S = .ok d S1) (g : Y ρ S1 = .ok e S2) : eCB F (aCons X (aCons Y aNil)) ρ S = F [d, e] S2 := by simp [eCB, aCons, aNil, M.bind, M.pure, h, g]
theorem cb3 {F : List D → M D} {f : D} (h : X ρ S = .ok d S1) (g : Y ρ S1 = .ok e S2) (k : Z ρ S2 = .ok f S3) : eCB F (aCons X (aCons Y (aCons Z aNil))) ρ S = F [d, e, f] S3 := by simp [eCB, aCons, aNil, M.bind, M.pure, h, g, k]
theorem cb5 {F : List D → M D} {X1 X2 X3 X4 X5 : Fe} {d1 d2 d3 d4 d5 : D} {T1 T2 T3 T4 T5 : Store} (h1 : X1 ρ S = .ok d1 T1) (h2 : X2 ρ T1 = .ok d2 T2) (h3 : X3 ρ T2 = .ok d3 T3) (h4 : X4 ρ T3 = .ok d4 T4) (h5 : X5 ρ T4 = .ok d5 T5) : eCB F (aCons X1 (aCons X2 (aCons X3 (aCons X4 (aCons X5 aNil))))) ρ S = F [d1, d2, d3, d4, d5] T5 := by simp [eCB, aCons, aNil, M.bind, M.pure, h1, h2, h3, h4, h5]
theorem tup1 (h : X ρ S = .ok (.p a) S1) : eTup (aCons X aNil) ρ S = .ok (.p (.tuple [a])) S1 := by simp [eTup, aCons, aNil, M.bind, M.pure, h, kTup, asPs, sizeLine_eq]
theorem tup2 (h : X ρ S = .ok (.p a) S1) (g : Y ρ S1 = .ok (.p b) S2) : eTup (aCons X (aCons Y aNil)) ρ S = .ok (.p (.tuple [a, b])) S2 := by simp [eTup, aCons, aNil, M.bind, M.pure, h, g, kTup, asPs, sizeLine_eq]
theorem tup3 (h : X ρ S = .ok (.p a) S1) (g : Y ρ S1 = .ok (.p b) S2) (k : Z ρ S2 = .ok (.p c) S3) : eTup (aCons X (aCons Y (aCons Z aNil))) ρ S = .ok (.p (.tuple [a, b, c])) S3 := by simp [eTup, aCons, aNil, M.bind, M.pure, h, g, k, kTup, asPs, sizeLine_eq]
theorem eT_of {t : Bool} (h : X ρ S = .ok (.p (.bool t)) S1) : eT X ρ S = .ok t S1 := by simp [eT, M.bind, h, asB, M.pure]
theorem bNot_of {T : Fb} {t : Bool} (h : T ρ S = .ok t S1) : bNot T ρ S = .ok (!t) S1 := by simp [bNot, M.bind, h, M.pure]
theorem bAnd_f {T U : Fb} (h : T ρ S = .ok false S1) : bAnd T U ρ S = .ok false S1 := by simp [bAnd, M.bind, h, M.pure]
theorem bAnd_t {T U : Fb} (h : T ρ S = .ok true S1) : bAnd T U ρ S = U ρ S1 := by simp [bAnd, M.bind, h]
theorem bOr_t {T U : Fb} (h : T ρ S = .ok true S1) : bOr T U ρ S = .ok true S1 := by simp [bOr, M.bind, h, M.pure]
theorem bOr_f {T U : Fb} (h : T ρ S = .ok false S1) : bOr T U ρ S = U ρ S1 := by simp [bOr, M.bind, h]
theorem sIf_t {T : Fb} {u v : Fs} (h : T ρ S = .ok true S1) : sIf T u v ρ S = u ρ S1 := by unfold sIf bindS; rw [h]; rfl
theorem sIf_f {T : Fb} {u v : Fs} (h : T ρ S = .ok false S1) : sIf T u v ρ S = v ρ S1 := by unfold sIf bindS; rw [h]; rfl
/-- an if that only may leave -/
theorem stIf_f {T : Fb} {u v : Fs} (h : T ρ S = .ok false S1) : sSeq (sIf T u sNil) v ρ S = v ρ S1 := stp (by rw [sIf_f h]; rfl)
theorem eIf_t {T : Fb} (h : T ρ S = .ok true S1) : eIf T X Y ρ S = X ρ S1 := by simp [eIf, M.bind, h]
theorem eIf_f {T : Fb} (h : T ρ S = .ok false S1) : eIf T X Y ρ S = Y ρ S1 := by simp [eIf, M.bind, h]
theorem srcSeq_lst {ds : List PyData} (h : X ρ S = .ok (.p (.list ds)) S1) : srcSeq X ρ S = .ok (.seq (.p (.list ds))) S1 := by
  unfold srcSeq M.bind; rw [h]; rfl
theorem srcSeq_tup {ds : List PyData} (h : X ρ S = .ok (.p (.tuple ds)) S1) : srcSeq X ρ S = .ok (.seq (.p (.tuple ds))) S1 := by
  unfold srcSeq M.bind; rw [h]; rfl
theorem rng1_of {n : Nat} (h : X ρ S = .ok (.p (.int n)) S1) (hn : n < 2 ^ 60) : srcRng1 X ρ S = .ok (.rng 0 n) S1 := by
  have e : ofRng1 [.p (.int n)] S1 = .ok (.rng 0 n) S1 := by
    simp [ofRng1]
    omega
  simp [srcRng1, aCons, aNil, M.bind, M.pure, h, e]
theorem finR_exc {F : List D → M D} {g : Fs} {n m : Nat} {ds : List D} {x : Exn} {ρ' : Sl} (hF : F = bodyF n m g) (hn : ds.length = n) (h : g (slots m ds) S = .exc x ρ' S1) : F ds S = .exc x S1 := by
  subst hF
  unfold bodyF
  rw [if_pos hn, h]; rfl
theorem finR_of {F : List D → M D} {g : Fs} {n m : Nat} {ds : List D} (hF : F = bodyF n m g) (hn : ds.length = n) (h : g (slots m ds) S = .rt d S1) : F ds S = .ok d S1 := by
  subst hF
  unfold bodyF
  rw [if_pos hn, h]; rfl
end
end LK
set_option Elab.async false
set_option linter.all false
set_option maxRecDepth 100000
namespace LK
open PySem PySem.Spec L2 DL
theorem walk_unit {γ : Type} : ∀ (ps : List γ), walkF (α := Unit) (β := Unit) (fun _ _ => .inl ()) () ps = .inl ()
  | [] => rfl
  | p :: ps => by rw [walkF_inl (a' := ()) rfl]; exact walk_unit ps
/-- a loop that only goes on: Inv tells of what is left, the slots, the store -/
theorem for_inv {src : Fsrc} {sv : SrcV} {t : Tg} {u : Fs} (ps : List PyData) (Inv : List PyData → Sl → Store → Prop) {ρ : Sl} {S S1 : Store}
    (hs : src ρ S = .ok sv S1) (hc : sv.count S1 = ps.length) (hn : ∀ i S, sv.nxt i S = some ((ps.map D.p)[i]?)) (h0 : Inv ps ρ S1)
    (step : ∀ (p : PyData) (rest : List PyData) (ρ : Sl) (S : Store), p ∈ ps → Inv (p :: rest) ρ S → ∃ ρ1 ρ2 S2, t (.p p) ρ = some ρ1 ∧ u ρ1 S = .nx ρ2 S2 ∧ Inv rest ρ2 S2) :
    ∃ ρ' S', sFor src t u ρ S = .nx ρ' S' ∧ Inv [] ρ' S' := by
  have L := for_fold (α := Unit) (β := Unit) (t := t) (u := u) ps (fun _ _ => .inl ()) (fun rest _ ρ S => Inv rest ρ S) (fun _ _ _ => False) (a := ()) hs hc hn h0
    (fun p rest a ρ S hp hI => by
      obtain ⟨ρ1, ρ2, S2, e1, e2, h2⟩ := step p rest ρ S hp hI
      exact ⟨ρ1, e1, ρ2, S2, e2, h2⟩)
  rw [walk_unit] at L
  exact L
theorem sum_ints (l : List Int) (S : Store) : fSum (.p (.list (l.map PyData.int))) S = .ok (.p (.int l.sum)) S := by
  have e : ∀ l : List Int, asInts ((l.map PyData.int).map D.p) = some l := fun l => by
    induction l with
    | nil => rfl
    | cons b l ih => rw [List.map_cons, List.map_cons, asInts, ih]; rfl
  show ofO S ((items S (.p (.list (l.map PyData.int)))).bind _) = _
  show ofO S ((some ((l.map PyData.int).map D.p)).bind _) = _
  simp only [Option.bind_some, e l]
  rfl
end LK
set_option Elab.async false
set_option linter.all false
set_option maxRecDepth 100000
set_option maxHeartbeats 400000
namespace LK
open PySem PySem.Spec L2 DL
/-! what is walked gives these items -/
structure Its (sv : SrcV) (ps : List PyData) : Prop where
  nx : ∀ i S, sv.nxt i S = some ((ps.map D.p)[i]?)
  ct : ∀ S, sv.count S = ps.length
theorem its_tup (ps : List PyData) : Its (.seq (.p (.tuple ps))) ps := ⟨seq_tup_nxt ps, seq_tup_count ps⟩
theorem its_lst (ps : List PyData) : Its (.seq (.p (.list ps))) ps := ⟨seq_lst_nxt ps, seq_lst_count ps⟩
theorem its_rng (lo : Int) (n : Nat) : Its (.rng lo n) (rngL lo n) := ⟨rng_nxt lo n, fun S => rngL_len.symm⟩
section
variable {sv : SrcV} {t : Tg} {tb : Fb} {el : Fe} {ρ : Sl} {S : Store} {ps : List PyData} {c : PyData → Bool} {f : PyData → PyData}
theorem loopC_acc (I : Its sv ps)
    (step : ∀ p, p ∈ ps → ∃ ρ1, t (.p p) ρ = some ρ1 ∧ tb ρ1 S = .ok (c p) S ∧ (c p = true → el ρ1 S = .ok (.p (f p)) S)) :
    ∀ (m i : Nat) (acc : List PyData), i + m = ps.length → acc.length + (((ps.drop i).filter c).map f).length ≤ 16777216 → loopC sv t tb el m i ρ (acc.map D.p) S = .ok ((acc ++ ((ps.drop i).filter c).map f).map D.p) S
  | 0, i, acc, h, ha => by
    have e : i = ps.length := by omega
    subst e
    unfold loopC
    rw [I.nx, List.getElem?_eq_none (by simp)]
    simp
  | m + 1, i, acc, h, ha => by
    have hi : i < ps.length := by omega
    obtain ⟨ρ1, e1, e2, ht⟩ := step ps[i] (List.getElem_mem hi)
    have hx : (ps.map D.p)[i]? = some (.p ps[i]) := by
      rw [List.getElem?_map, List.getElem?_eq_getElem hi]; rfl
    have hd : ps.drop i = ps[i] :: ps.drop (i + 1) := List.drop_eq_getElem_cons hi
    unfold loopC
    rw [I.nx, hx]
    simp only [e1, e2, bindN]
    rw [hd] at ha ⊢
    cases b : c ps[i] with
    | false =>
      rw [if_neg Bool.false_ne_true]
      rw [List.filter_cons_of_neg (by rw [b]; exact Bool.false_ne_true)] at ha ⊢
      exact loopC_acc I step m (i + 1) acc (by omega) ha
    | true =>
      rw [List.filter_cons_of_pos b] at ha ⊢
      rw [List.map_cons, List.length_cons] at ha
      rw [if_pos rfl]
      simp only [ht b, bindN]
      rw [if_pos (by rw [List.length_map, sizeLine_eq]; omega)]
      have ea : acc.map D.p ++ [D.p (f ps[i])] = (acc ++ [f ps[i]]).map D.p := by simp
      rw [ea, loopC_acc I step m (i + 1) _ (by omega) (by rw [List.length_append]; simp only [List.length_cons, List.length_nil]; omega)]
      simp
/-- a comprehension that leaves the store as it is -/
theorem comp_map {fsrc : Fsrc} {vs : List Nat} (hsrc : fsrc ρ S = .ok sv S) (I : Its sv ps) (hz : ps.length ≤ 16777216)
    (step : ∀ p, p ∈ ps → ∃ ρ1, t (.p p) (wipeD ρ vs) = some ρ1 ∧ tb ρ1 S = .ok (c p) S ∧ (c p = true → el ρ1 S = .ok (.p (f p)) S)) :
    eLc fsrc vs t tb el ρ S = .ok (.p (.list ((ps.filter c).map f))) S := by
  have hl : ((ps.filter c).map f).length ≤ ps.length := by rw [List.length_map]; exact List.length_filter_le _ _
  have e := loopC_acc I step ps.length 0 [] (by omega) (by rw [List.drop_zero]; simp only [List.length_nil]; omega)
  unfold eLc
  simp only [M.bind, hsrc]
  rw [I.ct, show ([] : List D) = ([] : List PyData).map D.p from rfl, e]
  simp only [kAcc, List.nil_append, List.drop_zero, asPs_map]
  rfl
/-- .. without a test -/
theorem comp_all {fsrc : Fsrc} {vs : List Nat} (hsrc : fsrc ρ S = .ok sv S) (I : Its sv ps) (hz : ps.length ≤ 16777216)
    (step : ∀ p, p ∈ ps → ∃ ρ1, t (.p p) (wipeD ρ vs) = some ρ1 ∧ el ρ1 S = .ok (.p (f p)) S) :
    eLc fsrc vs t (fun _ => M.pure true) el ρ S = .ok (.p (.list (ps.map f))) S := by
  have e := comp_map (c := fun _ => true) (tb := fun _ => M.pure true) (el := el) hsrc I hz (fun p hp => let ⟨ρ1, h1, h2⟩ := step p hp; ⟨ρ1, h1, rfl, fun _ => h2⟩)
  rw [e, List.filter_eq_self.mpr (fun _ _ => rfl)]
end
section
variable {sv : SrcV} {sv1 : PyData → SrcV} {t t1 : Tg} {tb tb1 : Fb} {el : Fe} {ρ : Sl} {S : Store} {ps : List PyData} {fsrc1 : Fsrc} {vs1 : List Nat} {qs : PyData → List PyData} {c : PyData → PyData → Bool} {f : PyData → PyData → PyData}
theorem loopCC_map (I : Its sv ps)
    (step : ∀ p, p ∈ ps → ∃ ρ1, t (.p p) ρ = some ρ1 ∧ tb ρ1 S = .ok true S ∧ fsrc1 ρ1 S = .ok (sv1 p) S ∧ Its (sv1 p) (qs p) ∧
      ∀ q, q ∈ qs p → ∃ ρ2, t1 (.p q) (wipeD ρ1 vs1) = some ρ2 ∧ tb1 ρ2 S = .ok (c p q) S ∧ (c p q = true → el ρ2 S = .ok (.p (f p q)) S)) :
    ∀ (m i : Nat) (acc : List PyData), i + m = ps.length → acc.length + ((ps.drop i).flatMap fun p => ((qs p).filter (c p)).map (f p)).length ≤ 16777216 →
      loopCC sv t tb fsrc1 vs1 t1 tb1 el m i ρ (acc.map D.p) S = .ok ((acc ++ (ps.drop i).flatMap fun p => ((qs p).filter (c p)).map (f p)).map D.p) S
  | 0, i, acc, h, ha => by
    have e : i = ps.length := by omega
    subst e
    unfold loopCC
    rw [I.nx, List.getElem?_eq_none (by simp)]
    simp
  | m + 1, i, acc, h, ha => by
    have hi : i < ps.length := by omega
    obtain ⟨ρ1, e1, e2, e3, I1, st⟩ := step ps[i] (List.getElem_mem hi)
    have hx : (ps.map D.p)[i]? = some (.p ps[i]) := by
      rw [List.getElem?_map, List.getElem?_eq_getElem hi]; rfl
    have hd : ps.drop i = ps[i] :: ps.drop (i + 1) := List.drop_eq_getElem_cons hi
    unfold loopCC
    rw [I.nx, hx]
    simp only [e1, e2, e3, bindN]
    rw [hd] at ha ⊢
    rw [List.flatMap_cons, List.length_append] at ha
    rw [if_pos trivial, I1.ct]
    have e4 := loopC_acc (S := S) I1 st (qs ps[i]).length 0 acc (by omega) (by rw [List.drop_zero]; omega)
    rw [e4, List.drop_zero]
    dsimp only
    rw [loopCC_map I step m (i + 1) _ (by omega) (by rw [List.length_append]; omega), List.flatMap_cons, List.append_assoc]
theorem comp2_map {fsrc : Fsrc} {vs : List Nat} (hsrc : fsrc ρ S = .ok sv S) (I : Its sv ps) (hz : (ps.flatMap fun p => ((qs p).filter (c p)).map (f p)).length ≤ 16777216)
    (step : ∀ p, p ∈ ps → ∃ ρ1, t (.p p) (wipeD ρ vs) = some ρ1 ∧ tb ρ1 S = .ok true S ∧ fsrc1 ρ1 S = .ok (sv1 p) S ∧ Its (sv1 p) (qs p) ∧
      ∀ q, q ∈ qs p → ∃ ρ2, t1 (.p q) (wipeD ρ1 vs1) = some ρ2 ∧ tb1 ρ2 S = .ok (c p q) S ∧ (c p q = true → el ρ2 S = .ok (.p (f p q)) S)) :
    eLc2 fsrc vs t tb fsrc1 vs1 t1 tb1 el ρ S = .ok (.p (.list (ps.flatMap fun p => ((qs p).filter (c p)).map (f p)))) S := by
  have e := loopCC_map I step ps.length 0 [] (by omega) (by rw [List.drop_zero]; simp only [List.length_nil]; omega)
  unfold eLc2
  simp only [M.bind, hsrc]
  rw [I.ct, show ([] : List D) = ([] : List PyData).map D.p from rfl, e]
  simp only [kAcc, List.nil_append, List.drop_zero, asPs_map]
  rfl
end
/-! loops over given items -/
theorem for_its {α β : Type} {src : Fsrc} {sv : SrcV} {t : Tg} {u : Fs} {ps : List PyData} (I : Its sv ps) (f : α → PyData → α ⊕ β) (Rl : List PyData → α → Sl → Store → Prop) (Fin : β → D → Store → Prop) {a : α} {ρ : Sl} {S S1 : Store}
    (hs : src ρ S = .ok sv S1) (h0 : Rl ps a ρ S1)
    (step : ∀ (p : PyData) (rest : List PyData) (a : α) (ρ : Sl) (S : Store), p ∈ ps → Rl (p :: rest) a ρ S → ∃ ρ1, t (.p p) ρ = some ρ1 ∧ match f a p with
      | .inl a' => ∃ ρ2 S2, u ρ1 S = .nx ρ2 S2 ∧ Rl rest a' ρ2 S2
      | .inr b => ∃ d S2, u ρ1 S = .rt d S2 ∧ Fin b d S2) :
    match walkF f a ps with
      | .inl a' => ∃ ρ' S', sFor src t u ρ S = .nx ρ' S' ∧ Rl [] a' ρ' S'
      | .inr b => ∃ d S', sFor src t u ρ S = .rt d S' ∧ Fin b d S' := for_fold ps f Rl Fin hs (I.ct _) I.nx h0 step
/-- .. that only goes on -/
theorem for_on {src : Fsrc} {sv : SrcV} {t : Tg} {u : Fs} {ps : List PyData} (I : Its sv ps) (Inv : List PyData → Sl → Store → Prop) {ρ : Sl} {S S1 : Store}
    (hs : src ρ S = .ok sv S1) (h0 : Inv ps ρ S1)
    (step : ∀ (p : PyData) (rest : List PyData) (ρ : Sl) (S : Store), p ∈ ps → Inv (p :: rest) ρ S → ∃ ρ1 ρ2 S2, t (.p p) ρ = some ρ1 ∧ u ρ1 S = .nx ρ2 S2 ∧ Inv rest ρ2 S2) :
    ∃ ρ' S', sFor src t u ρ S = .nx ρ' S' ∧ Inv [] ρ' S' := for_inv ps Inv hs (I.ct _) I.nx h0 step
theorem rng2_of {X Y : Fe} {ρ : Sl} {S S1 S2 : Store} {a b : Int} (h : X ρ S = .ok (.p (.int a)) S1) (g : Y ρ S1 = .ok (.p (.int b)) S2) (ha : -(2 ^ 60) < a ∧ a < 2 ^ 60) (hb : -(2 ^ 60) < b ∧ b < 2 ^ 60) : srcRng2 X Y ρ S = .ok (.rng a (b - a).toNat) S2 := by
  have e : ofRng2 [.p (.int a), .p (.int b)] S2 = .ok (.rng a (b - a).toNat) S2 := by
    simp [ofRng2]
    omega
  simp [srcRng2, aCons, aNil, M.bind, M.pure, h, g, e]
theorem lst0 {ρ : Sl} {S : Store} : eLst aNil ρ S = .ok (.p (.list [])) S := rfl
theorem addL {xs ys : List PyData} (S : Store) (h : xs.length + ys.length ≤ 16777216) : fAdd (.p (.list xs)) (.p (.list ys)) S = .ok (.p (.list (xs ++ ys))) S := by
  simp only [fAdd]
  rw [if_pos (by rw [sizeLine_eq]; exact h)]
theorem tupleL (xs : List PyData) (S : Store) : fTuple (.p (.list xs)) S = .ok (.p (.tuple xs)) S := by
  show ofO S ((some (xs.map D.p)).bind _) = _
  simp only [Option.bind_some, asPs_map]
  rfl
theorem max_ints {l : List Int} {m : Int} (h : maxI l = some m) (S : Store) : fMaxL (.p (.list (l.map PyData.int))) S = .ok (.p (.int m)) S := by
  have e : ∀ l : List Int, asInts ((l.map PyData.int).map D.p) = some l := fun l => by
    induction l with
    | nil => rfl
    | cons b l ih => rw [List.map_cons, List.map_cons, asInts, ih]; rfl
  show ofO S ((some ((l.map PyData.int).map D.p)).bind _) = _
  simp only [Option.bind_some, e l, h]
  rfl
end LK
set_option Elab.async false
set_option linter.all false
set_option maxRecDepth 100000
set_option maxHeartbeats 400000
namespace LK
open PySem PySem.Spec L2 DL
/-! the same with items of a kind: g tells what an item is as data -/
section
variable {α : Type} {sv : SrcV} {t : Tg} {tb : Fb} {el : Fe} {ρ : Sl} {S : Store} {xs : List α} {g : α → PyData} {c : α → Bool} {f : α → PyData}
theorem loopC_accT (I : Its sv (xs.map g))
    (step : ∀ x, x ∈ xs → ∃ ρ1, t (.p (g x)) ρ = some ρ1 ∧ tb ρ1 S = .ok (c x) S ∧ (c x = true → el ρ1 S = .ok (.p (f x)) S)) :
    ∀ (m i : Nat) (acc : List PyData), i + m = xs.length → acc.length + (((xs.drop i).filter c).map f).length ≤ 16777216 → loopC sv t tb el m i ρ (acc.map D.p) S = .ok ((acc ++ ((xs.drop i).filter c).map f).map D.p) S
  | 0, i, acc, h, ha => by
    have e : i = xs.length := by omega
    subst e
    unfold loopC
    rw [I.nx, List.getElem?_eq_none (by simp)]
    simp
  | m + 1, i, acc, h, ha => by
    have hi : i < xs.length := by omega
    obtain ⟨ρ1, e1, e2, ht⟩ := step xs[i] (List.getElem_mem hi)
    have hx : ((xs.map g).map D.p)[i]? = some (.p (g xs[i])) := by
      rw [List.getElem?_map, List.getElem?_map, List.getElem?_eq_getElem hi]; rfl
    have hd : xs.drop i = xs[i] :: xs.drop (i + 1) := List.drop_eq_getElem_cons hi
    unfold loopC
    rw [I.nx, hx]
    simp only [e1, e2, bindN]
    rw [hd] at ha ⊢
    cases b : c xs[i] with
    | false =>
      rw [if_neg Bool.false_ne_true]
      rw [List.filter_cons_of_neg (by rw [b]; exact Bool.false_ne_true)] at ha ⊢
      exact loopC_accT I step m (i + 1) acc (by omega) ha
    | true =>
      rw [List.filter_cons_of_pos b] at ha ⊢
      rw [List.map_cons, List.length_cons] at ha
      rw [if_pos rfl]
      simp only [ht b, bindN]
      rw [if_pos (by rw [List.length_map, sizeLine_eq]; omega)]
      have ea : acc.map D.p ++ [D.p (f xs[i])] = (acc ++ [f xs[i]]).map D.p := by simp
      rw [ea, loopC_accT I step m (i + 1) _ (by omega) (by rw [List.length_append]; simp only [List.length_cons, List.length_nil]; omega)]
      simp
theorem comp_mapT {fsrc : Fsrc} {vs : List Nat} (hsrc : fsrc ρ S = .ok sv S) (I : Its sv (xs.map g)) (hz : xs.length ≤ 16777216)
    (step : ∀ x, x ∈ xs → ∃ ρ1, t (.p (g x)) (wipeD ρ vs) = some ρ1 ∧ tb ρ1 S = .ok (c x) S ∧ (c x = true → el ρ1 S = .ok (.p (f x)) S)) :
    eLc fsrc vs t tb el ρ S = .ok (.p (.list ((xs.filter c).map f))) S := by
  have hl : ((xs.filter c).map f).length ≤ xs.length := by rw [List.length_map]; exact List.length_filter_le _ _
  have e := loopC_accT I step xs.length 0 [] (by omega) (by rw [List.drop_zero]; simp only [List.length_nil]; omega)
  unfold eLc
  simp only [M.bind, hsrc]
  rw [I.ct, List.length_map, show ([] : List D) = ([] : List PyData).map D.p from rfl, e]
  simp only [kAcc, List.nil_append, List.drop_zero, asPs_map]
  rfl
theorem comp_allT {fsrc : Fsrc} {vs : List Nat} (hsrc : fsrc ρ S = .ok sv S) (I : Its sv (xs.map g)) (hz : xs.length ≤ 16777216)
    (step : ∀ x, x ∈ xs → ∃ ρ1, t (.p (g x)) (wipeD ρ vs) = some ρ1 ∧ el ρ1 S = .ok (.p (f x)) S) :
    eLc fsrc vs t (fun _ => M.pure true) el ρ S = .ok (.p (.list (xs.map f))) S := by
  have e := comp_mapT (c := fun _ => true) (tb := fun _ => M.pure true) (el := el) hsrc I hz (fun p hp => let ⟨ρ1, h1, h2⟩ := step p hp; ⟨ρ1, h1, rfl, fun _ => h2⟩)
  rw [e, List.filter_eq_self.mpr (fun _ _ => rfl)]
end
section
variable {α β : Type} {sv : SrcV} {sv1 : α → SrcV} {t t1 : Tg} {tb tb1 : Fb} {el : Fe} {ρ : Sl} {S : Store} {xs : List α} {g : α → PyData} {fsrc1 : Fsrc} {vs1 : List Nat} {ys : α → List β} {g1 : β → PyData} {c : α → β → Bool} {f : α → β → PyData}
theorem loopCC_mapT (I : Its sv (xs.map g))
    (step : ∀ x, x ∈ xs → ∃ ρ1, t (.p (g x)) ρ = some ρ1 ∧ tb ρ1 S = .ok true S ∧ fsrc1 ρ1 S = .ok (sv1 x) S ∧ Its (sv1 x) ((ys x).map g1) ∧
      ∀ y, y ∈ ys x → ∃ ρ2, t1 (.p (g1 y)) (wipeD ρ1 vs1) = some ρ2 ∧ tb1 ρ2 S = .ok (c x y) S ∧ (c x y = true → el ρ2 S = .ok (.p (f x y)) S)) :
    ∀ (m i : Nat) (acc : List PyData), i + m = xs.length → acc.length + ((xs.drop i).flatMap fun x => ((ys x).filter (c x)).map (f x)).length ≤ 16777216 →
      loopCC sv t tb fsrc1 vs1 t1 tb1 el m i ρ (acc.map D.p) S = .ok ((acc ++ (xs.drop i).flatMap fun x => ((ys x).filter (c x)).map (f x)).map D.p) S
  | 0, i, acc, h, ha => by
    have e : i = xs.length := by omega
    subst e
    unfold loopCC
    rw [I.nx, List.getElem?_eq_none (by simp)]
    simp
  | m + 1, i, acc, h, ha => by
    have hi : i < xs.length := by omega
    obtain ⟨ρ1, e1, e2, e3, I1, st⟩ := step xs[i] (List.getElem_mem hi)
    have hx : ((xs.map g).map D.p)[i]? = some (.p (g xs[i])) := by
      rw [List.getElem?_map, List.getElem?_map, List.getElem?_eq_getElem hi]; rfl
    have hd : xs.drop i = xs[i] :: xs.drop (i + 1) := List.drop_eq_getElem_cons hi
    unfold loopCC
    rw [I.nx, hx]
    simp only [e1, e2, e3, bindN]
    rw [hd] at ha ⊢
    rw [List.flatMap_cons, List.length_append] at ha
    rw [if_pos trivial, I1.ct, List.length_map]
    have e4 := loopC_accT (S := S) I1 st (ys xs[i]).length 0 acc (by omega) (by rw [List.drop_zero]; omega)
    rw [e4, List.drop_zero]
    dsimp only
    rw [loopCC_mapT I step m (i + 1) _ (by omega) (by rw [List.length_append]; omega), List.flatMap_cons, List.append_assoc]
theorem comp2_mapT {fsrc : Fsrc} {vs : List Nat} (hsrc : fsrc ρ S = .ok sv S) (I : Its sv (xs.map g)) (hz : (xs.flatMap fun x => ((ys x).filter (c x)).map (f x)).length ≤ 16777216)
    (step : ∀ x, x ∈ xs → ∃ ρ1, t (.p (g x)) (wipeD ρ vs) = some ρ1 ∧ tb ρ1 S = .ok true S ∧ fsrc1 ρ1 S = .ok (sv1 x) S ∧ Its (sv1 x) ((ys x).map g1) ∧
      ∀ y, y ∈ ys x → ∃ ρ2, t1 (.p (g1 y)) (wipeD ρ1 vs1) = some ρ2 ∧ tb1 ρ2 S = .ok (c x y) S ∧ (c x y = true → el ρ2 S = .ok (.p (f x y)) S)) :
    eLc2 fsrc vs t tb fsrc1 vs1 t1 tb1 el ρ S = .ok (.p (.list (xs.flatMap fun x => ((ys x).filter (c x)).map (f x)))) S := by
  have e := loopCC_mapT I step xs.length 0 [] (by omega) (by rw [List.drop_zero]; simp only [List.length_nil]; omega)
  unfold eLc2
  simp only [M.bind, hsrc]
  rw [I.ct, List.length_map, show ([] : List D) = ([] : List PyData).map D.p from rfl, e]
  simp only [kAcc, List.nil_append, List.drop_zero, asPs_map]
  rfl
end
section
variable {α : Type} {src : Fsrc} {sv : SrcV} {t : Tg} {u : Fs} {xs : List α} {g : α → PyData} {ρ : Sl} {S S1 : Store}
/-- a loop that only goes on: Inv tells of what is left -/
theorem for_onT (I : Its sv (xs.map g)) (Inv : List α → Sl → Store → Prop) (hs : src ρ S = .ok sv S1) (h0 : Inv xs ρ S1)
    (step : ∀ (x : α) (rest : List α) (ρ : Sl) (S : Store), x ∈ xs → Inv (x :: rest) ρ S → ∃ ρ1 ρ2 S2, t (.p (g x)) ρ = some ρ1 ∧ u ρ1 S = .nx ρ2 S2 ∧ Inv rest ρ2 S2) :
    ∃ ρ' S', sFor src t u ρ S = .nx ρ' S' ∧ Inv [] ρ' S' := by
  obtain ⟨ρ', S', e, post, h1, h2, h3⟩ := for_on (t := t) (u := u) I (fun rest ρ S => ∃ post, rest = post.map g ∧ post <:+ xs ∧ Inv post ρ S) hs ⟨xs, rfl, List.suffix_refl _, h0⟩
    (fun p rest ρ S hp ⟨post, h1, h2, h3⟩ => by
      obtain ⟨x, post', rfl, rfl, rfl⟩ := List.map_eq_cons_iff.mp h1.symm
      obtain ⟨ρ1, ρ2, S2, e1, e2, h4⟩ := step x post' ρ S (h2.subset (by simp)) h3
      exact ⟨ρ1, ρ2, S2, e1, e2, post', rfl, (List.suffix_cons _ _).trans h2, h4⟩)
  have : post = [] := List.map_eq_nil_iff.mp h1.symm
  subst this
  exact ⟨ρ', S', e, h3⟩
/-- a comprehension that changes the store: J tells of what is left, of what is gathered, of the store -/
theorem comp_genT {vs : List Nat} {tb : Fb} {el : Fe} (I : Its sv (xs.map g)) (hz : xs.length < 16777216) (J : List α → List PyData → Store → Prop) (hs : src ρ S = .ok sv S1) (h0 : J xs [] S1)
    (step : ∀ (x : α) (rest : List α) (acc : List PyData) (S : Store), x ∈ xs → J (x :: rest) acc S → ∃ ρ1 b S1, t (.p (g x)) (wipeD ρ vs) = some ρ1 ∧ tb ρ1 S = .ok b S1 ∧ (b = false → J rest acc S1) ∧ (b = true → ∃ y S2, el ρ1 S1 = .ok (.p y) S2 ∧ J rest (acc ++ [y]) S2)) :
    ∃ qs S', eLc src vs t tb el ρ S = .ok (.p (.list qs)) S' ∧ J [] qs S' := by
  obtain ⟨qs, S', e, post, h1, h2, h3⟩ := comp_gen (vs := vs) (t := t) (tb := tb) (el := el) hs (xs.map g) (I.ct _) I.nx (by rw [List.length_map]; exact hz) (fun rest acc S => ∃ post, rest = post.map g ∧ post <:+ xs ∧ J post acc S) ⟨xs, rfl, List.suffix_refl _, h0⟩
    (fun p rest acc S hp ⟨post, h1, h2, h3⟩ => by
      obtain ⟨x, post', rfl, rfl, rfl⟩ := List.map_eq_cons_iff.mp h1.symm
      obtain ⟨ρ1, b, S1, e1, e2, hf, ht⟩ := step x post' acc S (h2.subset (by simp)) h3
      refine ⟨ρ1, b, S1, e1, e2, fun q => ⟨post', rfl, (List.suffix_cons _ _).trans h2, hf q⟩, fun q => ?_⟩
      obtain ⟨y, S2, e3, h4⟩ := ht q
      exact ⟨y, S2, e3, post', rfl, (List.suffix_cons _ _).trans h2, h4⟩)
  have : post = [] := List.map_eq_nil_iff.mp h1.symm
  subst this
  exact ⟨qs, S', e, h3⟩
end
theorem stSetF {X : Fe} {v : Fs} {ρ : Sl} {S S1 : Store} {d : D} {i : Nat} {r : RS} (h : X ρ S = .ok d S1) (k : v (ρ.set i (some d)) S1 = r) : sSeq (sSet i X) v ρ S = r := (stSet h).trans k
end LK
set_option Elab.async false
set_option linter.all false
set_option maxRecDepth 100000
set_option maxHeartbeats 400000
namespace LK
open PySem PySem.Spec L2 DL
/-! lists of numbers that are changed, in the store -/
abbrev intsC (l : List Int) : List D := l.map fun i => D.p (.int i)
theorem vec_lst {T : Store} {j : Nat} {l : List D} (h : T[j]? = some (.lst l)) : lstAt T j = some l := by unfold lstAt; rw [h]; rfl
theorem vec_items {T : Store} {j : Nat} {l : List D} (h : T[j]? = some (.lst l)) : items T (.o j) = some l := by
  show T[j]?.bind Cell.seq? = _
  rw [h]; rfl
theorem ixN_of {n k : Nat} (h : k < n) : ixN n (k : Int) = some k := by
  unfold ixN
  simp [h]
theorem vec_ix {T : Store} {j k : Nat} {l : List Int} (h : T[j]? = some (.lst (intsC l))) (hk : k < l.length) : fIx (.o j) (.p (.int k)) T = .ok (.p (.int (l.getD k 0))) T := by
  show ofO T ((items T (.o j)).bind fun ds => atI ds k) = _
  rw [vec_items h]
  simp only [Option.bind_some, atI]
  rw [ixN_of (by rw [List.length_map]; exact hk)]
  simp [hk, ofO]
theorem vec_set {fo fi fv : Fe} {ρ : Sl} {S T : Store} {j k : Nat} {l : List Int} {x : Int} (hv : fv ρ S = .ok (.p (.int x)) T) (ho : fo ρ T = .ok (.o j) T) (hi : fi ρ T = .ok (.p (.int k)) T) (h : T[j]? = some (.lst (intsC l))) (hk : k < l.length) :
    sItem fo fi fv ρ S = .nx ρ (T.set j (.lst (intsC (l.set k x)))) := by
  unfold sItem bindS
  rw [hv]
  dsimp only
  rw [ho]
  dsimp only
  rw [hi]
  dsimp only [setAt]
  rw [vec_lst h]
  simp only [Option.bind_some]
  rw [ixN_of (by rw [List.length_map]; exact hk)]
  simp [nxO, List.map_set]
theorem asPs_ints (l : List Int) : asPs (intsC l) = some (l.map PyData.int) := by
  have := asPs_map (l.map PyData.int)
  rw [List.map_map] at this
  exact this
theorem vec_tuple {T : Store} {j : Nat} {l : List Int} (h : T[j]? = some (.lst (intsC l))) : fTuple (.o j) T = .ok (.p (.tuple (l.map PyData.int))) T := by
  show ofO T ((items T (.o j)).bind fun ds => (asPs ds).map fun es => D.p (.tuple es)) = _
  rw [vec_items h]
  simp only [Option.bind_some, asPs_ints]
  rfl
theorem vec_app {fo fv : Fe} {ρ : Sl} {S : Store} {j : Nat} {l : List Int} {x : Int} (ho : fo ρ S = .ok (.o j) S) (hv : fv ρ S = .ok (.p (.int x)) S) (h : S[j]? = some (.lst (intsC l))) (hz : l.length < 16777216) :
    eApp fo fv ρ S = .ok (.p .none) (S.set j (.lst (intsC (l ++ [x])))) := by
  have hl := vec_lst h
  unfold eApp M.bind
  rw [ho]
  simp only [kIsL, hl, hv, kApp, Option.isSome_some, if_true, ofO]
  rw [if_pos (by rw [List.length_map, sizeLine_eq]; exact hz)]
  simp
theorem zeros_of {X Y : Fe} {ρ : Sl} {S : Store} {n : Nat} (h : X ρ S = .ok (.p (.list [.int 0])) S) (g : Y ρ S = .ok (.p (.int n)) S) (hn : n ≤ 1000) : eBin fRepC X Y ρ S = .ok (.o S.length) (S ++ [.lst (intsC (List.replicate n 0))]) := by
  refine (bin_of h g).trans ?_
  have c : CRep 1 (n : Int) := by
    unfold CRep
    rw [sizeLine_eq]
    omega
  have e : (List.replicate n [PyData.int 0]).flatten.map D.p = intsC (List.replicate n 0) := by
    clear g hn c
    induction n with
    | zero => rfl
    | succ n ih =>
      rw [List.replicate_succ, List.flatten_cons, List.map_append, ih, List.replicate_succ]
      rfl
  simp only [fRepC, List.length_cons, List.length_nil, Int.toNat_natCast, e]
  rw [if_pos c]
/-! sums of what is left -/
def sumD (A : List Int) (g : Nat) : Int := (A.drop g).sum
theorem sumD_step {A : List Int} {g : Nat} (h : g < A.length) : sumD A g = A.getD g 0 + sumD A (g + 1) := by
  unfold sumD
  rw [List.drop_eq_getElem_cons h, List.sum_cons]
  simp [h]
theorem sum_setD : ∀ (A : List Int) (g f : Nat) (x : Int), g ≤ f → f < A.length → sumD (A.set f (A.getD f 0 + x)) g = sumD A g + x
  | [], _, _, _, _, h => by simp at h
  | a :: A, 0, 0, x, _, _ => by simp [sumD]; omega
  | a :: A, 0, f + 1, x, _, h => by
    have ih := sum_setD A 0 f x (by omega) (by simpa using h)
    simp only [sumD, List.drop_zero, List.set_cons_succ, List.sum_cons, List.getD_cons_succ] at ih ⊢
    omega
  | a :: A, g + 1, 0, x, h, _ => by omega
  | a :: A, g + 1, f + 1, x, h1, h => by
    have ih := sum_setD A g f x (by omega) (by simpa using h)
    simpa [sumD] using ih
theorem sum_nonneg : ∀ (A : List Int), (∀ x ∈ A, 0 ≤ x) → 0 ≤ A.sum
  | [], _ => by simp
  | a :: A, h => by
    have := sum_nonneg A (fun x hx => h x (by simp [hx]))
    have := h a (by simp)
    simp
    omega
theorem sumD_le {A : List Int} (h : ∀ x ∈ A, 0 ≤ x) : ∀ {g f : Nat}, g ≤ f → f < A.length → A.getD f 0 ≤ sumD A g := by
  intro g f hg hf
  have h1 : 0 ≤ sumD A (f + 1) := sum_nonneg _ fun x hx => h x (List.mem_of_mem_drop hx)
  have h2 := sumD_step hf
  have h3 : ∀ (d g : Nat), g + d = f → sumD A f ≤ sumD A g := by
    intro d
    induction d with
    | zero => intro g e; rw [show g = f by omega]; omega
    | succ d ih =>
      intro g e
      have := ih (g + 1) (by omega)
      have s := sumD_step (A := A) (g := g) (by omega)
      have : 0 ≤ A.getD g 0 := by
        rw [List.getD_eq_getElem?_getD, List.getElem?_eq_getElem (by omega)]
        exact h _ (List.getElem_mem _)
      omega
  have := h3 (f - g) g (by omega)
  omega
end LK
set_option Elab.async false
set_option linter.all false
set_option maxRecDepth 100000
set_option maxHeartbeats 1000000
namespace LK
open PySem PySem.Spec L2 DL
theorem ixN2 (S : Store) (i : Nat) (b0 b1 : Int) (h : S[i]? = some (.lst [.p (.int b0), .p (.int b1)])) : lstAt S i = some [.p (.int b0), .p (.int b1)] := by
  unfold lstAt; rw [h]; rfl
theorem items2 (S : Store) (i : Nat) (b0 b1 : Int) (h : S[i]? = some (.lst [.p (.int b0), .p (.int b1)])) : items S (.o i) = some [.p (.int b0), .p (.int b1)] := by
  show S[i]?.bind Cell.seq? = _; rw [h]; rfl
theorem at2_0 {a b : D} : atI [a, b] 0 = some a := rfl
theorem at2_1 {a b : D} : atI [a, b] 1 = some b := rfl
theorem items_pl {S : Store} {es : List PyData} : items S (.p (.list es)) = some (es.map D.p) := rfl
theorem ix2_0 : ixN 2 0 = some 0 := rfl
theorem ix2_1 : ixN 2 1 = some 1 := rfl
theorem take_ok (S : Store) (i : Nat) (b0 b1 m : Int) (h : S[i]? = some (.lst [.p (.int b0), .p (.int b1)])) (hm : 0 < m) (hl : m.natAbs.log2 < 9000) :
    ∃ got b0' b1', F__law_take [.o i, .p (.int m)] S = .ok (.p (.int got)) (S.set i (.lst [.p (.int b0'), .p (.int b1')])) ∧ 0 ≤ got ∧ got < m := by
  have hi := items2 S i b0 b1 h
  have hl' := ixN2 S i b0 b1 h
  by_cases hb : 0 < b0
  · refine ⟨b0 % m, b0 / m, b1, ?_, Int.emod_nonneg _ (by omega), Int.emod_lt_of_pos _ hm⟩
    unfold F__law_take bodyF g__law_take
    simp [sSeq, thenS, sIf, eT, asB, eBin, eVar, eC, M.bind, M.pure, M.bad, fIx, fI, fI0, fGt, fLt, fGe, fLe, fMod, fDivW, fDiv, fMul, fSub, fPow, fAdd, bindS, slots, finR, sRet, sSet, sItem, eCB, on1, aCons, aNil, fInt, fAbs, fLen, ofO, setAt, CDivW, CDiv, CMul, CPow, nxO, at2_0, at2_1, ix2_0, ix2_1, sNil, eCell, kCell, eLst, eTup, kLst, kTup, asPs, sizeLine_eq, items_pl, hi, hb, hm, hl', hl]
  · have hlen : i < S.length := (List.getElem?_eq_some_iff.mp h).1
    refine ⟨((b1 * 39373 + 69621) % 2147483647 / 8191) % m, b0, (b1 * 39373 + 69621) % 2147483647, ?_, Int.emod_nonneg _ (by omega), Int.emod_lt_of_pos _ hm⟩
    unfold F__law_take bodyF g__law_take
    have hi2 : items (S.set i (.lst [.p (.int b0), .p (.int ((b1 * 39373 + 69621) % 2147483647))])) (.o i) = some [.p (.int b0), .p (.int ((b1 * 39373 + 69621) % 2147483647))] := items2 _ i _ _ (by rw [List.getElem?_set_self hlen])
    simp [sSeq, thenS, sIf, eT, asB, eBin, eVar, eC, M.bind, M.pure, M.bad, fIx, fI, fI0, fGt, fLt, fGe, fLe, fMod, fDivW, fDiv, fMul, fSub, fPow, fAdd, bindS, slots, finR, sRet, sSet, sItem, eCB, on1, aCons, aNil, fInt, fAbs, fLen, ofO, setAt, CDivW, CDiv, CMul, CPow, nxO, at2_0, at2_1, ix2_0, ix2_1, sNil, eCell, kCell, eLst, eTup, kLst, kTup, asPs, sizeLine_eq, items_pl, hi, hb, hm, hl', hl, hi2]
theorem ixN_nat {n k : Nat} (h : k < n) : ixN n (k : Int) = some k := by
  unfold ixN
  have : ¬ ((k : Int) < 0) := by omega
  simp [this]
  try omega
theorem atI_map {ns : List Int} {k : Nat} (h : k < ns.length) : atI (ns.map fun n => D.p (.int n)) (k : Int) = some (.p (.int (ns.getD k 0))) := by
  unfold atI
  rw [List.length_map, ixN_nat h]
  simp [h]
theorem len_s {S : Store} {ns : List Int} : fLen (.s ns) S = .ok (.p (.int ns.length)) S := by
  simp [fLen, items, ofO]
theorem ix_s {S : Store} {ns : List Int} {k : Nat} (h : k < ns.length) : fIx (.s ns) (.p (.int k)) S = .ok (.p (.int (ns.getD k 0))) S := by
  show ofO S ((items S (.s ns)).bind fun ds => atI ds k) = _
  show ofO S (atI (ns.map fun n => D.p (.int n)) k) = _
  rw [atI_map h]
  rfl
theorem box_end (S : Store) (c k : Int) (ρ0 : Option D) :
    ∃ b0 b1, thenS (.nx [ρ0, some (.p (.int k)), some (.p (.int c)), none] S) (sSeq (sSet 3 (eBin fIx (eLst (aCons (eC (.int 0)) (aCons (eVar 2) aNil))) (eCB (on1 fInt) (aCons (eBin fGe (eVar 2) (eBin fPow (eC (.int 10)) (eC (.int 18)))) aNil)))) (sRet (eCell (aCons (eVar 3) (aCons (eBin fAdd (eBin fMod (eCB (on1 fInt) (aCons (eBin fAdd (eBin fMul (eBin fMod (eCB (on1 fInt) (aCons (eVar 2) aNil)) (eC (.int 1000000007))) (eC (.int 48271))) (eBin fMul (eC (.int 613)) (eVar 1))) aNil)) (eC (.int 2147483647))) (eC (.int 1))) aNil))))) = .rt (.o S.length) (S ++ [.lst [.p (.int b0), .p (.int b1)]]) := by
  by_cases h : (10 : Int) ^ 18 ≤ c
  · refine ⟨c, (c % 1000000007 * 48271 + 613 * k) % 2147483647 + 1, ?_⟩
    have h' : (1000000000000000000 : Int) ≤ c := by simpa using h
    simp [sSeq, thenS, sIf, eT, asB, eBin, eVar, eC, M.bind, M.pure, M.bad, fIx, fI, fI0, fGt, fLt, fGe, fLe, fMod, fDivW, fDiv, fMul, fSub, fPow, fAdd, bindS, slots, finR, sRet, sSet, sItem, eCB, on1, aCons, aNil, fInt, fAbs, fLen, ofO, setAt, CDivW, CDiv, CMul, CPow, nxO, at2_0, at2_1, ix2_0, ix2_1, sNil, eCell, kCell, eLst, eTup, kLst, kTup, asPs, sizeLine_eq, items_pl, h']
  · refine ⟨0, (c % 1000000007 * 48271 + 613 * k) % 2147483647 + 1, ?_⟩
    have h' : ¬ (1000000000000000000 : Int) ≤ c := by simpa using h
    simp [sSeq, thenS, sIf, eT, asB, eBin, eVar, eC, M.bind, M.pure, M.bad, fIx, fI, fI0, fGt, fLt, fGe, fLe, fMod, fDivW, fDiv, fMul, fSub, fPow, fAdd, bindS, slots, finR, sRet, sSet, sItem, eCB, on1, aCons, aNil, fInt, fAbs, fLen, ofO, setAt, CDivW, CDiv, CMul, CPow, nxO, at2_0, at2_1, ix2_0, ix2_1, sNil, eCell, kCell, eLst, eTup, kLst, kTup, asPs, sizeLine_eq, items_pl, h']
/-- the box of a script -/
theorem box_ok (ns : List Int) (k : Nat) (S : Store) : ∃ b0 b1, F__law_box [.s ns, .p (.int k)] S = .ok (.o S.length) (S ++ [.lst [.p (.int b0), .p (.int b1)]]) := by
  have fin : ∀ (c : Int) (r0 : Option D) (x : RS), x = .nx [r0, some (.p (.int k)), some (.p (.int c)), none] S → ∃ b0 b1, finR (thenS x (sSeq (sSet 3 (eBin fIx (eLst (aCons (eC (.int 0)) (aCons (eVar 2) aNil))) (eCB (on1 fInt) (aCons (eBin fGe (eVar 2) (eBin fPow (eC (.int 10)) (eC (.int 18)))) aNil)))) (sRet (eCell (aCons (eVar 3) (aCons (eBin fAdd (eBin fMod (eCB (on1 fInt) (aCons (eBin fAdd (eBin fMul (eBin fMod (eCB (on1 fInt) (aCons (eVar 2) aNil)) (eC (.int 1000000007))) (eC (.int 48271))) (eBin fMul (eC (.int 613)) (eVar 1))) aNil)) (eC (.int 2147483647))) (eC (.int 1))) aNil)))))) = .ok (.o S.length) (S ++ [.lst [.p (.int b0), .p (.int b1)]]) := by
    intro c r0 x e
    obtain ⟨b0, b1, f⟩ := box_end S c k r0
    exact ⟨b0, b1, by rw [e, f]; rfl⟩
  have hl := @len_s S ns
  have start : ∃ c : Int, thenS (sSet 2 (eBin fAdd (eBin fMul (eC (.int 7919)) (eVar 1)) (eC (.int 101))) (slots 4 [.s ns, .p (.int k)]) S) (sIf (eT (eBin fLt (eVar 1) (eCB (on1 fLen) (aCons (eVar 0) aNil)))) (sSet 2 (eCB (on1 fAbs) (aCons (eBin fIx (eVar 0) (eVar 1)) aNil))) (sIf (eT (eBin fGt (eCB (on1 fLen) (aCons (eVar 0) aNil)) (eC (.int 0)))) (sSet 2 (eBin fAdd (eBin fMul (eBin fMod (eCB (on1 fInt) (aCons (eCB (on1 fAbs) (aCons (eBin fIx (eVar 0) (eBin fMod (eCB (on1 fInt) (aCons (eVar 1) aNil)) (eCB (on1 fLen) (aCons (eVar 0) aNil)))) aNil)) aNil)) (eC (.int 1000000007))) (eC (.int 31))) (eBin fMul (eC (.int 7919)) (eVar 1)))) sNil)) = .nx [some (.s ns), some (.p (.int k)), some (.p (.int c)), none] S := by
    by_cases h1 : k < ns.length
    · have hx := @ix_s S ns k h1
      refine ⟨if ns.getD k 0 < 0 then - ns.getD k 0 else ns.getD k 0, ?_⟩
      simp [sSet, eBin, eVar, eC, M.bind, M.pure, bindS, slots, fAdd, fMul, fI, CMul, thenS, sIf, eT, eCB, on1, aCons, aNil, hl, fLt, fI0, asB, h1, hx, fAbs]
    · by_cases h2 : 0 < ns.length
      · have hm : (k : Int) % (ns.length : Int) = ((k % ns.length : Nat) : Int) := by omega
        have hx : fIx (.s ns) (.p (.int ((k : Int) % (ns.length : Int)))) S = .ok (.p (.int (ns.getD (k % ns.length) 0))) S := by rw [hm]; exact @ix_s S ns (k % ns.length) (Nat.mod_lt _ h2)
        refine ⟨(if ns.getD (k % ns.length) 0 < 0 then - ns.getD (k % ns.length) 0 else ns.getD (k % ns.length) 0) % 1000000007 * 31 + 7919 * k, ?_⟩
        simp [sSet, eBin, eVar, eC, M.bind, M.pure, bindS, slots, fAdd, fMul, fI, CMul, thenS, sIf, eT, eCB, on1, aCons, aNil, hl, fLt, fGt, fI0, asB, h1, h2, fAbs, fMod, fInt, hx]
      · refine ⟨7919 * k + 101, ?_⟩
        simp [sSet, eBin, eVar, eC, M.bind, M.pure, bindS, slots, fAdd, fMul, fI, CMul, thenS, sIf, eT, eCB, on1, aCons, aNil, hl, fLt, fGt, fI0, asB, h1, h2, sNil]
  obtain ⟨c, e⟩ := start
  exact fin c _ _ e
end LK

set_option Elab.async false
set_option linter.all false
set_option maxRecDepth 100000
set_option maxHeartbeats 400000
namespace LK
open PySem PySem.Spec L2 DL
/-! what the program's small functions tell of data -/
def noDict : PyData → Bool
  | .dict _ => false
  | _ => true
def isPair : PyData → Bool
  | .tuple [_, _] => true
  | _ => false
def isTupD' : PyData → Bool
  | .tuple _ => true
  | _ => false
theorem is_integer_ok (d : PyData) (h : noDict d = true) (S : Store) : F_is_integer [.p d] S = .ok (.p (.bool (isInt d))) S := by
  cases d <;> first | rfl | cases h
theorem law_whole_ok (d : PyData) (h : noDict d = true) (S : Store) : F__law_whole [.p d] S = .ok (.p (.bool (isInt d))) S := by
  cases d <;> first | rfl | cases h
theorem is_integer_in_ok (d : PyData) (h : noDict d = true) (lo hi : Int) (S : Store) : F_is_integer_in [.p d, .p (.int lo), .p (.int hi)] S = .ok (.p (.bool (inRange lo hi d))) S := by
  have e := is_integer_ok d h S
  unfold F_is_integer_in bodyF g_is_integer_in
  cases d <;> first
    | (cases h; done)
    | (simp [sRet, eAnd, eCB, aCons, aNil, eVar, M.bind, M.pure, slots, e, isInt, asB, bindS, finR, inRange]; done)
    | skip
  rename_i i
  by_cases h1 : lo ≤ i
  · by_cases h2 : i ≤ hi
    · simp [sRet, eAnd, eCB, aCons, aNil, eVar, M.bind, M.pure, slots, e, isInt, asB, bindS, finR, inRange, eChain, fLe, fI0, onB, h1, h2]
    · simp [sRet, eAnd, eCB, aCons, aNil, eVar, M.bind, M.pure, slots, e, isInt, asB, bindS, finR, inRange, eChain, fLe, fI0, onB, h1, h2]
  · simp [sRet, eAnd, eCB, aCons, aNil, eVar, M.bind, M.pure, slots, e, isInt, asB, bindS, finR, inRange, eChain, fLe, fI0, onB, h1]
end LK

set_option Elab.async false
set_option linter.all false
set_option maxRecDepth 100000
set_option maxHeartbeats 400000
namespace LK
open PySem PySem.Spec L2 DL
def pairB : PyData → Bool
  | .tuple ds => ds.length == 2
  | _ => false
theorem eqInt (S : Store) (a b : Int) : fEq false (.p (.int a)) (.p (.int b)) S = .ok (.p (.bool (decide (a = b)))) S := by
  have h1 : SeqAt.shaped (.int a) = true := rfl
  have h2 : SeqAt.shaped (.int b) = true := rfl
  have e : (a == b) = decide (a = b) := by by_cases h : a = b <;> simp [h]
  simp [fEq, toPy, h1, h2, PyData.eqv, e]
theorem isi_tup (S : Store) (ds : List PyData) : fIsi "tuple" (.p (.tuple ds)) S = .ok (.p (.bool true)) S := by rfl
theorem len_tup (S : Store) (ds : List PyData) : fLen (.p (.tuple ds)) S = .ok (.p (.int ds.length)) S := by rfl
theorem is_pair_ok (d : PyData) (h : noDict d = true) (S : Store) : F_is_pair [.p d] S = .ok (.p (.bool (pairB d))) S := by
  cases d <;> first
    | (cases h; done)
    | rfl
    | skip
  rename_i ds
  have e1 := isi_tup S ds
  have e2 := len_tup S ds
  have e3 := eqInt S ds.length 2
  unfold F_is_pair bodyF g_is_pair
  simp [sRet, eAnd, eBin, eUn, eC, eCB, on1, aCons, aNil, eVar, M.bind, M.pure, slots, e1, e2, e3, asB, bindS, finR, pairB]
  by_cases h : ds.length = 2
  · simp [h]
  · have h' : ¬ ((ds.length : Int) = 2) := by omega
    simp [h, h']
def noDict2 : PyData → Bool
  | .dict _ => false
  | .tuple ds => ds.all noDict
  | _ => true
end LK

set_option Elab.async false
set_option linter.all false
set_option maxRecDepth 100000
set_option maxHeartbeats 400000
namespace LK
open PySem PySem.Spec L2 DL
/-! the law's trace of a value that is shaped as a run -/
mutual
def trF : Nat → PyData → Option (List PyData)
  | 0, _ => none
  | n + 1, .tuple [f, .tuple ps] => (trPs n ps).map fun l => PyData.tuple [.str "in", f] :: (l ++ [.tuple [.str "out", f]])
  | _ + 1, _ => none
def trPs : Nat → List PyData → Option (List PyData)
  | _, [] => some []
  | n, p :: ps => (match p with
      | .tuple ds => trF n (.tuple ds)
      | .dict _ => none
      | q => some [q]).bind fun a => (trPs n ps).map fun l => a ++ l
end
def trP (n : Nat) (p : PyData) : Option (List PyData) := match p with
  | .tuple ds => trF n (.tuple ds)
  | .dict _ => none
  | q => some [q]
theorem trPs_at {n : Nat} : ∀ {ps : List PyData} {l : List PyData}, trPs n ps = some l → ∃ ls : List (List PyData), ls.length = ps.length ∧ ls.flatten = l ∧ ∀ (i : Nat) (p : PyData), ps[i]? = some p → ∃ a, ls[i]? = some a ∧ trP n p = some a
  | [], l, h => ⟨[], rfl, by simpa [trPs] using h, fun i p e => by simp at e⟩
  | p :: ps, l, h => by
    unfold trPs at h
    obtain ⟨a, h1, h2⟩ := Option.bind_eq_some_iff.mp h
    obtain ⟨m, h3, rfl⟩ := Option.map_eq_some_iff.mp h2
    obtain ⟨ls, e1, e2, e3⟩ := trPs_at h3
    refine ⟨a :: ls, by simp [e1], by simp [e2], fun i q hq => ?_⟩
    cases i with
    | zero =>
      cases hq
      exact ⟨a, rfl, h1⟩
    | succ i => simpa using e3 i q (by simpa using hq)
theorem flat_take {α : Type} : ∀ (ls : List (List α)) (i : Nat) (a : List α), ls[i]? = some a → (ls.take (i + 1)).flatten = (ls.take i).flatten ++ a
  | [], i, a, h => by simp at h
  | l :: ls, 0, a, h => by cases h; simp
  | l :: ls, i + 1, a, h => by
    have := flat_take ls i a (by simpa using h)
    simp [this]
theorem flat_le {α : Type} (ls : List (List α)) (i : Nat) : (ls.take i).flatten.length ≤ ls.flatten.length := by
  have : ls.flatten = (ls.take i).flatten ++ (ls.drop i).flatten := by rw [← List.flatten_append, List.take_append_drop]
  rw [this, List.length_append]
  omega
theorem notTup (S : Store) (p : PyData) (h : isTupD' p = false) (h2 : noDict p = true) : fIsi "tuple" (.p p) S = .ok (.p (.bool false)) S := by
  cases p <;> first | (cases h; done) | (cases h2; done) | rfl
end LK

set_option Elab.async false
set_option linter.all false
set_option maxRecDepth 100000
set_option maxHeartbeats 400000
namespace LK
open PySem PySem.Spec L2 DL
/-! what the law's asking tells -/
end LK

set_option Elab.async false
set_option linter.all false
set_option maxRecDepth 100000
set_option maxHeartbeats 400000
namespace LK
open PySem PySem.Spec L2 DL
/-! whether events are few enough -/
def isEv : PyData → Bool
  | .int _ => true
  | .tuple [.str s, _] => PyData.strOk s
  | _ => false
theorem strEq (S : Store) (a : Str) (h : PyData.strOk a = true) : fEq false (.p (.str a)) (.p (.str "in")) S = .ok (.p (.bool (a == "in"))) S := by
  have h1 : SeqAt.shaped (.str a) = true := by simp [SeqAt.shaped, PyData.canLay0, PyData.depth, h]
  have h2 : SeqAt.shaped (.str "in") = true := by decide +kernel
  simp [fEq, toPy, h1, h2, PyData.eqv]
theorem ev_noDict {e : PyData} (h : isEv e = true) : noDict e = true := by
  cases e <;> first | rfl | cases h
theorem ints_comp (x : D) (S : Store) (es : List PyData) (hx : seqItems S x = some (es.map D.p)) (hz : es.length < 16777216) (hev : ∀ e ∈ es, isEv e = true) (a1 a2 a3 a4 : Option D) :
    eLc (srcSeq (eVar 0)) [4] (tName 4) (eT (eCB F_is_integer (aCons (eVar 4) aNil))) (eVar 4) [some x, a1, a2, a3, a4] S = .ok (.p (.list (es.filter isInt))) S := by
  have hsrc : srcSeq (eVar 0) [some x, a1, a2, a3, a4] S = .ok (.seq x) S := by
    simp [srcSeq, eVar, M.bind, ofSeq, hx]
  have h := comp_inv (vs := [4]) (t := tName 4) (tb := eT (eCB F_is_integer (aCons (eVar 4) aNil))) (el := eVar 4) hsrc (es.map D.p) (by show ((seqItems S x).map List.length).getD 0 = _; rw [hx]; rfl) (fun i => by show (seqItems S x).map (fun ds => ds[i]?) = _; rw [hx]; rfl) (by rw [List.length_map, sizeLine_eq]; exact hz)
    (fun d => match d with | .p e => if isInt e = true then some e else none | _ => none) (fun d hd => by
      obtain ⟨e, he, rfl⟩ := List.mem_map.mp hd
      have hi := is_integer_ok e (ev_noDict (hev e he)) S
      refine ⟨[some x, a1, a2, a3, some (.p e)], isInt e, rfl, ?_, fun hb => by simp [hb], fun hb => ⟨e, rfl, by simp [hb]⟩⟩
      simp [eT, eCB, aCons, aNil, eVar, M.bind, M.pure, hi, asB])
  rw [h]
  congr 3
  clear h hsrc hx hz hev
  induction es with
  | nil => rfl
  | cons e es ih =>
    rw [List.map_cons, List.filterMap_cons, List.filter_cons, ih]
    cases h : isInt e <;> simp [h]
theorem isIn_ev {e : PyData} (h : isEv e = true) : (∃ i, e = .int i) ∨ ∃ s k, e = .tuple [.str s, k] ∧ PyData.strOk s = true := by
  unfold isEv at h
  split at h
  · exact .inl ⟨_, rfl⟩
  · exact .inr ⟨_, _, rfl, h⟩
  · cases h
theorem ins_comp (x : D) (S : Store) (es : List PyData) (hx : seqItems S x = some (es.map D.p)) (hz : es.length < 16777216) (hev : ∀ e ∈ es, isEv e = true) (a1 a2 a3 a4 : Option D) :
    eLc (srcSeq (eVar 0)) [4] (tName 4) (bAnd (bNot (eT (eCB F_is_integer (aCons (eVar 4) aNil)))) (eT (eBin (fEq false) (eBin fIx (eVar 4) (eC (.int 0))) (eC (.str "in"))))) (eVar 4) [some x, a1, a2, a3, a4] S = .ok (.p (.list (es.filter isIn))) S := by
  have hsrc : srcSeq (eVar 0) [some x, a1, a2, a3, a4] S = .ok (.seq x) S := by
    simp [srcSeq, eVar, M.bind, ofSeq, hx]
  have h := comp_inv (vs := [4]) (t := tName 4) (tb := bAnd (bNot (eT (eCB F_is_integer (aCons (eVar 4) aNil)))) (eT (eBin (fEq false) (eBin fIx (eVar 4) (eC (.int 0))) (eC (.str "in"))))) (el := eVar 4) hsrc (es.map D.p) (by show ((seqItems S x).map List.length).getD 0 = _; rw [hx]; rfl) (fun i => by show (seqItems S x).map (fun ds => ds[i]?) = _; rw [hx]; rfl) (by rw [List.length_map, sizeLine_eq]; exact hz)
    (fun d => match d with | .p e => if isIn e = true then some e else none | _ => none) (fun d hd => by
      obtain ⟨e, he, rfl⟩ := List.mem_map.mp hd
      have hi := is_integer_ok e (ev_noDict (hev e he)) S
      refine ⟨[some x, a1, a2, a3, some (.p e)], isIn e, rfl, ?_, fun hb => by simp [hb], fun hb => ⟨e, rfl, by simp [hb]⟩⟩
      rcases isIn_ev (hev e he) with ⟨i, rfl⟩ | ⟨s, k, rfl, hs⟩
      · have e1 : isInt (.int i) = true := rfl
        have e2 : isIn (.int i) = false := rfl
        rw [e1] at hi
        simp [bAnd, bNot, eT, eCB, aCons, aNil, eVar, M.bind, M.pure, hi, asB, e2]
      · have e1 : isInt (.tuple [.str s, k]) = false := rfl
        have e2 : isIn (.tuple [.str s, k]) = (s == "in") := rfl
        have e3 : fIx (.p (.tuple [.str s, k])) (.p (.int 0)) S = .ok (.p (.str s)) S := rfl
        have e4 := strEq S s hs
        rw [e1] at hi
        simp [bAnd, bNot, eT, eBin, eC, eCB, aCons, aNil, eVar, M.bind, M.pure, hi, asB, e2, e3, e4])
  rw [h]
  congr 3
  clear h hsrc hx hz hev
  induction es with
  | nil => rfl
  | cons e es ih =>
    rw [List.map_cons, List.filterMap_cons, List.filter_cons, ih]
    cases h : isIn e <;> simp [h]
theorem asInts_ok : ∀ (es : List PyData), asInts ((es.filter isInt).map D.p) = some (es.filterMap intOf)
  | [] => rfl
  | e :: es => by
    have ih := asInts_ok es
    cases e with
    | int i =>
      have h1 : (PyData.int i :: es).filter isInt = PyData.int i :: es.filter isInt := rfl
      have h2 : (PyData.int i :: es).filterMap intOf = i :: es.filterMap intOf := rfl
      rw [h1, h2, List.map_cons]
      simp [asInts, ih]
    | _ => exact ih
theorem sum_ok (es : List PyData) (S : Store) : fSum (.p (.list (es.filter isInt))) S = .ok (.p (.int (es.filterMap intOf).sum)) S := by
  have h := asInts_ok es
  simp [fSum, items, h, ofO]
  done
end LK

set_option Elab.async false
set_option linter.all false
set_option maxRecDepth 100000
set_option maxHeartbeats 400000
namespace LK
open PySem PySem.Spec L2 DL
/-! edges -/
def edgeD (e : Int × Int) : PyData := .tuple [.int e.1, .int e.2]
theorem eqv_edge (e : Int × Int) (f g : Int) : PyData.eqv (edgeD e) (.tuple [.int f, .int g]) = decide (e = (f, g)) := by
  obtain ⟨a, b⟩ := e
  by_cases h1 : a = f
  · by_cases h2 : b = g
    · simp [edgeD, PyData.eqv, PyData.eqvAll, h1, h2]
    · simp [edgeD, PyData.eqv, PyData.eqvAll, h1, h2]
  · simp [edgeD, PyData.eqv, PyData.eqvAll, h1]
theorem edge_in (edges : List (Int × Int)) (f g : Int) : (edges.map edgeD).any (fun z => PyData.eqv z (.tuple [.int f, .int g])) = decide ((f, g) ∈ edges) := by
  induction edges with
  | nil => simp
  | cons e es ih =>
    rw [List.map_cons, List.any_cons, ih, eqv_edge]
    by_cases h1 : e = (f, g)
    · simp [h1]
    · by_cases h2 : (f, g) ∈ es
      · simp [h2]
      · have h3 : ¬ ((f, g) = e) := fun z => h1 z.symm
        simp [h1, h2, h3]
theorem shaped_edges (edges : List (Int × Int)) : SeqAt.shaped (.tuple (edges.map edgeD)) = true := by
  have h1 : PyData.canLayAll0 (edges.map edgeD) = true := by
    induction edges with
    | nil => rfl
    | cons e es ih => simp [PyData.canLayAll0, ih, edgeD, PyData.canLay0]
  have h2 : PyData.depthAll (edges.map edgeD) ≤ 2 := by
    induction edges with
    | nil => simp [PyData.depthAll]
    | cons e es ih =>
      rw [List.map_cons]
      have e1 : PyData.depth (edgeD e) ≤ 2 := by simp [edgeD, PyData.depth, PyData.depthAll]
      have e2 : PyData.depthAll (edgeD e :: es.map edgeD) = max (PyData.depth (edgeD e)) (PyData.depthAll (es.map edgeD)) := by
        simp [PyData.depthAll]
      rw [e2]
      have ih := ih (by have := h1; simp [PyData.canLayAll0] at this; exact this.2)
      omega
  simp [SeqAt.shaped, PyData.canLay0, PyData.depth, h1]
  omega
theorem notIn_edges (S : Store) (edges : List (Int × Int)) (f g : Int) : fIn true (.p (.tuple [.int f, .int g])) (.p (.tuple (edges.map edgeD))) S = .ok (.p (.bool (!decide ((f, g) ∈ edges)))) S := by
  have h1 : SeqAt.shaped (.tuple [.int f, .int g]) = true := rfl
  have h2 := shaped_edges edges
  have h3 := edge_in edges f g
  simp only [fIn, toPy, seqPy, h1, h2, Bool.and_self, if_true, h3]
end LK

set_option Elab.async false
set_option linter.all false
set_option maxRecDepth 100000
set_option maxHeartbeats 400000
namespace LK
open PySem PySem.Spec L2 DL
/-! what the program adds of a run's events -/
/-- the store with the events in cell j -/
def evS (S0 : Store) (j : Nat) (evs : List PyData) : Store := S0.set j (.lst (evs.map D.p))
theorem evS_lst {S0 : Store} {j : Nat} {evs : List PyData} (h : j < S0.length) : lstAt (evS S0 j evs) j = some (evs.map D.p) := by
  unfold lstAt evS
  rw [List.getElem?_set_self h]
  rfl
theorem evS_set {S0 : Store} {j : Nat} {evs evs' : List PyData} : (evS S0 j evs).set j (.lst (evs'.map D.p)) = evS S0 j evs' := by
  unfold evS
  rw [List.set_set]
theorem app_ok {S0 : Store} {j : Nat} {evs : List PyData} (h : j < S0.length) (hz : evs.length < 16777216) (p : PyData) : kApp (.o j) (.p p) (evS S0 j evs) = .ok (.p .none) (evS S0 j (evs ++ [p])) := by
  unfold kApp
  simp only [evS_lst h, ofO]
  rw [if_pos (by rw [List.length_map, sizeLine_eq]; exact hz)]
  have e : evs.map D.p ++ [D.p p] = (evs ++ [p]).map D.p := by simp
  rw [e, evS_set]
theorem isL_ok {S0 : Store} {j : Nat} {evs : List PyData} (h : j < S0.length) : kIsL (.o j) (evS S0 j evs) = .ok (.o j) (evS S0 j evs) := by
  unfold kIsL
  simp [evS_lst h]
theorem len_ev {S0 : Store} {j : Nat} {evs : List PyData} (h : j < S0.length) : fLen (.o j) (evS S0 j evs) = .ok (.p (.int evs.length)) (evS S0 j evs) := by
  have e : items (evS S0 j evs) (.o j) = some (evs.map D.p) := by
    show (evS S0 j evs)[j]?.bind Cell.seq? = _
    unfold evS
    rw [List.getElem?_set_self h]
    rfl
  simp [fLen, e, ofO]
theorem edges_ev {S0 : Store} {j q : Nat} {evs : List PyData} {n : Int} {edges : List (Int × Int)} (hq : S0[q]? = some (.ins "Calls" [("functions", .p (.int n)), ("edges", .p (.tuple (edges.map edgeD)))])) (hj : q ≠ j) :
    fFld "Calls" "edges" (.o q) (evS S0 j evs) = .ok (.p (.tuple (edges.map edgeD))) (evS S0 j evs) := by
  have e : (evS S0 j evs)[q]? = some (.ins "Calls" [("functions", .p (.int n)), ("edges", .p (.tuple (edges.map edgeD)))]) := by
    unfold evS
    rw [List.getElem?_set_ne (fun z => hj z.symm)]
    exact hq
  show ofO (evS S0 j evs) ((insAt (evS S0 j evs) q).bind _) = _
  unfold insAt
  rw [e]
  rfl
end LK

set_option Elab.async false
set_option linter.all false
set_option maxRecDepth 100000
set_option maxHeartbeats 400000
namespace LK
open PySem PySem.Spec L2 DL
/-! the program's reading of a run -/
theorem addF_len {E : Es} : ∀ (n : Nat) (v : PyData) (evs : List PyData), evs.length ≤ 601 → (addF E n v evs).2.length ≤ 602 + n
  | 0, v, evs, h => by
    have : addF E 0 v evs = (false, evs) := by unfold addF; rfl
    rw [this]; show evs.length ≤ _; omega
  | n + 1, v, evs, h => by
    have w : ∀ (f : Int) (ps : List PyData) (es : List PyData), es.length ≤ 602 + n → match walkF (addStep E (addF E n) f) es ps with
        | .inl r => r.length ≤ 602 + n
        | .inr r => r.length ≤ 602 + n := by
      intro f ps
      induction ps with
      | nil => intro es he; exact he
      | cons p ps ih =>
        intro es he
        by_cases h1 : 601 < es.length
        · rw [walkF_inr (b := es) (by unfold addStep; rw [if_pos h1])]; exact he
        · by_cases h2 : inRange 1 999999 p = true
          · rw [walkF_inl (a' := es ++ [p]) (by unfold addStep; rw [if_neg h1, if_pos h2])]
            exact ih _ (by simp; omega)
          · by_cases h3 : runLike p = true ∧ (f, headInt p) ∈ E
            · have hl := addF_len (E := E) n p es (by omega)
              have e0 : addStep E (addF E n) f es p = match addF E n p es with
                | (true, evs') => .inl evs'
                | (false, evs') => .inr evs' := by unfold addStep; rw [if_neg h1, if_neg h2, if_pos h3] <;> rfl
              revert e0 hl
              generalize addF E n p es = r
              obtain ⟨b, r⟩ := r
              intro hl e0
              cases b with
              | true => rw [walkF_inl e0]; exact ih _ hl
              | false => rw [walkF_inr e0]; exact hl
            · rw [walkF_inr (b := es) (by unfold addStep; rw [if_neg h1, if_neg h2, if_neg h3])]; exact he
    by_cases hv : ∃ f ps, v = .tuple [.int f, .tuple ps]
    · obtain ⟨f, ps, rfl⟩ := hv
      have := w f ps (evs ++ [inE f]) (by simp; omega)
      rw [addF]
      revert this
      cases walkF (addStep E (addF E n) f) (evs ++ [inE f]) ps with
      | inl r => intro h; show (r ++ [outE f]).length ≤ _; simp; have h : r.length ≤ 602 + n := h; omega
      | inr r => intro h; show r.length ≤ _; have h : r.length ≤ 602 + n := h; omega
    · have e : addF E (n + 1) v evs = (false, evs) := by
        unfold addF
        split
        · exact absurd ⟨_, _, rfl⟩ hv
        · rfl
      rw [e]
      show evs.length ≤ _; omega
def lay (d : PyData) : Prop := d.canLay0 = true
theorem lay_all {ds : List PyData} (h : PyData.canLayAll0 ds = true) : ∀ d ∈ ds, lay d := by
  induction ds with
  | nil => intro d hd; cases hd
  | cons e es ih =>
    simp only [PyData.canLayAll0, Bool.and_eq_true] at h
    intro d hd
    rcases List.mem_cons.mp hd with rfl | hd
    · exact h.1
    · exact ih h.2 d hd
theorem lay_tup {ds : List PyData} (h : lay (.tuple ds)) : ∀ d ∈ ds, lay d := lay_all (by simpa [lay, PyData.canLay0] using h)
theorem lay_noDict {d : PyData} (h : lay d) : noDict d = true := by
  cases d <;> first | rfl | (simp [lay, PyData.canLay0] at h)
theorem lay_noDict2 {d : PyData} (h : lay d) : noDict2 d = true := by
  cases d with
  | tuple ds =>
    simp only [noDict2, List.all_eq_true]
    exact fun e he => lay_noDict (lay_tup h e he)
  | dict _ => simp [lay, PyData.canLay0] at h
  | _ => rfl
theorem evS_len {S0 : Store} {j : Nat} {evs : List PyData} : (evS S0 j evs).length = S0.length := by simp [evS]
section
variable {S0 : Store} {q j : Nat} {k : Int} {E : Es}
end
end LK

set_option Elab.async false
set_option linter.all false
set_option maxRecDepth 100000
set_option maxHeartbeats 400000
namespace LK
open PySem PySem.Spec L2 DL
/-- the events of a value that is a run -/
def trV : PyData → List PyData
  | .tuple [.int f, .tuple ps] => trE f ps
  | _ => []
theorem strOk_out : PyData.strOk "out" = true := by decide +kernel
theorem isEv_outE {g : Int} : isEv (outE g) = true := strOk_out
section
variable {q : Nat} {k : Int} {E : Es}
theorem get_app {S T : Store} {i : Nat} {c : Cell} (h : S[i]? = some c) : (S ++ T)[i]? = some c := by
  rw [List.getElem?_append_left (List.getElem?_eq_some_iff.mp h).1]; exact h
end
end LK

set_option Elab.async false
set_option linter.all false
set_option maxRecDepth 100000
set_option maxHeartbeats 400000
namespace LK
open PySem PySem.Spec L2 DL
/-! the law's look at a run -/
mutual
def nd : PyData → Nat
  | .tuple ds => ndL ds + 1
  | .list ds => ndL ds + 1
  | _ => 1
def ndL : List PyData → Nat
  | [] => 0
  | d :: ds => nd d + ndL ds
end
theorem nd_pos (d : PyData) : 1 ≤ nd d := by cases d <;> simp [nd]
theorem ndL_append (a b : List PyData) : ndL (a ++ b) = ndL a + ndL b := by
  induction a with
  | nil => simp [ndL]
  | cons x a ih => simp [ndL, ih]; omega
theorem len_ndL (a : List PyData) : a.length ≤ ndL a := by
  induction a with
  | nil => simp [ndL]
  | cons x a ih => have := nd_pos x; simp [ndL]; omega
abbrev shp (d : PyData) : Prop := SeqAt.shaped d = true
theorem shp_lay {d : PyData} (h : shp d) : lay d := SeqAt.canLay_of_shaped h
theorem depthAll_mem {ds : List PyData} {d : PyData} (h : d ∈ ds) : PyData.depth d ≤ PyData.depthAll ds := by
  induction ds with
  | nil => cases h
  | cons e es ih =>
    rw [PyData.depthAll]
    rcases List.mem_cons.mp h with rfl | h
    · omega
    · have := ih h; omega
theorem shp_tup {ds : List PyData} (h : shp (.tuple ds)) : ∀ d ∈ ds, shp d := fun d hd => by
  have h1 := lay_tup (shp_lay h) d hd
  have h2 := SeqAt.depth_of_shaped h
  have h3 := depthAll_mem hd
  rw [PyData.depth] at h2
  have h1 : d.canLay0 = true := h1
  simp only [shp, SeqAt.shaped, h1, Bool.true_and, decide_eq_true_eq]
  omega
theorem shp_int {i : Int} : shp (.int i) := rfl
theorem neInt (S : Store) (a b : Int) : fEq true (.p (.int a)) (.p (.int b)) S = .ok (.p (.bool (!decide (a = b)))) S := by
  have h1 : SeqAt.shaped (.int a) = true := rfl
  have h2 : SeqAt.shaped (.int b) = true := rfl
  have e : (a == b) = decide (a = b) := by by_cases h : a = b <;> simp [h]
  simp [fEq, toPy, h1, h2, PyData.eqv, e]
theorem eqTup0 (S : Store) (ds : List PyData) (h : shp (.tuple ds)) : fEq false (.p (.tuple ds)) (.p (.tuple [])) S = .ok (.p (.bool ds.isEmpty)) S := by
  have h2 : SeqAt.shaped (.tuple []) = true := rfl
  have e : PyData.eqv (.tuple ds) (.tuple []) = ds.isEmpty := by cases ds <;> simp [PyData.eqv, PyData.eqvAll]
  have h : SeqAt.shaped (.tuple ds) = true := h
  simp [fEq, toPy, h, h2, e]
theorem isi_tupD (S : Store) (d : PyData) (h : noDict d = true) : fIsi "tuple" (.p d) S = .ok (.p (.bool (isTupD' d))) S := by
  cases d <;> first | (cases h; done) | rfl
theorem ix_cons0 (h : PyData) (tl : List PyData) (S : Store) : fIx (.p (.tuple (h :: tl))) (.p (.int 0)) S = .ok (.p h) S := by
  simp [fIx, atI, ixN, ofO]
/-- a list's cell of tasks -/
def tdD (x : PyData × Int) : PyData := .tuple [x.1, .int x.2]
def tdC (todo : Td) : Cell := .lst ((todo.map tdD).map D.p)
section
variable {E : Es} {cs : PyData} {v : PyData}
def isRunF (E : Es) (s : Td × Int × Int × Int) (_ : PyData) : (Td × Int × Int × Int) ⊕ Bool :=
  if s.1 = [] then .inr (decide (s.2.2.1 ≤ 999999) && decide (s.2.2.2 ≤ 400)) else
    if 200 < s.2.1 + 1 then .inr false else
    match popF s.1 with
    | none => .inr false
    | some (w, qs) => match walkF (scanF E w) (s.1.dropLast, s.2.2.1) qs with
      | .inl (todo', t') => .inl (todo', s.2.1 + 1, t', s.2.2.2 + qs.length)
      | .inr _ => .inr false
theorem isRunF_walk {E : Es} : ∀ (xs : List PyData) (todo : Td) (num t p : Int), (match walkF (isRunF E) (todo, num, t, p) xs with
    | .inl _ => false
    | .inr b => b) = isRunL E xs.length todo num t p
  | [], todo, num, t, p => rfl
  | x :: xs, todo, num, t, p => by
    show _ = isRunL E (xs.length + 1) todo num t p
    unfold isRunL
    by_cases h1 : todo = []
    · rw [walkF_inr (b := (decide (t ≤ 999999) && decide (p ≤ 400))) (by unfold isRunF; rw [if_pos h1]), if_pos h1]
    · rw [if_neg h1]
      by_cases h2 : 200 < num + 1
      · rw [walkF_inr (b := false) (by unfold isRunF; rw [if_neg h1, if_pos h2]), if_pos h2]
      · rw [if_neg h2]
        cases h3 : popF todo with
        | none => rw [walkF_inr (b := false) (by unfold isRunF; rw [if_neg h1, if_neg h2, h3])]
        | some r =>
          obtain ⟨w, qs⟩ := r
          dsimp only
          cases h4 : walkF (scanF E w) (todo.dropLast, t) qs with
          | inr u => rw [walkF_inr (b := false) (by unfold isRunF; rw [if_neg h1, if_neg h2, h3]; dsimp only; rw [h4])]
          | inl r =>
            obtain ⟨todo', t'⟩ := r
            rw [walkF_inl (a' := (todo', num + 1, t', p + qs.length)) (by unfold isRunF; rw [if_neg h1, if_neg h2, h3]; dsimp only; rw [h4])]
            exact isRunF_walk xs _ _ _ _
theorem tdC_at {S : Store} {j : Nat} {todo : Td} (h : j < S.length) : lstAt (S.set j (tdC todo)) j = some ((todo.map tdD).map D.p) := by
  unfold lstAt; rw [List.getElem?_set_self h]; rfl
theorem tdC_items {S : Store} {j : Nat} {todo : Td} (h : j < S.length) : items (S.set j (tdC todo)) (.o j) = some ((todo.map tdD).map D.p) := by
  show (S.set j (tdC todo))[j]?.bind Cell.seq? = _
  rw [List.getElem?_set_self h]; rfl
theorem td_app {S : Store} {j : Nat} {todo : Td} (h : j < S.length) (hz : todo.length < 16777216) (x : PyData × Int) :
    kApp (.o j) (.p (tdD x)) (S.set j (tdC todo)) = .ok (.p .none) (S.set j (tdC (todo ++ [x]))) := by
  unfold kApp
  simp only [tdC_at h, ofO]
  rw [if_pos (by simp [sizeLine_eq]; exact hz)]
  rw [List.set_set]
  congr 2
  simp [tdC]
theorem td_isL {S : Store} {j : Nat} {todo : Td} (h : j < S.length) : kIsL (.o j) (S.set j (tdC todo)) = .ok (.o j) (S.set j (tdC todo)) := by
  unfold kIsL
  simp [tdC_at h]
theorem td_pop {S : Store} {j : Nat} {i : Td} {x : PyData × Int} (h : j < S.length) : kPop (.o j) (S.set j (tdC (i ++ [x]))) = .ok (.p (tdD x)) (S.set j (tdC i)) := by
  unfold kPop
  simp only [tdC_at h]
  have e1 : (((i ++ [x]).map tdD).map D.p)[(((i ++ [x]).map tdD).map D.p).length - 1]? = some (.p (tdD x)) := by simp
  have e2 : (((i ++ [x]).map tdD).map D.p).dropLast = (i.map tdD).map D.p := by simp
  rw [e1, e2]
  simp only [List.set_set]
  rfl
theorem td_nil {S : Store} {j : Nat} {todo : Td} (h : j < S.length) : fEqNil (.o j) (.p (.list [])) (S.set j (tdC todo)) = .ok (.p (.bool todo.isEmpty)) (S.set j (tdC todo)) := by
  show ofO _ ((items _ _).map _) = _
  rw [tdC_items h]
  cases todo <;> rfl
def ndT (todo : Td) : Nat := ndL (todo.map (·.1))
theorem ndT_snoc {i : Td} {x : PyData × Int} : ndT (i ++ [x]) = ndT i + nd x.1 := by simp [ndT, ndL_append, ndL]
theorem len_ndT (todo : Td) : todo.length ≤ ndT todo := by
  have := len_ndL (todo.map (·.1)); simpa [ndT] using this
abbrev lpScan : Fs := sIf (eT (eUn (fIsi "tuple") (eVar 9))) (sSeq (sIf (bOr (eT (eBin (fEq false) (eVar 9) (eTup aNil))) (bOr (bNot (eT (eCB F__law_whole (aCons (eBin fIx (eVar 9) (eC (.int 0))) aNil)))) (eT (eBin (fIn true) (eTup (aCons (eVar 8) (aCons (eBin fIx (eVar 9) (eC (.int 0))) aNil))) (eBin fIx (eVar 0) (eC (.int 1))))))) (sRet (eC (.bool false))) sNil) (sExpr (eApp (eVar 2) (eTup (aCons (eVar 9) (aCons (eBin fIx (eVar 9) (eC (.int 0))) aNil)))))) (sIf (bOr (bNot (eT (eCB F__law_whole (aCons (eVar 9) aNil)))) (bOr (eT (eBin fLt (eVar 9) (eC (.int 1)))) (eT (eBin fGt (eVar 9) (eC (.int 999999)))))) (sRet (eC (.bool false))) (sSet 4 (eBin fAdd (eVar 4) (eVar 9))))
/-- one run's parts -/
theorem scan_store {k : Int} (S : Store) (j : Nat) (hj : j < S.length) (w num p : Int) (one : PyData) (ps : List PyData) (hps : ∀ d ∈ ps, shp d) (x6 : Option D) (todo : Td) (t : Int) (hN : ndT todo + ndL ps ≤ 16777215) (hto : ∀ x ∈ todo, shp x.1) (x9 : Option D) :
    match walkF (scanF E w) (todo, t) ps with
    | .inl (todo', t') => ∃ x9', sFor (srcSeq (eBin fIx (eVar 7) (eC (.int 1)))) (tName 9) lpScan
        [some (.p (.tuple [.int k, .tuple (E.map edgeD)])), some (.p v), some (.o j), some (.p (.int num)), some (.p (.int t)), some (.p (.int p)), x6, some (.p (.tuple [one, .tuple ps])), some (.p (.int w)), x9] (S.set j (tdC todo)) =
        .nx [some (.p (.tuple [.int k, .tuple (E.map edgeD)])), some (.p v), some (.o j), some (.p (.int num)), some (.p (.int t')), some (.p (.int p)), x6, some (.p (.tuple [one, .tuple ps])), some (.p (.int w)), x9'] (S.set j (tdC todo')) ∧ ndT todo' ≤ ndT todo + ndL ps ∧ ∀ x ∈ todo', shp x.1
    | .inr _ => ∃ S', sFor (srcSeq (eBin fIx (eVar 7) (eC (.int 1)))) (tName 9) lpScan
        [some (.p (.tuple [.int k, .tuple (E.map edgeD)])), some (.p v), some (.o j), some (.p (.int num)), some (.p (.int t)), some (.p (.int p)), x6, some (.p (.tuple [one, .tuple ps])), some (.p (.int w)), x9] (S.set j (tdC todo)) = .rt (.p (.bool false)) (S.set j (tdC S')) := by
  have hs : ∀ x4 T, srcSeq (eBin fIx (eVar 7) (eC (.int 1))) [some (.p (.tuple [.int k, .tuple (E.map edgeD)])), some (.p v), some (.o j), some (.p (.int num)), x4, some (.p (.int p)), x6, some (.p (.tuple [one, .tuple ps])), some (.p (.int w)), x9] T = .ok (.seq (.p (.tuple ps))) T := fun x4 T => by
    have ix1 : fIx (.p (.tuple [one, .tuple ps])) (.p (.int 1)) T = .ok (.p (.tuple ps)) T := rfl
    simp [srcSeq, eBin, eVar, eC, M.bind, ix1, ofSeq, seqItems]
  have L := for_fold (α := Td × Int) (β := Unit) (t := tName 9) (u := lpScan) ps (scanF E w)
    (fun rest s ρ T => (∃ x, ρ = [some (.p (.tuple [.int k, .tuple (E.map edgeD)])), some (.p v), some (.o j), some (.p (.int num)), some (.p (.int s.2)), some (.p (.int p)), x6, some (.p (.tuple [one, .tuple ps])), some (.p (.int w)), x]) ∧ T = S.set j (tdC s.1) ∧ ndT s.1 + ndL rest ≤ ndT todo + ndL ps ∧ ∀ x ∈ s.1, shp x.1)
    (fun _ d T => d = .p (.bool false) ∧ ∃ td, T = S.set j (tdC td)) (a := (todo, t)) (hs (some (.p (.int t))) (S.set j (tdC todo))) (seq_tup_count _ _) (seq_tup_nxt ps) ⟨⟨_, rfl⟩, rfl, Nat.le_refl _, hto⟩
    (fun q rest s ρ T hq ⟨⟨x, hx⟩, hT, hnd, hsh⟩ => by
      subst hx hT
      obtain ⟨td, tt⟩ := s
      dsimp only at hnd hsh ⊢
      refine ⟨[some (.p (.tuple [.int k, .tuple (E.map edgeD)])), some (.p v), some (.o j), some (.p (.int num)), some (.p (.int tt)), some (.p (.int p)), x6, some (.p (.tuple [one, .tuple ps])), some (.p (.int w)), some (.p q)], rfl, ?_⟩
      have hq := hps q hq
      have hqn := lay_noDict (shp_lay hq)
      have i1 := isi_tupD (S.set j (tdC td)) q hqn
      have hlen : td.length < 16777216 := by have := len_ndT td; omega
      have fin : ∀ (d : PyData), ndL (d :: rest) = nd d + ndL rest := fun d => by simp [ndL]
      rw [fin] at hnd
      cases q with
      | tuple ds =>
        have i1 : fIsi "tuple" (.p (.tuple ds)) (S.set j (tdC td)) = .ok (.p (.bool true)) (S.set j (tdC td)) := i1
        have i2 := eqTup0 (S.set j (tdC td)) ds hq
        cases ds with
        | nil =>
          refine ⟨.p (.bool false), S.set j (tdC td), ?_, rfl, td, rfl⟩
          have i2 : fEq false (.p (.tuple [])) (.p (.tuple [])) (S.set j (tdC td)) = .ok (.p (.bool true)) (S.set j (tdC td)) := i2
          simp [sSeq, thenS, sIf, sSet, sRet, sExpr, eT, asB, eIf, eAnd, eOr, eNot, eChain, onB, eBin, eUn, eVar, eC, eCB, on1, on2, aCons, aNil, eTup, eLst, eCell, kTup, kLst, kCell, asPs, bAnd, bOr, bNot, M.bind, M.pure, bindS, slots, finR, sizeLine_eq, i1, i2]
        | cons h tl =>
          have i2 : fEq false (.p (.tuple (h :: tl))) (.p (.tuple [])) (S.set j (tdC td)) = .ok (.p (.bool false)) (S.set j (tdC td)) := i2
          have i3 : fIx (.p (.tuple (h :: tl))) (.p (.int 0)) (S.set j (tdC td)) = .ok (.p h) (S.set j (tdC td)) := ix_cons0 _ _ _
          have hh := shp_tup hq h (by simp)
          have i4 := law_whole_ok h (lay_noDict (shp_lay hh)) (S.set j (tdC td))
          have i5 : fIx (.p (.tuple [.int k, .tuple (E.map edgeD)])) (.p (.int 1)) (S.set j (tdC td)) = .ok (.p (.tuple (E.map edgeD))) (S.set j (tdC td)) := rfl
          cases h with
          | int g =>
            have i4 : F__law_whole [.p (.int g)] (S.set j (tdC td)) = .ok (.p (.bool true)) (S.set j (tdC td)) := i4
            have i6 := notIn_edges (S.set j (tdC td)) E w g
            by_cases he : (w, g) ∈ E
            · have e0 : scanF E w (td, tt) (.tuple (.int g :: tl)) = .inl (td ++ [(.tuple (.int g :: tl), g)], tt) := by
                show (if (w, g) ∈ E then _ else _) = _
                rw [if_pos he]
              rw [e0]
              have a1 := td_app (x := (.tuple (.int g :: tl), g)) hj hlen
              have a2 := td_isL (todo := td) hj
              refine ⟨[some (.p (.tuple [.int k, .tuple (E.map edgeD)])), some (.p v), some (.o j), some (.p (.int num)), some (.p (.int tt)), some (.p (.int p)), x6, some (.p (.tuple [one, .tuple ps])), some (.p (.int w)), some (.p (.tuple (.int g :: tl)))], _, ?_, ⟨_, rfl⟩, rfl, ?_, ?_⟩
              · unfold tdD at a1
                simp [sSeq, thenS, sIf, sSet, sRet, sExpr, eT, asB, eIf, eAnd, eOr, eNot, eChain, onB, eBin, eUn, eVar, eC, eCB, on1, on2, aCons, aNil, eTup, eLst, eCell, kTup, kLst, kCell, asPs, bAnd, bOr, bNot, M.bind, M.pure, bindS, slots, finR, sizeLine_eq, i1, i2, i3, i4, i5, i6, he, sNil, eApp, a1, a2]
              · show ndT (td ++ [_]) + _ ≤ _
                rw [ndT_snoc]; dsimp only; omega
              · intro x hx
                rcases List.mem_append.mp hx with hx | hx
                · exact hsh x hx
                · have : x = (.tuple (.int g :: tl), g) := by simpa using hx
                  rw [this]; exact hq
            · have e0 : scanF E w (td, tt) (.tuple (.int g :: tl)) = .inr () := by
                show (if (w, g) ∈ E then _ else _) = _
                rw [if_neg he]
              rw [e0]
              refine ⟨.p (.bool false), S.set j (tdC td), ?_, rfl, td, rfl⟩
              simp [sSeq, thenS, sIf, sSet, sRet, sExpr, eT, asB, eIf, eAnd, eOr, eNot, eChain, onB, eBin, eUn, eVar, eC, eCB, on1, on2, aCons, aNil, eTup, eLst, eCell, kTup, kLst, kCell, asPs, bAnd, bOr, bNot, M.bind, M.pure, bindS, slots, finR, sizeLine_eq, i1, i2, i3, i4, i5, i6, he]
          | _ =>
            refine ⟨.p (.bool false), S.set j (tdC td), ?_, rfl, td, rfl⟩
            first
              | (have i4 : F__law_whole [.p _] (S.set j (tdC td)) = .ok (.p (.bool false)) (S.set j (tdC td)) := i4
                 simp [sSeq, thenS, sIf, sSet, sRet, sExpr, eT, asB, eIf, eAnd, eOr, eNot, eChain, onB, eBin, eUn, eVar, eC, eCB, on1, on2, aCons, aNil, eTup, eLst, eCell, kTup, kLst, kCell, asPs, bAnd, bOr, bNot, M.bind, M.pure, bindS, slots, finR, sizeLine_eq, i1, i2, i3, i4, i5])
      | int i =>
        have i1 : fIsi "tuple" (.p (.int i)) (S.set j (tdC td)) = .ok (.p (.bool false)) (S.set j (tdC td)) := i1
        have i4 := law_whole_ok (.int i) rfl (S.set j (tdC td))
        have i4 : F__law_whole [.p (.int i)] (S.set j (tdC td)) = .ok (.p (.bool true)) (S.set j (tdC td)) := i4
        by_cases hi : 1 ≤ i ∧ i ≤ 999999
        · have e0 : scanF E w (td, tt) (.int i) = .inl (td, tt + i) := by
            show (if 1 ≤ i ∧ i ≤ 999999 then _ else _) = _
            rw [if_pos hi]
          rw [e0]
          have n1 : ¬ i < 1 := by omega
          have n2 : ¬ 999999 < i := by omega
          refine ⟨[some (.p (.tuple [.int k, .tuple (E.map edgeD)])), some (.p v), some (.o j), some (.p (.int num)), some (.p (.int (tt + i))), some (.p (.int p)), x6, some (.p (.tuple [one, .tuple ps])), some (.p (.int w)), some (.p (.int i))], _, ?_, ⟨_, rfl⟩, rfl, ?_, hsh⟩
          · simp [sSeq, thenS, sIf, sSet, sRet, sExpr, eT, asB, eIf, eAnd, eOr, eNot, eChain, onB, eBin, eUn, eVar, eC, eCB, on1, on2, aCons, aNil, eTup, eLst, eCell, kTup, kLst, kCell, asPs, bAnd, bOr, bNot, M.bind, M.pure, bindS, slots, finR, sizeLine_eq, i1, i4, fLt, fGt, fI0, n1, n2, fAdd]
          · dsimp only; omega
        · have e0 : scanF E w (td, tt) (.int i) = .inr () := by
            show (if 1 ≤ i ∧ i ≤ 999999 then _ else _) = _
            rw [if_neg hi]
          rw [e0]
          refine ⟨.p (.bool false), S.set j (tdC td), ?_, rfl, td, rfl⟩
          by_cases n1 : i < 1
          · simp [sSeq, thenS, sIf, sSet, sRet, sExpr, eT, asB, eIf, eAnd, eOr, eNot, eChain, onB, eBin, eUn, eVar, eC, eCB, on1, on2, aCons, aNil, eTup, eLst, eCell, kTup, kLst, kCell, asPs, bAnd, bOr, bNot, M.bind, M.pure, bindS, slots, finR, sizeLine_eq, i1, i4, fLt, fGt, fI0, n1]
          · have n2 : 999999 < i := by omega
            simp [sSeq, thenS, sIf, sSet, sRet, sExpr, eT, asB, eIf, eAnd, eOr, eNot, eChain, onB, eBin, eUn, eVar, eC, eCB, on1, on2, aCons, aNil, eTup, eLst, eCell, kTup, kLst, kCell, asPs, bAnd, bOr, bNot, M.bind, M.pure, bindS, slots, finR, sizeLine_eq, i1, i4, fLt, fGt, fI0, n1, n2]
      | dict _ => cases hqn
      | _ =>
        have i4 := law_whole_ok _ hqn (S.set j (tdC td))
        refine ⟨.p (.bool false), S.set j (tdC td), ?_, rfl, td, rfl⟩
        simp [sSeq, thenS, sIf, sSet, sRet, sExpr, eT, asB, eIf, eAnd, eOr, eNot, eChain, onB, eBin, eUn, eVar, eC, eCB, on1, on2, aCons, aNil, eTup, eLst, eCell, kTup, kLst, kCell, asPs, bAnd, bOr, bNot, M.bind, M.pure, bindS, slots, finR, sizeLine_eq, i1, i4, isTupD', isInt])
  revert L
  cases walkF (scanF E w) (todo, t) ps with
  | inl r =>
    obtain ⟨todo', t'⟩ := r
    rintro ⟨ρ', S', e, ⟨x, rfl⟩, rfl, h1, h2⟩
    exact ⟨x, e, by simpa [ndL] using h1, h2⟩
  | inr r =>
    rintro ⟨d, S', e, rfl, td, rfl⟩
    exact ⟨td, e⟩
theorem popF_len {i : Td} {ds : List PyData} {w : Int} (h : ds.length ≠ 2) : popF (i ++ [(.tuple ds, w)]) = none := by
  unfold popF
  rw [List.getLast?_concat]
  split
  · rename_i e; cases e; exact absurd rfl h
  · rfl
theorem eqInts_ne (S : Store) (n : Nat) (h : n ≠ 2) : fEq true (.p (.int n)) (.p (.int 2)) S = .ok (.p (.bool true)) S := by
  rw [neInt]
  have : ¬ ((n : Int) = 2) := by omega
  simp [this]
end
end LK

set_option Elab.async false
set_option linter.all false
set_option maxRecDepth 100000
set_option maxHeartbeats 400000
namespace LK
open PySem PySem.Spec L2 DL
/-! the program's look at events -/
theorem cut_pre {α : Type} (xs : List α) (k : Int) (h : 0 ≤ k) (hk : k ≤ xs.length) : cutL xs none (some k) = xs.take k.toNat := by
  have e : HT.sIx xs.length xs.length (some k) = k.toNat := by
    simp only [HT.sIx]
    split <;> omega
  have e0 : HT.sIx xs.length 0 none = 0 := rfl
  unfold cutL
  rw [e, e0]
  simp
theorem all_bools (l : List Bool) (S : Store) : fAll (.p (.list (l.map PyData.bool))) S = .ok (.p (.bool (l.all id))) S := by
  have e : ∀ l : List Bool, asBools ((l.map PyData.bool).map D.p) = some l := fun l => by
    induction l with
    | nil => rfl
    | cons b l ih => rw [List.map_cons, List.map_cons, asBools, ih]; rfl
  show ofO S ((items S (.p (.list (l.map PyData.bool)))).bind _) = _
  rw [items_pl]
  simp only [Option.bind_some, e l]
  rfl
end LK

set_option Elab.async false
set_option linter.all false
set_option maxRecDepth 100000
set_option maxHeartbeats 400000
namespace LK
open PySem PySem.Spec L2 DL
/-! a stack in the store: cell j lists the cells as (top first), which hold what st tells -/
inductive Cells (c : Int × List PyData → Cell) (T : Store) : List Nat → Sk → Prop
  | nil : Cells c T [] []
  | cons {a : Nat} {x : Int × List PyData} {as : List Nat} {st : Sk} : T[a]? = some (c x) → Cells c T as st → Cells c T (a :: as) (x :: st)
structure Stk (c : Int × List PyData → Cell) (L j : Nat) (T : Store) (as : List Nat) (st : Sk) : Prop where
  top : T[j]? = some (.lst (as.reverse.map D.o))
  cells : Cells c T as st
  nd : as.Nodup
  out : j ∉ as
  low : ∀ a ∈ as, L ≤ a
variable {c : Int × List PyData → Cell} {L j : Nat} {T : Store} {as : List Nat} {st : Sk}
theorem Cells.lt : ∀ {as : List Nat} {st : Sk}, Cells c T as st → ∀ a ∈ as, a < T.length
  | _, _, .nil, _, h => by cases h
  | _, _, .cons h1 h2, a, h => by
    rcases List.mem_cons.mp h with rfl | h
    · exact (List.getElem?_eq_some_iff.mp h1).1
    · exact h2.lt a h
theorem Cells.len : ∀ {as : List Nat} {st : Sk}, Cells c T as st → as.length = st.length
  | _, _, .nil => rfl
  | _, _, .cons _ h2 => by simp [h2.len]
theorem Cells.to {T' : Store} : ∀ {as : List Nat} {st : Sk}, Cells c T as st → (∀ a ∈ as, T'[a]? = T[a]?) → Cells c T' as st
  | _, _, .nil, _ => .nil
  | _, _, .cons h1 h2, h => .cons ((h _ (by simp)).trans h1) (h2.to fun a ha => h a (by simp [ha]))
theorem Stk.jlt (h : Stk c L j T as st) : j < T.length := (List.getElem?_eq_some_iff.mp h.top).1
theorem Stk.at (h : Stk c L j T as st) : lstAt T j = some (as.reverse.map D.o) := by
  unfold lstAt; rw [h.top]; rfl
theorem Stk.put {a : Nat} {x x' : Int × List PyData} (h : Stk c L j T (a :: as) (x :: st)) : Stk c L j (T.set a (c x')) (a :: as) (x' :: st) := by
  have hn := List.nodup_cons.mp h.nd
  cases h.cells with
  | cons h1 h2 =>
    have ha := (List.getElem?_eq_some_iff.mp h1).1
    have hj : a ≠ j := fun e => h.out (by simp [e])
    refine ⟨?_, .cons (List.getElem?_set_self ha) (h2.to fun b hb => List.getElem?_set_ne (by intro e; subst e; exact hn.1 hb)), h.nd, h.out, h.low⟩
    rw [List.getElem?_set_ne hj]; exact h.top
theorem Stk.push {x : Int × List PyData} (h : Stk c L j T as st) (hL : L ≤ T.length) :
    Stk c L j ((T ++ [c x]).set j (.lst ((as.reverse.map D.o) ++ [.o T.length]))) (T.length :: as) (x :: st) := by
  have hj := h.jlt
  have hlt := h.cells.lt
  refine ⟨?_, .cons ?_ (h.cells.to fun a ha => ?_), List.nodup_cons.mpr ⟨fun hm => by have := hlt _ hm; omega, h.nd⟩, fun hm => ?_, fun a ha => ?_⟩
  · rw [List.getElem?_set_self (by simp; omega)]; simp
  · rw [List.getElem?_set_ne (by omega)]; simp
  · have := hlt a ha
    rw [List.getElem?_set_ne (by intro e; subst e; exact h.out ha), List.getElem?_append_left this]
  · rcases List.mem_cons.mp hm with e | hm
    · omega
    · exact h.out hm
  · rcases List.mem_cons.mp ha with rfl | ha
    · exact hL
    · exact h.low a ha
theorem Stk.pop {a : Nat} {x : Int × List PyData} (h : Stk c L j T (a :: as) (x :: st)) : Stk c L j (T.set j (.lst (as.reverse.map D.o))) as st := by
  have hn := List.nodup_cons.mp h.nd
  cases h.cells with
  | cons h1 h2 =>
    refine ⟨List.getElem?_set_self h.jlt, h2.to fun b hb => List.getElem?_set_ne (by intro e; subst e; exact h.out (List.mem_cons_of_mem _ hb)), hn.2, fun hm => h.out (by simp [hm]), fun b hb => h.low b (by simp [hb])⟩
theorem Stk.other {i : Nat} {d : Cell} (h : Stk c L j T as st) (hi : i ≠ j) (hn : i ∉ as) : Stk c L j (T.set i d) as st :=
  ⟨by rw [List.getElem?_set_ne hi]; exact h.top, h.cells.to fun a ha => List.getElem?_set_ne (by intro e; subst e; exact hn ha), h.nd, h.out, h.low⟩
theorem Stk.ext {d : Cell} (h : Stk c L j T as st) : Stk c L j (T ++ [d]) as st := by
  have hj := h.jlt
  refine ⟨by rw [List.getElem?_append_left hj]; exact h.top, h.cells.to fun a ha => List.getElem?_append_left (h.cells.lt a ha), h.nd, h.out, h.low⟩
theorem Stk.topcell {a : Nat} {x : Int × List PyData} (h : Stk c L j T (a :: as) (x :: st)) : T[a]? = some (c x) := by
  cases h.cells with | cons h1 _ => exact h1
theorem atI_last {α : Type} (xs : List α) (x : α) : atI (xs ++ [x]) (-1) = some x := by
  have e : ixN (xs ++ [x]).length (-1) = some xs.length := by
    simp only [ixN, List.length_append, List.length_cons, List.length_nil]
    rw [if_neg (by omega), if_pos (by omega)]
    congr 1; omega
  unfold atI
  rw [e]
  simp
theorem Stk.last {a : Nat} {x : Int × List PyData} (h : Stk c L j T (a :: as) (x :: st)) : fIx (.o j) (.p (.int (-1))) T = .ok (.o a) T := by
  show ofO T ((items T (.o j)).bind fun ds => atI ds (-1)) = _
  have e : items T (.o j) = some ((as.reverse.map D.o) ++ [.o a]) := by
    show T[j]?.bind Cell.seq? = _
    rw [h.top]
    simp [Cell.seq?]
  rw [e]
  simp only [Option.bind_some, atI_last]
  rfl
theorem Stk.kpop {a : Nat} {x : Int × List PyData} (h : Stk c L j T (a :: as) (x :: st)) : kPop (.o j) T = .ok (.o a) (T.set j (.lst (as.reverse.map D.o))) := by
  have e := h.at
  unfold kPop
  simp only [e]
  have e1 : ((a :: as).reverse.map D.o)[((a :: as).reverse.map D.o).length - 1]? = some (.o a) := by simp
  have e2 : ((a :: as).reverse.map D.o).dropLast = as.reverse.map D.o := by simp
  rw [e1, e2]
theorem Stk.isL (h : Stk c L j T as st) : kIsL (.o j) T = .ok (.o j) T := by
  unfold kIsL; simp [h.at]
theorem Stk.kapp (h : Stk c L j T as st) (hz : st.length < 16777216) (y : D) : kApp (.o j) y T = .ok (.p .none) (T.set j (.lst (as.reverse.map D.o ++ [y]))) := by
  unfold kApp
  simp only [h.at, ofO]
  rw [if_pos (by simp [sizeLine_eq, h.cells.len]; exact hz)]
theorem Stk.nil (h : Stk c L j T as st) : fEqNil (.o j) (.p (.list [])) T = .ok (.p (.bool st.isEmpty)) T := by
  have e : items T (.o j) = some (as.reverse.map D.o) := by
    show T[j]?.bind Cell.seq? = _
    rw [h.top]; rfl
  show ofO _ ((items _ _).map _) = _
  rw [e]
  have hl := h.cells.len
  have : ((as.reverse.map D.o).length == 0) = st.isEmpty := by
    cases st with
    | nil => cases as <;> first | rfl | simp at hl
    | cons x st => cases as <;> first | (simp at hl; done) | simp
  simp [ofO] at this ⊢
  simpa using this
end LK

set_option Elab.async false
set_option linter.all false
set_option maxRecDepth 100000
set_option maxHeartbeats 400000
namespace LK
open PySem PySem.Spec L2 DL
/-! the program joins events -/
def cP (x : Int × List PyData) : Cell := .lst (x.2.map D.p)
theorem pre_of {S T : Store} (hl : S.length ≤ T.length) (h : ∀ i, i < S.length → T[i]? = S[i]?) : ∃ T', T = S ++ T' := by
  have e : T.take S.length = S := by
    apply List.ext_getElem?
    intro i
    by_cases hi : i < S.length
    · rw [List.getElem?_take_of_lt hi]; exact h i hi
    · rw [List.getElem?_eq_none (by rw [List.length_take]; omega), List.getElem?_eq_none (by omega)]
  exact ⟨T.drop S.length, by rw [← e, List.length_take, Nat.min_eq_left hl, List.take_append_drop]⟩
theorem lstAt_of {T : Store} {i : Nat} {ds : List D} (h : T[i]? = some (.lst ds)) : lstAt T i = some ds := by
  unfold lstAt; rw [h]; rfl
theorem kIsL_of {T : Store} {i : Nat} {ds : List D} (h : T[i]? = some (.lst ds)) : kIsL (.o i) T = .ok (.o i) T := by
  unfold kIsL; simp [lstAt_of h]
theorem kApp_of {T : Store} {i : Nat} {ds : List D} (h : T[i]? = some (.lst ds)) (hz : ds.length < 16777216) (y : D) : kApp (.o i) y T = .ok (.p .none) (T.set i (.lst (ds ++ [y]))) := by
  unfold kApp
  simp only [lstAt_of h, ofO]
  rw [if_pos (by rw [sizeLine_eq]; exact hz)]
theorem kPop_of {T : Store} {i : Nat} {ds : List D} {y : D} (h : T[i]? = some (.lst (ds ++ [y]))) : kPop (.o i) T = .ok y (T.set i (.lst ds)) := by
  unfold kPop
  simp only [lstAt_of h]
  have e1 : (ds ++ [y])[(ds ++ [y]).length - 1]? = some y := by simp
  rw [e1]
  simp
theorem neg1 (S : Store) (ρ : Sl) : eUn fNeg (eC (.int 1)) ρ S = .ok (.p (.int (-1))) S := rfl
/-- the functions of a stack, in their list -/
def fnC (st : Sk) : Cell := .lst (st.reverse.map fun x => D.p (.int x.1))
theorem fn_items {T : Store} {jf : Nat} {st : Sk} (h : T[jf]? = some (fnC st)) : items T (.o jf) = some (st.reverse.map fun x => D.p (.int x.1)) := by
  show T[jf]?.bind Cell.seq? = _
  rw [h]; rfl
theorem fn_last {T : Store} {jf : Nat} {f : Int} {ps : List PyData} {st : Sk} (h : T[jf]? = some (fnC ((f, ps) :: st))) : fIx (.o jf) (.p (.int (-1))) T = .ok (.p (.int f)) T := by
  show ofO T ((items T (.o jf)).bind fun ds => atI ds (-1)) = _
  rw [fn_items h]
  simp only [Option.bind_some, List.reverse_cons, List.map_append, List.map_cons, List.map_nil, atI_last]
  rfl
theorem fn_len {T : Store} {jf : Nat} {st : Sk} (h : T[jf]? = some (fnC st)) : fLen (.o jf) T = .ok (.p (.int st.length)) T := by
  show ofO T ((items T (.o jf)).map _) = _
  rw [fn_items h]
  simp [ofO]
theorem fn_isL {T : Store} {jf : Nat} {st : Sk} (h : T[jf]? = some (fnC st)) : kIsL (.o jf) T = .ok (.o jf) T := kIsL_of h
theorem fn_app {T : Store} {jf : Nat} {st : Sk} {g : Int} {ps : List PyData} (h : T[jf]? = some (fnC st)) (hz : st.length < 16777216) : kApp (.o jf) (.p (.int g)) T = .ok (.p .none) (T.set jf (fnC ((g, ps) :: st))) := by
  rw [kApp_of h (by simpa using hz)]
  simp [fnC]
theorem fn_pop {T : Store} {jf : Nat} {f : Int} {ps : List PyData} {st : Sk} (h : T[jf]? = some (fnC ((f, ps) :: st))) : kPop (.o jf) T = .ok (.p (.int f)) (T.set jf (fnC st)) :=
  kPop_of (ds := st.reverse.map fun x => D.p (.int x.1)) (y := .p (.int f)) (by rw [h]; simp [fnC])
theorem cp_app {T : Store} {a : Nat} {x : Int × List PyData} (p : PyData) (h : T[a]? = some (cP x)) (hz : x.2.length < 16777216) : kApp (.o a) (.p p) T = .ok (.p .none) (T.set a (cP (x.1, x.2 ++ [p]))) := by
  rw [kApp_of h (by simpa using hz)]
  simp [cP]
theorem cp_isL {T : Store} {a : Nat} {x : Int × List PyData} (h : T[a]? = some (cP x)) : kIsL (.o a) T = .ok (.o a) T := kIsL_of h
theorem cp_tup {T : Store} {a : Nat} {x : Int × List PyData} (h : T[a]? = some (cP x)) : fTuple (.o a) T = .ok (.p (.tuple x.2)) T := by
  show ofO T ((items T (.o a)).bind _) = _
  have e : items T (.o a) = some (x.2.map D.p) := by
    show T[a]?.bind Cell.seq? = _
    rw [h]; rfl
  rw [e]
  simp [asPs_map, ofO]
theorem len_evP_ge : ∀ (ps : List PyData), ps.length ≤ (evP ps).length
  | [] => by simp
  | p :: ps => by
    have ih := len_evP_ge ps
    by_cases hk : ∃ g rs, p = .tuple [.int g, .tuple rs]
    · obtain ⟨g, rs, rfl⟩ := hk
      rw [evP_run]; simp; omega
    · rw [evP_other (fun g rs e => hk ⟨g, rs, e⟩)]; simp; omega
theorem len_fl : ∀ (st : Sk), st.length ≤ (fl st).length
  | [] => by simp
  | (f, ps) :: r => by
    have ih := len_fl r
    simp [fl]; omega
theorem len_fl_top {f : Int} {ps : List PyData} {r : Sk} : ps.length < (fl ((f, ps) :: r)).length := by
  have := len_evP_ge ps
  simp [fl]; omega
/-- what the loop keeps -/
structure JR (E : Es) (k : Int) (S : Store) (q jf jp : Nat) (T : Store) (st : Sk) : Prop where
  as_ : ∃ as, Stk cP S.length jp T as st ∧ jf ∉ as
  fn : T[jf]? = some (fnC st)
  ne : jf ≠ jp
  lf : S.length ≤ jf
  lp : S.length ≤ jp
  pre : ∀ i, i < S.length → T[i]? = S[i]?
  ok : okS E st
theorem JR.len {E : Es} {k : Int} {S T : Store} {q jf jp : Nat} {st : Sk} (h : JR E k S q jf jp T st) : S.length ≤ T.length := by
  have := (List.getElem?_eq_some_iff.mp h.fn).1
  have := h.lf
  omega
theorem pre_set {S T : Store} {i : Nat} {c : Cell} (h : ∀ a, a < S.length → T[a]? = S[a]?) (hi : S.length ≤ i) : ∀ a, a < S.length → (T.set i c)[a]? = S[a]? := fun a ha => by
  rw [List.getElem?_set_ne (by omega)]; exact h a ha
theorem pre_ext {S T : Store} {c : Cell} (h : ∀ a, a < S.length → T[a]? = S[a]?) (hl : S.length ≤ T.length) : ∀ a, a < S.length → (T ++ [c])[a]? = S[a]? := fun a ha => by
  rw [List.getElem?_append_left (by omega)]; exact h a ha
abbrev lpJoin : Fs := sIf (eT (eCB F_is_integer (aCons (eVar 4) aNil))) (sExpr (eApp (eBin fIx (eVar 3) (eUn fNeg (eC (.int 1)))) (eCB (on1 fInt) (aCons (eVar 4) aNil)))) (sIf (eT (eBin (fEq false) (eBin fIx (eVar 4) (eC (.int 0))) (eC (.str "in")))) (sSeq (sIf (eT (eBin (fIn true) (eTup (aCons (eBin fIx (eVar 2) (eUn fNeg (eC (.int 1)))) (aCons (eBin fIx (eVar 4) (eC (.int 1))) aNil))) (eUn (fFld "Calls" "edges") (eVar 0)))) (sRet (eC .none)) sNil) (sSeq (sExpr (eApp (eVar 2) (eCB (on1 fInt) (aCons (eBin fIx (eVar 4) (eC (.int 1))) aNil)))) (sExpr (eApp (eVar 3) (eCell aNil))))) (sSeq (sIf (bOr (eT (eBin (fEq false) (eCB (on1 fLen) (aCons (eVar 2) aNil)) (eC (.int 1)))) (eT (eBin (fEq true) (eBin fIx (eVar 2) (eUn fNeg (eC (.int 1)))) (eBin fIx (eVar 4) (eC (.int 1)))))) (sRet (eC .none)) sNil) (sSeq (sSet 5 (eTup (aCons (ePop (eVar 2)) (aCons (eCB (on1 fTuple) (aCons (ePop (eVar 3)) aNil)) aNil)))) (sExpr (eApp (eBin fIx (eVar 3) (eUn fNeg (eC (.int 1)))) (eVar 5))))))
theorem cut_last {α : Type} (xs : List α) : cutL xs (some (-1)) none = xs.drop (xs.length - 1) := by
  have e : HT.sIx xs.length 0 (some (-1)) = xs.length - 1 := by
    simp only [HT.sIx]
    rw [if_pos (by omega)]
    omega
  have e2 : HT.sIx xs.length xs.length none = xs.length := rfl
  unfold cutL
  rw [e, e2]
  apply List.take_of_length_le
  simp
theorem cut_mid {α : Type} (xs : List α) : cutL xs (some 1) (some (-1)) = (xs.drop 1).take (xs.length - 2) := by
  have e : HT.sIx xs.length xs.length (some (-1)) = xs.length - 1 := by
    simp only [HT.sIx]
    rw [if_pos (by omega)]
    omega
  have e2 : HT.sIx xs.length 0 (some 1) = min 1 xs.length := by
    simp only [HT.sIx]
    rw [if_neg (by omega)]
    rfl
  unfold cutL
  rw [e, e2]
  cases xs with
  | nil => rfl
  | cons x xs =>
    have : min 1 (x :: xs).length = 1 := by simp
    rw [this]
    congr 1
theorem cut_first {α : Type} (xs : List α) : cutL xs none (some 1) = xs.take 1 := by
  have e : HT.sIx xs.length xs.length (some 1) = min 1 xs.length := by
    simp only [HT.sIx]
    rw [if_neg (by omega)]
    rfl
  have e2 : HT.sIx xs.length 0 none = 0 := rfl
  unfold cutL
  rw [e, e2, List.drop_zero]
  cases xs with
  | nil => rfl
  | cons x xs =>
    have : min 1 (x :: xs).length = 1 := by simp
    rw [this]
theorem shp_sub {ds es : List PyData} (h : shp (.tuple ds)) (hs : ∀ e ∈ es, e ∈ ds) : shp (.tuple es) := by
  have h2 := SeqAt.depth_of_shaped h
  have hl := lay_tup (shp_lay h)
  rw [PyData.depth] at h2
  have a1 : PyData.canLayAll0 es = true := by
    have : ∀ es : List PyData, (∀ e ∈ es, e ∈ ds) → PyData.canLayAll0 es = true := by
      intro es
      induction es with
      | nil => intro _; rfl
      | cons e es ih =>
        intro hs
        rw [PyData.canLayAll0, ih (fun x hx => hs x (by simp [hx])), Bool.and_true]
        exact hl e (hs e (by simp))
    exact this es hs
  have a2 : PyData.depthAll es ≤ PyData.depthAll ds := by
    have : ∀ es : List PyData, (∀ e ∈ es, e ∈ ds) → PyData.depthAll es ≤ PyData.depthAll ds := by
      intro es
      induction es with
      | nil => intro _; simp [PyData.depthAll]
      | cons e es ih =>
        intro hs
        have := ih (fun x hx => hs x (by simp [hx]))
        have h3 := depthAll_mem (hs e (by simp))
        rw [PyData.depthAll]; omega
    exact this es hs
  have c1 : PyData.canLay0 (.tuple es) = true := by rw [PyData.canLay0]; exact a1
  have c2 : PyData.depth (.tuple es) ≤ 64 := by rw [PyData.depth]; omega
  show (PyData.canLay0 (.tuple es) && decide (PyData.depth (.tuple es) ≤ 64)) = true
  rw [c1, decide_eq_true c2]; rfl
theorem ne_one (S : Store) (w : Str) (l : List PyData) (hs : shp (.tuple l)) (hw : PyData.strOk w = true) (k : Int) (hb : ∀ e ∈ l, isEvB k e = true) :
    fEq true (.p (.tuple l)) (.p (.tuple [.tuple [.str w, .int 0]])) S = .ok (.p (.bool (!one0 w l))) S := by
  have h2 : SeqAt.shaped (.tuple [.tuple [.str w, .int 0]]) = true := by
    simp [SeqAt.shaped, PyData.canLay0, PyData.canLayAll0, PyData.depth, PyData.depthAll, hw]
  have hs : SeqAt.shaped (.tuple l) = true := hs
  have e : PyData.eqv (.tuple l) (.tuple [.tuple [.str w, .int 0]]) = one0 w l := by
    match l, hb with
    | [], _ => rfl
    | [e], hb =>
      have he := hb e (by simp)
      unfold isEvB at he
      split at he
      · simp [PyData.eqv, PyData.eqvAll, one0, is0]
      · rename_i x g _
        have eg : (g == 0) = decide (g = 0) := by by_cases h : g = 0 <;> simp [h]
        simp [PyData.eqv, PyData.eqvAll, one0, is0, eg]
      · cases he
    | a :: b :: c, _ => simp [PyData.eqv, PyData.eqvAll, one0]
  simp [fEq, toPy, hs, h2, e]
end LK

set_option Elab.async false
set_option linter.all false
set_option maxRecDepth 100000
set_option maxHeartbeats 400000
namespace LK
open PySem PySem.Spec L2 DL
/-! the law reads events -/
def spSk (st : Sk) : Prop := ∀ x ∈ st, sp x.2 = true
theorem sp_runD {f : Int} {ps : List PyData} (h : sp ps = true) : sp [runD f ps] = true := by
  unfold runD; rw [sp_run, h, sp_nil]; rfl
theorem read_step_sp {st : Sk} {ev : PyData} {s : Sk × Option PyData} (h : readF (st, none) ev = .inl s) (hs : spSk st) : spSk s.1 ∧ ∀ f ps, s.2 = some (runD f ps) → sp ps = true := by
  unfold readF at h
  dsimp only at h
  split at h
  · rename_i x g
    by_cases h1 : (x == "in") = true
    · rw [if_pos h1] at h
      cases h
      exact ⟨fun y hy => by
        rcases List.mem_cons.mp hy with rfl | hy
        · exact sp_nil
        · exact hs y hy, fun f ps e => by cases e⟩
    · rw [if_neg h1] at h
      by_cases h2 : (x == "out") = true
      · rw [if_pos h2] at h
        split at h
        · cases h
        · rename_i f ps
          by_cases hf : f = g
          · rw [if_pos hf] at h
            cases h
            refine ⟨(fun y hy => by cases hy), fun f' ps' e => ?_⟩
            simp [runD] at e
            rw [← e.2]; exact hs (f, ps) (by simp)
          · rw [if_neg hf] at h; cases h
        · rename_i f ps f2 qs r
          by_cases hf : f = g
          · rw [if_pos hf] at h
            cases h
            refine ⟨fun y hy => ?_, fun f ps e => by cases e⟩
            rcases List.mem_cons.mp hy with rfl | hy
            · rw [sp_append, hs (f2, qs) (by simp), sp_runD (hs (f, ps) (by simp))]; rfl
            · exact hs y (by simp [hy])
          · rw [if_neg hf] at h; cases h
      · rw [if_neg h2] at h; cases h
  · rename_i i
    split at h
    · cases h
    · rename_i f ps r
      cases h
      refine ⟨fun y hy => ?_, fun f ps e => by cases e⟩
      rcases List.mem_cons.mp hy with rfl | hy
      · show sp (ps ++ [.int i]) = true
        rw [sp_append, hs (f, ps) (by simp), sp_int, sp_nil]; rfl
      · exact hs y (by simp [hy])
  · cases h
theorem read_sound_sp : ∀ (evs : List PyData) (st : Sk) (s : Sk × Option PyData), walkF readF (st, none) evs = .inl s → spSk st →
    ∀ r, s.2 = some r → ∃ f ps, r = runD f ps ∧ sp ps = true ∧ fl st ++ evs = trE f ps
  | [], st, s, h, _, r, hr => by
    cases h; cases hr
  | ev :: evs, st, s, h, hs, r, hr => by
    cases q : readF (st, none) ev with
    | inr _ => rw [walkF_inr q] at h; cases h
    | inl s1 =>
      rw [walkF_inl q] at h
      obtain ⟨hs1, hs2⟩ := read_step_sp q hs
      obtain ⟨st1, d1⟩ := s1
      rcases read_step q with ⟨e1, e2⟩ | ⟨f, ps, e1, e2, e3⟩
      · dsimp only at e1 e2
        subst e1
        obtain ⟨f, ps, h1, h3, h2⟩ := read_sound_sp evs st1 s h hs1 r hr
        exact ⟨f, ps, h1, h3, by rw [← h2, e2]; simp⟩
      · have hsp := hs2 f ps e1
        dsimp only at e1 e2
        subst e1 e2
        cases evs with
        | nil =>
          cases h
          cases hr
          exact ⟨f, ps, rfl, hsp, by rw [e3]⟩
        | cons ev2 evs =>
          rw [walkF_inr (b := ()) (by rfl)] at h; cases h
theorem ndL_sp : ∀ (ps : List PyData), sp ps = true → ndL ps ≤ 3 * (evP ps).length
  | [], _ => by simp [ndL]
  | p :: ps, h => by
    cases sp_pk h with
    | int i =>
      rw [sp_int] at h
      have := ndL_sp ps h
      rw [evP_int]; simp [ndL, nd]; omega
    | run g qs =>
      rw [sp_run, Bool.and_eq_true] at h
      have h1 := ndL_sp ps h.2
      have h2 := ndL_sp qs h.1
      rw [evP_run]; simp [ndL, nd]; omega
termination_by ps => sizeOf ps
theorem lay_sp : ∀ (ps : List PyData), sp ps = true → PyData.canLayAll0 ps = true ∧ PyData.depthAll ps ≤ 2 * cR ps
  | [], _ => ⟨rfl, by simp [PyData.depthAll]⟩
  | p :: ps, h => by
    cases sp_pk h with
    | int i =>
      rw [sp_int] at h
      obtain ⟨h1, h2⟩ := lay_sp ps h
      refine ⟨by rw [PyData.canLayAll0, h1]; rfl, ?_⟩
      rw [cR_int, PyData.depthAll]
      simp [PyData.depth]; exact h2
    | run g qs =>
      rw [sp_run, Bool.and_eq_true] at h
      obtain ⟨h1, h2⟩ := lay_sp ps h.2
      obtain ⟨h3, h4⟩ := lay_sp qs h.1
      refine ⟨?_, ?_⟩
      · rw [PyData.canLayAll0, h1]
        simp [PyData.canLay0, PyData.canLayAll0, h3]
      · rw [cR_run, PyData.depthAll]
        simp only [PyData.depth, PyData.depthAll]
        omega
termination_by ps => sizeOf ps
theorem shp_runD {f : Int} {ps : List PyData} (h : sp ps = true) (hc : cR ps ≤ 31) : shp (runD f ps) := by
  obtain ⟨h1, h2⟩ := lay_sp ps h
  have c1 : PyData.canLay0 (runD f ps) = true := by simp [runD, PyData.canLay0, PyData.canLayAll0, h1]
  have c2 : PyData.depth (runD f ps) ≤ 64 := by
    simp only [runD, PyData.depth, PyData.depthAll]
    omega
  show (PyData.canLay0 _ && decide (PyData.depth _ ≤ 64)) = true
  rw [c1, decide_eq_true c2]; rfl
/-- the cell of a run that is open -/
def cO (x : Int × List PyData) : Cell := .lst [.p (.int x.1), .p (.tuple x.2)]
theorem co_0 {T : Store} {a : Nat} {x : Int × List PyData} (h : T[a]? = some (cO x)) : fIx (.o a) (.p (.int 0)) T = .ok (.p (.int x.1)) T := by
  show ofO T ((items T (.o a)).bind fun ds => atI ds 0) = _
  have e : items T (.o a) = some [.p (.int x.1), .p (.tuple x.2)] := by
    show T[a]?.bind Cell.seq? = _
    rw [h]; rfl
  rw [e]; rfl
theorem co_1 {T : Store} {a : Nat} {x : Int × List PyData} (h : T[a]? = some (cO x)) : fIx (.o a) (.p (.int 1)) T = .ok (.p (.tuple x.2)) T := by
  show ofO T ((items T (.o a)).bind fun ds => atI ds 1) = _
  have e : items T (.o a) = some [.p (.int x.1), .p (.tuple x.2)] := by
    show T[a]?.bind Cell.seq? = _
    rw [h]; rfl
  rw [e]; rfl
theorem co_set {T : Store} {a : Nat} {x : Int × List PyData} {qs : List PyData} (h : T[a]? = some (cO x)) : setAt (.o a) (.p (.int 1)) (.p (.tuple qs)) T = some (T.set a (cO (x.1, qs))) := by
  show (lstAt T a).bind _ = _
  rw [lstAt_of h]
  rfl
abbrev lpRead : Fs := sSeq (sIf (eT (eBin (fIs true) (eVar 3) (eC .none))) (sRet (eC .none)) sNil) (sIf (eT (eUn (fIsi "tuple") (eVar 4))) (sSeq (sIf (bOr (eT (eBin (fEq true) (eCB (on1 fLen) (aCons (eVar 4) aNil)) (eC (.int 2)))) (bOr (bNot (eT (eUn (fIsi "str") (eBin fIx (eVar 4) (eC (.int 0)))))) (bNot (eT (eCB F__law_whole (aCons (eBin fIx (eVar 4) (eC (.int 1))) aNil)))))) (sRet (eC .none)) sNil) (sIf (eT (eBin (fEq false) (eBin fIx (eVar 4) (eC (.int 0))) (eC (.str "in")))) (sExpr (eApp (eVar 2) (eCell (aCons (eBin fIx (eVar 4) (eC (.int 1))) (aCons (eTup aNil) aNil))))) (sIf (bOr (eT (eBin (fEq true) (eBin fIx (eVar 4) (eC (.int 0))) (eC (.str "out")))) (bOr (eT (eBin fEqNil (eVar 2) (eLst aNil))) (eT (eBin (fEq true) (eBin fIx (eBin fIx (eVar 2) (eUn fNeg (eC (.int 1)))) (eC (.int 0))) (eBin fIx (eVar 4) (eC (.int 1))))))) (sRet (eC .none)) (sSeq (sSet 5 (ePop (eVar 2))) (sIf (eT (eBin fEqNil (eVar 2) (eLst aNil))) (sSet 3 (eTup (aCons (eBin fIx (eVar 5) (eC (.int 0))) (aCons (eBin fIx (eVar 5) (eC (.int 1))) aNil)))) (sItem (eBin fIx (eVar 2) (eUn fNeg (eC (.int 1)))) (eC (.int 1)) (eBin fAdd (eBin fIx (eBin fIx (eVar 2) (eUn fNeg (eC (.int 1)))) (eC (.int 1))) (eTup (aCons (eTup (aCons (eBin fIx (eVar 5) (eC (.int 0))) (aCons (eBin fIx (eVar 5) (eC (.int 1))) aNil))) aNil))))))))) (sIf (bOr (eT (eBin fEqNil (eVar 2) (eLst aNil))) (bNot (eT (eCB F__law_whole (aCons (eVar 4) aNil))))) (sRet (eC .none)) (sItem (eBin fIx (eVar 2) (eUn fNeg (eC (.int 1)))) (eC (.int 1)) (eBin fAdd (eBin fIx (eBin fIx (eVar 2) (eUn fNeg (eC (.int 1)))) (eC (.int 1))) (eTup (aCons (eVar 4) aNil))))))
structure RR (S : Store) (j : Nat) (T : Store) (st : Sk) : Prop where
  as_ : ∃ as, Stk cO S.length j T as st
  lj : S.length ≤ j
  pre : ∀ i, i < S.length → T[i]? = S[i]?
theorem RR.len {S T : Store} {j : Nat} {st : Sk} (h : RR S j T st) : S.length ≤ T.length := by
  obtain ⟨as, K⟩ := h.as_
  have := K.jlt
  have := h.lj
  omega
def dnD : Option PyData → PyData
  | some r => r
  | none => .none
def isStrD : PyData → Bool
  | .str _ => true
  | _ => false
def notNone : PyData → Bool
  | .none => false
  | _ => true
theorem isi_str (S : Store) (d : PyData) (h : noDict d = true) : fIsi "str" (.p d) S = .ok (.p (.bool (isStrD d))) S := by
  cases d <;> first | (cases h; done) | rfl
theorem neOut (S : Store) (a : Str) (h : PyData.strOk a = true) : fEq true (.p (.str a)) (.p (.str "out")) S = .ok (.p (.bool (!(a == "out")))) S := by
  have h1 : SeqAt.shaped (.str a) = true := by simp [SeqAt.shaped, PyData.canLay0, PyData.depth, h]
  have h2 : SeqAt.shaped (.str "out") = true := by decide +kernel
  simp [fEq, toPy, h1, h2, PyData.eqv]
theorem is_not_none (S : Store) (d : PyData) (h : d = .none ∨ ∃ ds, d = .tuple ds) : fIs true (.p d) (.p .none) S = .ok (.p (.bool (notNone d))) S := by
  rcases h with rfl | ⟨ds, rfl⟩ <;> rfl
theorem read_store {S T : Store} {j : Nat} {st : Sk} {cs v ev : PyData} {x5 : Option D} (R : RR S j T st) (hev : shp ev) (hz : (fl st).length < 16777000) :
    match readF (st, none) ev with
    | .inl (st', dn) => ∃ x5' T', lpRead [some (.p cs), some (.p v), some (.o j), some (.p .none), some (.p ev), x5] T = .nx [some (.p cs), some (.p v), some (.o j), some (.p (dnD dn)), some (.p ev), x5'] T' ∧ RR S j T' st'
    | .inr _ => lpRead [some (.p cs), some (.p v), some (.o j), some (.p .none), some (.p ev), x5] T = .rt (.p .none) T := by
  have hlen := R.len
  obtain ⟨⟨as, K⟩, hlj, hpre⟩ := R
  have hzs : st.length < 16777000 := by have := len_fl st; omega
  have nn := is_not_none T .none (.inl rfl)
  have nn : fIs true (.p .none) (.p .none) T = .ok (.p (.bool false)) T := nn
  have hn := lay_noDict (shp_lay hev)
  have it := isi_tupD T ev hn
  have knil := K.nil
  have evT : ∀ ds : List PyData, (¬ ∃ x g, ds = [.str x, .int g]) → readF (st, none) (.tuple ds) = .inr () := fun ds h => by
    unfold readF
    dsimp only
    split
    · rename_i e; cases e; exact absurd ⟨_, _, rfl⟩ h
    · rename_i e; cases e
    · rfl
  cases ev with
  | tuple ds =>
    have it : fIsi "tuple" (.p (.tuple ds)) T = .ok (.p (.bool true)) T := it
    have il := len_tup T ds
    by_cases hl : ds.length = 2
    · match ds, hl with
      | [a, b], _ =>
        have il : fLen (.p (.tuple [a, b])) T = .ok (.p (.int 2)) T := il
        have i2 := neInt T 2 2
        have ha := shp_tup hev a (by simp)
        have hb := shp_tup hev b (by simp)
        have ix0 : ∀ T, fIx (.p (.tuple [a, b])) (.p (.int 0)) T = .ok (.p a) T := fun _ => rfl
        have ix1 : ∀ T, fIx (.p (.tuple [a, b])) (.p (.int 1)) T = .ok (.p b) T := fun _ => rfl
        have is := isi_str T a (lay_noDict (shp_lay ha))
        have iw := law_whole_ok b (lay_noDict (shp_lay hb)) T
        by_cases hx : ∃ x, a = .str x
        · obtain ⟨x, rfl⟩ := hx
          have is : fIsi "str" (.p (.str x)) T = .ok (.p (.bool true)) T := is
          by_cases hg : ∃ g, b = .int g
          · obtain ⟨g, rfl⟩ := hg
            have iw : F__law_whole [.p (.int g)] T = .ok (.p (.bool true)) T := iw
            have hxo : PyData.strOk x = true := by
              have := shp_lay ha
              simpa [lay, PyData.canLay0] using this
            have se := strEq T x hxo
            have so := neOut T x hxo
            by_cases h1 : (x == "in") = true
            · rw [h1] at se
              have e0 : readF (st, none) (.tuple [.str x, .int g]) = .inl ((g, []) :: st, none) := by
                unfold readF; dsimp only; rw [if_pos h1]
              rw [e0]
              have h3 := K.isL
              have h4 := (K.ext (d := cO (g, []))).kapp (by omega) (.o T.length)
              have K2 := K.push (x := (g, [])) hlen
              refine ⟨x5, _, ?_, ⟨⟨_, K2⟩, hlj, pre_set (pre_ext hpre hlen) hlj⟩⟩
              unfold cO at h4 ⊢
              dsimp only at h4 ⊢
              simp [sSeq, thenS, sIf, sSet, sRet, sExpr, eT, asB, eIf, eAnd, eOr, eNot, eChain, onB, eBin, eUn, eVar, eC, eCB, on1, on2, aCons, aNil, eTup, eLst, eCell, kTup, kLst, kCell, asPs, bAnd, bOr, bNot, M.bind, M.pure, bindS, slots, finR, sizeLine_eq, lpRead, nn, it, il, i2, ix0, ix1, is, iw, se, sNil, eApp, h3, h4, dnD]
            · have h1' : (x == "in") = false := by simpa using h1
              rw [h1'] at se
              by_cases h2 : (x == "out") = true
              · rw [h2] at so
                cases st with
                | nil =>
                  have e0 : readF ([], none) (.tuple [.str x, .int g]) = .inr () := by
                    unfold readF; dsimp only; rw [if_neg h1, if_pos h2]
                  rw [e0]
                  have knil : fEqNil (.o j) (.p (.list [])) T = .ok (.p (.bool true)) T := knil
                  simp [sSeq, thenS, sIf, sSet, sRet, sExpr, eT, asB, eIf, eAnd, eOr, eNot, eChain, onB, eBin, eUn, eVar, eC, eCB, on1, on2, aCons, aNil, eTup, eLst, eCell, kTup, kLst, kCell, asPs, bAnd, bOr, bNot, M.bind, M.pure, bindS, slots, finR, sizeLine_eq, lpRead, nn, it, il, i2, ix0, ix1, is, iw, se, so, sNil, knil]
                | cons y r =>
                  obtain ⟨f, ps⟩ := y
                  cases as with
                  | nil => have := K.cells.len; simp at this
                  | cons c as =>
                  have knil : fEqNil (.o j) (.p (.list [])) T = .ok (.p (.bool false)) T := knil
                  have hlast := K.last
                  have c0 := co_0 K.topcell
                  dsimp only at c0
                  have q2 := neInt T f g
                  by_cases hfg : f = g
                  · subst hfg
                    have p2 := K.kpop
                    have K2 := K.pop
                    have hja : j ≠ c := fun e => K.out (by simp [e])
                    have t1 : (T.set j (.lst (as.reverse.map D.o)))[c]? = some (cO (f, ps)) := by
                      rw [List.getElem?_set_ne hja]; exact K.topcell
                    have d0 := co_0 t1
                    have d1 := co_1 t1
                    dsimp only at d0 d1
                    have knil2 := K2.nil
                    cases r with
                    | nil =>
                      have e0 : readF ([(f, ps)], none) (.tuple [.str x, .int f]) = .inl ([], some (runD f ps)) := by
                        unfold readF; dsimp only; rw [if_neg h1, if_pos h2, if_pos rfl]
                      rw [e0]
                      have knil2 : fEqNil (.o j) (.p (.list [])) (T.set j (.lst (as.reverse.map D.o))) = .ok (.p (.bool true)) (T.set j (.lst (as.reverse.map D.o))) := knil2
                      refine ⟨some (.o c), _, ?_, ⟨⟨_, K2⟩, hlj, pre_set hpre hlj⟩⟩
                      generalize Cell.lst (as.reverse.map D.o) = cc at *
                      simp [sSeq, thenS, sIf, sSet, sRet, sExpr, eT, asB, eIf, eAnd, eOr, eNot, eChain, onB, eBin, eUn, eVar, eC, eCB, on1, on2, aCons, aNil, eTup, eLst, eCell, kTup, kLst, kCell, asPs, bAnd, bOr, bNot, M.bind, M.pure, bindS, slots, finR, sizeLine_eq, lpRead, nn, it, il, i2, ix0, ix1, is, iw, se, so, sNil, knil, fNeg, hlast, c0, q2, ePop, p2, knil2, d0, d1, dnD, runD]
                    | cons y r =>
                      obtain ⟨f2, qs⟩ := y
                      have e0 : readF ((f, ps) :: (f2, qs) :: r, none) (.tuple [.str x, .int f]) = .inl ((f2, qs ++ [runD f ps]) :: r, none) := by
                        unfold readF; dsimp only; rw [if_neg h1, if_pos h2, if_pos rfl]
                      rw [e0]
                      have knil2 : fEqNil (.o j) (.p (.list [])) (T.set j (.lst (as.reverse.map D.o))) = .ok (.p (.bool false)) (T.set j (.lst (as.reverse.map D.o))) := knil2
                      cases as with
                      | nil => have := K2.cells.len; simp at this
                      | cons c2 as =>
                      have l2 := K2.last
                      have g1 := co_1 K2.topcell
                      have g2 := co_set (qs := qs ++ [runD f ps]) K2.topcell
                      dsimp only at g1 g2
                      have K3 := K2.put (x' := (f2, qs ++ [runD f ps]))
                      have hzq : qs.length + 1 ≤ 16777216 := by
                        have h := len_evP_ge qs
                        simp only [fl, List.length_append, List.length_cons] at hz
                        omega
                      refine ⟨some (.o c), _, ?_, ⟨⟨_, K3⟩, hlj, pre_set (pre_set hpre hlj) (K2.low c2 (by simp))⟩⟩
                      generalize Cell.lst ((c2 :: as).reverse.map D.o) = cc at *
                      unfold runD at g2 ⊢
                      simp [sSeq, thenS, sIf, sSet, sRet, sExpr, eT, asB, eIf, eAnd, eOr, eNot, eChain, onB, eBin, eUn, eVar, eC, eCB, on1, on2, aCons, aNil, eTup, eLst, eCell, kTup, kLst, kCell, asPs, bAnd, bOr, bNot, M.bind, M.pure, bindS, slots, finR, sizeLine_eq, lpRead, nn, it, il, i2, ix0, ix1, is, iw, se, so, sNil, knil, fNeg, hlast, c0, q2, ePop, p2, knil2, d0, d1, dnD, sItem, l2, g1, g2, fAdd, hzq, nxO]
                  · have e0 : readF ((f, ps) :: r, none) (.tuple [.str x, .int g]) = .inr () := by
                      unfold readF; dsimp only; rw [if_neg h1, if_pos h2]
                      cases r with
                      | nil => dsimp only; rw [if_neg hfg]
                      | cons y r => obtain ⟨f2, qs⟩ := y; dsimp only; rw [if_neg hfg]
                    rw [e0]
                    simp [sSeq, thenS, sIf, sSet, sRet, sExpr, eT, asB, eIf, eAnd, eOr, eNot, eChain, onB, eBin, eUn, eVar, eC, eCB, on1, on2, aCons, aNil, eTup, eLst, eCell, kTup, kLst, kCell, asPs, bAnd, bOr, bNot, M.bind, M.pure, bindS, slots, finR, sizeLine_eq, lpRead, nn, it, il, i2, ix0, ix1, is, iw, se, so, sNil, knil, fNeg, hlast, c0, q2, hfg]
              · have h2' : (x == "out") = false := by simpa using h2
                rw [h2'] at so
                have e0 : readF (st, none) (.tuple [.str x, .int g]) = .inr () := by
                  unfold readF; dsimp only; rw [if_neg h1, if_neg h2]
                rw [e0]
                simp [sSeq, thenS, sIf, sSet, sRet, sExpr, eT, asB, eIf, eAnd, eOr, eNot, eChain, onB, eBin, eUn, eVar, eC, eCB, on1, on2, aCons, aNil, eTup, eLst, eCell, kTup, kLst, kCell, asPs, bAnd, bOr, bNot, M.bind, M.pure, bindS, slots, finR, sizeLine_eq, lpRead, nn, it, il, i2, ix0, ix1, is, iw, se, so, sNil]
          · rw [evT _ (by rintro ⟨x', g', e⟩; simp at e; exact hg ⟨_, e.2⟩)]
            have iw : F__law_whole [.p b] T = .ok (.p (.bool false)) T := by
              rw [iw]
              have : isInt b = false := by cases b <;> first | rfl | exact absurd ⟨_, rfl⟩ hg
              rw [this]
            simp [sSeq, thenS, sIf, sSet, sRet, sExpr, eT, asB, eIf, eAnd, eOr, eNot, eChain, onB, eBin, eUn, eVar, eC, eCB, on1, on2, aCons, aNil, eTup, eLst, eCell, kTup, kLst, kCell, asPs, bAnd, bOr, bNot, M.bind, M.pure, bindS, slots, finR, sizeLine_eq, lpRead, nn, it, il, i2, ix0, ix1, is, iw, sNil]
        · rw [evT _ (by rintro ⟨x', g', e⟩; simp at e; exact hx ⟨_, e.1⟩)]
          have is : fIsi "str" (.p a) T = .ok (.p (.bool false)) T := by
            rw [is]
            have : isStrD a = false := by cases a <;> first | rfl | exact absurd ⟨_, rfl⟩ hx
            rw [this]
          simp [sSeq, thenS, sIf, sSet, sRet, sExpr, eT, asB, eIf, eAnd, eOr, eNot, eChain, onB, eBin, eUn, eVar, eC, eCB, on1, on2, aCons, aNil, eTup, eLst, eCell, kTup, kLst, kCell, asPs, bAnd, bOr, bNot, M.bind, M.pure, bindS, slots, finR, sizeLine_eq, lpRead, nn, it, il, i2, ix0, ix1, is, sNil]
    · rw [evT _ (by rintro ⟨x', g', e⟩; exact hl (by rw [e]; rfl))]
      have i2 := eqInts_ne T ds.length hl
      generalize ((ds.length : Nat) : Int) = len at il i2
      simp [sSeq, thenS, sIf, sSet, sRet, sExpr, eT, asB, eIf, eAnd, eOr, eNot, eChain, onB, eBin, eUn, eVar, eC, eCB, on1, on2, aCons, aNil, eTup, eLst, eCell, kTup, kLst, kCell, asPs, bAnd, bOr, bNot, M.bind, M.pure, bindS, slots, finR, sizeLine_eq, lpRead, nn, it, il, i2, sNil]
  | int i =>
    have it : fIsi "tuple" (.p (.int i)) T = .ok (.p (.bool false)) T := it
    have iw : F__law_whole [.p (.int i)] T = .ok (.p (.bool true)) T := law_whole_ok (.int i) rfl T
    cases st with
    | nil =>
      have e0 : readF ([], none) (.int i) = .inr () := rfl
      rw [e0]
      have knil : fEqNil (.o j) (.p (.list [])) T = .ok (.p (.bool true)) T := knil
      simp [sSeq, thenS, sIf, sSet, sRet, sExpr, eT, asB, eIf, eAnd, eOr, eNot, eChain, onB, eBin, eUn, eVar, eC, eCB, on1, on2, aCons, aNil, eTup, eLst, eCell, kTup, kLst, kCell, asPs, bAnd, bOr, bNot, M.bind, M.pure, bindS, slots, finR, sizeLine_eq, lpRead, nn, it, sNil, knil]
    | cons y r =>
      obtain ⟨f, ps⟩ := y
      have e0 : readF ((f, ps) :: r, none) (.int i) = .inl ((f, ps ++ [.int i]) :: r, none) := rfl
      rw [e0]
      have knil : fEqNil (.o j) (.p (.list [])) T = .ok (.p (.bool false)) T := knil
      cases as with
      | nil => have := K.cells.len; simp at this
      | cons c as =>
      have hlast := K.last
      have g1 := co_1 K.topcell
      have g2 := co_set (qs := ps ++ [.int i]) K.topcell
      dsimp only at g1 g2
      have K3 := K.put (x' := (f, ps ++ [.int i]))
      have hzq : ps.length + 1 ≤ 16777216 := by
        have h := len_evP_ge ps
        simp only [fl, List.length_append, List.length_cons] at hz
        omega
      refine ⟨x5, _, ?_, ⟨⟨_, K3⟩, hlj, pre_set hpre (K.low c (by simp))⟩⟩
      simp [sSeq, thenS, sIf, sSet, sRet, sExpr, eT, asB, eIf, eAnd, eOr, eNot, eChain, onB, eBin, eUn, eVar, eC, eCB, on1, on2, aCons, aNil, eTup, eLst, eCell, kTup, kLst, kCell, asPs, bAnd, bOr, bNot, M.bind, M.pure, bindS, slots, finR, sizeLine_eq, lpRead, nn, it, sNil, knil, iw, fNeg, hlast, sItem, g1, g2, fAdd, hzq, nxO, dnD]
  | dict _ => cases hn
  | _ =>
    have iw := law_whole_ok _ hn T
    simp only [readF]
    cases st with
    | nil =>
      have knil : fEqNil (.o j) (.p (.list [])) T = .ok (.p (.bool true)) T := knil
      simp [sSeq, thenS, sIf, sSet, sRet, sExpr, eT, asB, eIf, eAnd, eOr, eNot, eChain, onB, eBin, eUn, eVar, eC, eCB, on1, on2, aCons, aNil, eTup, eLst, eCell, kTup, kLst, kCell, asPs, bAnd, bOr, bNot, M.bind, M.pure, bindS, slots, finR, sizeLine_eq, lpRead, nn, it, isTupD', sNil, knil]
    | cons y r =>
      have knil : fEqNil (.o j) (.p (.list [])) T = .ok (.p (.bool false)) T := knil
      simp [sSeq, thenS, sIf, sSet, sRet, sExpr, eT, asB, eIf, eAnd, eOr, eNot, eChain, onB, eBin, eUn, eVar, eC, eCB, on1, on2, aCons, aNil, eTup, eLst, eCell, kTup, kLst, kCell, asPs, bAnd, bOr, bNot, M.bind, M.pure, bindS, slots, finR, sizeLine_eq, lpRead, nn, it, isTupD', sNil, knil, iw, isInt]
end LK

set_option Elab.async false
set_option linter.all false
set_option maxRecDepth 100000
set_option maxHeartbeats 400000
namespace LK
open PySem PySem.Spec L2 DL
/-- the plain reading of any value -/
def readV (E : Es) : PyData → Option PyData
  | .tuple evs => readR E evs
  | _ => none
end LK

set_option Elab.async false
set_option linter.all false
set_option maxRecDepth 100000
set_option maxHeartbeats 400000
namespace LK
open PySem PySem.Spec L2 DL
/-! drawn calls -/
theorem take_kp {S : Store} {i : Nat} (hb : Bx i S) (m : Int) (hm : 0 < m) (hl : m < 10 ^ 18) :
    ∃ got S', F__law_take [.o i, .p (.int m)] S = .ok (.p (.int got)) S' ∧ 0 ≤ got ∧ got < m ∧ Kp i S S' ∧ S'.length = S.length := by
  obtain ⟨b0, b1, h⟩ := hb
  have hlog : m.natAbs.log2 < 9000 := by
    have h1 : m.natAbs < 2 ^ 60 := by omega
    have h2 : m.natAbs.log2 < 60 := (Nat.log2_lt (by omega)).mpr h1
    omega
  obtain ⟨got, b0', b1', e, h1, h2⟩ := take_ok S i b0 b1 m h hm hlog
  exact ⟨got, _, e, h1, h2, Kp.put ⟨b0, b1, h⟩ b0' b1', by simp⟩
theorem fix_lst {ds : List PyData} {k : Nat} (h : k < ds.length) (S : Store) : fIx (.p (.list ds)) (.p (.int k)) S = .ok (.p ds[k]) S := by
  show ofO S ((items S (.p (.list ds))).bind fun es => atI es k) = _
  rw [items_pl]
  simp only [Option.bind_some]
  unfold atI
  rw [List.length_map, ixN_nat h]
  simp [h, ofO]
theorem pick_kp {S : Store} {i : Nat} (hb : Bx i S) (ds : List PyData) (hn : ds ≠ []) (hl : ds.length < 10 ^ 9) :
    ∃ d S', F__law_pick [.o i, .p (.list ds)] S = .ok (.p d) S' ∧ d ∈ ds ∧ Kp i S S' ∧ S'.length = S.length := by
  have hp : 0 < ds.length := by cases ds; exact absurd rfl hn; simp
  obtain ⟨got, S', e, h0, h1, hk, hs⟩ := take_kp hb ds.length (by omega) (by omega)
  obtain ⟨g, rfl⟩ : ∃ g : Nat, got = g := ⟨got.toNat, by omega⟩
  have hg : g < ds.length := by omega
  have hx := fix_lst hg S'
  have l1 : fLen (.p (.list ds)) S = .ok (.p (.int ds.length)) S := by simp [fLen, items, ofO]
  refine ⟨ds[g], S', ?_, List.getElem_mem hg, hk, hs⟩
  unfold F__law_pick bodyF g__law_pick
  generalize ((ds.length : Nat) : Int) = len at e l1
  generalize (ds[g] : PyData) = d at hx
  simp [sSeq, thenS, sIf, sSet, sRet, sExpr, eT, asB, eIf, eAnd, eOr, eNot, eChain, onB, eBin, eUn, eVar, eC, eCB, on1, on2, aCons, aNil, eTup, eLst, eCell, kTup, kLst, kCell, asPs, bAnd, bOr, bNot, M.bind, M.pure, bindS, slots, finR, sizeLine_eq, l1, e, hx]
theorem box_kp (ns : List Int) (k : Nat) (S : Store) : ∃ c, F__law_box [.s ns, .p (.int k)] S = .ok (.o S.length) (S ++ [c]) ∧ Bx S.length (S ++ [c]) := by
  obtain ⟨b0, b1, e⟩ := box_ok ns k S
  exact ⟨_, e, b0, b1, by simp⟩
/-- all edges of so many functions -/
def allE (k : Nat) : Es := (List.range k).flatMap fun g => (List.range (k - (g + 1))).map fun f => ((g : Int), ((f + g + 1 : Nat) : Int))
theorem all_edges_ok (k : Nat) (hk : k = 1 ∨ k = 2 ∨ k = 3 ∨ k = 4 ∨ k = 5) (S : Store) : F__law_all_edges [.p (.int k)] S = .ok (.p (.list ((allE k).map edgeD))) S := by
  rcases hk with rfl | rfl | rfl | rfl | rfl
  · rfl
  · rfl
  · rfl
  · rfl
  · rfl
/-- what is drawn as calls -/
structure COk (k : Int) (E : Es) : Prop where
  k1 : 1 ≤ k
  k5 : k ≤ 5
  ed : ∀ g f, (g, f) ∈ E → 0 ≤ g ∧ g < f ∧ f < k
  up : E.Pairwise fun (a b : Int × Int) => DL.lexLt [a.1, a.2] [b.1, b.2] = true
  few : E.length ≤ 10
theorem allE_ok (k : Nat) (hk : k = 1 ∨ k = 2 ∨ k = 3 ∨ k = 4 ∨ k = 5) : (∀ e ∈ allE k, 0 ≤ e.1 ∧ e.1 < e.2 ∧ e.2 < (k : Int)) ∧ (allE k).Pairwise (fun (a b : Int × Int) => DL.lexLt [a.1, a.2] [b.1, b.2] = true) ∧ (allE k).length ≤ 10 := by
  rcases hk with rfl | rfl | rfl | rfl | rfl <;> decide +kernel
theorem sublist_map {E : Es} : ∀ {qs : List PyData} , qs.Sublist (E.map edgeD) → ∃ E' : Es, E'.Sublist E ∧ qs = E'.map edgeD := by
  intro qs h
  obtain ⟨l, h1, h2⟩ := List.sublist_map_iff.mp h
  exact ⟨l, h1, h2⟩
end LK

set_option Elab.async false
set_option linter.all false
set_option maxRecDepth 100000
set_option maxHeartbeats 400000
namespace LK
open PySem PySem.Spec L2 DL
theorem finR_nx {F : List D → M D} {g : Fs} {n m : Nat} {ds : List D} {S S1 : Store} {ρ' : Sl} (hF : F = bodyF n m g) (hn : ds.length = n) (h : g (slots m ds) S = .nx ρ' S1) : F ds S = .ok (.p .none) S1 := by
  subst hF
  unfold bodyF
  rw [if_pos hn, h]; rfl
/-! calls are made -/
def zipP (xs ys : List PyData) : List PyData := List.zipWith (fun a b => .tuple [a, b]) xs ys
theorem zip_nxt (xs ys : List PyData) (i : Nat) (S : Store) : (SrcV.zip (.p (.tuple xs)) (.p (.tuple ys))).nxt i S = some (((zipP xs ys).map D.p)[i]?) := by
  show (some (xs.map D.p)).bind (fun as => (some (ys.map D.p)).bind fun bs => zipAt as bs i) = _
  simp only [Option.bind_some]
  unfold zipAt zipP
  simp only [List.getElem?_map, List.getElem?_zipWith]
  cases hx : xs[i]? with
  | none => simp
  | some x =>
    cases hy : ys[i]? with
    | none => simp
    | some y => simp [pairUp]
theorem zip_count (xs ys : List PyData) (S : Store) : (SrcV.zip (.p (.tuple xs)) (.p (.tuple ys))).count S = (zipP xs ys).length := by
  show min (((some (xs.map D.p)).map List.length).getD 0) (((some (ys.map D.p)).map List.length).getD 0) = _
  simp [zipP]
theorem cut_rest {α : Type} (xs : List α) : cutL xs (some 1) none = xs.drop 1 := by
  have e : HT.sIx xs.length 0 (some 1) = min 1 xs.length := by
    simp only [HT.sIx]
    rw [if_neg (by omega)]
    rfl
  have e2 : HT.sIx xs.length xs.length none = xs.length := rfl
  unfold cutL
  rw [e, e2]
  cases xs with
  | nil => rfl
  | cons x xs =>
    have : min 1 (x :: xs).length = 1 := by simp
    rw [this]
    apply List.take_of_length_le
    simp
theorem bools_of (l : List PyData) (h : ∀ d ∈ l, d = .bool true) (S : Store) : fAll (.p (.list l)) S = .ok (.p (.bool true)) S := by
  have e : l = (l.map fun _ => true).map PyData.bool := by
    induction l with
    | nil => rfl
    | cons d l ih => rw [List.map_cons, List.map_cons, ← ih (fun d hd => h d (by simp [hd])), h d (by simp)]
  rw [e, all_bools]
  simp
theorem lt_edge (a b : Int × Int) (S : Store) : fLtD (.p (edgeD a)) (.p (edgeD b)) S = .ok (.p (.bool (DL.lexLt [a.1, a.2] [b.1, b.2]))) S := rfl
theorem pairwise_zip {R : Int × Int → Int × Int → Bool} : ∀ {E : Es}, E.Pairwise (fun a b => R a b = true) → ∀ d ∈ zipP (E.map edgeD) ((E.map edgeD).drop 1), ∃ a b, d = .tuple [edgeD a, edgeD b] ∧ R a b = true
  | [], _, d, hd => by simp [zipP] at hd
  | [a], _, d, hd => by simp [zipP] at hd
  | a :: b :: E, h, d, hd => by
    have hd : d ∈ (.tuple [edgeD a, edgeD b]) :: zipP ((b :: E).map edgeD) (((b :: E).map edgeD).drop 1) := hd
    have hp := List.pairwise_cons.mp h
    rcases List.mem_cons.mp hd with rfl | hd
    · exact ⟨a, b, rfl, hp.1 b (by simp)⟩
    · exact pairwise_zip hp.2 d hd
theorem asc_ok {E : Es} (h : E.Pairwise fun (a b : Int × Int) => DL.lexLt [a.1, a.2] [b.1, b.2] = true) (hl : E.length ≤ 10) (S : Store) : F_is_ascending [.p (.tuple (E.map edgeD))] S = .ok (.p (.bool true)) S := by
  have f1 : fSl (some 1) none (.p (.tuple (E.map edgeD))) S = .ok (.p (.tuple ((E.map edgeD).drop 1))) S := by
    show M.pure _ S = _
    rw [cut_rest]; rfl
  have hsrc : srcZip2 (eVar 0) (eSl (eVar 0) (oSome (eC (.int 1))) oNone) [some (.p (.tuple (E.map edgeD))), none, none] S = .ok (.zip (.p (.tuple (E.map edgeD))) (.p (.tuple ((E.map edgeD).drop 1)))) S := by
    generalize E.map edgeD = es at f1
    simp [srcZip2, eSl, oSome, asI, oNone, aCons, aNil, eVar, eC, M.bind, M.pure, f1, ofZip2, isTup, seqItems]
  have hlen : (zipP (E.map edgeD) ((E.map edgeD).drop 1)).length < 16777216 := by simp [zipP]; omega
  obtain ⟨qs, S', e, hq, rfl⟩ := comp_gen (vs := [1, 2]) (t := tTupT 2 (tsCons (tName 1) (tsCons (tName 2) tsNil))) (tb := fun _ => M.pure true) (el := eBin fLtD (eVar 1) (eVar 2)) hsrc _ (zip_count _ _ _) (zip_nxt _ _) hlen
    (fun _ acc T => (∀ d ∈ acc, d = .bool true) ∧ T = S) ⟨fun d hd => by (cases hd), rfl⟩
    (fun d rest acc T hd ⟨ha, hT⟩ => by
      subst hT
      obtain ⟨a, b, rfl, hr⟩ := pairwise_zip h d hd
      refine ⟨[some (.p (.tuple (E.map edgeD))), some (.p (edgeD a)), some (.p (edgeD b))], true, T, rfl, rfl, (fun h => by cases h), fun _ => ⟨.bool true, T, ?_, fun d hd => ?_, rfl⟩⟩
      · have := lt_edge a b T
        rw [hr] at this
        exact (bin_of (d := .p (edgeD a)) rfl rfl).trans this
      · rcases List.mem_append.mp hd with hd | hd
        · exact ha d hd
        · simpa using hd)
  refine finR_of (F := F_is_ascending) rfl rfl ?_
  exact sRet_of ((cb1 e).trans (bools_of qs hq _))
theorem upward_ok {k : Int} {e : Int × Int} (h : 0 ≤ e.1 ∧ e.1 < e.2 ∧ e.2 < k) (S : Store) : F_is_upward_pair [.p (.int k), .p (edgeD e)] S = .ok (.p (.bool true)) S := by
  obtain ⟨g, f⟩ := e
  dsimp only at h
  have t2 := is_pair_ok (edgeD (g, f)) rfl S
  have t2 : F_is_pair [.p (edgeD (g, f))] S = .ok (.p (.bool true)) S := t2
  have ix0 : fIx (.p (edgeD (g, f))) (.p (.int 0)) S = .ok (.p (.int g)) S := rfl
  have ix1 : fIx (.p (edgeD (g, f))) (.p (.int 1)) S = .ok (.p (.int f)) S := rfl
  have f0 := is_integer_in_ok (.int g) rfl 0 (k - 1) S
  have f1 := is_integer_in_ok (.int f) rfl 0 (k - 1) S
  have e0 : inRange 0 (k - 1) (.int g) = true := by simp [inRange]; omega
  have e1 : inRange 0 (k - 1) (.int f) = true := by simp [inRange]; omega
  rw [e0] at f0
  rw [e1] at f1
  have lt : g < f := h.2.1
  generalize edgeD (g, f) = d at *
  unfold F_is_upward_pair bodyF g_is_upward_pair
  simp [sSeq, thenS, sIf, sSet, sRet, sExpr, eT, asB, eIf, eAnd, eOr, eNot, eChain, onB, eBin, eUn, eVar, eC, eCB, on1, on2, aCons, aNil, eTup, eLst, eCell, kTup, kLst, kCell, asPs, bAnd, bOr, bNot, M.bind, M.pure, bindS, slots, finR, sizeLine_eq, t2, ix0, ix1, f0, f1, fLt, fI0, lt, fSub]
theorem are_edges_ok {k : Int} {E : Es} (h : COk k E) (S : Store) : F_are_upward_pairs [.p (.int k), .p (.tuple (E.map edgeD))] S = .ok (.p (.bool true)) S := by
  have i1 := isi_tup S (E.map edgeD)
  have as := asc_ok h.up h.few S
  have hsrc : srcSeq (eVar 1) [some (.p (.int k)), some (.p (.tuple (E.map edgeD))), none] S = .ok (.seq (.p (.tuple (E.map edgeD)))) S := srcSeq_tup rfl
  obtain ⟨qs, S', e, hq, rfl⟩ := comp_gen (vs := [2]) (t := tName 2) (tb := fun _ => M.pure true) (el := eCB F_is_upward_pair (aCons (eVar 0) (aCons (eVar 2) aNil))) hsrc _ (seq_tup_count _ _) (seq_tup_nxt _) (by rw [List.length_map]; have := h.few; omega)
    (fun _ acc T => (∀ d ∈ acc, d = .bool true) ∧ T = S) ⟨fun d hd => by (cases hd), rfl⟩
    (fun d rest acc T hd ⟨ha, hT⟩ => by
      subst hT
      obtain ⟨x, hx, rfl⟩ := List.mem_map.mp hd
      refine ⟨[some (.p (.int k)), some (.p (.tuple (E.map edgeD))), some (.p (edgeD x))], true, T, rfl, rfl, (fun h => by cases h), fun _ => ⟨.bool true, T, ?_, fun d hd => ?_, rfl⟩⟩
      · exact (cb2 (d := .p (.int k)) rfl rfl).trans (upward_ok (h.ed x.1 x.2 hx) T)
      · rcases List.mem_append.mp hd with hd | hd
        · exact ha d hd
        · simpa using hd)
  have al : eCB (on1 fAll) (aCons (eLc (srcSeq (eVar 1)) [2] (tName 2) (fun _ => M.pure true) (eCB F_is_upward_pair (aCons (eVar 0) (aCons (eVar 2) aNil)))) aNil) [some (.p (.int k)), some (.p (.tuple (E.map edgeD))), none] S' = .ok (.p (.bool true)) S' := (cb1 e).trans (bools_of qs hq _)
  refine finR_of (F := F_are_upward_pairs) rfl rfl ?_
  refine sRet_of (d := .p (.bool true)) (S1 := S') ?_
  generalize hB : eCB (on1 fAll) (aCons (eLc (srcSeq (eVar 1)) [2] (tName 2) (fun _ => M.pure true) (eCB F_is_upward_pair (aCons (eVar 0) (aCons (eVar 2) aNil)))) aNil) = B at al
  generalize E.map edgeD = es at *
  show eAnd (eUn (fIsi "tuple") (eVar 1)) (eAnd _ (eCB F_is_ascending (aCons (eVar 1) aNil))) [some (.p (.int k)), some (.p (.tuple es)), none] S' = _
  simp [sSeq, thenS, sIf, sSet, sRet, sExpr, eT, asB, eIf, eAnd, eOr, eNot, eChain, onB, eBin, eUn, eVar, eC, eCB, on1, on2, aCons, aNil, eTup, eLst, eCell, kTup, kLst, kCell, asPs, bAnd, bOr, bNot, M.bind, M.pure, bindS, slots, finR, sizeLine_eq, i1, al, as]
theorem ints_ok {E : Es} (S : Store) (o : D) (k : Int) (hl : E.length ≤ 10) : eLc (srcSeq (eVar 2)) [3, 4] (tTupT 2 (tsCons (tName 3) (tsCons (tName 4) tsNil))) (fun _ => M.pure true) (eTup (aCons (eCB (on1 fInt) (aCons (eVar 3) aNil)) (aCons (eCB (on1 fInt) (aCons (eVar 4) aNil)) aNil)))
    [some o, some (.p (.int k)), some (.p (.tuple (E.map edgeD))), none, none] S = .ok (.p (.list (E.map edgeD))) S := by
  have hsrc : srcSeq (eVar 2) [some o, some (.p (.int k)), some (.p (.tuple (E.map edgeD))), none, none] S = .ok (.seq (.p (.tuple (E.map edgeD)))) S := srcSeq_tup rfl
  obtain ⟨qs, S', e, hq, rfl⟩ := comp_gen (vs := [3, 4]) (t := tTupT 2 (tsCons (tName 3) (tsCons (tName 4) tsNil))) (tb := fun _ => M.pure true) (el := eTup (aCons (eCB (on1 fInt) (aCons (eVar 3) aNil)) (aCons (eCB (on1 fInt) (aCons (eVar 4) aNil)) aNil))) hsrc _ (seq_tup_count _ _) (seq_tup_nxt _) (by rw [List.length_map]; omega)
    (fun rest acc T => acc ++ rest = E.map edgeD ∧ T = S) ⟨rfl, rfl⟩
    (fun d rest acc T hd ⟨ha, hT⟩ => by
      subst hT
      obtain ⟨x, hx, rfl⟩ := List.mem_map.mp hd
      refine ⟨[some o, some (.p (.int k)), some (.p (.tuple (E.map edgeD))), some (.p (.int x.1)), some (.p (.int x.2))], true, T, rfl, rfl, (fun h => by cases h), fun _ => ⟨edgeD x, T, ?_, by simpa using ha, rfl⟩⟩
      exact tup2 ((cb1 (d := .p (.int x.1)) rfl).trans rfl) ((cb1 (d := .p (.int x.2)) rfl).trans rfl))
  rw [List.append_nil] at hq
  rw [← hq]
  rw [← hq] at e
  exact e
end LK

set_option Elab.async false
set_option linter.all false
set_option maxRecDepth 100000
set_option maxHeartbeats 400000
namespace LK
open PySem PySem.Spec L2 DL
/-! values changed at one place -/
theorem strOk_iff {x : Str} : PyData.strOk x = true ↔ ∀ c ∈ x.cps.toList, c < 0x110000 := by
  unfold PyData.strOk
  rw [← Array.all_toList, List.all_eq_true]
  constructor
  · intro h c hc; have := h c hc; simpa using this
  · intro h c hc; have := h c hc; simpa using this
theorem strOk_app {x y : Str} (hx : PyData.strOk x = true) (hy : PyData.strOk y = true) : PyData.strOk (x ++ y) = true := by
  rw [strOk_iff] at *
  intro c hc
  have e : (x ++ y).cps = x.cps ++ y.cps := rfl
  rw [e, Array.toList_append] at hc
  rcases List.mem_append.mp hc with h | h
  · exact hx c h
  · exact hy c h
theorem strOk_str (s : String) : PyData.strOk (Str.ofString s) = true := by
  rw [strOk_iff, Str.ofString_eq_toList]
  intro c hc
  simp only [List.mem_map] at hc
  obtain ⟨ch, _, rfl⟩ := hc
  have := ch.valid
  have h : ch.toNat.isValidChar := ch.valid
  unfold Nat.isValidChar at h
  omega
theorem strOk_cut {x : Str} (lo hi : Option Int) (hx : PyData.strOk x = true) : PyData.strOk (cutS x lo hi) = true := by
  rw [strOk_iff] at *
  intro c hc
  apply hx
  unfold cutS at hc
  first
    | exact List.mem_of_mem_drop (List.mem_of_mem_take (by simpa using hc))
    | (simp at hc; exact List.mem_of_mem_drop (List.mem_of_mem_take hc))
mutual
/-- small data -/
def gd : PyData → Bool
  | .int i => decide (i.natAbs < 2 ^ 60)
  | .str x => PyData.strOk x && decide (x.length ≤ 1000)
  | .tuple ds => gdL ds
  | .list ds => gdL ds
  | .none => true
  | .bool _ => true
  | .dict _ => false
def gdL : List PyData → Bool
  | [] => true
  | d :: ds => gd d && gdL ds
end
theorem gdL_mem {ds : List PyData} (h : gdL ds = true) : ∀ d ∈ ds, gd d = true := by
  induction ds with
  | nil => intro d hd; cases hd
  | cons e es ih =>
    simp only [gdL, Bool.and_eq_true] at h
    intro d hd
    rcases List.mem_cons.mp hd with rfl | hd
    · exact h.1
    · exact ih h.2 d hd
def inN : PyData → Nat
  | .tuple es => (es.filter isIn).length
  | _ => 0
structure SpR (v r : PyData) : Prop where
  lay : lay r
  dep : PyData.depth r ≤ PyData.depth v + 1
  nd : nd r ≤ 2 * nd v + 20
  ins : inN r ≤ inN v + 1
theorem lay_tupI {ds : List PyData} (h : ∀ d ∈ ds, lay d) : lay (.tuple ds) := by
  show PyData.canLay0 (.tuple ds) = true
  rw [PyData.canLay0]
  induction ds with
  | nil => rfl
  | cons d ds ih =>
    rw [PyData.canLayAll0, ih (fun x hx => h x (by simp [hx]))]
    have := h d (by simp)
    unfold LK.lay at this
    rw [this]; rfl
theorem lay_lstI {ds : List PyData} (h : ∀ d ∈ ds, lay d) : lay (.list ds) := by
  have := lay_tupI h
  unfold LK.lay at *
  rw [PyData.canLay0] at *
  exact this
theorem depthAll_le {ds : List PyData} {m : Nat} (h : ∀ d ∈ ds, PyData.depth d ≤ m) : PyData.depthAll ds ≤ m := by
  induction ds with
  | nil => simp [PyData.depthAll]
  | cons d ds ih =>
    have h1 := h d (by simp)
    have h2 := ih (fun x hx => h x (by simp [hx]))
    rw [PyData.depthAll]; omega
theorem dep_tup {ds : List PyData} : PyData.depth (.tuple ds) = PyData.depthAll ds + 1 := by rw [PyData.depth]
theorem dep_lst {ds : List PyData} : PyData.depth (.list ds) = PyData.depthAll ds + 1 := by rw [PyData.depth]
/-- a tuple made of the members of another, and of one more -/
theorem SpR.tup {es ys : List PyData} (hl : ∀ d ∈ ys, LK.lay d) (hd : ∀ d ∈ ys, PyData.depth d ≤ PyData.depthAll es + 1) (hn : ndL ys ≤ 2 * ndL es + 20) (hi : (ys.filter isIn).length ≤ (es.filter isIn).length + 1) : SpR (.tuple es) (.tuple ys) := by
  refine ⟨lay_tupI hl, ?_, ?_, hi⟩
  · rw [dep_tup, dep_tup]
    have := depthAll_le hd
    omega
  · simp [LK.nd]; omega
theorem ndL_mem {ds : List PyData} {d : PyData} (h : d ∈ ds) : nd d ≤ ndL ds := by
  induction ds with
  | nil => cases h
  | cons e es ih =>
    rcases List.mem_cons.mp h with rfl | h
    · simp [ndL]
    · have := ih h; simp [ndL]; omega
/-- for a way that keeps members: sums over what stands ahead and behind -/
theorem cntI_append (a b : List PyData) : ((a ++ b).filter isIn).length = (a.filter isIn).length + (b.filter isIn).length := by simp
theorem cntI_cons (d : PyData) (b : List PyData) : ((d :: b).filter isIn).length ≤ (b.filter isIn).length + 1 := by
  by_cases h : isIn d = true
  · rw [List.filter_cons_of_pos h]; simp
  · rw [List.filter_cons_of_neg h]; omega
theorem cut_to {α : Type} (xs : List α) (k : Nat) : cutL xs none (some (k : Int)) = xs.take k := by
  have e : HT.sIx xs.length xs.length (some (k : Int)) = min k xs.length := HT.sIx_nat _ _ _
  have e2 : HT.sIx xs.length 0 none = 0 := rfl
  unfold cutL
  rw [e, e2, List.drop_zero, Nat.sub_zero]
  rcases Nat.le_total k xs.length with h | h
  · rw [Nat.min_eq_left h]
  · rw [Nat.min_eq_right h, List.take_of_length_le (Nat.le_refl _), List.take_of_length_le h]
theorem cut_from {α : Type} (xs : List α) (k : Nat) : cutL xs (some (k : Int)) none = xs.drop k := by
  have e : HT.sIx xs.length 0 (some (k : Int)) = min k xs.length := HT.sIx_nat _ _ _
  have e2 : HT.sIx xs.length xs.length none = xs.length := rfl
  unfold cutL
  rw [e, e2]
  rcases Nat.le_total k xs.length with h | h
  · rw [Nat.min_eq_left h]
    apply List.take_of_length_le; simp
  · rw [Nat.min_eq_right h]
    simp [List.drop_eq_nil_of_le h]
theorem cut_one {α : Type} (xs : List α) (k : Nat) : cutL xs (some (k : Int)) (some ((k : Int) + 1)) = (xs.drop k).take 1 := by
  have e : HT.sIx xs.length 0 (some (k : Int)) = min k xs.length := HT.sIx_nat _ _ _
  have e2 : HT.sIx xs.length xs.length (some ((k : Int) + 1)) = min (k + 1) xs.length := HT.sIx_nat _ _ (k + 1)
  unfold cutL
  rw [e, e2]
  rcases Nat.lt_or_ge k xs.length with h | h
  · rw [Nat.min_eq_left (by omega), Nat.min_eq_left (by omega)]
    congr 1; omega
  · rw [Nat.min_eq_right h, Nat.min_eq_right (by omega)]
    simp [List.drop_eq_nil_of_le h]
theorem cut_but {α : Type} (xs : List α) : cutL xs none (some (-1)) = xs.take (xs.length - 1) := by
  have e : HT.sIx xs.length xs.length (some (-1)) = xs.length - 1 := by
    simp only [HT.sIx]
    rw [if_pos (by omega)]
    omega
  have e2 : HT.sIx xs.length 0 none = 0 := rfl
  unfold cutL
  rw [e, e2]; simp
theorem split3 (es : List PyData) (a : Nat) (h : a < es.length) : es = es.take a ++ es[a] :: es.drop (a + 1) := by
  rw [← List.drop_eq_getElem_cons h, List.take_append_drop]
end LK

set_option Elab.async false
set_option linter.all false
set_option maxRecDepth 100000
set_option maxHeartbeats 1000000
namespace LK
open PySem PySem.Spec L2 DL
theorem sl_of {X : Fe} {fo go : Fo} {ρ : Sl} {S : Store} {d : D} {l h : Option Int} (hX : X ρ S = .ok d S) (hl : fo ρ S = .ok l S) (hh : go ρ S = .ok h S) : eSl X fo go ρ S = fSl l h d S := by
  unfold eSl M.bind; simp only [hX, hl, hh]
theorem oS_of {X : Fe} {ρ : Sl} {S : Store} {i : Int} (h : X ρ S = .ok (.p (.int i)) S) : oSome X ρ S = .ok (some i) S := by
  unfold oSome M.bind; rw [h]; rfl
theorem addT {xs ys : List PyData} (S : Store) (h : xs.length + ys.length ≤ 16777216) : fAdd (.p (.tuple xs)) (.p (.tuple ys)) S = .ok (.p (.tuple (xs ++ ys))) S := by
  show (if _ then _ else _) = _
  rw [if_pos (by rw [sizeLine_eq]; exact h)]
theorem addS {x y : Str} (S : Store) (h : x.length + y.length ≤ 16777216) : fAdd (.p (.str x)) (.p (.str y)) S = .ok (.p (.str (x ++ y))) S := by
  show (if _ then _ else _) = _
  rw [if_pos (by rw [sizeLine_eq]; exact h)]
section
variable {b : Nat} {es : List PyData} {deep : Int} {a : Nat} {h : Int} {S : Store}
abbrev rhoO (b : Nat) (es : List PyData) (deep : Int) (a : Nat) (x4 : Option D) : Sl := [some (.o b), some (.p (.tuple es)), some (.p (.int deep)), some (.p (.int a)), x4]
abbrev rhoT (b : Nat) (es : List PyData) (deep : Int) (a : Nat) (h : Int) : Sl := [some (.o b), some (.p (.tuple es)), some (.p (.int deep)), some (.p (.int a)), some (.p (.int h))]
theorem how_ne {j : Int} (hj : h ≠ j) : eT (eBin (fEq false) (eVar 4) (eC (.int j))) (rhoT b es deep a h) S = .ok false S := by
  have := eqInt S h j
  rw [decide_eq_false hj] at this
  exact eT_of ((bin_of (d := .p (.int h)) rfl rfl).trans this)
theorem how_eq {j : Int} (hj : h = j) : eT (eBin (fEq false) (eVar 4) (eC (.int j))) (rhoT b es deep a h) S = .ok true S := by
  have := eqInt S h j
  rw [decide_eq_true hj] at this
  exact eT_of ((bin_of (d := .p (.int h)) rfl rfl).trans this)
theorem up_a {x4 : Option D} : eSl (eVar 1) oNone (oSome (eVar 3)) (rhoO b es deep a x4) S = .ok (.p (.tuple (es.take a))) S := by
  rw [sl_of (d := .p (.tuple es)) (l := none) (h := some (a : Int)) rfl rfl (oS_of rfl)]
  show M.pure _ S = _
  rw [cut_to]; rfl
theorem from_a : eSl (eVar 1) (oSome (eVar 3)) oNone (rhoT b es deep a h) S = .ok (.p (.tuple (es.drop a))) S := by
  rw [sl_of (d := .p (.tuple es)) (l := some (a : Int)) (h := none) rfl (oS_of rfl) rfl]
  show M.pure _ S = _
  rw [cut_from]; rfl
theorem from_a1 {x4 : Option D} : eSl (eVar 1) (oSome (eBin fAdd (eVar 3) (eC (.int 1)))) oNone (rhoO b es deep a x4) S = .ok (.p (.tuple (es.drop (a + 1)))) S := by
  rw [sl_of (d := .p (.tuple es)) (l := some ((a : Int) + 1)) (h := none) rfl (oS_of ((bin_of (d := .p (.int a)) rfl rfl).trans rfl)) rfl]
  show M.pure _ S = _
  have := cut_from es (a + 1)
  push_cast at this
  rw [this]; rfl
theorem at_a : eSl (eVar 1) (oSome (eVar 3)) (oSome (eBin fAdd (eVar 3) (eC (.int 1)))) (rhoT b es deep a h) S = .ok (.p (.tuple ((es.drop a).take 1))) S := by
  rw [sl_of (d := .p (.tuple es)) (l := some (a : Int)) (h := some ((a : Int) + 1)) rfl (oS_of rfl) (oS_of ((bin_of (d := .p (.int a)) rfl rfl).trans rfl))]
  show M.pure _ S = _
  rw [cut_one]; rfl
theorem but_last : eSl (eVar 1) oNone (oSome (eUn fNeg (eC (.int 1)))) (rhoT b es deep a h) S = .ok (.p (.tuple (es.take (es.length - 1)))) S := by
  rw [sl_of (d := .p (.tuple es)) (l := none) (h := some (-1)) rfl rfl (oS_of (neg1 _ _))]
  show M.pure _ S = _
  rw [cut_but]; rfl
theorem one_first : eSl (eVar 1) oNone (oSome (eC (.int 1))) (rhoT b es deep a h) S = .ok (.p (.tuple (es.take 1))) S := by
  rw [sl_of (d := .p (.tuple es)) (l := none) (h := some 1) rfl rfl (oS_of rfl)]
  show M.pure _ S = _
  rw [cut_first]; rfl
end
theorem ndL_td (es : List PyData) (a : Nat) : ndL (es.take a) + ndL (es.drop a) = ndL es := by
  rw [← ndL_append, List.take_append_drop]
theorem cnt_td (es : List PyData) (a : Nat) : ((es.take a).filter isIn).length + ((es.drop a).filter isIn).length = (es.filter isIn).length := by
  rw [← cntI_append, List.take_append_drop]
/-- a tuple is changed, not within -/
theorem spoilt_how {b : Nat} {es : List PyData} {deep : Int} {a : Nat} {h : Int} {S : Store} (hl : ∀ d ∈ es, lay d) (hz : ndL es ≤ 1000000) (h0 : 0 ≤ h) (h7 : h < 8) :
    ∃ r, sSeq (sIf (eT (eBin (fEq false) (eVar 4) (eC (.int 0)))) (sRet (eCB (on1 fList) (aCons (eVar 1) aNil))) sNil) (sSeq (sIf (eT (eBin (fEq false) (eVar 4) (eC (.int 1)))) (sRet (eBin fAdd (eSl (eVar 1) oNone (oSome (eVar 3))) (eSl (eVar 1) (oSome (eBin fAdd (eVar 3) (eC (.int 1)))) oNone))) sNil) (sSeq (sIf (eT (eBin (fEq false) (eVar 4) (eC (.int 2)))) (sRet (eBin fAdd (eBin fAdd (eSl (eVar 1) oNone (oSome (eVar 3))) (eSl (eVar 1) (oSome (eVar 3)) (oSome (eBin fAdd (eVar 3) (eC (.int 1)))))) (eSl (eVar 1) (oSome (eVar 3)) oNone))) sNil) (sSeq (sIf (eT (eBin (fEq false) (eVar 4) (eC (.int 3)))) (sRet (eBin fAdd (eSl (eVar 1) (oSome (eVar 3)) oNone) (eSl (eVar 1) oNone (oSome (eVar 3))))) sNil) (sSeq (sIf (eT (eBin (fEq false) (eVar 4) (eC (.int 4)))) (sRet (eBin fAdd (eVar 1) (eTup (aCons (eTup aNil) aNil)))) sNil) (sSeq (sIf (eT (eBin (fEq false) (eVar 4) (eC (.int 5)))) (sRet (eBin fAdd (eBin fAdd (eSl (eVar 1) oNone (oSome (eVar 3))) (eTup (aCons (eC (.int 0)) aNil))) (eSl (eVar 1) (oSome (eVar 3)) oNone))) sNil) (sSeq (sIf (eT (eBin (fEq false) (eVar 4) (eC (.int 6)))) (sRet (eBin fAdd (eSl (eVar 1) oNone (oSome (eUn fNeg (eC (.int 1))))) (eSl (eVar 1) oNone (oSome (eC (.int 1)))))) sNil) (sRet (eC .none))))))))
      (rhoT b es deep a h) S = .rt (.p r) S ∧ SpR (.tuple es) r := by
  have hlen : es.length ≤ 1000000 := Nat.le_trans (len_ndL es) hz
  have ltk : ∀ k, (es.take k).length ≤ es.length := fun k => by rw [List.length_take]; omega
  have ldr : ∀ k, (es.drop k).length ≤ es.length := fun k => by rw [List.length_drop]; omega
  have lt1 : ∀ l : List PyData, (l.take 1).length ≤ 1 := fun l => by rw [List.length_take]; omega
  have mt : ∀ k d, d ∈ es.take k → d ∈ es := fun k d hd => List.mem_of_mem_take hd
  have md : ∀ k d, d ∈ es.drop k → d ∈ es := fun k d hd => List.mem_of_mem_drop hd
  have dm : ∀ d, d ∈ es → PyData.depth d ≤ PyData.depthAll es + 1 := fun d hd => by have := depthAll_mem hd; omega
  have s1 := ndL_td es a
  have c1 := cnt_td es a
  have fin : ∀ ys : List PyData, (∀ d ∈ ys, d ∈ es ∨ d = .tuple [] ∨ d = .int 0) → ndL ys ≤ 2 * ndL es + 20 → (ys.filter isIn).length ≤ (es.filter isIn).length + 1 → SpR (.tuple es) (.tuple ys) := fun ys hm hn hi => by
    refine SpR.tup (fun d hd => ?_) (fun d hd => ?_) hn hi
    · rcases hm d hd with h | rfl | rfl
      · exact hl d h
      · rfl
      · rfl
    · rcases hm d hd with h | rfl | rfl
      · exact dm d h
      · simp [PyData.depth, PyData.depthAll]
      · simp [PyData.depth]
  have t1n : ∀ l : List PyData, ndL (l.take 1) ≤ ndL l := fun l => by have := ndL_td l 1; omega
  have t1c : ∀ l : List PyData, ((l.take 1).filter isIn).length ≤ 1 := fun l => Nat.le_trans (List.length_filter_le _ _) (lt1 l)
  have cases8 : h = 0 ∨ h = 1 ∨ h = 2 ∨ h = 3 ∨ h = 4 ∨ h = 5 ∨ h = 6 ∨ h = 7 := by omega
  rcases cases8 with e | e | e | e | e | e | e | e
  · refine ⟨.list es, ?_, ⟨lay_lstI hl, by rw [dep_lst, dep_tup]; omega, by simp [LK.nd]; omega, by simp [inN]⟩⟩
    rw [stpr ((sIf_t (how_eq e)).trans (sRet_of ((cb1 (d := .p (.tuple es)) rfl).trans rfl)))]
  · refine ⟨.tuple (es.take a ++ es.drop (a + 1)), ?_, fin _ (fun d hd => ?_) ?_ ?_⟩
    · rw [stIf_f (how_ne (by omega)), stpr ((sIf_t (how_eq e)).trans (sRet_of ((bin_of up_a from_a1).trans (addT _ (by have := ltk a; have := ldr (a + 1); omega)))))]
    · rcases List.mem_append.mp hd with h | h
      · exact .inl (mt _ _ h)
      · exact .inl (md _ _ h)
    · have := ndL_td (es.drop a) 1
      rw [List.drop_drop] at this
      rw [ndL_append]; omega
    · have := cnt_td (es.drop a) 1
      rw [List.drop_drop] at this
      rw [cntI_append]; omega
  · refine ⟨.tuple (es.take a ++ (es.drop a).take 1 ++ es.drop a), ?_, fin _ (fun d hd => ?_) ?_ ?_⟩
    · rw [stIf_f (how_ne (by omega)), stIf_f (how_ne (by omega)), stpr ((sIf_t (how_eq e)).trans (sRet_of ((bin_of ((bin_of up_a at_a).trans (addT _ (by have := ltk a; have := lt1 (es.drop a); omega))) from_a).trans (addT _ (by rw [List.length_append]; have := ltk a; have := lt1 (es.drop a); have := ldr a; omega)))))]
    · rcases List.mem_append.mp hd with h | h
      · rcases List.mem_append.mp h with h | h
        · exact .inl (mt _ _ h)
        · exact .inl (md _ _ (List.mem_of_mem_take h))
      · exact .inl (md _ _ h)
    · have := t1n (es.drop a)
      rw [ndL_append, ndL_append]; omega
    · have := t1c (es.drop a)
      rw [cntI_append, cntI_append]; omega
  · refine ⟨.tuple (es.drop a ++ es.take a), ?_, fin _ (fun d hd => ?_) ?_ ?_⟩
    · rw [stIf_f (how_ne (by omega)), stIf_f (how_ne (by omega)), stIf_f (how_ne (by omega)), stpr ((sIf_t (how_eq e)).trans (sRet_of ((bin_of from_a up_a).trans (addT _ (by have := ltk a; have := ldr a; omega)))))]
    · rcases List.mem_append.mp hd with h | h
      · exact .inl (md _ _ h)
      · exact .inl (mt _ _ h)
    · rw [ndL_append]; omega
    · rw [cntI_append]; omega
  · refine ⟨.tuple (es ++ [.tuple []]), ?_, fin _ (fun d hd => ?_) ?_ ?_⟩
    · rw [stIf_f (how_ne (by omega)), stIf_f (how_ne (by omega)), stIf_f (how_ne (by omega)), stIf_f (how_ne (by omega)), stpr ((sIf_t (how_eq e)).trans (sRet_of ((bin_of (d := .p (.tuple es)) (S1 := S) rfl (tup1 (a := .tuple []) (S1 := S) (by simp [sSeq, thenS, sIf, sSet, sRet, sExpr, eT, asB, eIf, eAnd, eOr, eNot, eChain, onB, eBin, eUn, eVar, eC, eCB, on1, on2, aCons, aNil, eTup, eLst, eCell, kTup, kLst, kCell, asPs, bAnd, bOr, bNot, M.bind, M.pure, bindS, slots, finR, sizeLine_eq]))).trans (addT _ (by simp; omega)))))]
    · rcases List.mem_append.mp hd with h | h
      · exact .inl h
      · exact .inr (.inl (by simpa using h))
    · rw [ndL_append]; simp [ndL, nd]; omega
    · rw [cntI_append]; have := cntI_cons (.tuple []) []; simp at this ⊢; omega
  · refine ⟨.tuple (es.take a ++ [.int 0] ++ es.drop a), ?_, fin _ (fun d hd => ?_) ?_ ?_⟩
    · rw [stIf_f (how_ne (by omega)), stIf_f (how_ne (by omega)), stIf_f (how_ne (by omega)), stIf_f (how_ne (by omega)), stIf_f (how_ne (by omega)), stpr ((sIf_t (how_eq e)).trans (sRet_of ((bin_of ((bin_of up_a (tup1 (a := .int 0) (S1 := S) rfl)).trans (addT _ (by have := ltk a; simp; omega))) from_a).trans (addT _ (by rw [List.length_append]; have := ltk a; have := ldr a; simp; omega)))))]
    · rcases List.mem_append.mp hd with h | h
      · rcases List.mem_append.mp h with h | h
        · exact .inl (mt _ _ h)
        · exact .inr (.inr (by simpa using h))
      · exact .inl (md _ _ h)
    · rw [ndL_append, ndL_append]; simp [ndL, nd]; omega
    · rw [cntI_append, cntI_append]; have := cntI_cons (.int 0) []; simp at this ⊢; omega
  · refine ⟨.tuple (es.take (es.length - 1) ++ es.take 1), ?_, fin _ (fun d hd => ?_) ?_ ?_⟩
    · rw [stIf_f (how_ne (by omega)), stIf_f (how_ne (by omega)), stIf_f (how_ne (by omega)), stIf_f (how_ne (by omega)), stIf_f (how_ne (by omega)), stIf_f (how_ne (by omega)), stpr ((sIf_t (how_eq e)).trans (sRet_of ((bin_of but_last one_first).trans (addT _ (by have := ltk (es.length - 1); have := lt1 es; omega)))))]
    · rcases List.mem_append.mp hd with h | h
      · exact .inl (mt _ _ h)
      · exact .inl (mt _ _ h)
    · have := ndL_td es (es.length - 1)
      have := t1n es
      rw [ndL_append]; omega
    · have := cnt_td es (es.length - 1)
      have := t1c es
      rw [cntI_append]; omega
  · refine ⟨.none, ?_, ⟨rfl, by rw [dep_tup]; simp [PyData.depth], by simp [LK.nd], by simp [inN]⟩⟩
    rw [stIf_f (how_ne (by omega)), stIf_f (how_ne (by omega)), stIf_f (how_ne (by omega)), stIf_f (how_ne (by omega)), stIf_f (how_ne (by omega)), stIf_f (how_ne (by omega)), stIf_f (how_ne (by omega))]
    exact sRet_of rfl
end LK

set_option Elab.async false
set_option linter.all false
set_option maxRecDepth 100000
set_option maxHeartbeats 1000000
namespace LK
open PySem PySem.Spec L2 DL
theorem neTup0 (S : Store) (ds : List PyData) (h : shp (.tuple ds)) : fEq true (.p (.tuple ds)) (.p (.tuple [])) S = .ok (.p (.bool (!ds.isEmpty))) S := by
  have h2 : SeqAt.shaped (.tuple []) = true := rfl
  have e : PyData.eqv (.tuple ds) (.tuple []) = ds.isEmpty := by cases ds <;> simp [PyData.eqv, PyData.eqvAll]
  have h : SeqAt.shaped (.tuple ds) = true := h
  simp [fEq, toPy, h, h2, e]
theorem fix_tup {ds : List PyData} {k : Nat} (h : k < ds.length) (S : Store) : fIx (.p (.tuple ds)) (.p (.int k)) S = .ok (.p ds[k]) S := by
  show ofO S ((atI ds k).map D.p) = _
  unfold atI
  rw [ixN_nat h]
  simp [h, ofO]
theorem len_b : (Str.ofString "b").length = 1 := by decide +kernel
theorem len_a : (Str.ofString "a").length = 1 := by decide +kernel
theorem pick_sp {S : Store} {b : Nat} {v : PyData} {X : Fe} {ρ : Sl} {ds : List PyData} (hb : Bx b S) (h0 : eVar 0 ρ S = .ok (.o b) S) (hX : X ρ S = .ok (.p (.list ds)) S) (hn : ds ≠ []) (hl : ds.length < 10 ^ 9) (hd : ∀ d ∈ ds, SpR v d) :
    ∃ r S', sRet (eCB F__law_pick (aCons (eVar 0) (aCons X aNil))) ρ S = .rt (.p r) S' ∧ SpR v r ∧ Kp b S S' ∧ S'.length = S.length := by
  obtain ⟨d, S', e, h1, h2, h3⟩ := pick_kp hb ds hn hl
  exact ⟨d, S', sRet_of ((cb2 h0 hX).trans e), hd d h1, h2, h3⟩
theorem spoilt_ok {b : Nat} : ∀ (n : Nat) (deep : Int) (v : PyData) (S : Store), 0 ≤ deep → deep < n → gd v = true → shp v → nd v ≤ 1000000 → Bx b S →
    ∃ r S', F__law_spoilt n [.o b, .p v, .p (.int deep)] S = .ok (.p r) S' ∧ SpR v r ∧ Kp b S S' ∧ S'.length = S.length
  | 0, deep, v, S, h0, h1, _, _, _, _ => absurd h1 (by omega)
  | n + 1, deep, v, S, h0, h1, hg, hs, hz, hb => by
    have hn := lay_noDict (shp_lay hs)
    have it := isi_tupD S v hn
    suffices hh : ∃ r S', g__law_spoilt (F__law_spoilt n) [some (.o b), some (.p v), some (.p (.int deep)), none, none] S = .rt (.p r) S' ∧ SpR v r ∧ Kp b S S' ∧ S'.length = S.length by
      obtain ⟨r, S', e, h2, h3, h4⟩ := hh
      exact ⟨r, S', finR_of (F := F__law_spoilt (n + 1)) rfl rfl e, h2, h3, h4⟩
    unfold g__law_spoilt
    by_cases ht : ∃ es, v = .tuple es
    · obtain ⟨es, rfl⟩ := ht
      have it : fIsi "tuple" (.p (.tuple es)) S = .ok (.p (.bool true)) S := it
      have hl : ∀ d ∈ es, lay d := lay_tup (shp_lay hs)
      have hze : ndL es ≤ 1000000 := by simp [nd] at hz; omega
      have hlen : es.length ≤ 1000000 := Nat.le_trans (len_ndL es) hze
      obtain ⟨got, S1, e1, g0, g1, k1, l1⟩ := take_kp hb ((es.length : Int) + 1) (by omega) (by omega)
      obtain ⟨a, rfl⟩ : ∃ a : Nat, got = a := ⟨got.toNat, by omega⟩
      have q1 : sSet 3 (eCB F__law_take (aCons (eVar 0) (aCons (eBin fAdd (eCB (on1 fLen) (aCons (eVar 1) aNil)) (eC (.int 1))) aNil))) [some (.o b), some (.p (.tuple es)), some (.p (.int deep)), none, none] S = .nx (rhoO b es deep a none) S1 :=
        sSet_of ((cb2 (d := .o b) (e := .p (.int ((es.length : Int) + 1))) rfl ((bin_of ((cb1 (d := .p (.tuple es)) rfl).trans rfl) rfl).trans rfl)).trans e1)
      -- the part behind
      have tail : ∀ (S2 : Store), Kp b S S2 → S2.length = S.length → ∃ r S', sSeq (sSet 4 (eCB F__law_take (aCons (eVar 0) (aCons (eC (.int 8)) aNil)))) (sSeq (sIf (eT (eBin (fEq false) (eVar 4) (eC (.int 0)))) (sRet (eCB (on1 fList) (aCons (eVar 1) aNil))) sNil) (sSeq (sIf (eT (eBin (fEq false) (eVar 4) (eC (.int 1)))) (sRet (eBin fAdd (eSl (eVar 1) oNone (oSome (eVar 3))) (eSl (eVar 1) (oSome (eBin fAdd (eVar 3) (eC (.int 1)))) oNone))) sNil) (sSeq (sIf (eT (eBin (fEq false) (eVar 4) (eC (.int 2)))) (sRet (eBin fAdd (eBin fAdd (eSl (eVar 1) oNone (oSome (eVar 3))) (eSl (eVar 1) (oSome (eVar 3)) (oSome (eBin fAdd (eVar 3) (eC (.int 1)))))) (eSl (eVar 1) (oSome (eVar 3)) oNone))) sNil) (sSeq (sIf (eT (eBin (fEq false) (eVar 4) (eC (.int 3)))) (sRet (eBin fAdd (eSl (eVar 1) (oSome (eVar 3)) oNone) (eSl (eVar 1) oNone (oSome (eVar 3))))) sNil) (sSeq (sIf (eT (eBin (fEq false) (eVar 4) (eC (.int 4)))) (sRet (eBin fAdd (eVar 1) (eTup (aCons (eTup aNil) aNil)))) sNil) (sSeq (sIf (eT (eBin (fEq false) (eVar 4) (eC (.int 5)))) (sRet (eBin fAdd (eBin fAdd (eSl (eVar 1) oNone (oSome (eVar 3))) (eTup (aCons (eC (.int 0)) aNil))) (eSl (eVar 1) (oSome (eVar 3)) oNone))) sNil) (sSeq (sIf (eT (eBin (fEq false) (eVar 4) (eC (.int 6)))) (sRet (eBin fAdd (eSl (eVar 1) oNone (oSome (eUn fNeg (eC (.int 1))))) (eSl (eVar 1) oNone (oSome (eC (.int 1)))))) sNil) (sRet (eC .none)))))))))
          (rhoO b es deep a none) S2 = .rt (.p r) S' ∧ SpR (.tuple es) r ∧ Kp b S S' ∧ S'.length = S.length := by
        intro S2 hk hls
        obtain ⟨h, S3, e3, q0, q8, k3, l3⟩ := take_kp hk.box 8 (by omega) (by omega)
        obtain ⟨r, er, hr⟩ := spoilt_how (b := b) (deep := deep) (a := a) (S := S3) hl hze q0 q8
        refine ⟨r, S3, ?_, hr, hk.trans k3, by omega⟩
        exact (stSet ((cb2 (d := .o b) rfl rfl).trans e3)).trans er
      have ne := neTup0 S1 es hs
      have outer : ∀ {r : D} {S' : Store} {u w : Fs}, u [some (.o b), some (.p (.tuple es)), some (.p (.int deep)), none, none] S = .rt r S' → sSeq (sIf (eT (eUn (fIsi "tuple") (eVar 1))) u sNil) w [some (.o b), some (.p (.tuple es)), some (.p (.int deep)), none, none] S = .rt r S' := fun h => stpr ((sIf_t (eT_of ((un_of (d := .p (.tuple es)) rfl).trans it))).trans h)
      cases he : es.isEmpty with
      | true =>
        rw [he] at ne
        obtain ⟨r, S', e, h2, h3, h4⟩ := tail S1 k1 l1
        refine ⟨r, S', outer ?_, h2, h3, h4⟩
        exact (stp q1).trans ((stIf_f (bAnd_f (eT_of ((bin_of (d := .p (.tuple es)) rfl rfl).trans ne)))).trans e)
      | false =>
        rw [he] at ne
        have t1 : eT (eBin (fEq true) (eVar 1) (eTup aNil)) (rhoO b es deep a none) S1 = .ok true S1 := eT_of ((bin_of (d := .p (.tuple es)) rfl rfl).trans ne)
        have t2 : eT (eBin fGt (eVar 2) (eC (.int 0))) (rhoO b es deep a none) S1 = .ok (decide (0 < deep)) S1 := eT_of ((bin_of (d := .p (.int deep)) rfl rfl).trans rfl)
        by_cases hd : 0 < deep
        · rw [decide_eq_true hd] at t2
          obtain ⟨g3, S2, e3, q0, q5, k3, l3⟩ := take_kp k1.box 5 (by omega) (by omega)
          have t3 : eT (eBin fGt (eCB F__law_take (aCons (eVar 0) (aCons (eC (.int 5)) aNil))) (eC (.int 0))) (rhoO b es deep a none) S1 = .ok (decide (0 < g3)) S2 := eT_of ((bin_of ((cb2 (d := .o b) rfl rfl).trans e3) rfl).trans rfl)
          by_cases hg3 : 0 < g3
          · rw [decide_eq_true hg3] at t3
            have hp : 0 < es.length := by
              cases es with
              | nil => cases he
              | cons _ _ => simp
            obtain ⟨a2, ha2, hal⟩ : ∃ a2 : Nat, ((a : Int) % (es.length : Int)) = a2 ∧ a2 < es.length := ⟨a % es.length, by omega, Nat.mod_lt _ hp⟩
            have hmem : es[a2] ∈ es := List.getElem_mem hal
            have hge : gd es[a2] = true := gdL_mem (by simpa [gd] using hg) _ hmem
            obtain ⟨r, S4, e4, h2, h3, h4⟩ := spoilt_ok n (deep - 1) es[a2] S2 (by omega) (by omega) hge (shp_tup hs _ hmem) (by have := ndL_mem hmem; omega) k3.box
            have sp := split3 es a2 hal
            have n1 : ndL (es.take a2) + (nd es[a2] + ndL (es.drop (a2 + 1))) = ndL es := by
              have : ndL es = ndL (es.take a2 ++ es[a2] :: es.drop (a2 + 1)) := by rw [← sp]
              rw [this, ndL_append]; simp [ndL]
            have c1 : ((es.take a2).filter isIn).length + ((es.drop (a2 + 1)).filter isIn).length ≤ (es.filter isIn).length := by
              have : (es.filter isIn).length = ((es.take a2 ++ es[a2] :: es.drop (a2 + 1)).filter isIn).length := by rw [← sp]
              rw [this, cntI_append]
              by_cases hh : isIn es[a2] = true
              · rw [List.filter_cons_of_pos hh]; simp
              · rw [List.filter_cons_of_neg hh]; omega
            refine ⟨.tuple (es.take a2 ++ [r] ++ es.drop (a2 + 1)), S4, outer ?_, SpR.tup (fun d hd => ?_) (fun d hd => ?_) ?_ ?_, (k1.trans k3).trans h3, by omega⟩
            · refine (stp q1).trans ?_
              refine stpr ((sIf_t ((bAnd_t t1).trans ((bAnd_t t2).trans t3))).trans ?_)
              have m1 : eBin fMod (eCB (on1 fInt) (aCons (eVar 3) aNil)) (eCB (on1 fLen) (aCons (eVar 1) aNil)) (rhoO b es deep a none) S2 = .ok (.p (.int a2)) S2 := by
                refine (bin_of (d := .p (.int a)) (e := .p (.int es.length)) ((cb1 (d := .p (.int a)) rfl).trans rfl) ((cb1 (d := .p (.tuple es)) rfl).trans rfl)).trans ?_
                show (if _ then _ else _) = _
                rw [if_pos (by omega)]
                show R.ok (D.p (.int ((a : Int) % es.length))) S2 = _
                rw [ha2]
              refine (stSet m1).trans ?_
              have f4 : eCB (F__law_spoilt n) (aCons (eVar 0) (aCons (eBin fIx (eVar 1) (eVar 3)) (aCons (eBin fSub (eVar 2) (eC (.int 1))) aNil))) (rhoO b es deep a2 none) S2 = .ok (.p r) S4 :=
                (cb3 (d := .o b) (e := .p es[a2]) (f := .p (.int (deep - 1))) rfl ((bin_of (d := .p (.tuple es)) rfl rfl).trans (fix_tup hal S2)) ((bin_of (d := .p (.int deep)) rfl rfl).trans rfl)).trans e4
              exact sRet_of ((bin_of ((bin_of (up_a (x4 := none)) (tup1 f4)).trans (addT _ (by rw [List.length_take]; simp; omega))) (from_a1 (x4 := none))).trans (addT _ (by rw [List.length_append, List.length_take, List.length_drop]; simp; omega)))
            · rcases List.mem_append.mp hd with h | h
              · rcases List.mem_append.mp h with h | h
                · exact hl _ (List.mem_of_mem_take h)
                · have : d = r := by simpa using h
                  rw [this]; exact h2.lay
              · exact hl _ (List.mem_of_mem_drop h)
            · rcases List.mem_append.mp hd with h | h
              · rcases List.mem_append.mp h with h | h
                · have := depthAll_mem (List.mem_of_mem_take h); omega
                · have : d = r := by simpa using h
                  rw [this]
                  have h5 := h2.dep
                  have h6 := depthAll_mem hmem
                  omega
              · have := depthAll_mem (List.mem_of_mem_drop h); omega
            · have := h2.nd
              rw [ndL_append, ndL_append]; simp [ndL]; omega
            · have := cntI_cons r []
              rw [cntI_append, cntI_append]; simp at this ⊢; omega
          · rw [decide_eq_false hg3] at t3
            obtain ⟨r, S', e, h2, h3, h4⟩ := tail S2 (k1.trans k3) (by omega)
            refine ⟨r, S', outer ?_, h2, h3, h4⟩
            exact (stp q1).trans ((stIf_f ((bAnd_t t1).trans ((bAnd_t t2).trans t3))).trans e)
        · rw [decide_eq_false hd] at t2
          obtain ⟨r, S', e, h2, h3, h4⟩ := tail S1 k1 l1
          refine ⟨r, S', outer ?_, h2, h3, h4⟩
          exact (stp q1).trans ((stIf_f ((bAnd_t t1).trans (bAnd_f t2))).trans e)
    · have hv : isTupD' v = false := by cases v <;> first | rfl | exact absurd ⟨_, rfl⟩ ht
      rw [hv] at it
      have is := isi_str S v hn
      have iw := law_whole_ok v hn S
      rw [stIf_f (eT_of ((un_of (d := .p v) rfl).trans it))]
      have small : ∀ d : PyData, lay d → PyData.depth d ≤ 1 → nd d ≤ 20 → inN d ≤ 1 → SpR v d := fun d a1 a2 a3 a4 => ⟨a1, by omega, by omega, by omega⟩
      cases v with
      | tuple es => exact absurd ⟨_, rfl⟩ ht
      | dict _ => cases hn
      | str x =>
        have hx : PyData.strOk x = true ∧ x.length ≤ 1000 := by simpa [gd] using hg
        have is : fIsi "str" (.p (.str x)) S = .ok (.p (.bool true)) S := is
        have lst : eLst (aCons (eBin fAdd (eVar 1) (eC (.str "b"))) (aCons (eC (.str "")) (aCons (eSl (eVar 1) (oSome (eC (.int 1))) oNone) (aCons (eBin fAdd (eC (.str "a")) (eVar 1)) (aCons (eC (.int 0)) aNil))))) [some (.o b), some (.p (.str x)), some (.p (.int deep)), none, none] S = .ok (.p (.list [.str (x ++ "b"), .str "", .str (cutS x (some 1) none), .str ("a" ++ x), .int 0])) S := by
          have a1 : fAdd (.p (.str x)) (.p (.str "b")) S = .ok (.p (.str (x ++ "b"))) S := addS S (by rw [len_b]; omega)
          have a2 : fAdd (.p (.str "a")) (.p (.str x)) S = .ok (.p (.str ("a" ++ x))) S := addS S (by rw [len_a]; omega)
          have a3 : fSl (some 1) none (.p (.str x)) S = .ok (.p (.str (cutS x (some 1) none))) S := by
            show (if _ then _ else _) = _
            rw [if_pos (by rw [sizeLine_eq]; omega)]
          simp [eLst, eBin, eSl, oSome, oNone, asI, aCons, aNil, eVar, eC, M.bind, M.pure, kLst, asPs, sizeLine_eq, a1, a2, a3]
        obtain ⟨r, S', e, h2, h3, h4⟩ := pick_sp (v := .str x) (ρ := [some (.o b), some (.p (.str x)), some (.p (.int deep)), none, none]) hb rfl lst (by simp) (by simp) (fun d hd => by
          simp only [List.mem_cons, List.not_mem_nil, or_false] at hd
          rcases hd with rfl | rfl | rfl | rfl | rfl
          · exact small _ (by show PyData.canLay0 _ = true; rw [PyData.canLay0]; exact strOk_app hx.1 (strOk_str "b")) (by simp [PyData.depth]) (by simp [nd]) (by simp [inN])
          · exact small _ (by show PyData.canLay0 _ = true; rw [PyData.canLay0]; exact strOk_str "") (by simp [PyData.depth]) (by simp [nd]) (by simp [inN])
          · exact small _ (by show PyData.canLay0 _ = true; rw [PyData.canLay0]; exact strOk_cut _ _ hx.1) (by simp [PyData.depth]) (by simp [nd]) (by simp [inN])
          · exact small _ (by show PyData.canLay0 _ = true; rw [PyData.canLay0]; exact strOk_app (strOk_str "a") hx.1) (by simp [PyData.depth]) (by simp [nd]) (by simp [inN])
          · exact small _ rfl (by simp [PyData.depth]) (by simp [nd]) (by simp [inN]))
        exact ⟨r, S', stpr ((sIf_t (eT_of ((un_of (d := .p (.str x)) rfl).trans is))).trans e), h2, h3, h4⟩
      | int i =>
        have hi : i.natAbs < 2 ^ 60 := by simpa [gd] using hg
        have is : fIsi "str" (.p (.int i)) S = .ok (.p (.bool false)) S := is
        have iw : F__law_whole [.p (.int i)] S = .ok (.p (.bool true)) S := iw
        have lst : eLst (aCons (eBin fAdd (eVar 1) (eC (.int 1))) (aCons (eBin fSub (eVar 1) (eC (.int 1))) (aCons (eBin fGt (eVar 1) (eC (.int 0))) (aCons (eBin fSub (eUn fNeg (eC (.int 1))) (eVar 1)) (aCons (eTup (aCons (eVar 1) aNil)) (aCons (eC .none) (aCons (eCB (on1 fStr) (aCons (eVar 1) aNil)) (aCons (eBin fAdd (eVar 1) (eC (.int 16))) aNil)))))))) [some (.o b), some (.p (.int i)), some (.p (.int deep)), none, none] S = .ok (.p (.list [.int (i + 1), .int (i - 1), .bool (decide (0 < i)), .int (-1 - i), .tuple [.int i], .none, .str (toString i), .int (i + 16)])) S := by
          have a1 : fStr (.p (.int i)) S = .ok (.p (.str (toString i))) S := by
            show (if _ then _ else _) = _
            have : i.natAbs.log2 < 1920 := by
              by_cases h0 : i.natAbs = 0
              · rw [h0]; decide
              · have := (Nat.log2_lt h0 (k := 60)).mpr hi; omega
            rw [if_pos this]
          simp [eLst, eBin, eUn, eTup, eCB, on1, fAdd, fSub, fGt, fI0, fNeg, aCons, aNil, eVar, eC, M.bind, M.pure, kLst, kTup, asPs, sizeLine_eq, a1]
        obtain ⟨r, S', e, h2, h3, h4⟩ := pick_sp (v := .int i) (ρ := [some (.o b), some (.p (.int i)), some (.p (.int deep)), none, none]) hb rfl lst (by simp) (by simp) (fun d hd => by
          simp only [List.mem_cons, List.not_mem_nil, or_false] at hd
          rcases hd with rfl | rfl | rfl | rfl | rfl | rfl | rfl | rfl
          · exact small _ rfl (by simp [PyData.depth]) (by simp [nd]) (by simp [inN])
          · exact small _ rfl (by simp [PyData.depth]) (by simp [nd]) (by simp [inN])
          · exact small _ rfl (by simp [PyData.depth]) (by simp [nd]) (by simp [inN])
          · exact small _ rfl (by simp [PyData.depth]) (by simp [nd]) (by simp [inN])
          · exact small _ rfl (by simp [PyData.depth, PyData.depthAll]) (by simp [nd, ndL]) (by simp [inN, isIn])
          · exact small _ rfl (by simp [PyData.depth]) (by simp [nd]) (by simp [inN])
          · exact small _ (by show PyData.canLay0 _ = true; rw [PyData.canLay0]; exact strOk_str _) (by simp [PyData.depth]) (by simp [nd]) (by simp [inN])
          · exact small _ rfl (by simp [PyData.depth]) (by simp [nd]) (by simp [inN]))
        refine ⟨r, S', ?_, h2, h3, h4⟩
        rw [stIf_f (eT_of ((un_of (d := .p (.int i)) rfl).trans is))]
        exact stpr ((sIf_t (eT_of ((cb1 (d := .p (.int i)) rfl).trans iw))).trans e)
      | _ =>
        have lst : ∀ x, eLst (aCons (eC (.int 0)) (aCons (eTup aNil) (aCons (eC (.str "none")) aNil))) [some (.o b), x, some (.p (.int deep)), none, none] S = .ok (.p (.list [.int 0, .tuple [], .str "none"])) S := fun x => by
          simp [eLst, eTup, aCons, aNil, eC, M.bind, M.pure, kLst, kTup, asPs, sizeLine_eq]
        obtain ⟨r, S', e, h2, h3, h4⟩ := pick_sp (ρ := [some (.o b), some (.p _), some (.p (.int deep)), none, none]) hb rfl (lst _) (by simp) (by simp) (fun d hd => by
          simp only [List.mem_cons, List.not_mem_nil, or_false] at hd
          rcases hd with rfl | rfl | rfl
          · exact small _ rfl (by simp [PyData.depth]) (by simp [nd]) (by simp [inN])
          · exact small _ rfl (by simp [PyData.depth, PyData.depthAll]) (by simp [nd, ndL]) (by simp [inN])
          · exact small _ (by show PyData.canLay0 _ = true; rw [PyData.canLay0]; exact strOk_str _) (by simp [PyData.depth]) (by simp [nd]) (by simp [inN]))
        refine ⟨r, S', ?_, h2, h3, h4⟩
        rw [stIf_f (eT_of ((un_of (d := .p _) rfl).trans is)), stIf_f (eT_of ((cb1 (d := .p _) rfl).trans iw))]
        exact e
end LK
set_option Elab.async false
set_option linter.all false
set_option maxRecDepth 100000
set_option maxHeartbeats 400000
namespace LK
open PySem PySem.Spec L2 DL
/-- a value that may be looked at -/
structure OkV (v : PyData) (m : Nat) : Prop where
  l : lay v
  d : PyData.depth v ≤ m
  n : nd v ≤ 1000000
theorem OkV.no {v : PyData} {m : Nat} (h : OkV v m) : noDict v = true := lay_noDict h.l
theorem OkV.mem {ps : List PyData} {m : Nat} (h : OkV (.tuple ps) (m + 1)) : ∀ p ∈ ps, OkV p m := fun p hp => by
  have h1 := h.d
  have h2 := h.n
  rw [dep_tup] at h1
  have h3 := depthAll_mem hp
  simp only [nd] at h2
  have h4 := ndL_mem hp
  exact ⟨lay_tup h.l p hp, by omega, by omega⟩
theorem OkV.len {ps : List PyData} {m : Nat} (h : OkV (.tuple ps) m) : ps.length ≤ 1000000 := by
  have h2 := h.n
  simp only [nd] at h2
  have := len_ndL ps
  omega
theorem shp_lstI {ds : List PyData} (h : ∀ d ∈ ds, lay d ∧ PyData.depth d ≤ 63) : shp (.list ds) := by
  have c1 : PyData.canLay0 (.list ds) = true := lay_lstI fun d hd => (h d hd).1
  have c2 : PyData.depth (.list ds) ≤ 64 := by
    rw [dep_lst]
    have := depthAll_le (ds := ds) (m := 63) fun d hd => (h d hd).2
    omega
  show (PyData.canLay0 _ && decide (PyData.depth _ ≤ 64)) = true
  rw [c1, decide_eq_true c2]; rfl
theorem shp_tupI {ds : List PyData} (h : ∀ d ∈ ds, lay d ∧ PyData.depth d ≤ 63) : shp (.tuple ds) := by
  have c1 : PyData.canLay0 (.tuple ds) = true := lay_tupI fun d hd => (h d hd).1
  have c2 : PyData.depth (.tuple ds) ≤ 64 := by
    rw [dep_tup]
    have := depthAll_le (ds := ds) (m := 63) fun d hd => (h d hd).2
    omega
  show (PyData.canLay0 _ && decide (PyData.depth _ ≤ 64)) = true
  rw [c1, decide_eq_true c2]; rfl
theorem eqNil (l : List PyData) (S : Store) (hs : shp (.list l)) : fEq false (.p (.list l)) (.p (.list [])) S = .ok (.p (.bool l.isEmpty)) S := by
  have h0 : SeqAt.shaped (.list []) = true := rfl
  have h1 : SeqAt.shaped (.list l) = true := hs
  cases l <;> simp [fEq, toPy, h1, h0, PyData.eqv, PyData.eqvAll]
theorem neNil (l : List PyData) (S : Store) (hs : shp (.list l)) : fEq true (.p (.list l)) (.p (.list [])) S = .ok (.p (.bool (!l.isEmpty))) S := by
  have h0 : SeqAt.shaped (.list []) = true := rfl
  have h1 : SeqAt.shaped (.list l) = true := hs
  cases l <;> simp [fEq, toPy, h1, h0, PyData.eqv, PyData.eqvAll]
theorem and_tt {X Y : Fe} {ρ : Sl} {S S1 : Store} (h : X ρ S = .ok (.p (.bool true)) S1) : eAnd X Y ρ S = Y ρ S1 := by
  simp [eAnd, M.bind, h, onB, asB, M.pure]
theorem and_ff {X Y : Fe} {ρ : Sl} {S S1 : Store} (h : X ρ S = .ok (.p (.bool false)) S1) : eAnd X Y ρ S = .ok (.p (.bool false)) S1 := by
  simp [eAnd, M.bind, h, onB, asB, M.pure]
theorem and_b {X Y : Fe} {ρ : Sl} {S S1 : Store} {b c : Bool} (h : X ρ S = .ok (.p (.bool b)) S1) (g : b = true → Y ρ S1 = .ok (.p (.bool c)) S1) : eAnd X Y ρ S = .ok (.p (.bool (b && c))) S1 := by
  cases b with
  | false => exact (and_ff h).trans rfl
  | true => exact (and_tt h).trans (g rfl)
/-! pairs of numbers, the second more than the first -/
abbrev intsD (l : List Int) : PyData := .tuple (l.map PyData.int)
abbrev wayD (w : List Int) : PyData := .tuple (w.map PyData.int)
abbrev workC (ls : List Int) (ws : Es) : Cell := .ins "Work" [("lengths", .p (intsD ls)), ("waits", .p (.tuple (ws.map edgeD)))]
structure LOk (n : Nat) (ls : List Int) : Prop where
  len : ls.length = n
  rg : ∀ x ∈ ls, 0 ≤ x ∧ x < 1000000
theorem edges_n (k : Nat) (hk : 1 ≤ k) (hk8 : k ≤ 8) (S : Store) : F__law_all_edges [.p (.int k)] S = .ok (.p (.list ((allE k).map edgeD))) S := by
  match k, hk, hk8 with
  | 1, _, _ => rfl
  | 2, _, _ => rfl
  | 3, _, _ => rfl
  | 4, _, _ => rfl
  | 5, _, _ => rfl
  | 6, _, _ => rfl
  | 7, _, _ => rfl
  | 8, _, _ => rfl
theorem allE_n (k : Nat) (hk : 1 ≤ k) (hk8 : k ≤ 8) : (∀ e ∈ allE k, 0 ≤ e.1 ∧ e.1 < e.2 ∧ e.2 < (k : Int)) ∧ (allE k).Pairwise (fun (a b : Int × Int) => DL.lexLt [a.1, a.2] [b.1, b.2] = true) ∧ (allE k).length ≤ 28 := by
  match k, hk, hk8 with
  | 1, _, _ => decide +kernel
  | 2, _, _ => decide +kernel
  | 3, _, _ => decide +kernel
  | 4, _, _ => decide +kernel
  | 5, _, _ => decide +kernel
  | 6, _, _ => decide +kernel
  | 7, _, _ => decide +kernel
  | 8, _, _ => decide +kernel
/-- drawn work -/
theorem work_ok (ns : List Int) (S : Store) : ∃ n ls ws S', F__law_work [.s ns] S = .ok (.p (.tuple [intsD ls, .tuple (ws.map edgeD)])) S' ∧ LOk n ls ∧ WOk n ws ∧ ws.length ≤ 28 := by
  obtain ⟨c, e1, hb⟩ := box_kp ns 0 S
  obtain ⟨got, S1, e2, g0, g8, k1, l1⟩ := take_kp hb 8 (by omega) (by omega)
  obtain ⟨m, rfl⟩ : ∃ m : Nat, got = m := ⟨got.toNat, by omega⟩
  obtain ⟨d, S2, e3, hd, k2, l2⟩ := pick_kp k1.box [.int 3, .int 10, .int 1000000] (by simp) (by simp)
  have hd' : ∃ w : Int, d = .int w ∧ 1 ≤ w ∧ w ≤ 1000000 := by
    simp only [List.mem_cons, List.not_mem_nil, or_false] at hd
    rcases hd with rfl | rfl | rfl
    · exact ⟨3, rfl, by omega⟩
    · exact ⟨10, rfl, by omega⟩
    · exact ⟨1000000, rfl, by omega⟩
  obtain ⟨wide, rfl, hw1, hw2⟩ := hd'
  let ρ1 : Sl := [some (.s ns), some (.o S.length), some (.p (.int ((1 + m : Nat) : Int))), some (.p (.int wide)), none, none, none, none]
  have hs1 : srcRng1 (eVar 2) ρ1 S2 = .ok (.rng 0 (1 + m)) S2 := rng1_of rfl (by omega)
  obtain ⟨qs, S3, e4, ⟨ls, rfl, hl1, hl2⟩, hk3⟩ := comp_gen (vs := [6]) (t := tName 6) (tb := fun _ => M.pure true) (el := e__law_work_1) hs1 (rngL 0 (1 + m)) (by rw [rngL_len]; rfl) (rng_nxt _ _) (by rw [rngL_len]; omega)
    (fun rest acc T => (∃ ls : List Int, acc = ls.map PyData.int ∧ ls.length + rest.length = 1 + m ∧ ∀ x ∈ ls, 0 ≤ x ∧ x < 1000000) ∧ Kp S.length S2 T) ⟨⟨[], rfl, by rw [rngL_len]; simp, by simp⟩, Kp.refl k2.box⟩
    (fun d rest acc T hd ⟨⟨ls, ha, hn, hr⟩, hkp⟩ => by
      obtain ⟨got, T', e, g0, g1, hk', _⟩ := take_kp hkp.box wide (by omega) (by omega)
      refine ⟨[some (.s ns), some (.o S.length), some (.p (.int ((1 + m : Nat) : Int))), some (.p (.int wide)), none, none, some (.p d), none], true, T, rfl, rfl, (fun h => by cases h), fun _ => ⟨.int got, T', (cb2 (d := .o S.length) rfl rfl).trans e, ⟨ls ++ [got], by rw [ha]; simp, by simp at hn ⊢; omega, fun x hx => ?_⟩, hkp.trans hk'⟩⟩
      rcases List.mem_append.mp hx with hx | hx
      · exact hr x hx
      · have : x = got := by simpa using hx
        omega)
  have hlen : ls.length = 1 + m := by simpa using hl1
  obtain ⟨q, S4, e5, hq, k4, l4⟩ := pick_kp hk3.box [.int 1, .int 2, .int 4] (by simp) (by simp)
  have hq' : ∃ w : Int, q = .int w ∧ 1 ≤ w ∧ w ≤ 4 := by
    simp only [List.mem_cons, List.not_mem_nil, or_false] at hq
    rcases hq with rfl | rfl | rfl
    · exact ⟨1, rfl, by omega⟩
    · exact ⟨2, rfl, by omega⟩
    · exact ⟨4, rfl, by omega⟩
  obtain ⟨most, rfl, hm1, hm2⟩ := hq'
  obtain ⟨ao1, ao2, ao3⟩ := allE_n (1 + m) (by omega) (by omega)
  let ρ2 : Sl := [some (.s ns), some (.o S.length), some (.p (.int ((1 + m : Nat) : Int))), some (.p (.int wide)), some (.p (intsD ls)), some (.p (.int most)), none, none]
  have hs2 : s__law_work_1 ρ2 S4 = .ok (.seq (.p (.list ((allE (1 + m)).map edgeD)))) S4 := srcSeq_lst ((cb1 (d := .p (.int ((1 + m : Nat) : Int))) rfl).trans (edges_n _ (by omega) (by omega) _))
  obtain ⟨qs, S5, e6, ⟨pre, hpre, hsub⟩, hk5⟩ := comp_gen (vs := [7]) (t := tName 7) (tb := t__law_work_1) (el := eVar 7) hs2 ((allE (1 + m)).map edgeD) (seq_lst_count _ _) (seq_lst_nxt _) (by rw [List.length_map]; omega)
    (fun rest acc T => (∃ pre, pre ++ rest = (allE (1 + m)).map edgeD ∧ acc.Sublist pre) ∧ Kp S.length S4 T) ⟨⟨[], rfl, List.Sublist.refl _⟩, Kp.refl k4.box⟩
    (fun d rest acc T hd ⟨⟨pre, hpre, hsub⟩, hkp⟩ => by
      obtain ⟨got, T', e, _, _, hk', _⟩ := take_kp hkp.box (most + 1) (by omega) (by omega)
      refine ⟨[some (.s ns), some (.o S.length), some (.p (.int ((1 + m : Nat) : Int))), some (.p (.int wide)), some (.p (intsD ls)), some (.p (.int most)), none, some (.p d)], decide (got = 0), T', rfl, ?_, fun _ => ?_, fun _ => ⟨d, T', rfl, ?_⟩⟩
      · have e' : eCB F__law_take (aCons (eVar 1) (aCons (eBin fAdd (eVar 5) (eC (.int 1))) aNil)) [some (.s ns), some (.o S.length), some (.p (.int ((1 + m : Nat) : Int))), some (.p (.int wide)), some (.p (intsD ls)), some (.p (.int most)), none, some (.p d)] T = .ok (.p (.int got)) T' := (cb2 (d := .o S.length) rfl rfl).trans e
        exact eT_of ((bin_of e' rfl).trans (eqInt _ _ _))
      · exact ⟨⟨pre ++ [d], by simpa using hpre, hsub.trans (List.sublist_append_left _ _)⟩, hkp.trans hk'⟩
      · exact ⟨⟨pre ++ [d], by simpa using hpre, hsub.append (List.Sublist.refl _)⟩, hkp.trans hk'⟩)
  rw [List.append_nil] at hpre
  subst hpre
  obtain ⟨E, hE, rfl⟩ := sublist_map hsub
  refine ⟨1 + m, ls, E, S5, ?_, ⟨hlen, hl2⟩, ⟨by omega, by omega, fun g f h => ao1 (g, f) (hE.subset h), ao2.sublist hE⟩, Nat.le_trans hE.length_le ao3⟩
  refine finR_of (F := F__law_work) rfl rfl ?_
  unfold g__law_work
  rw [stSet (d := .o S.length) (S1 := S ++ [c]) (by rw [cb2 (d := .s ns) rfl rfl]; exact e1)]
  unfold b__law_work_5
  have e2' : eCB F__law_take (aCons (eVar 1) (aCons (eC (.int 8)) aNil)) ((slots 8 [.s ns]).set 1 (some (.o S.length))) (S ++ [c]) = .ok (.p (.int m)) S1 := (cb2 (d := .o S.length) rfl rfl).trans e2
  rw [stSet (d := .p (.int ((1 + m : Nat) : Int))) (S1 := S1) (by rw [bin_of rfl e2']; exact congrArg (fun i => R.ok (D.p (.int i)) S1) (by omega))]
  unfold b__law_work_4
  rw [stSet (d := .p (.int wide)) (S1 := S2) (by rw [cb2 (d := .o S.length) (S2 := S1) rfl (by simp [sSeq, thenS, sIf, sSet, sRet, sExpr, eT, asB, eIf, eAnd, eOr, eNot, eChain, onB, eBin, eUn, eVar, eC, eCB, on1, on2, aCons, aNil, eTup, eLst, eCell, kTup, kLst, kCell, asPs, bAnd, bOr, bNot, M.bind, M.pure, bindS, slots, finR, sizeLine_eq]; rfl)]; exact e3)]
  unfold b__law_work_3
  refine (stSet (d := .p (intsD ls)) (S1 := S3) ((cb1 e4).trans (tupleL _ _))).trans ?_
  refine (stSet (d := .p (.int most)) (S1 := S4) ((cb2 (d := .o S.length) (S2 := S3) rfl rfl).trans e5)).trans ?_
  exact sRet_of (tup2 rfl ((cb1 e6).trans (tupleL _ _)))
end LK
set_option Elab.async false
set_option linter.all false
set_option maxRecDepth 100000
set_option maxHeartbeats 400000
namespace LK
open PySem PySem.Spec L2 DL
theorem plain_int (n : Nat) (i : Int) (S : Store) : F_plain (n + 1) [.p (.int i)] S = .ok (.p (.int i)) S :=
  finR_of (F := F_plain (n + 1)) rfl rfl ((stIf_f (S1 := S) (eT_of ((un_of (d := .p (.int i)) rfl).trans (notTup S (.int i) rfl rfl)))).trans (sRet_of ((cb1 (d := .p (.int i)) rfl).trans rfl)))
theorem plain_tup {n : Nat} {ps : List PyData} (hz : ps.length ≤ 16777216) (S : Store) (h : ∀ p ∈ ps, F_plain n [.p p] S = .ok (.p p) S) : F_plain (n + 1) [.p (.tuple ps)] S = .ok (.p (.tuple ps)) S := by
  have e := comp_all (ps := ps) (ρ := [some (.p (.tuple ps)), none]) (S := S) (vs := [1]) (t := tName 1) (el := eCB (F_plain n) (aCons (eVar 1) aNil)) (f := id) (srcSeq_tup (X := eVar 0) rfl) (its_tup ps) hz
    (fun p hp => ⟨_, rfl, (cb1 (d := .p p) rfl).trans (h p hp)⟩)
  rw [List.map_id] at e
  refine finR_of (F := F_plain (n + 1)) rfl rfl ?_
  refine stpr ?_
  refine (sIf_t (S1 := S) rfl).trans ?_
  exact sRet_of ((cb1 e).trans (tupleL _ _))
theorem plain_ints (n : Nat) (l : List Int) (hz : l.length ≤ 16777216) (S : Store) : F_plain (n + 2) [.p (intsD l)] S = .ok (.p (intsD l)) S :=
  plain_tup (by rw [List.length_map]; exact hz) S fun p hp => by
    obtain ⟨i, _, rfl⟩ := List.mem_map.mp hp
    exact plain_int n i S
theorem plain_edges (n : Nat) (E : Es) (hz : E.length ≤ 16777216) (S : Store) : F_plain (n + 3) [.p (.tuple (E.map edgeD))] S = .ok (.p (.tuple (E.map edgeD))) S :=
  plain_tup (by rw [List.length_map]; exact hz) S fun p hp => by
    obtain ⟨e, _, rfl⟩ := List.mem_map.mp hp
    exact plain_ints n [e.1, e.2] (by simp) S
theorem all_true {ps : List PyData} {f : PyData → PyData} (h : ∀ p ∈ ps, f p = .bool true) (S : Store) : fAll (.p (.list (ps.map f))) S = .ok (.p (.bool true)) S := by
  refine bools_of _ (fun d hd => ?_) S
  obtain ⟨p, hp, rfl⟩ := List.mem_map.mp hd
  exact h p hp
theorem asc_n {E : Es} (h : E.Pairwise fun (a b : Int × Int) => DL.lexLt [a.1, a.2] [b.1, b.2] = true) (hl : E.length ≤ 1000) (S : Store) : F_is_ascending [.p (.tuple (E.map edgeD))] S = .ok (.p (.bool true)) S := by
  have f1 : fSl (some 1) none (.p (.tuple (E.map edgeD))) S = .ok (.p (.tuple ((E.map edgeD).drop 1))) S := by
    show M.pure _ S = _
    rw [cut_rest]; rfl
  have hsrc : srcZip2 (eVar 0) (eSl (eVar 0) (oSome (eC (.int 1))) oNone) [some (.p (.tuple (E.map edgeD))), none, none] S = .ok (.zip (.p (.tuple (E.map edgeD))) (.p (.tuple ((E.map edgeD).drop 1)))) S := by
    generalize E.map edgeD = es at f1
    simp [srcZip2, eSl, oSome, asI, oNone, aCons, aNil, eVar, eC, M.bind, M.pure, f1, ofZip2, isTup, seqItems]
  have hlen : (zipP (E.map edgeD) ((E.map edgeD).drop 1)).length ≤ 16777216 := by simp [zipP]; omega
  have e := comp_all (ρ := [some (.p (.tuple (E.map edgeD))), none, none]) (S := S) (vs := [1, 2]) (t := tTupT 2 (tsCons (tName 1) (tsCons (tName 2) tsNil))) (el := eBin fLtD (eVar 1) (eVar 2)) (f := fun _ => .bool true) hsrc ⟨zip_nxt _ _, zip_count _ _⟩ hlen
    (fun d hd => by
      obtain ⟨a, b, rfl, hr⟩ := pairwise_zip h d hd
      refine ⟨[some (.p (.tuple (E.map edgeD))), some (.p (edgeD a)), some (.p (edgeD b))], rfl, ?_⟩
      have := lt_edge a b S
      rw [hr] at this
      exact (bin_of (d := .p (edgeD a)) rfl rfl).trans this)
  refine finR_of (F := F_is_ascending) rfl rfl ?_
  exact sRet_of ((cb1 e).trans (all_true (fun _ _ => rfl) S))
theorem upward_n {k : Int} {e : Int × Int} (h : 0 ≤ e.1 ∧ e.1 < e.2 ∧ e.2 < k) (S : Store) : F_is_upward_pair [.p (.int k), .p (edgeD e)] S = .ok (.p (.bool true)) S := by
  obtain ⟨g, f⟩ := e
  dsimp only at h
  have t2 := is_pair_ok (edgeD (g, f)) rfl S
  have t2 : F_is_pair [.p (edgeD (g, f))] S = .ok (.p (.bool true)) S := t2
  have ix0 : fIx (.p (edgeD (g, f))) (.p (.int 0)) S = .ok (.p (.int g)) S := rfl
  have ix1 : fIx (.p (edgeD (g, f))) (.p (.int 1)) S = .ok (.p (.int f)) S := rfl
  have f0 := is_integer_in_ok (.int g) rfl 0 (k - 1) S
  have f1 := is_integer_in_ok (.int f) rfl 0 (k - 1) S
  have e0 : inRange 0 (k - 1) (.int g) = true := by simp [inRange]; omega
  have e1 : inRange 0 (k - 1) (.int f) = true := by simp [inRange]; omega
  rw [e0] at f0
  rw [e1] at f1
  have lt : g < f := h.2.1
  generalize edgeD (g, f) = d at *
  unfold F_is_upward_pair bodyF g_is_upward_pair
  simp [sSeq, thenS, sIf, sSet, sRet, sExpr, eT, asB, eIf, eAnd, eOr, eNot, eChain, onB, eBin, eUn, eVar, eC, eCB, on1, on2, aCons, aNil, eTup, eLst, eCell, kTup, kLst, kCell, asPs, bAnd, bOr, bNot, M.bind, M.pure, bindS, slots, finR, sizeLine_eq, t2, ix0, ix1, f0, f1, fLt, fI0, lt, fSub]
theorem pairs_ok {n : Nat} {ws : Es} (h : WOk n ws) (hl : ws.length ≤ 1000) (S : Store) : F_are_upward_pairs [.p (.int n), .p (.tuple (ws.map edgeD))] S = .ok (.p (.bool true)) S := by
  have e := comp_all (ρ := [some (.p (.int n)), some (.p (.tuple (ws.map edgeD))), none]) (S := S) (vs := [2]) (t := tName 2) (el := e_are_upward_pairs_1) (f := fun _ => .bool true) (srcSeq_tup (X := eVar 1) rfl) (its_tup (ws.map edgeD)) (by rw [List.length_map]; omega)
    (fun d hd => by
      obtain ⟨x, hx, rfl⟩ := List.mem_map.mp hd
      exact ⟨_, rfl, (cb2 (d := .p (.int n)) (e := .p (edgeD x)) rfl rfl).trans (upward_n (h.ed x.1 x.2 hx) S)⟩)
  refine finR_of (F := F_are_upward_pairs) rfl rfl ?_
  refine sRet_of (d := .p (.bool true)) (S1 := S) ?_
  refine (and_tt (S1 := S) rfl).trans ?_
  refine (and_tt (S1 := S) ((cb1 e).trans (all_true (fun _ _ => rfl) S))).trans ?_
  exact (cb1 (d := .p (.tuple (ws.map edgeD))) rfl).trans (asc_n h.up hl S)
theorem lengths_ok {n : Nat} {ls : List Int} (h : LOk n ls) (h1 : 1 ≤ n) (h8 : n ≤ 8) (S : Store) : F__are_lengths [.p (intsD ls)] S = .ok (.p (.bool true)) S := by
  have e := comp_all (ρ := [some (.p (intsD ls)), none]) (S := S) (vs := [1]) (t := tName 1) (el := e__are_lengths_1) (f := fun _ => .bool true) (srcSeq_tup (X := eVar 0) rfl) (its_tup (ls.map PyData.int)) (by rw [List.length_map, h.len]; omega)
    (fun d hd => by
      obtain ⟨x, hx, rfl⟩ := List.mem_map.mp hd
      have r := h.rg x hx
      have f := is_integer_in_ok (.int x) rfl 0 999999 S
      have e0 : inRange 0 999999 (.int x) = true := by simp [inRange]; omega
      rw [e0] at f
      exact ⟨_, rfl, (cb3 (d := .p (.int x)) rfl rfl rfl).trans f⟩)
  refine finR_of (F := F__are_lengths) rfl rfl ?_
  refine sRet_of (d := .p (.bool true)) (S1 := S) ?_
  refine (and_tt (S1 := S) rfl).trans ?_
  have hn : (1 : Int) ≤ n ∧ (n : Int) ≤ 8 := by omega
  have ln : eCB (on1 fLen) (aCons (eVar 0) aNil) [some (.p (intsD ls)), none] S = .ok (.p (.int n)) S := by
    have := (cb1 (F := on1 fLen) (X := eVar 0) (ρ := [some (.p (intsD ls)), none]) (S := S) (d := .p (intsD ls)) rfl).trans (len_tup S (ls.map PyData.int))
    rw [List.length_map, h.len] at this
    exact this
  refine (and_tt (S1 := S) ?_).trans ((cb1 e).trans (all_true (fun _ _ => rfl) S))
  show eChain fLe fLe (eC (.int 1)) (eCB (on1 fLen) (aCons (eVar 0) aNil)) (eC (.int 8)) [some (.p (intsD ls)), none] S = _
  unfold eChain
  simp only [M.bind, eC, ln, fLe, fI0, M.pure, onB, hn.1, hn.2, decide_true, if_true]
theorem work_make {n : Nat} {ls : List Int} {ws : Es} (hl : LOk n ls) (hw : WOk n ws) (hz : ws.length ≤ 1000) (S : Store) : kMake "Work" F_m_Workdd_initdd [.p (intsD ls), .p (.tuple (ws.map edgeD))] S = .ok (.o S.length) (S ++ [workC ls ws]) := by
  have init : F_m_Workdd_initdd [.o S.length, .p (intsD ls), .p (.tuple (ws.map edgeD))] (S ++ [.ins "Work" []]) = .ok (.p .none) (S ++ [workC ls ws]) := by
    have hn := len_tup (S ++ [.ins "Work" []]) (ls.map PyData.int)
    rw [List.length_map, hl.len] at hn
    have hg : g_m_Workdd_initdd [some (.o S.length), some (.p (intsD ls)), some (.p (.tuple (ws.map edgeD)))] (S ++ [.ins "Work" []]) = .nx [some (.o S.length), some (.p (intsD ls)), some (.p (.tuple (ws.map edgeD)))] (S ++ [workC ls ws]) := by
      refine (stIf_f (S1 := S ++ [.ins "Work" []]) (bNot_of (t := true) (eT_of ((cb1 (d := .p (intsD ls)) rfl).trans (lengths_ok hl hw.n1 hw.n8 _))))).trans ?_
      refine (stIf_f (S1 := S ++ [.ins "Work" []]) (bNot_of (t := true) (eT_of ((cb2 (d := .p (.int n)) ((cb1 (d := .p (intsD ls)) rfl).trans hn) rfl).trans (pairs_ok hw hz _))))).trans ?_
      have p1 : DL.sFld "Work" "lengths" (eVar 0) (eCB (F_plain 20) (aCons (eVar 1) aNil)) [some (.o S.length), some (.p (intsD ls)), some (.p (.tuple (ws.map edgeD)))] (S ++ [.ins "Work" []]) = .nx [some (.o S.length), some (.p (intsD ls)), some (.p (.tuple (ws.map edgeD)))] (S ++ [.ins "Work" [("lengths", .p (intsD ls))]]) := by
        unfold DL.sFld bindS
        rw [show eCB (F_plain 20) (aCons (eVar 1) aNil) [some (.o S.length), some (.p (intsD ls)), some (.p (.tuple (ws.map edgeD)))] (S ++ [.ins "Work" []]) = .ok (.p (intsD ls)) (S ++ [.ins "Work" []]) from (cb1 (d := .p (intsD ls)) rfl).trans (plain_ints 18 ls (by rw [hl.len]; have := hw.n8; omega) _)]
        simp [eVar, DL.putAt, insAt, nxO, putD]
      refine (stp p1).trans ?_
      have ne : ¬ (Str.ofString "lengths" = Str.ofString "waits") := by decide +kernel
      unfold b_m_Workdd_initdd_1 DL.sFld bindS
      rw [show eCB (F_plain 20) (aCons (eVar 2) aNil) [some (.o S.length), some (.p (intsD ls)), some (.p (.tuple (ws.map edgeD)))] (S ++ [.ins "Work" [("lengths", .p (intsD ls))]]) = .ok (.p (.tuple (ws.map edgeD))) (S ++ [.ins "Work" [("lengths", .p (intsD ls))]]) from (cb1 (d := .p (.tuple (ws.map edgeD))) rfl).trans (plain_edges 17 ws (by omega) _)]
      simp [eVar, DL.putAt, insAt, nxO, putD, ne]
    exact finR_nx (F := F_m_Workdd_initdd) rfl rfl hg
  unfold kMake
  rw [init]
end LK
set_option Elab.async false
set_option linter.all false
set_option maxRecDepth 100000
set_option maxHeartbeats 400000
namespace LK
open PySem PySem.Spec L2 DL
def e1D : PyData → Int
  | .tuple [.int a, _] => a
  | _ => 0
def e2D : PyData → Int
  | .tuple [_, .int a] => a
  | _ => 0
theorem step_data (ws : Es) (w : List Int) : ((ws.map edgeD).filter fun p => decide (e1D p = lw w)).map (fun p => wayD (w ++ [e2D p])) = (stepW ws w).map wayD := by
  induction ws with
  | nil => rfl
  | cons e ws ih =>
    rw [List.map_cons]
    by_cases h : e.1 = lw w
    · rw [List.filter_cons_of_pos (by show decide (e.1 = lw w) = true; simp [h]), List.map_cons, ih]
      simp [stepW, h, edgeD, e2D]
    · rw [List.filter_cons_of_neg (by show ¬ decide (e.1 = lw w) = true; simp [h]), ih]
      simp [stepW, h]
theorem fix_tupN {ds : List PyData} {k : Nat} (h : k < ds.length) (S : Store) : fIx (.p (.tuple ds)) (.p (.int k)) S = .ok (.p ds[k]) S := by
  show ofO S ((atI ds k).map D.p) = _
  unfold atI
  rw [ixN_nat h]
  simp [h, ofO]
theorem way_last {w : List Int} (hw : w ≠ []) (S : Store) : fIx (.p (wayD w)) (.p (.int (-1))) S = .ok (.p (.int (lw w))) S := by
  obtain ⟨v, x, rfl⟩ : ∃ v x, w = v ++ [x] := ⟨w.dropLast, w.getLast hw, (List.dropLast_concat_getLast hw).symm⟩
  have e : atI (v.map PyData.int ++ [PyData.int x]) (-1) = some (PyData.int x) := atI_last _ _
  rw [lw_app]
  show ofO S ((atI ((v ++ [x]).map PyData.int) (-1)).map D.p) = _
  rw [List.map_append]
  show ofO S ((atI (v.map PyData.int ++ [PyData.int x]) (-1)).map D.p) = _
  rw [e]
  rfl
theorem asc_len : ∀ (w : List Int) (a b : Int), w.Pairwise (· < ·) → (∀ x ∈ w, a ≤ x ∧ x < b) → (w.length : Int) ≤ max 0 (b - a)
  | [], a, b, _, _ => by simp; omega
  | x :: w, a, b, h, hx => by
    have hc := List.pairwise_cons.mp h
    have h0 := hx x (by simp)
    have ih := asc_len w (x + 1) b hc.2 (fun y hy => by have := hc.1 y hy; have := hx y (by simp [hy]); omega)
    simp only [List.length_cons]
    omega
theorem WayOk.few {n : Nat} {w : List Int} (h : WayOk n w) : w.length ≤ n := by
  have := asc_len w 0 n h.up (fun x hx => h.mem hx)
  omega
/-- one way made longer -/
theorem longer_ok {n : Nat} {ws : Es} {w : List Int} {fs : Fsrc} {vs : List Nat} {a b c : Nat} {ρ : Sl} {S : Store} (hw : WayOk n w) (h8 : n ≤ 8) (hz : ws.length ≤ 1000) (hs : fs ρ S = .ok (.seq (.p (.tuple (ws.map edgeD)))) S)
    (ha : ∀ (i j : Int), eVar a (((wipeD ρ vs).set a (some (.p (.int i)))).set b (some (.p (.int j)))) S = .ok (.p (.int i)) S) (hb : ∀ (i j : Int), eVar b (((wipeD ρ vs).set a (some (.p (.int i)))).set b (some (.p (.int j)))) S = .ok (.p (.int j)) S)
    (hc : ∀ (i j : Int), eVar c (((wipeD ρ vs).set a (some (.p (.int i)))).set b (some (.p (.int j)))) S = .ok (.p (wayD w)) S) :
    eLc fs vs (tTupT 2 (tsCons (tName a) (tsCons (tName b) tsNil))) (eT (eBin (fEq false) (eVar a) (eBin fIx (eVar c) (eUn fNeg (eC (.int 1)))))) (eBin fAdd (eVar c) (eTup (aCons (eVar b) aNil))) ρ S = .ok (.p (.list ((stepW ws w).map wayD))) S := by
  have e := comp_map (ρ := ρ) (S := S) (vs := vs) (t := tTupT 2 (tsCons (tName a) (tsCons (tName b) tsNil))) (tb := eT (eBin (fEq false) (eVar a) (eBin fIx (eVar c) (eUn fNeg (eC (.int 1)))))) (el := eBin fAdd (eVar c) (eTup (aCons (eVar b) aNil)))
    (c := fun p => decide (e1D p = lw w)) (f := fun p => wayD (w ++ [e2D p])) hs (its_tup (ws.map edgeD)) (by rw [List.length_map]; omega) (fun p hp => by
      obtain ⟨x, hx, rfl⟩ := List.mem_map.mp hp
      refine ⟨((wipeD ρ vs).set a (some (.p (.int x.1)))).set b (some (.p (.int x.2))), rfl, ?_, fun _ => ?_⟩
      · exact eT_of ((bin_of (ha _ _) ((bin_of (hc _ _) (neg1 _ _)).trans (way_last hw.ne S))).trans (eqInt _ _ _))
      · refine (bin_of (hc _ _) (tup1 (hb _ _))).trans ?_
        have := addT (xs := w.map PyData.int) (ys := [.int x.2]) S (by have := hw.few; simp; omega)
        rw [this]
        simp [edgeD, e2D])
  rw [step_data] at e
  exact e
end LK
set_option Elab.async false
set_option linter.all false
set_option maxRecDepth 100000
set_option maxHeartbeats 400000
namespace LK
open PySem PySem.Spec L2 DL
abbrev waysD (lv : List (List Int)) : PyData := .list (lv.map wayD)
theorem rngL_map (n : Nat) : rngL 0 n = (List.range n).map fun (i : Nat) => PyData.int i := by simp [rngL]
theorem sing_comp {n : Nat} {fs : Fsrc} {a : Nat} {ρ : Sl} {S : Store} (h8 : n ≤ 8) (hs : fs ρ S = .ok (.rng 0 n) S) (ha : ∀ i : Int, eVar a ((wipeD ρ [a]).set a (some (.p (.int i)))) S = .ok (.p (.int i)) S) :
    eLc fs [a] (tName a) (fun _ => M.pure true) (eTup (aCons (eVar a) aNil)) ρ S = .ok (.p (waysD (sing n))) S := by
  have I := its_rng 0 n
  rw [rngL_map] at I
  have e := comp_allT (ρ := ρ) (S := S) (vs := [a]) (t := tName a) (el := eTup (aCons (eVar a) aNil)) (f := fun k : Nat => .tuple [.int k]) hs I (by simp; omega) (fun p hp => ⟨_, rfl, tup1 (ha _)⟩)
  have q : (List.range n).map (fun k : Nat => PyData.tuple [.int k]) = (sing n).map wayD := by
    simp [sing, Function.comp_def]
  rw [q] at e
  exact e
/-! the law's ways -/
abbrev rW (ls : List Int) (ws : Es) (fd lv : List (List Int)) (x5 x6 x7 : Option D) : Sl := [some (.p (.tuple [intsD ls, .tuple (ws.map edgeD)])), some (.p (intsD ls)), some (.p (.tuple (ws.map edgeD))), some (.p (waysD fd)), some (.p (waysD lv)), x5, x6, x7, none, none, none]
theorem law_level {n : Nat} {ls : List Int} {ws : Es} (hw : WOk n ws) (hz : ws.length ≤ 1000) {t : Nat} {fd lv : List (List Int)} (u : UpOk n t fd lv) (x5 x6 x7 : Option D) (S : Store) :
    ∃ x6' x7', l__law_ways_2 (rW ls ws fd lv x5 x6 x7) S = .nx (rW ls ws (fd ++ lv) (stepL ws lv) x5 x6' x7') S := by
  have few := u.few
  have l1 := len_le_pot lv
  have l2 := len_le_pot (stepL ws lv)
  have l3 := pot_step hw u.lv.ok
  have a1 := addL (xs := fd.map wayD) (ys := lv.map wayD) S (by simp; omega)
  rw [← List.map_append] at a1
  obtain ⟨ρ', S', e, acc, x7', hacc, rfl, rfl⟩ := for_onT (src := srcSeq (eVar 4)) (t := tName 7) (u := l__law_ways_1) (ρ := rW ls ws (fd ++ lv) lv x5 (some (.p (waysD []))) x7) (S := S) (its_lst (lv.map wayD))
    (fun rest ρ T => ∃ acc x7, acc ++ stepL ws rest = stepL ws lv ∧ T = S ∧ ρ = rW ls ws (fd ++ lv) lv x5 (some (.p (waysD acc))) x7) (srcSeq_lst rfl) ⟨[], x7, rfl, rfl, rfl⟩
    (fun w rest ρ T hw' ⟨acc, x7, hacc, hT, hρ⟩ => by
      subst hT hρ
      have hz2 : acc.length + (stepW ws w).length ≤ 255 := by
        have : acc.length + (stepW ws w ++ stepL ws rest).length ≤ 255 := by
          have q : acc ++ (stepW ws w ++ stepL ws rest) = stepL ws lv := hacc
          rw [← List.length_append, q]; omega
        rw [List.length_append] at this
        omega
      have a2 := addL (xs := acc.map wayD) (ys := (stepW ws w).map wayD) T (by simp; omega)
      rw [← List.map_append] at a2
      have c := longer_ok (ρ := rW ls ws (fd ++ lv) lv x5 (some (.p (waysD acc))) (some (.p (wayD w)))) (S := T) (fs := srcSeq (eVar 2)) (vs := [9, 10]) (a := 9) (b := 10) (c := 7) (u.lv.ok w hw') hw.n8 hz (srcSeq_tup rfl) (fun _ _ => rfl) (fun _ _ => rfl) (fun _ _ => rfl)
      refine ⟨_, _, T, rfl, sSet_of ((bin_of rfl c).trans a2), acc ++ stepW ws w, some (.p (wayD w)), ?_, rfl, rfl⟩
      rw [List.append_assoc]
      exact hacc)
  have hacc' : acc = stepL ws lv := by simpa [stepL] using hacc
  subst hacc'
  refine ⟨some (.p (waysD (stepL ws lv))), x7', ?_⟩
  refine (stSet (d := .p (waysD (fd ++ lv))) (S1 := S') ((bin_of rfl rfl).trans a1)).trans ?_
  refine (stSet (d := .p (waysD [])) (S1 := S') rfl).trans ?_
  exact (stp e).trans (sSet_of rfl)
theorem law_ways_ok {n : Nat} {ls : List Int} {ws : Es} (hl : ls.length = n) (hw : WOk n ws) (hz : ws.length ≤ 1000) (S : Store) : F__law_ways [.p (.tuple [intsD ls, .tuple (ws.map edgeD)])] S = .ok (.p (waysD (waysOf n ws))) S := by
  have I := its_rng 0 8
  rw [rngL_map] at I
  obtain ⟨ρ', S', e, fd, lv, x5, x6, x7, t, ht, h, rfl, rfl⟩ := for_onT (src := srcRng1 (eC (.int 8))) (t := tName 5) (u := l__law_ways_2) (ρ := rW ls ws [] (sing n) none none none) (S := S) I
    (fun rest ρ T => ∃ fd lv x5 x6 x7 t, UpOk n t fd lv ∧ ups ws rest.length fd lv = waysOf n ws ∧ T = S ∧ ρ = rW ls ws fd lv x5 x6 x7) (rng1_of (n := 8) rfl (by omega)) ⟨[], sing n, none, none, none, 0, up_sing hw.n8, rfl, rfl, rfl⟩
    (fun k rest ρ T hk ⟨fd, lv, x5, x6, x7, t, u, h, hT, hρ⟩ => by
      subst hT hρ
      obtain ⟨x6', x7', e⟩ := law_level (ls := ls) hw hz u (some (.p (.int k))) x6 x7 T
      exact ⟨_, _, T, rfl, e, fd ++ lv, stepL ws lv, _, x6', x7', t + 1, u.step hw, h, rfl, rfl⟩)
  have h' : fd = waysOf n ws := h
  subst h'
  refine finR_of (F := F__law_ways) rfl rfl ?_
  refine (stp (ρ' := [some (.p (.tuple [intsD ls, .tuple (ws.map edgeD)])), some (.p (intsD ls)), some (.p (.tuple (ws.map edgeD))), none, none, none, none, none, none, none, none]) (S' := S') rfl).trans ?_
  refine (stSet (d := .p (waysD [])) (S1 := S') rfl).trans ?_
  have hn := len_tup S' (ls.map PyData.int)
  rw [List.length_map, hl] at hn
  refine (stSet (d := .p (waysD (sing n))) (S1 := S') (sing_comp hw.n8 (rng1_of ((cb1 (d := .p (intsD ls)) rfl).trans hn) (by have := hw.n8; omega)) (fun _ => rfl))).trans ?_
  exact (stp e).trans (sRet_of rfl)
/-! the program's ways -/
theorem seq_flat (ws : Es) (lv : List (List Int)) : (lv.flatMap fun w => (ws.filter fun e => decide (e.1 = lw w)).map fun e => wayD (w ++ [e.2])) = (stepL ws lv).map wayD := by
  induction lv with
  | nil => rfl
  | cons w lv ih =>
    have s : (ws.filter fun e => decide (e.1 = lw w)).map (fun e => wayD (w ++ [e.2])) = (stepW ws w).map wayD := by
      clear ih
      induction ws with
      | nil => rfl
      | cons e ws ih =>
        by_cases h : e.1 = lw w
        · rw [List.filter_cons_of_pos (by simp [h]), List.map_cons, ih]
          simp [stepW, h]
        · rw [List.filter_cons_of_neg (by simp [h]), ih]
          simp [stepW, h]
    rw [List.flatMap_cons, ih, s]
    show _ = (stepW ws w ++ stepL ws lv).map wayD
    rw [List.map_append]
theorem ups_more {n : Nat} {ws : Es} (hw : WOk n ws) (k : Nat) : ∀ (j t : Nat) (fd lv : List (List Int)), n ≤ t + j → LvOk n t lv → ups ws (j + k) fd lv = ups ws j fd lv
  | 0, t, fd, lv, h, o => by
    have : lv = [] := o.nil (by omega)
    subst this
    rw [ups_nil, ups_nil]
  | j + 1, t, fd, lv, h, o => by
    rw [show j + 1 + k = (j + k) + 1 by omega]
    exact ups_more hw k j (t + 1) _ _ (by omega) (o.step hw)
theorem fld_len {S : Store} {q : Nat} {ls : List Int} {ws : Es} (hq : S[q]? = some (workC ls ws)) : fFld "Work" "lengths" (.o q) S = .ok (.p (intsD ls)) S := by
  simp [fFld, insAt, hq, ofO, List.lookup]
theorem fld_wts {S : Store} {q : Nat} {ls : List Int} {ws : Es} (hq : S[q]? = some (workC ls ws)) : fFld "Work" "waits" (.o q) S = .ok (.p (.tuple (ws.map edgeD))) S := by
  have ne : ((Str.ofString "waits" : Str) == Str.ofString "lengths") = false := by decide +kernel
  simp [fFld, insAt, hq, ofO, List.lookup, ne]
abbrev rA (q : Nat) (fd lv : List (List Int)) : Sl := [some (.o q), some (.p (waysD fd)), some (.p (waysD lv)), none, none, none, none]
theorem while_ok {n q : Nat} {ls : List Int} {ws : Es} {S : Store} (hq : S[q]? = some (workC ls ws)) (hw : WOk n ws) (hz : ws.length ≤ 1000) : ∀ (m t : Nat) (fd lv : List (List Int)), n ≤ t + m → UpOk n t fd lv →
    ∃ lv', loopW t__all_ways_2 l__all_ways_1 (m + 1) (rA q fd lv) S = .nx (rA q (ups ws m fd lv) lv') S := by
  intro m
  induction m with
  | zero =>
    intro t fd lv h u
    have : lv = [] := u.lv.nil (by omega)
    subst this
    exact ⟨[], rfl⟩
  | succ m ih =>
    intro t fd lv h u
    cases lv with
    | nil =>
      rw [ups_nil]
      exact ⟨[], rfl⟩
    | cons w lv =>
      have few := u.few
      have l1 := len_le_pot (w :: lv)
      have l2 := len_le_pot (stepL ws (w :: lv))
      have l3 := pot_step hw u.lv.ok
      have a1 := addL (xs := fd.map wayD) (ys := (w :: lv).map wayD) S (by simp only [List.length_map]; omega)
      rw [← List.map_append] at a1
      obtain ⟨lv', e⟩ := ih (t + 1) (fd ++ w :: lv) (stepL ws (w :: lv)) (by omega) (u.step hw)
      refine ⟨lv', ?_⟩
      have tt : t__all_ways_2 (rA q fd (w :: lv)) S = .ok true S := by
        have l : fLen (.p (waysD (w :: lv))) S = .ok (.p (.int ((w :: lv).length : Nat))) S := by
          show ofO S ((items S (.p (.list ((w :: lv).map wayD)))).map fun ds => D.p (.int ds.length)) = _
          rw [items_pl]
          simp [ofO]
        refine eT_of ((bin_of ((cb1 (d := .p (waysD (w :: lv))) rfl).trans l) rfl).trans ?_)
        simp [fGt, fI0, M.pure]
      have hs := seq_flat ws (w :: lv)
      have c2 := comp2_mapT (ρ := rA q (fd ++ w :: lv) (w :: lv)) (S := S) (fsrc := srcSeq (eVar 2)) (vs := [4, 5, 6]) (t := tName 4) (tb := fun _ => M.pure true) (fsrc1 := s__all_ways_1) (vs1 := [5, 6]) (t1 := tTupT 2 (tsCons (tName 5) (tsCons (tName 6) tsNil))) (tb1 := t__all_ways_1) (el := e__all_ways_1)
        (xs := w :: lv) (g := wayD) (sv1 := fun _ => .seq (.p (.tuple (ws.map edgeD)))) (ys := fun _ => ws) (g1 := edgeD) (c := fun w e => decide (e.1 = lw w)) (f := fun w e => wayD (w ++ [e.2]))
        (srcSeq_lst rfl) (its_lst _) (by rw [hs, List.length_map]; omega) (fun v hv => by
          have ov := u.lv.ok v hv
          refine ⟨[some (.o q), some (.p (waysD (fd ++ w :: lv))), some (.p (waysD (w :: lv))), none, some (.p (wayD v)), none, none], rfl, rfl, srcSeq_tup ((un_of rfl).trans (fld_wts hq)), its_tup _, fun e he => ⟨[some (.o q), some (.p (waysD (fd ++ w :: lv))), some (.p (waysD (w :: lv))), none, some (.p (wayD v)), some (.p (.int e.1)), some (.p (.int e.2))], rfl, ?_, fun _ => ?_⟩⟩
          · exact eT_of ((bin_of (d := .p (.int e.1)) rfl ((bin_of (d := .p (wayD v)) rfl (neg1 _ _)).trans (way_last ov.ne S))).trans (eqInt _ _ _))
          · refine (bin_of (d := .p (wayD v)) rfl (tup1 (a := .int e.2) rfl)).trans ?_
            have := addT (xs := v.map PyData.int) (ys := [.int e.2]) S (by have := ov.few; have := hw.n8; simp; omega)
            rw [this]
            simp)
      rw [hs] at c2
      unfold loopW bindS
      rw [tt]
      dsimp only
      rw [if_pos rfl]
      have b : l__all_ways_1 (rA q fd (w :: lv)) S = .nx (rA q (fd ++ w :: lv) (stepL ws (w :: lv))) S :=
        (stSet (d := .p (waysD (fd ++ w :: lv))) (S1 := S) ((bin_of rfl rfl).trans a1)).trans (sSet_of c2)
      rw [b]
      exact e
theorem all_ways_ok {n q : Nat} {ls : List Int} {ws : Es} {S : Store} (hq : S[q]? = some (workC ls ws)) (hl : ls.length = n) (hw : WOk n ws) (hz : ws.length ≤ 1000) : F__all_ways [.o q] S = .ok (.p (waysD (waysOf n ws))) S := by
  obtain ⟨lv', e⟩ := while_ok hq hw hz 19 0 [] (sing n) (by have := hw.n8; omega) (up_sing hw.n8)
  rw [show (19 : Nat) = 8 + 11 from rfl, ups_more hw 11 8 0 _ _ (by have := hw.n8; omega) (sing_ok n)] at e
  refine finR_of (F := F__all_ways) rfl rfl ?_
  refine (stSet (d := .p (waysD [])) (S1 := S) rfl).trans ?_
  have hn := len_tup S (ls.map PyData.int)
  rw [List.length_map, hl] at hn
  refine (stSet (d := .p (waysD (sing n))) (S1 := S) (sing_comp hw.n8 (rng1_of ((cb1 (d := .p (intsD ls)) ((un_of rfl).trans (fld_len hq))).trans hn) (by have := hw.n8; omega)) (fun _ => rfl))).trans ?_
  exact (stp e).trans (sRet_of rfl)
end LK
set_option Elab.async false
set_option linter.all false
set_option maxRecDepth 100000
set_option maxHeartbeats 400000
namespace LK
open PySem PySem.Spec L2 DL
/-! lengths -/
theorem shp_intsT (l : List Int) : shp (intsD l) := by
  have e : ∀ l : List Int, PyData.canLayAll0 (l.map PyData.int) = true ∧ PyData.depthAll (l.map PyData.int) = 0 := fun l => by
    induction l with
    | nil => simp [PyData.canLayAll0, PyData.depthAll]
    | cons b l ih => simp [PyData.canLayAll0, PyData.depthAll, PyData.canLay0, PyData.depth, ih]
  simp [shp, SeqAt.shaped, PyData.canLay0, PyData.depth, e l]
theorem ix_ints {ls : List Int} {k : Int} (h : 0 ≤ k ∧ k < ls.length) (S : Store) : fIx (.p (intsD ls)) (.p (.int k)) S = .ok (.p (.int (ls.getD k.toNat 0))) S := by
  obtain ⟨i, rfl⟩ : ∃ i : Nat, k = i := ⟨k.toNat, by omega⟩
  have hi : i < ls.length := by omega
  rw [fix_tupN (by rw [List.length_map]; exact hi)]
  simp [hi, List.getD_eq_getElem?_getD]
theorem sum_way {ls : List Int} {w : List Int} (S : Store) : fSum (.p (.list (w.map fun k => PyData.int (ls.getD k.toNat 0)))) S = .ok (.p (.int (wl ls w))) S := by
  have := sum_ints (w.map fun k => ls.getD k.toNat 0) S
  rw [List.map_map] at this
  exact this
theorem length_ok {n q : Nat} {ls : List Int} {ws : Es} {w : List Int} {S : Store} (hq : S[q]? = some (workC ls ws)) (hl : ls.length = n) (h8 : n ≤ 8) (hw : WayOk n w) : F__length [.o q, .p (wayD w)] S = .ok (.p (.int (wl ls w))) S := by
  have few := hw.few
  have e := comp_allT (ρ := [some (.o q), some (.p (wayD w)), none]) (S := S) (vs := [2]) (t := tName 2) (el := e__length_1) (g := PyData.int) (f := fun k => .int (ls.getD k.toNat 0)) (srcSeq_tup (X := eVar 1) rfl) (its_tup (w.map PyData.int)) (by omega)
    (fun k hk => ⟨_, rfl, (bin_of ((un_of rfl).trans (fld_len hq)) rfl).trans (ix_ints (by have := hw.mem hk; omega) S)⟩)
  exact finR_of (F := F__length) rfl rfl (sRet_of ((cb1 e).trans (sum_way S)))
theorem law_length_ok {n : Nat} {ls : List Int} {b : PyData} {w : List Int} {S : Store} (hl : ls.length = n) (h8 : n ≤ 8) (hw : WayOk n w) : F__law_length [.p (.tuple [intsD ls, b]), .p (wayD w)] S = .ok (.p (.int (wl ls w))) S := by
  have few := hw.few
  have e := comp_allT (ρ := [some (.p (.tuple [intsD ls, b])), some (.p (wayD w)), none]) (S := S) (vs := [2]) (t := tName 2) (el := e__law_length_1) (g := PyData.int) (f := fun k => .int (ls.getD k.toNat 0)) (srcSeq_tup (X := eVar 1) rfl) (its_tup (w.map PyData.int)) (by omega)
    (fun k hk => ⟨_, rfl, (bin_of (d := .p (intsD ls)) ((bin_of rfl rfl).trans (fix_tupN (ds := [intsD ls, b]) (k := 0) (by simp) S)) rfl).trans (ix_ints (by have := hw.mem hk; omega) S)⟩)
  exact finR_of (F := F__law_length) rfl rfl (sRet_of ((cb1 e).trans (sum_way S)))
/-- the greatest length -/
abbrev far (n : Nat) (ls : List Int) (ws : Es) (m : Int) : Prop := isMax ((waysOf n ws).map (wl ls)) m
theorem far_is {n : Nat} {ws : Es} (hw : WOk n ws) (ls : List Int) : ∃ m, far n ls ws m := by
  have h := waysOf_sing hw (k := 0) (by have := hw.n1; omega)
  obtain ⟨m, _, h⟩ := maxI_is (L := (waysOf n ws).map (wl ls)) (by
    intro e
    rw [List.map_eq_nil_iff.mp e] at h
    cases h)
  exact ⟨m, h⟩
theorem ending_ok {n q : Nat} {ls : List Int} {ws : Es} {S : Store} {m : Int} (hq : S[q]? = some (workC ls ws)) (hl : ls.length = n) (hw : WOk n ws) (hz : ws.length ≤ 1000) (hm : far n ls ws m) : F_ending [.o q] S = .ok (.p (.int m)) S := by
  have few := waysOf_few hw
  have e := comp_allT (ρ := [some (.o q), none]) (S := S) (fsrc := s_ending_1) (vs := [1]) (t := tName 1) (el := e_ending_1) (g := wayD) (f := fun w => .int (wl ls w)) (srcSeq_lst ((cb1 (d := .o q) rfl).trans (all_ways_ok hq hl hw hz))) (its_lst _) (by omega)
    (fun w hw' => ⟨_, rfl, (cb2 (d := .o q) (e := .p (wayD w)) rfl rfl).trans (length_ok hq hl hw.n8 (waysOf_ok hw w hw'))⟩)
  have mx := max_ints (isMax_maxI hm) S
  rw [List.map_map] at mx
  exact finR_of (F := F_ending) rfl rfl (sRet_of ((cb1 e).trans mx))
end LK
set_option Elab.async false
set_option linter.all false
set_option maxRecDepth 100000
set_option maxHeartbeats 400000
namespace LK
open PySem PySem.Spec L2 DL
theorem ne_same (d : PyData) (h : shp d) (S : Store) : fEq true (.p d) (.p d) S = .ok (.p (.bool false)) S := by
  have h1 : SeqAt.shaped d = true := h
  have e := SeqAt.eqv_refl d (shp_lay h)
  simp [fEq, toPy, h1, e]
theorem dep_ints (l : List Int) : PyData.depth (intsD l) ≤ 1 := by
  rw [dep_tup]
  have := depthAll_le (ds := l.map PyData.int) (m := 0) fun d hd => by
    obtain ⟨i, _, rfl⟩ := List.mem_map.mp hd
    simp [PyData.depth]
  omega
theorem dep_edges (E : Es) : PyData.depth (.tuple (E.map edgeD)) ≤ 2 := by
  rw [dep_tup]
  have := depthAll_le (ds := E.map edgeD) (m := 1) fun d hd => by
    obtain ⟨i, _, rfl⟩ := List.mem_map.mp hd
    exact dep_ints [i.1, i.2]
  omega
theorem lay_edges (E : Es) : lay (.tuple (E.map edgeD)) := lay_tupI fun d hd => by
  obtain ⟨i, _, rfl⟩ := List.mem_map.mp hd
  exact shp_lay (shp_intsT [i.1, i.2])
theorem lay_str (s : String) : lay (.str s) := by
  unfold lay
  rw [PyData.canLay0]
  exact strOk_str s
theorem repl_of {A P X : Fe} {ρ : Sl} {S : Store} {ls : List Int} {p : Nat} {x : Int} (hA : A ρ S = .ok (.p (intsD ls)) S) (hP : P ρ S = .ok (.p (.int p)) S) (hX : X ρ S = .ok (.p (.int x)) S) (hp : p < ls.length) (hz : ls.length ≤ 1000) :
    eBin fAdd (eBin fAdd (eSl A oNone (oSome P)) (eTup (aCons X aNil))) (eSl A (oSome (eBin fAdd P (eC (.int 1)))) oNone) ρ S = .ok (.p (intsD (ls.set p x))) S := by
  have s1 : fSl none (some (p : Int)) (.p (intsD ls)) S = .ok (.p (.tuple ((ls.map PyData.int).take p))) S := by
    show M.pure _ S = _
    rw [cut_to]; rfl
  have s2 : fSl (some ((p : Int) + 1)) none (.p (intsD ls)) S = .ok (.p (.tuple ((ls.map PyData.int).drop (p + 1)))) S := by
    show M.pure _ S = _
    rw [show ((p : Int) + 1) = ((p + 1 : Nat) : Int) by omega, cut_from]; rfl
  have a1 := addT (xs := (ls.map PyData.int).take p) (ys := [.int x]) S (by simp; omega)
  have a2 := addT (xs := (ls.map PyData.int).take p ++ [.int x]) (ys := (ls.map PyData.int).drop (p + 1)) S (by simp; omega)
  have e : (ls.map PyData.int).take p ++ [.int x] ++ (ls.map PyData.int).drop (p + 1) = (ls.set p x).map PyData.int := by
    rw [List.set_eq_take_append_cons_drop, if_pos hp]
    simp [List.map_take, List.map_drop]
  rw [e] at a2
  refine (bin_of (d := .p (.tuple ((ls.map PyData.int).take p ++ [.int x]))) (S1 := S) ?_ ?_).trans a2
  · refine (bin_of (d := .p (.tuple ((ls.map PyData.int).take p))) (e := .p (.tuple [.int x])) ?_ (tup1 hX)).trans a1
    exact (sl_of (d := .p (intsD ls)) (l := none) (h := some (p : Int)) hA rfl (oS_of hP)).trans s1
  · exact (sl_of (d := .p (intsD ls)) (l := some ((p : Int) + 1)) (h := none) hA (oS_of ((bin_of hP rfl).trans rfl)) rfl).trans s2
/-! sizes of what is passed -/
structure OkS (v : PyData) (m c : Nat) : Prop where
  l : lay v
  d : PyData.depth v ≤ m
  n : nd v ≤ c
theorem OkS.v {v : PyData} {m c : Nat} (h : OkS v m c) (hm : m ≤ 40) (hc : c ≤ 1000000) : OkV v 40 := ⟨h.l, Nat.le_trans h.d hm, Nat.le_trans h.n hc⟩
theorem ndL_le {c : Nat} : ∀ {ds : List PyData}, (∀ d ∈ ds, nd d ≤ c) → ndL ds ≤ ds.length * c
  | [], _ => by simp [ndL]
  | d :: ds, h => by
    have h1 := h d (by simp)
    have h2 := ndL_le (ds := ds) fun x hx => h x (by simp [hx])
    simp only [ndL, List.length_cons, Nat.succ_mul]
    omega
theorem OkS.tup {ds : List PyData} {m c n : Nat} (h : ∀ d ∈ ds, OkS d m c) (hn : ds.length ≤ n) : OkS (.tuple ds) (m + 1) (n * c + 1) := by
  refine ⟨lay_tupI fun d hd => (h d hd).l, ?_, ?_⟩
  · rw [dep_tup]
    have := depthAll_le (ds := ds) (m := m) fun d hd => (h d hd).d
    omega
  · have h1 := ndL_le (ds := ds) (c := c) fun d hd => (h d hd).n
    have h2 : ds.length * c ≤ n * c := Nat.mul_le_mul_right c hn
    simp only [nd]
    omega
theorem OkS.lst {ds : List PyData} {m c n : Nat} (h : ∀ d ∈ ds, OkS d m c) (hn : ds.length ≤ n) : OkS (.list ds) (m + 1) (n * c + 1) := by
  refine ⟨lay_lstI fun d hd => (h d hd).l, ?_, ?_⟩
  · rw [dep_lst]
    have := depthAll_le (ds := ds) (m := m) fun d hd => (h d hd).d
    omega
  · have h1 := ndL_le (ds := ds) (c := c) fun d hd => (h d hd).n
    have h2 : ds.length * c ≤ n * c := Nat.mul_le_mul_right c hn
    simp only [nd]
    omega
theorem OkS.int (i : Int) : OkS (.int i) 0 1 := ⟨rfl, by simp [PyData.depth], by simp [nd]⟩
theorem OkS.non : OkS .none 0 1 := ⟨rfl, by simp [PyData.depth], by simp [nd]⟩
theorem OkS.bl (b : Bool) : OkS (.bool b) 0 1 := ⟨rfl, by simp [PyData.depth], by simp [nd]⟩
theorem OkS.str (s : String) : OkS (.str s) 0 1 := ⟨lay_str s, by simp [PyData.depth], by simp [nd]⟩
theorem OkS.up {v : PyData} {m c m' c' : Nat} (h : OkS v m c) (hm : m ≤ m') (hc : c ≤ c') : OkS v m' c' := ⟨h.l, Nat.le_trans h.d hm, Nat.le_trans h.n hc⟩
theorem OkS.edge (e : Int × Int) : OkS (edgeD e) 1 3 := OkS.tup (m := 0) (c := 1) (n := 2) (fun d hd => by
  simp only [List.mem_cons, List.not_mem_nil, or_false] at hd
  rcases hd with rfl | rfl <;> exact OkS.int _) (by simp)
theorem ok_edges {E : Es} (h : E.length ≤ 100) : OkS (.tuple (E.map edgeD)) 2 301 := OkS.tup (n := 100) (fun d hd => by
  obtain ⟨e, _, rfl⟩ := List.mem_map.mp hd
  exact OkS.edge e) (by rw [List.length_map]; exact h)
theorem ok_edgesL {E : Es} (h : E.length ≤ 100) : OkS (.list (E.map edgeD)) 2 301 := OkS.lst (n := 100) (fun d hd => by
  obtain ⟨e, _, rfl⟩ := List.mem_map.mp hd
  exact OkS.edge e) (by rw [List.length_map]; exact h)
theorem ok_ints {l : List Int} (h : l.length ≤ 100) : OkS (intsD l) 1 101 := OkS.tup (n := 100) (m := 0) (c := 1) (fun d hd => by
  obtain ⟨e, _, rfl⟩ := List.mem_map.mp hd
  exact OkS.int e) (by rw [List.length_map]; exact h)
theorem ok_intsL {l : List Int} (h : l.length ≤ 100) : OkS (.list (l.map PyData.int)) 1 101 := OkS.lst (n := 100) (m := 0) (c := 1) (fun d hd => by
  obtain ⟨e, _, rfl⟩ := List.mem_map.mp hd
  exact OkS.int e) (by rw [List.length_map]; exact h)
/-- a list of pairs of such -/
def PairsOk (l : List PyData) : Prop := ∀ d ∈ l, ∃ one other, d = .tuple [one, other] ∧ OkV one 40 ∧ OkV other 40
theorem PairsOk.app {a b : List PyData} (h : PairsOk a) (g : PairsOk b) : PairsOk (a ++ b) := fun d hd => (List.mem_append.mp hd).elim (h d) (g d)
theorem PairsOk.nil : PairsOk [] := fun d hd => by cases hd
theorem PairsOk.cons {x y : PyData} {l : List PyData} {m m' c c' : Nat} (h1 : OkS x m c) (h2 : OkS y m' c') (h : PairsOk l) (hm : m ≤ 40 ∧ m' ≤ 40 ∧ c ≤ 1000000 ∧ c' ≤ 1000000 := by omega) : PairsOk (.tuple [x, y] :: l) := fun d hd => by
  rcases List.mem_cons.mp hd with rfl | hd
  · exact ⟨x, y, rfl, h1.v hm.1 hm.2.2.1, h2.v hm.2.1 hm.2.2.2⟩
  · exact h d hd
/-! evaluations -/
theorem aNil_of {ρ : Sl} {S : Store} : aNil ρ S = .ok [] S := rfl
theorem aCons_of {X : Fe} {fs : Fl} {ρ : Sl} {S S1 S2 : Store} {d : D} {ds : List D} (h : X ρ S = .ok d S1) (g : fs ρ S1 = .ok ds S2) : aCons X fs ρ S = .ok (d :: ds) S2 := by simp [aCons, M.bind, M.pure, h, g]
theorem eLst_of {fs : Fl} {ρ : Sl} {S S1 : Store} {ds : List PyData} (h : fs ρ S = .ok (ds.map D.p) S1) (hz : ds.length ≤ 1000) : eLst fs ρ S = .ok (.p (.list ds)) S1 := by
  unfold eLst M.bind
  rw [h]
  simp only [kLst, asPs_map]
  rw [if_pos (by rw [sizeLine_eq]; omega)]
theorem cons_p {X : Fe} {fs : Fl} {ρ : Sl} {S S1 S2 : Store} {d : PyData} {ds : List PyData} (h : X ρ S = .ok (.p d) S1) (g : fs ρ S1 = .ok (ds.map D.p) S2) : aCons X fs ρ S = .ok ((d :: ds).map D.p) S2 := aCons_of h g
theorem nil_p {ρ : Sl} {S : Store} : aNil ρ S = .ok (([] : List PyData).map D.p) S := rfl
theorem cat_of {X Y : Fe} {ρ : Sl} {S S1 S2 : Store} {a b : List PyData} (h : X ρ S = .ok (.p (.list a)) S1) (g : Y ρ S1 = .ok (.p (.list b)) S2) (hz : a.length + b.length ≤ 1000) : eBin fAdd X Y ρ S = .ok (.p (.list (a ++ b))) S2 := (bin_of h g).trans (addL S2 (by omega))
theorem list_of {X : Fe} {ρ : Sl} {S S1 : Store} {l : List PyData} (h : X ρ S = .ok (.p (.tuple l)) S1) : eCB (on1 fList) (aCons X aNil) ρ S = .ok (.p (.list l)) S1 := (cb1 h).trans rfl
theorem rest_of {X : Fe} {ρ : Sl} {S S1 : Store} {l : List PyData} (h : X ρ S = .ok (.p (.tuple l)) S1) : eSl X (oSome (eC (.int 1))) oNone ρ S = .ok (.p (.tuple (l.drop 1))) S1 := by
  have e : fSl (some 1) none (.p (.tuple l)) S1 = .ok (.p (.tuple (l.drop 1))) S1 := by
    show M.pure _ S1 = _
    rw [cut_rest]; rfl
  unfold eSl M.bind
  rw [h]
  exact e
theorem first_of {X : Fe} {ρ : Sl} {S S1 : Store} {l : List PyData} (h : X ρ S = .ok (.p (.tuple l)) S1) : eSl X oNone (oSome (eC (.int 1))) ρ S = .ok (.p (.tuple (l.take 1))) S1 := by
  have e : fSl none (some 1) (.p (.tuple l)) S1 = .ok (.p (.tuple (l.take 1))) S1 := by
    show M.pure _ S1 = _
    rw [cut_first]; rfl
  unfold eSl M.bind
  rw [h]
  exact e
theorem rev_of {X : Fe} {ρ : Sl} {S S1 : Store} {l : List PyData} (h : X ρ S = .ok (.p (.tuple l)) S1) : eUn fRev X ρ S = .ok (.p (.tuple l.reverse)) S1 := (un_of h).trans rfl
theorem addT_of {X Y : Fe} {ρ : Sl} {S S1 S2 : Store} {a b : List PyData} (h : X ρ S = .ok (.p (.tuple a)) S1) (g : Y ρ S1 = .ok (.p (.tuple b)) S2) (hz : a.length + b.length ≤ 1000) : eBin fAdd X Y ρ S = .ok (.p (.tuple (a ++ b))) S2 := (bin_of h g).trans (addT S2 (by omega))
theorem rep_of {X Y : Fe} {ρ : Sl} {S S1 : Store} {x : PyData} {k : Nat} (h : X ρ S = .ok (.p (.tuple [x])) S1) (g : Y ρ S1 = .ok (.p (.int k)) S1) (hk : 1 ≤ k) (hk2 : k ≤ 1000) : eBin fRepM X Y ρ S = .ok (.p (.tuple (List.replicate k x))) S1 := by
  refine (bin_of h g).trans ?_
  unfold fRepM
  by_cases h1 : (k : Int) = 1
  · have : k = 1 := by omega
    subst this
    rfl
  · dsimp only
    rw [if_neg h1, if_pos ⟨by simp, by omega, by omega, by simp⟩]
    have : (List.replicate (k : Int).toNat [x]).flatten = List.replicate k x := by
      rw [Int.toNat_natCast]
      clear h g hk hk2 h1
      induction k with
      | zero => rfl
      | succ k ih => rw [List.replicate_succ, List.flatten_cons, ih, List.replicate_succ]; rfl
    rw [this]
theorem ok_rep {x : PyData} {m c k : Nat} (h : OkS x m c) (hk : k ≤ 10) : OkS (.tuple (List.replicate k x)) (m + 1) (10 * c + 1) := OkS.tup (fun d hd => by rw [(List.mem_replicate.mp hd).2]; exact h) (by simpa using hk)
theorem ok_one {x : PyData} {m c : Nat} (h : OkS x m c) : OkS (.tuple [x]) (m + 1) (1 * c + 1) := OkS.tup (fun d hd => by
  have : d = x := by simpa using hd
  rw [this]; exact h) (by simp)
theorem ok_two {x y : PyData} {m c : Nat} (h : OkS x m c) (g : OkS y m c) : OkS (.tuple [x, y]) (m + 1) (2 * c + 1) := OkS.tup (fun d hd => by
  simp only [List.mem_cons, List.not_mem_nil, or_false] at hd
  rcases hd with rfl | rfl
  · exact h
  · exact g) (by simp)
theorem ok_twoL {x y : PyData} {m c : Nat} (h : OkS x m c) (g : OkS y m c) : OkS (.list [x, y]) (m + 1) (2 * c + 1) := OkS.lst (fun d hd => by
  simp only [List.mem_cons, List.not_mem_nil, or_false] at hd
  rcases hd with rfl | rfl
  · exact h
  · exact g) (by simp)
theorem ok_nil : OkS (.tuple []) 1 1 := OkS.tup (m := 0) (c := 1) (n := 0) (fun d hd => by cases hd) (by simp)
/-! what is spoilt -/
theorem gd_edges {E : Es} (h : ∀ e ∈ E, 0 ≤ e.1 ∧ e.1 < 100 ∧ 0 ≤ e.2 ∧ e.2 < 100) : gd (.tuple (E.map edgeD)) = true := by
  show gdL (E.map edgeD) = true
  induction E with
  | nil => rfl
  | cons e E ih =>
    have h1 := h e (by simp)
    have a : gd (edgeD e) = true := by
      simp [gd, gdL, edgeD]
      omega
    rw [List.map_cons, gdL, a, ih fun x hx => h x (by simp [hx])]
    rfl
theorem gd_ints {l : List Int} (h : ∀ x ∈ l, 0 ≤ x ∧ x < 1000000) : gd (intsD l) = true := by
  show gdL (l.map PyData.int) = true
  induction l with
  | nil => rfl
  | cons x l ih =>
    have h1 := h x (by simp)
    have a : gd (.int x) = true := by
      simp [gd]
      omega
    rw [List.map_cons, gdL, a, ih fun y hy => h y (by simp [hy])]
    rfl
theorem spoilt_v {b : Nat} {v : PyData} {m c : Nat} {deep : Int} {S : Store} (h : OkS v m c) (hm : m ≤ 30) (hc : c ≤ 400000) (hg : gd v = true) (hs : shp v) (hd : 0 ≤ deep ∧ deep < 20) (hb : Bx b S) : ∃ r S', F__law_spoilt 20 [.o b, .p v, .p (.int deep)] S = .ok (.p r) S' ∧ OkS r (m + 1) (2 * c + 20) ∧ Kp b S S' ∧ S'.length = S.length := by
  obtain ⟨r, S', e, sp, k, l⟩ := spoilt_ok 20 deep v S hd.1 hd.2 hg hs (Nat.le_trans h.n (by omega)) hb
  have h1 := sp.dep
  have h2 := sp.nd
  have h3 := h.d
  have h4 := h.n
  exact ⟨r, S', e, ⟨sp.lay, by omega, by omega⟩, k, l⟩
end LK
set_option Elab.async false
set_option linter.all false
set_option maxRecDepth 100000
set_option maxHeartbeats 400000
namespace LK
open PySem PySem.Spec L2 DL
theorem asIP_ints : ∀ l : List Int, asIP (l.map PyData.int) = some l
  | [] => rfl
  | b :: l => by rw [List.map_cons, asIP, asIP_ints l]; rfl
theorem asTups_ways : ∀ L : List (List Int), asTups ((L.map wayD).map D.p) = some L
  | [] => rfl
  | w :: L => by rw [List.map_cons, List.map_cons, asTups, asIP_ints, asTups_ways L]; rfl
theorem min_ways {L : List (List Int)} {w : List Int} (h : minT L = some w) (S : Store) : fMinA (.p (.list (L.map wayD))) S = .ok (.p (wayD w)) S := by
  have e : asInts ((L.map wayD).map D.p) = none := by
    cases L with
    | nil => cases h
    | cons v L => rfl
  show ofO S ((some ((L.map wayD).map D.p)).bind _) = _
  simp only [Option.bind_some, e, asTups_ways, h]
  rfl
theorem max_tup {l : List Int} {m : Int} (h : maxI l = some m) (S : Store) : fMaxA (.p (intsD l)) S = .ok (.p (.int m)) S := by
  show ofO S ((asIP (l.map PyData.int)).bind _) = _
  rw [asIP_ints]
  simp only [Option.bind_some, h]
  rfl
theorem max_d0 (l : List Int) (S : Store) : fMaxD0 (.p (.list (l.map PyData.int))) S = .ok (.p (.int (maxD0 l))) S := by
  have e : ∀ l : List Int, asInts ((l.map PyData.int).map D.p) = some l := fun l => by
    induction l with
    | nil => rfl
    | cons b l ih => rw [List.map_cons, List.map_cons, asInts, ih]; rfl
  show ofO S ((some ((l.map PyData.int).map D.p)).bind _) = _
  simp only [Option.bind_some, e l]
  rfl
/-- the ways of the greatest length, the least of them -/
def tops (n : Nat) (ls : List Int) (ws : Es) (m : Int) : List (List Int) := (waysOf n ws).filter fun w => decide (wl ls w = m)
theorem tops_min {n : Nat} {ls : List Int} {ws : Es} {m : Int} (h : far n ls ws m) : ∃ w, minT (tops n ls ws m) = some w := by
  obtain ⟨w, h1, h2⟩ := List.mem_map.mp h.1
  have : w ∈ tops n ls ws m := List.mem_filter.mpr ⟨h1, by simpa using h2⟩
  cases q : tops n ls ws m with
  | nil => rw [q] at this; cases this
  | cons v L => exact ⟨_, rfl⟩
section
variable {n q : Nat} {ls : List Int} {ws : Es} {S : Store} {m : Int}
theorem longest_ok (hq : S[q]? = some (workC ls ws)) (hl : ls.length = n) (hw : WOk n ws) (hz : ws.length ≤ 1000) (hm : far n ls ws m) {w : List Int} (hm2 : minT (tops n ls ws m) = some w) : F_longest [.o q] S = .ok (.p (wayD w)) S := by
  have few := waysOf_few hw
  have e := comp_mapT (ρ := [some (.o q), some (.p (.int m)), none]) (S := S) (fsrc := s_longest_1) (vs := [2]) (t := tName 2) (tb := t_longest_1) (el := eVar 2) (g := wayD) (c := fun w => decide (wl ls w = m)) (f := wayD) (srcSeq_lst ((cb1 (d := .o q) rfl).trans (all_ways_ok hq hl hw hz))) (its_lst _) (by omega)
    (fun w hw' => ⟨[some (.o q), some (.p (.int m)), some (.p (wayD w))], rfl, eT_of ((bin_of ((cb2 (d := .o q) (e := .p (wayD w)) rfl rfl).trans (length_ok hq hl hw.n8 (waysOf_ok hw w hw'))) rfl).trans (eqInt _ _ _)), fun _ => rfl⟩)
  refine finR_of (F := F_longest) rfl rfl ?_
  refine (stSet (d := .p (.int m)) (S1 := S) ((cb1 rfl).trans (ending_ok hq hl hw hz hm))).trans ?_
  exact sRet_of ((cb1 e).trans (min_ways hm2 S))
/-! heights -/
theorem set_last (A : Store) (x y : Cell) : (A ++ [x]).set A.length y = A ++ [y] := by simp
theorem preds_data (hw : WOk n ws) (fd : List Int) (p : Nat) : (ws.filter fun e => decide (e.2 = (p : Int))).map (fun e => PyData.int (fd.getD e.1.toNat 0)) = ((preds ws p).map fun i => fd.getD i.toNat 0).map PyData.int := by
  unfold preds
  rw [List.map_map, List.map_map]
  rfl
theorem heights_ok (hq : S[q]? = some (workC ls ws)) (hl : ls.length = n) (hw : WOk n ws) (hz : ws.length ≤ 1000) : ∃ U, F_heights [.o q] S = .ok (.p (intsD (htsN ls ws n))) (S ++ U) := by
  have hq' : ∀ c, (S ++ [c])[q]? = some (workC ls ws) := fun c => by
    rw [List.getElem?_append_left ((List.getElem?_eq_some_iff.mp hq).1)]; exact hq
  have n8 := hw.n8
  let C : Nat → Store := fun k => S ++ [.lst (intsC (htsN ls ws k))]
  have I := its_rng 0 n
  rw [rngL_map] at I
  have hn := len_tup (C 0) (ls.map PyData.int)
  rw [List.length_map, hl] at hn
  obtain ⟨ρ, T, e, k, x2, x3, hkn, hk, rfl, rfl⟩ := for_onT (src := s_heights_2) (ρ := [some (.o q), some (.o S.length), none, none, none, none]) (S := C 0) (t := tName 2) (u := l_heights_1) I
    (fun rest ρ T => ∃ k x2 x3, k ≤ n ∧ rest = (List.range n).drop k ∧ ρ = [some (.o q), some (.o S.length), x2, x3, none, none] ∧ T = C k) (rng1_of ((cb1 ((un_of rfl).trans (fld_len (hq' _)))).trans hn) (by omega)) ⟨0, none, none, by omega, rfl, rfl, rfl⟩
    (fun p rest ρ T hp ⟨k, x2, x3, _, hr, hρ, hT⟩ => by
      subst hρ
      subst hT
      have hk : k < n := by
        have := congrArg List.length hr
        simp at this
        omega
      rw [List.drop_eq_getElem_cons (by simpa using hk)] at hr
      obtain ⟨h1, h2⟩ := List.cons.inj hr
      have h1 : p = k := by simpa using h1
      subst h1
      subst h2
      have hv : (C p)[S.length]? = some (.lst (intsC (htsN ls ws p))) := by simp [C]
      have hlen := htsN_len ls ws p
      have ec := comp_mapT (ρ := [some (.o q), some (.o S.length), some (.p (.int p)), x3, none, none]) (S := C p) (fsrc := s_heights_1) (vs := [4, 5]) (t := tTupT 2 (tsCons (tName 4) (tsCons (tName 5) tsNil))) (tb := t_heights_1) (el := e_heights_1) (g := edgeD) (c := fun e => decide (e.2 = (p : Int))) (f := fun e => PyData.int ((htsN ls ws p).getD e.1.toNat 0))
        (srcSeq_tup ((un_of rfl).trans (fld_wts (hq' _)))) (its_tup (ws.map edgeD)) (by omega)
        (fun e he => ⟨[some (.o q), some (.o S.length), some (.p (.int p)), x3, some (.p (.int e.1)), some (.p (.int e.2))], rfl, eT_of ((bin_of rfl rfl).trans (eqInt _ _ _)), fun h => by
          have h : e.2 = (p : Int) := by simpa using h
          have hr := hw.ed e.1 e.2 he
          have e1 : e.1 = (e.1.toNat : Int) := by omega
          refine (bin_of (d := .o S.length) (e := .p (.int e.1.toNat)) rfl (by rw [← e1]; rfl)).trans ?_
          exact vec_ix hv (by omega)⟩)
      rw [preds_data hw] at ec
      refine ⟨_, _, C (p + 1), rfl, ?_, p + 1, some (.p (.int p)), some (.p (.list (((preds ws p).map fun i => (htsN ls ws p).getD i.toNat 0).map PyData.int))), by omega, rfl, rfl, rfl⟩
      refine (stSet ec).trans ?_
      refine sExpr_of (d := .p .none) ((vec_app (l := htsN ls ws p) (x := hNext ls ws (htsN ls ws p)) rfl ?_ hv (by omega)).trans ?_)
      · have ei := ix_ints (ls := ls) (k := p) (by omega) (C p)
        rw [Int.toNat_natCast] at ei
        refine (bin_of (d := .p (.int (ls.getD p 0))) ((bin_of ((un_of rfl).trans (fld_len (hq' _))) rfl).trans ei) ((cb1 rfl).trans (max_d0 _ _))).trans ?_
        show R.ok (D.p (.int (_ + _))) (C p) = _
        rw [hNext, hlen]
      · show R.ok _ ((S ++ [_]).set S.length _) = _
        rw [set_last]
        rfl)
  have hk : n ≤ k := by
    have := congrArg List.length hk
    simp at this
    omega
  have : k = n := by omega
  subst this
  refine ⟨[.lst (intsC (htsN ls ws k))], finR_of (F := F_heights) rfl rfl ?_⟩
  refine (stSet (d := .o S.length) (S1 := C 0) rfl).trans ?_
  have vt := vec_tuple (T := C k) (j := S.length) (l := htsN ls ws k) (by simp [C])
  refine (stp e).trans (sRet_of ((cb1 (d := .o S.length) rfl).trans vt))
theorem law_heights_ok (hl : ls.length = n) (h0 : ∀ k, 0 ≤ ls.getD k 0) (hw : WOk n ws) (hz : ws.length ≤ 1000) : ∃ U, F__law_heights [.p (.tuple [intsD ls, .tuple (ws.map edgeD)])] S = .ok (.p (intsD (htsN ls ws n))) (S ++ U) := by
  have n8 := hw.n8
  let C : Nat → Store := fun k => S ++ [.lst (intsC (htsN ls ws k))]
  have I := its_rng 0 n
  rw [rngL_map] at I
  have hn := len_tup (C 0) (ls.map PyData.int)
  rw [List.length_map, hl] at hn
  have w0 : ∀ T, fIx (.p (.tuple [intsD ls, .tuple (ws.map edgeD)])) (.p (.int 0)) T = .ok (.p (intsD ls)) T := fun T => rfl
  have w1 : ∀ T, fIx (.p (.tuple [intsD ls, .tuple (ws.map edgeD)])) (.p (.int 1)) T = .ok (.p (.tuple (ws.map edgeD))) T := fun T => rfl
  obtain ⟨ρ, T, e, k, x2, hkn, hk, rfl, rfl⟩ := for_onT (src := s__law_heights_2) (ρ := [some (.p (.tuple [intsD ls, .tuple (ws.map edgeD)])), some (.o S.length), none, none, none]) (S := C 0) (t := tName 2) (u := l__law_heights_1) I
    (fun rest ρ T => ∃ k x2, k ≤ n ∧ rest = (List.range n).drop k ∧ ρ = [some (.p (.tuple [intsD ls, .tuple (ws.map edgeD)])), some (.o S.length), x2, none, none] ∧ T = C k) (rng1_of ((cb1 ((bin_of rfl rfl).trans (w0 _))).trans hn) (by omega)) ⟨0, none, by omega, rfl, rfl, rfl⟩
    (fun p rest ρ T hp ⟨k, x2, _, hr, hρ, hT⟩ => by
      subst hρ
      subst hT
      have hk : k < n := by
        have := congrArg List.length hr
        simp at this
        omega
      rw [List.drop_eq_getElem_cons (by simpa using hk)] at hr
      obtain ⟨h1, h2⟩ := List.cons.inj hr
      have h1 : p = k := by simpa using h1
      subst h1
      subst h2
      have hv : (C p)[S.length]? = some (.lst (intsC (htsN ls ws p))) := by simp [C]
      have hlen := htsN_len ls ws p
      have few : ((preds ws p).map fun i => (htsN ls ws p).getD i.toNat 0).length ≤ 1000 := by
        rw [List.length_map]
        unfold preds
        rw [List.length_map]
        exact Nat.le_trans (List.length_filter_le _ _) hz
      have ec := comp_mapT (ρ := [some (.p (.tuple [intsD ls, .tuple (ws.map edgeD)])), some (.o S.length), some (.p (.int p)), none, none]) (S := C p) (fsrc := s__law_heights_1) (vs := [3, 4]) (t := tTupT 2 (tsCons (tName 3) (tsCons (tName 4) tsNil))) (tb := t__law_heights_1) (el := e__law_heights_1) (g := edgeD) (c := fun e => decide (e.2 = (p : Int))) (f := fun e => PyData.int ((htsN ls ws p).getD e.1.toNat 0))
        (srcSeq_tup ((bin_of rfl rfl).trans (w1 _))) (its_tup (ws.map edgeD)) (by omega)
        (fun e he => ⟨[some (.p (.tuple [intsD ls, .tuple (ws.map edgeD)])), some (.o S.length), some (.p (.int p)), some (.p (.int e.1)), some (.p (.int e.2))], rfl, eT_of ((bin_of rfl rfl).trans (eqInt _ _ _)), fun h => by
          have h : e.2 = (p : Int) := by simpa using h
          have hr := hw.ed e.1 e.2 he
          have e1 : e.1 = (e.1.toNat : Int) := by omega
          refine (bin_of (d := .o S.length) (e := .p (.int e.1.toNat)) rfl (by rw [← e1]; rfl)).trans ?_
          exact vec_ix hv (by omega)⟩)
      rw [preds_data hw] at ec
      refine ⟨_, _, C (p + 1), rfl, ?_, p + 1, some (.p (.int p)), by omega, rfl, rfl, rfl⟩
      refine sExpr_of (d := .p .none) ((vec_app (l := htsN ls ws p) (x := hNext ls ws (htsN ls ws p)) rfl ?_ hv (by omega)).trans ?_)
      · have ei := ix_ints (ls := ls) (k := p) (by omega) (C p)
        rw [Int.toNat_natCast] at ei
        have nn : ∀ y ∈ ((preds ws p).map fun i => (htsN ls ws p).getD i.toNat 0), 0 ≤ y := fun y hy => by
          obtain ⟨i, hi, rfl⟩ := List.mem_map.mp hy
          have := preds_lt hw hi
          rw [htsN_get ls ws p _ (by omega)]
          exact hAt_nn hw h0 _
        have mx := max_ints (l := 0 :: ((preds ws p).map fun i => (htsN ls ws p).getD i.toNat 0)) (m := maxD0 ((preds ws p).map fun i => (htsN ls ws p).getD i.toNat 0)) (by rw [← big0 nn]; rfl) (C p)
        have ad := addL (xs := [.int 0]) (ys := ((preds ws p).map fun i => (htsN ls ws p).getD i.toNat 0).map PyData.int) (C p) (by rw [List.length_map]; simp only [List.length_cons, List.length_nil]; omega)
        refine (bin_of (d := .p (.int (ls.getD p 0))) ((bin_of ((bin_of rfl rfl).trans (w0 _)) rfl).trans ei) ((cb1 ((bin_of (eLst_of (ds := [.int 0]) (aCons_of rfl aNil_of) (by simp)) ec).trans ad)).trans mx)).trans ?_
        show R.ok (D.p (.int (_ + _))) (C p) = _
        rw [hNext, hlen]
      · show R.ok _ ((S ++ [_]).set S.length _) = _
        rw [set_last]
        rfl)
  have hk : n ≤ k := by
    have := congrArg List.length hk
    simp at this
    omega
  have : k = n := by omega
  subst this
  refine ⟨[.lst (intsC (htsN ls ws k))], finR_of (F := F__law_heights) rfl rfl ?_⟩
  refine (stSet (d := .o S.length) (S1 := C 0) rfl).trans ?_
  have vt := vec_tuple (T := C k) (j := S.length) (l := htsN ls ws k) (by simp [C])
  refine (stp e).trans (sRet_of ((cb1 (d := .o S.length) rfl).trans vt))
end
end LK
set_option Elab.async false
set_option linter.all false
set_option maxRecDepth 100000
set_option maxHeartbeats 400000
namespace LK
open PySem PySem.Spec L2 DL
/-! whether they are heights -/
def hsB (ls : List Int) (ws : Es) (m : Int) (hs : List Int) : Bool :=
  (hs.all fun h => decide (0 ≤ h) && decide (h ≤ m)) && (((hs.zip ls).all fun ab => decide (ab.2 ≤ ab.1)) && ws.all fun e => decide (hs.getD e.1.toNat 0 + ls.getD e.2.toNat 0 ≤ hs.getD e.2.toNat 0))
def holdsB (ls : List Int) (ws : Es) (e d : PyData) : Bool := match e, d with
  | .int m, .tuple ds => decide (0 ≤ m) && (decide (ds.length = ls.length) && match asIP ds with
    | some hs => hsB ls ws m hs
    | none => false)
  | _, _ => false
theorem asIP_none {ds : List PyData} (h : asIP ds = none) (lo hi : Int) : ds.all (inRange lo hi) = false := by
  induction ds with
  | nil => cases h
  | cons d ds ih =>
    cases d with
    | int i =>
      have h : asIP ds = none := by
        cases q : asIP ds with
        | none => rfl
        | some l => rw [asIP, q] at h; cases h
      rw [List.all_cons, ih h, Bool.and_false]
    | _ => rfl
theorem inRange_ints (lo hi : Int) (hs : List Int) : (hs.map PyData.int).all (inRange lo hi) = hs.all fun h => decide (lo ≤ h) && decide (h ≤ hi) := by
  rw [List.all_map]
  rfl
abbrev numB : PyData → Bool
  | .int m => decide (0 ≤ m)
  | _ => false
section
variable {n q : Nat} {ls : List Int} {ws : Es} {S : Store}
theorem isNum_ok (e : PyData) (he : noDict e = true) (S : Store) : F_is_number [.p e] S = .ok (.p (.bool (numB e))) S := by
  have i := is_integer_ok e he S
  refine finR_of (F := F_is_number) rfl rfl (sRet_of ?_)
  cases e with
  | int m => exact (and_tt ((cb1 (d := .p (.int m)) rfl).trans i)).trans ((bin_of rfl rfl).trans rfl)
  | dict _ => cases he
  | none => exact (and_ff ((cb1 (d := .p .none) rfl).trans i)).trans rfl
  | bool b => exact (and_ff ((cb1 (d := .p (.bool b)) rfl).trans i)).trans rfl
  | str b => exact (and_ff ((cb1 (d := .p (.str b)) rfl).trans i)).trans rfl
  | tuple b => exact (and_ff ((cb1 (d := .p (.tuple b)) rfl).trans i)).trans rfl
  | list b => exact (and_ff ((cb1 (d := .p (.list b)) rfl).trans i)).trans rfl
theorem or_b {T U : Fb} {ρ : Sl} {b c : Bool} (h : T ρ S = .ok b S) (g : b = false → U ρ S = .ok c S) : bOr T U ρ S = .ok (b || c) S := by
  cases b with
  | true => exact bOr_t h
  | false => exact (bOr_f h).trans (g rfl)
theorem stIf_b {T : Fb} {v : Fs} {ρ : Sl} {b c : Bool} (h : T ρ S = .ok b S) (g : b = false → v ρ S = .rt (.p (.bool c)) S) : sSeq (sIf T (sRet (eC (.bool false))) sNil) v ρ S = .rt (.p (.bool (!b && c))) S := by
  cases b with
  | true =>
    unfold sSeq
    rw [sIf_t h]
    rfl
  | false => exact (stIf_f h).trans (g rfl)
theorem isiC_o (hq : S[q]? = some (workC ls ws)) : fIsiC "Work" "tuple" (.o q) S = .ok (.p (.bool false)) S := by
  simp [fIsiC, insAt, hq]
theorem isiC_p {d : PyData} (h : noDict d = true) : fIsiC "Work" "tuple" (.p d) S = .ok (.p (.bool (isTupD' d))) S := isi_tupD S d h
theorem zip_of {X Y : Fe} {ρ : Sl} {S S1 S2 : Store} {a b : List PyData} (h : X ρ S = .ok (.p (.tuple a)) S1) (g : Y ρ S1 = .ok (.p (.tuple b)) S2) : srcZip2 X Y ρ S = .ok (.zip (.p (.tuple a)) (.p (.tuple b))) S2 := by
  simp [srcZip2, aCons, aNil, M.bind, M.pure, h, g, ofZip2, isTup, seqItems]
/-- the work itself is no tuple -/
theorem hold_o (hq : S[q]? = some (workC ls ws)) {e : PyData} (he : noDict e = true) : F_heights_hold [.o q, .p e, .o q] S = .ok (.p (.bool false)) S := by
  refine finR_of (F := F_heights_hold) rfl rfl ((stIf_b (b := true) (c := false) ?_ (fun h => by cases h)).trans rfl)
  have t := or_b (S := S) (ρ := slots 7 [.o q, .p e, .o q]) (T := bNot (eT (eCB F_is_number (aCons (eVar 1) aNil)))) (U := bOr (bNot (eT (eUn (fIsiC "Work" "tuple") (eVar 2)))) (eT (eBin (fEq true) (eCB (on1 fLen) (aCons (eVar 2) aNil)) (eCB (on1 fLen) (aCons (eUn (fFld "Work" "lengths") (eVar 0)) aNil))))) (b := !(numB e)) (c := true)
    (bNot_of (eT_of ((cb1 rfl).trans (isNum_ok e he S)))) (fun _ => bOr_t (bNot_of (t := false) (eT_of ((un_of rfl).trans (isiC_o hq)))))
  rw [Bool.or_true] at t
  exact t
theorem hold_p (hq : S[q]? = some (workC ls ws)) (hw : WOk ls.length ws) (hz : ws.length ≤ 1000) {e d : PyData} (he : noDict e = true) (hd : OkV d 40) : F_heights_hold [.o q, .p e, .p d] S = .ok (.p (.bool (holdsB ls ws e d))) S := by
  have n8 := hw.n8
  have it := isNum_ok e he S
  have i2 := isiC_p (S := S) hd.no
  have hn := len_tup S (ls.map PyData.int)
  rw [List.length_map] at hn
  refine finR_of (F := F_heights_hold) rfl rfl ?_
  by_cases hq1 : numB e = true
  case neg =>
    have : holdsB ls ws e d = false := by
      cases e with
      | int m =>
        have : decide (0 ≤ m) = false := by simpa [numB] using hq1
        cases d <;> simp [holdsB, this]
      | _ => cases d <;> rfl
    rw [this]
    have nb : numB e = false := by simpa using hq1
    rw [nb] at it
    exact (stIf_b (b := true) (c := false) (bOr_t (bNot_of (t := false) (eT_of ((cb1 rfl).trans it)))) (fun h => by cases h)).trans rfl
  obtain ⟨m, rfl, hm⟩ : ∃ m, e = .int m ∧ 0 ≤ m := by
    cases e with
    | int m => exact ⟨m, rfl, by simpa [numB] using hq1⟩
    | _ => cases hq1
  have t1 : bNot (eT (eCB F_is_number (aCons (eVar 1) aNil))) (slots 7 [.o q, .p (.int m), .p d]) S = .ok false S := by
    have := bNot_of (eT_of ((cb1 (F := F_is_number) (X := eVar 1) (ρ := slots 7 [.o q, .p (.int m), .p d]) (S := S) (d := .p (.int m)) rfl).trans it))
    rw [this]
    simp [hm]
  by_cases ht : ∃ ds, d = .tuple ds
  case neg =>
    have e1 : holdsB ls ws (.int m) d = false := by
      cases d with
      | tuple ds => exact absurd ⟨ds, rfl⟩ ht
      | _ => rfl
    have e2 : isTupD' d = false := by
      cases d with
      | tuple ds => exact absurd ⟨ds, rfl⟩ ht
      | _ => rfl
    rw [e1]
    rw [e2] at i2
    exact (stIf_b (b := true) (c := false) ((bOr_f t1).trans (bOr_t (bNot_of (t := false) (eT_of ((un_of rfl).trans i2))))) (fun h => by cases h)).trans rfl
  obtain ⟨ds, rfl⟩ := ht
  have hl := len_tup S ds
  have t2 : bNot (eT (eUn (fIsiC "Work" "tuple") (eVar 2))) (slots 7 [.o q, .p (.int m), .p (.tuple ds)]) S = .ok false S := bNot_of (t := true) (eT_of ((un_of rfl).trans i2))
  have t3 : eT (eBin (fEq true) (eCB (on1 fLen) (aCons (eVar 2) aNil)) (eCB (on1 fLen) (aCons (eUn (fFld "Work" "lengths") (eVar 0)) aNil))) (slots 7 [.o q, .p (.int m), .p (.tuple ds)]) S = .ok (!decide ((ds.length : Int) = ls.length)) S :=
    eT_of ((bin_of ((cb1 rfl).trans hl) ((cb1 ((un_of rfl).trans (fld_len hq))).trans hn)).trans (neInt _ _ _))
  by_cases hlen : ds.length = ls.length
  case neg =>
    have e1 : holdsB ls ws (.int m) (.tuple ds) = false := by simp [holdsB, hlen]
    have e2 : (!decide ((ds.length : Int) = ls.length)) = true := by simp; omega
    rw [e1]
    rw [e2] at t3
    exact (stIf_b (b := true) (c := false) ((bOr_f t1).trans ((bOr_f t2).trans t3)) (fun h => by cases h)).trans rfl
  have e2 : (!decide ((ds.length : Int) = ls.length)) = false := by simp; omega
  rw [e2] at t3
  refine (stIf_f ((bOr_f t1).trans ((bOr_f t2).trans t3))).trans ?_
  have c3 := comp_allT (ρ := slots 7 [.o q, .p (.int m), .p (.tuple ds)]) (S := S) (vs := [3]) (t := tName 3) (el := e_heights_hold_3) (g := id) (f := fun p => .bool (inRange 0 m p)) (xs := ds) (srcSeq_tup (X := eVar 2) rfl) (by rw [List.map_id]; exact its_tup ds) (by omega)
    (fun p hp => ⟨_, rfl, (cb3 (d := .p p) (e := .p (.int 0)) (f := .p (.int m)) rfl rfl rfl).trans (is_integer_in_ok p (hd.mem (m := 39) p hp).no 0 m S)⟩)
  have a3 := all_bools (ds.map (inRange 0 m)) S
  rw [List.map_map, List.all_map] at a3
  have r3 : eCB (on1 fAll) (aCons c_heights_hold_3 aNil) (slots 7 [.o q, .p (.int m), .p (.tuple ds)]) S = .ok (.p (.bool (ds.all (inRange 0 m)))) S := (cb1 c3).trans a3
  cases ha : asIP ds with
  | none =>
    rw [asIP_none ha] at r3
    have e1 : holdsB ls ws (.int m) (.tuple ds) = false := by simp [holdsB, ha]
    rw [e1]
    exact sRet_of (and_ff r3)
  | some hs =>
    have e1 : holdsB ls ws (.int m) (.tuple ds) = hsB ls ws m hs := by simp [holdsB, ha, hm, hlen]
    rw [e1]
    have e3 := asIP_eq ha
    subst e3
    rw [inRange_ints] at r3
    rw [List.length_map] at hlen
    refine sRet_of (and_b r3 fun _ => and_b (b := (hs.zip ls).all fun ab => decide (ab.2 ≤ ab.1)) ?_ fun _ => ?_)
    · have hsrc : s_heights_hold_2 (slots 7 [.o q, .p (.int m), .p (intsD hs)]) S = .ok (.zip (.p (intsD hs)) (.p (intsD ls))) S := by
        have f1 : eUn (fFld "Work" "lengths") (eVar 0) (slots 7 [.o q, .p (.int m), .p (intsD hs)]) S = .ok (.p (intsD ls)) S := (un_of rfl).trans (fld_len hq)
        have f2 : eVar 2 (slots 7 [.o q, .p (.int m), .p (intsD hs)]) S = .ok (.p (intsD hs)) S := rfl
        show srcZip2 (eVar 2) (eUn (fFld "Work" "lengths") (eVar 0)) _ _ = _
        exact zip_of f2 f1
      have hz2 : zipP (hs.map PyData.int) (ls.map PyData.int) = (hs.zip ls).map fun ab => .tuple [.int ab.1, .int ab.2] := by
        unfold zipP
        rw [List.zipWith_map, List.zip, List.map_zipWith]
      have I : Its (.zip (.p (intsD hs)) (.p (intsD ls))) ((hs.zip ls).map fun ab => .tuple [.int ab.1, .int ab.2]) := by
        rw [← hz2]
        exact ⟨zip_nxt _ _, zip_count _ _⟩
      have e := comp_allT (ρ := slots 7 [.o q, .p (.int m), .p (intsD hs)]) (S := S) (vs := [3, 4]) (t := tTupT 2 (tsCons (tName 3) (tsCons (tName 4) tsNil))) (el := e_heights_hold_2) (f := fun ab : Int × Int => .bool (decide (ab.2 ≤ ab.1))) hsrc I (by simp; omega)
        (fun ab hd => ⟨_, rfl, (bin_of (d := .p (.int ab.1)) (e := .p (.int ab.2)) rfl rfl).trans rfl⟩)
      have al := all_bools ((hs.zip ls).map fun ab => decide (ab.2 ≤ ab.1)) S
      rw [List.map_map, List.all_map] at al
      exact (cb1 e).trans al
    · have e := comp_allT (ρ := slots 7 [.o q, .p (.int m), .p (intsD hs)]) (S := S) (fsrc := s_heights_hold_1) (vs := [5, 6]) (t := tTupT 2 (tsCons (tName 5) (tsCons (tName 6) tsNil))) (el := e_heights_hold_1) (g := edgeD) (f := fun e : Int × Int => .bool (decide (hs.getD e.1.toNat 0 + ls.getD e.2.toNat 0 ≤ hs.getD e.2.toNat 0))) (srcSeq_tup ((un_of rfl).trans (fld_wts hq))) (its_tup (ws.map edgeD)) (by omega)
        (fun e he => by
          have hr := hw.ed e.1 e.2 he
          refine ⟨_, rfl, ?_⟩
          refine (bin_of (d := .p (.int (hs.getD e.2.toNat 0))) (e := .p (.int (hs.getD e.1.toNat 0 + ls.getD e.2.toNat 0))) ((bin_of rfl rfl).trans (ix_ints (by omega) S)) ((bin_of ((bin_of rfl rfl).trans (ix_ints (by omega) S)) ((bin_of ((un_of rfl).trans (fld_len hq)) rfl).trans (ix_ints (by omega) S))).trans rfl)).trans ?_
          rfl)
      have al := all_bools (ws.map fun e : Int × Int => decide (hs.getD e.1.toNat 0 + ls.getD e.2.toNat 0 ≤ hs.getD e.2.toNat 0)) S
      rw [List.map_map, List.all_map] at al
      exact (cb1 e).trans al
end
end LK
set_option Elab.async false
set_option linter.all false
set_option maxRecDepth 100000
set_option maxHeartbeats 400000
namespace LK
open PySem PySem.Spec L2 DL
theorem filt_nil {α : Type} (p : α → Bool) (l : List α) : (l.filter fun x => !(p x)).isEmpty = l.all p := by
  induction l with
  | nil => rfl
  | cons x l ih =>
    rw [List.all_cons, ← ih]
    cases q : p x <;> simp [q]
theorem zip_range {hs ls : List Int} (hl : hs.length = ls.length) : ((hs.zip ls).all fun ab => decide (ab.2 ≤ ab.1)) = ((List.range hs.length).filter fun k => decide (hs.getD k 0 < ls.getD k 0)).isEmpty := by
  rw [Bool.eq_iff_iff, List.isEmpty_iff, List.filter_eq_nil_iff, List.all_eq_true]
  constructor
  · intro h k hk
    have hk := List.mem_range.mp hk
    have := h (hs[k], ls[k]'(by omega)) (List.mem_iff_getElem.mpr ⟨k, by simp; omega, by simp⟩)
    have h2 : k < ls.length := by omega
    simp [hk, h2] at this ⊢
    exact this
  · intro h ab hab
    obtain ⟨k, hk, rfl⟩ := List.mem_iff_getElem.mp hab
    have hk1 : k < hs.length := by simp at hk; omega
    have hk2 : k < ls.length := by omega
    have := h k (List.mem_range.mpr hk1)
    rw [List.getElem_zip]
    simp [hk1, hk2] at this
    simpa using this
section
variable {n q : Nat} {ls : List Int} {ws : Es} {S : Store}
def allB (M : Int) : PyData → Bool
  | .tuple ds => ds.all (inRange 0 (M - 1))
  | _ => false
theorem is_numbers_ok {d : PyData} (hd : OkV d 40) (M : Int) (S : Store) : F__law_is_numbers [.p d, .p (.int M)] S = .ok (.p (.bool (allB M d))) S := by
  have i2 := isiC_p (S := S) hd.no
  refine finR_of (F := F__law_is_numbers) rfl rfl ?_
  by_cases ht : ∃ ds, d = .tuple ds
  case neg =>
    have e1 : allB M d = false := by
      cases d with
      | tuple ds => exact absurd ⟨ds, rfl⟩ ht
      | _ => rfl
    have e2 : isTupD' d = false := by
      cases d with
      | tuple ds => exact absurd ⟨ds, rfl⟩ ht
      | _ => rfl
    rw [e1]
    rw [e2] at i2
    exact (stIf_b (b := true) (c := false) (bNot_of (t := false) (eT_of ((un_of rfl).trans i2))) (fun h => by cases h)).trans rfl
  obtain ⟨ds, rfl⟩ := ht
  refine (stIf_f (bNot_of (t := true) (eT_of ((un_of rfl).trans i2)))).trans ?_
  have hm := hd.mem (m := 39)
  have hl := hd.len
  have c := comp_mapT (ρ := slots 3 [.p (.tuple ds), .p (.int M)]) (S := S) (fsrc := srcSeq (eVar 0)) (vs := [2]) (t := tName 2) (tb := t__law_is_numbers_1) (el := eVar 2) (g := id) (c := fun p => !(inRange 0 (M - 1) p)) (f := id) (xs := ds) (srcSeq_tup (X := eVar 0) rfl) (by rw [List.map_id]; exact its_tup ds) (by omega)
    (fun p hp => by
      refine ⟨[some (.p (.tuple ds)), some (.p (.int M)), some (.p p)], rfl, ?_, fun _ => rfl⟩
      have w := law_whole_ok p (hm p hp).no S
      have t1 : bNot (eT (eCB F__law_whole (aCons (eVar 2) aNil))) [some (.p (.tuple ds)), some (.p (.int M)), some (.p p)] S = .ok (!(isInt p)) S := bNot_of (eT_of ((cb1 rfl).trans w))
      cases p with
      | int i =>
        refine (or_b t1 fun _ => or_b (b := decide (i < 0)) (c := decide (i ≥ M)) (eT_of ((bin_of rfl rfl).trans rfl)) fun _ => eT_of ((bin_of rfl rfl).trans rfl)).trans ?_
        congr 1
        simp only [isInt, inRange]
        by_cases h1 : i < 0 <;> by_cases h2 : i ≥ M <;> simp [h1, h2] <;> omega
      | dict _ => have := (hm _ hp).no; cases this
      | _ => exact (bOr_t t1).trans rfl)
  rw [List.map_id] at c
  have e := eqNil (ds.filter fun p => !(inRange 0 (M - 1) p)) S (shp_lstI fun d hd => by
    have := hm d (List.mem_filter.mp hd).1
    exact ⟨this.l, by have := this.d; omega⟩)
  rw [filt_nil] at e
  exact sRet_of ((bin_of c rfl).trans e)
/-- the greatest of them -/
theorem max_le_iff {hs : List Int} {mx m : Int} (h : isMax hs mx) : mx ≤ m ↔ ∀ x ∈ hs, x ≤ m := ⟨fun k x hx => Int.le_trans (h.2 x hx) k, fun k => k mx h.1⟩
abbrev rH (ls : List Int) (ws : Es) (e : PyData) (d : D) : Sl := [some (.p (.tuple [intsD ls, .tuple (ws.map edgeD)])), some (.p e), some d, none, none]
theorem notWhole {e : PyData} {d : D} (he : noDict e = true) (h : isInt e = false) : F__law_are_heights [.p (.tuple [intsD ls, .tuple (ws.map edgeD)]), .p e, d] S = .ok (.p (.bool false)) S := by
  have w := law_whole_ok e he S
  rw [h] at w
  exact finR_of (F := F__law_are_heights) rfl rfl ((stIf_b (b := true) (c := false) (bOr_t (bNot_of (t := false) (eT_of ((cb1 rfl).trans w)))) (fun h => by cases h)).trans rfl)
theorem pow12 (ρ : Sl) (S : Store) : eBin fPow (eC (.int 10)) (eC (.int 12)) ρ S = .ok (.p (.int 1000000000000)) S := by
  refine (bin_of rfl rfl).trans ?_
  show fI CPow _ _ _ S = _
  simp [fI, CPow]
theorem is_tup_no (hq : S[q]? = some (workC ls ws)) (M : Int) : F__law_is_numbers [.o q, .p (.int M)] S = .ok (.p (.bool false)) S :=
  finR_of (F := F__law_is_numbers) rfl rfl ((stIf_b (b := true) (c := false) (bNot_of (t := false) (eT_of ((un_of rfl).trans (isiC_o hq)))) (fun h => by cases h)).trans rfl)
theorem are_o (hq : S[q]? = some (workC ls ws)) {e : PyData} (he : noDict e = true) : F__law_are_heights [.p (.tuple [intsD ls, .tuple (ws.map edgeD)]), .p e, .o q] S = .ok (.p (.bool false)) S := by
  cases hi : isInt e with
  | false => exact notWhole he hi
  | true =>
    obtain ⟨m, rfl⟩ : ∃ m, e = .int m := by cases e <;> first | exact ⟨_, rfl⟩ | cases hi
    have w := law_whole_ok (.int m) he S
    refine finR_of (F := F__law_are_heights) rfl rfl ((stIf_b (b := true) (c := false) ?_ (fun h => by cases h)).trans rfl)
    refine (bOr_f (bNot_of (t := true) (eT_of ((cb1 rfl).trans w)))).trans ?_
    have t := or_b (S := S) (ρ := rH ls ws (.int m) (.o q)) (T := eT (eBin fLt (eVar 1) (eC (.int 0)))) (b := decide (m < 0)) (c := true) (U := bOr (bNot (eT (eCB F__law_is_numbers (aCons (eVar 2) (aCons (eBin fPow (eC (.int 10)) (eC (.int 12))) aNil))))) (bOr (eT (eBin (fEq true) (eCB (on1 fLen) (aCons (eVar 2) aNil)) (eCB (on1 fLen) (aCons (eBin fIx (eVar 0) (eC (.int 0))) aNil)))) (eT (eBin fGt (eCB (on1 fMaxA) (aCons (eVar 2) aNil)) (eVar 1)))))
      (eT_of ((bin_of rfl rfl).trans rfl)) (fun _ => bOr_t (bNot_of (t := false) (eT_of ((cb2 rfl (pow12 _ _)).trans (is_tup_no hq _)))))
    rw [Bool.or_true] at t
    exact t
theorem w0_ok {e : PyData} {d : D} : eBin fIx (eVar 0) (eC (.int 0)) (rH ls ws e d) S = .ok (.p (intsD ls)) S := (bin_of rfl rfl).trans rfl
theorem are_p (hw : WOk ls.length ws) (hz : ws.length ≤ 1000) {e d : PyData} (he : noDict e = true) (hb : ∀ m, e = .int m → m < 1000000000000) (hd : OkV d 40) : F__law_are_heights [.p (.tuple [intsD ls, .tuple (ws.map edgeD)]), .p e, .p d] S = .ok (.p (.bool (holdsB ls ws e d))) S := by
  have n1 := hw.n1
  have n8 := hw.n8
  have hn := len_tup S (ls.map PyData.int)
  rw [List.length_map] at hn
  cases hi : isInt e with
  | false =>
    have : holdsB ls ws e d = false := by cases e <;> first | rfl | cases hi
    rw [this]
    exact notWhole he hi
  | true =>
    obtain ⟨m, rfl⟩ : ∃ m, e = .int m := by cases e <;> first | exact ⟨_, rfl⟩ | cases hi
    have hb := hb m rfl
    have w := law_whole_ok (.int m) he S
    refine finR_of (F := F__law_are_heights) rfl rfl ?_
    have no : ∀ {T : Fb} {v : Fs}, T (rH ls ws (.int m) (.p d)) S = .ok true S → holdsB ls ws (.int m) d = false → sSeq (sIf T (sRet (eC (.bool false))) sNil) v (rH ls ws (.int m) (.p d)) S = .rt (.p (.bool (holdsB ls ws (.int m) d))) S := fun h e => by
      rw [e]
      exact (stIf_b (b := true) (c := false) h (fun h => by cases h)).trans rfl
    have t1 : bNot (eT (eCB F__law_whole (aCons (eVar 1) aNil))) (rH ls ws (.int m) (.p d)) S = .ok false S := bNot_of (t := true) (eT_of ((cb1 rfl).trans w))
    have t2 : eT (eBin fLt (eVar 1) (eC (.int 0))) (rH ls ws (.int m) (.p d)) S = .ok (decide (m < 0)) S := eT_of ((bin_of rfl rfl).trans rfl)
    have t3 : bNot (eT (eCB F__law_is_numbers (aCons (eVar 2) (aCons (eBin fPow (eC (.int 10)) (eC (.int 12))) aNil)))) (rH ls ws (.int m) (.p d)) S = .ok (!(allB 1000000000000 d)) S := bNot_of (eT_of ((cb2 rfl (pow12 _ _)).trans (is_numbers_ok hd _ S)))
    by_cases hm : m < 0
    · rw [decide_eq_true hm] at t2
      refine no ((bOr_f t1).trans (bOr_t t2)) ?_
      have : decide (0 ≤ m) = false := decide_eq_false (by omega)
      cases d <;> simp [holdsB, this]
    rw [decide_eq_false hm] at t2
    cases hB : allB 1000000000000 d with
    | false =>
      rw [hB] at t3
      refine no ((bOr_f t1).trans ((bOr_f t2).trans (bOr_t t3))) ?_
      cases d with
      | tuple ds =>
        cases ha : asIP ds with
        | none => simp [holdsB, ha]
        | some hs =>
          have e3 := asIP_eq ha
          subst e3
          have hB : (hs.map PyData.int).all (inRange 0 (1000000000000 - 1)) = false := hB
          rw [inRange_ints] at hB
          have : (hs.all fun h => decide (0 ≤ h) && decide (h ≤ m)) = false := by
            rw [List.all_eq_false] at hB ⊢
            obtain ⟨x, hx, h⟩ := hB
            refine ⟨x, hx, ?_⟩
            simp at h ⊢
            omega
          simp [holdsB, ha, hsB, this]
      | _ => rfl
    | true =>
      rw [hB] at t3
      obtain ⟨ds, rfl⟩ : ∃ ds, d = .tuple ds := by cases d <;> first | exact ⟨_, rfl⟩ | cases hB
      have hB : ds.all (inRange 0 (1000000000000 - 1)) = true := hB
      cases ha : asIP ds with
      | none => rw [asIP_none ha] at hB; cases hB
      | some hs =>
      have e3 := asIP_eq ha
      subst e3
      rw [inRange_ints, List.all_eq_true] at hB
      have hl := len_tup S (hs.map PyData.int)
      rw [List.length_map] at hl
      have t4 : eT (eBin (fEq true) (eCB (on1 fLen) (aCons (eVar 2) aNil)) (eCB (on1 fLen) (aCons (eBin fIx (eVar 0) (eC (.int 0))) aNil))) (rH ls ws (.int m) (.p (intsD hs))) S = .ok (!decide ((hs.length : Int) = ls.length)) S :=
        eT_of ((bin_of ((cb1 rfl).trans hl) ((cb1 w0_ok).trans hn)).trans (neInt _ _ _))
      by_cases hlen : hs.length = ls.length
      case neg =>
        have e2 : (!decide ((hs.length : Int) = ls.length)) = true := by simp; omega
        rw [e2] at t4
        exact no ((bOr_f t1).trans ((bOr_f t2).trans ((bOr_f t3).trans (bOr_t t4)))) (by simp [holdsB, hlen])
      have e2 : (!decide ((hs.length : Int) = ls.length)) = false := by simp; omega
      rw [e2] at t4
      have eh : holdsB ls ws (.int m) (intsD hs) = hsB ls ws m hs := by
        have : 0 ≤ m := by omega
        simp [holdsB, ha, this, hlen]
      obtain ⟨mx, h1, h2⟩ := maxI_is (L := hs) (by intro e; rw [e] at hlen; simp at hlen; omega)
      have t5 : eT (eBin fGt (eCB (on1 fMaxA) (aCons (eVar 2) aNil)) (eVar 1)) (rH ls ws (.int m) (.p (intsD hs))) S = .ok (decide (mx > m)) S :=
        eT_of ((bin_of ((cb1 rfl).trans (max_tup h1 S)) rfl).trans rfl)
      by_cases hx : mx > m
      · rw [decide_eq_true hx] at t5
        refine no ((bOr_f t1).trans ((bOr_f t2).trans ((bOr_f t3).trans ((bOr_f t4).trans t5)))) ?_
        rw [eh]
        have : (hs.all fun h => decide (0 ≤ h) && decide (h ≤ m)) = false := by
          rw [List.all_eq_false]
          refine ⟨mx, h2.1, ?_⟩
          simp
          omega
        simp [hsB, this]
      rw [decide_eq_false hx] at t5
      refine (stIf_f ((bOr_f t1).trans ((bOr_f t2).trans ((bOr_f t3).trans ((bOr_f t4).trans t5))))).trans ?_
      rw [eh]
      have a1 : (hs.all fun h => decide (0 ≤ h) && decide (h ≤ m)) = true := by
        rw [List.all_eq_true]
        intro x hx'
        have := h2.2 x hx'
        have := hB x hx'
        simp at this ⊢
        omega
      have I := its_rng 0 hs.length
      rw [rngL_map] at I
      have c2 := comp_mapT (ρ := rH ls ws (.int m) (.p (intsD hs))) (S := S) (fsrc := s__law_are_heights_2) (vs := [3]) (t := tName 3) (tb := t__law_are_heights_2) (el := eVar 3) (g := fun (k : Nat) => PyData.int k) (c := fun k => decide (hs.getD k 0 < ls.getD k 0)) (f := fun (k : Nat) => PyData.int k) (rng1_of (n := hs.length) ((cb1 (d := .p (intsD hs)) rfl).trans hl) (by omega)) I (by simp; omega)
        (fun k hk => by
          have hk := List.mem_range.mp hk
          have i1 := ix_ints (ls := hs) (k := k) (by omega) S
          have i2 := ix_ints (ls := ls) (k := k) (by omega) S
          rw [Int.toNat_natCast] at i1 i2
          exact ⟨[some (.p (.tuple [intsD ls, .tuple (ws.map edgeD)])), some (.p (.int m)), some (.p (intsD hs)), some (.p (.int k)), none], rfl, eT_of ((bin_of ((bin_of rfl rfl).trans i1) ((bin_of ((bin_of rfl rfl).trans rfl) rfl).trans i2)).trans rfl), fun _ => rfl⟩)
      have n2 := neNil (((List.range hs.length).filter fun k => decide (hs.getD k 0 < ls.getD k 0)).map fun (k : Nat) => PyData.int k) S (shp_lstI fun d hd => by
        obtain ⟨k, _, rfl⟩ := List.mem_map.mp hd
        exact ⟨rfl, by simp [PyData.depth]⟩)
      rw [List.isEmpty_map, ← zip_range hlen] at n2
      have t6 : eT (eBin (fEq true) c__law_are_heights_2 (eLst aNil)) (rH ls ws (.int m) (.p (intsD hs))) S = .ok (!((hs.zip ls).all fun ab => decide (ab.2 ≤ ab.1))) S := eT_of ((bin_of c2 rfl).trans n2)
      cases a2 : ((hs.zip ls).all fun ab => decide (ab.2 ≤ ab.1)) with
      | false =>
        rw [a2] at t6
        have : hsB ls ws m hs = false := by simp [hsB, a1, a2]
        rw [this]
        exact (stIf_b (b := true) (c := false) t6 (fun h => by cases h)).trans rfl
      | true =>
        rw [a2] at t6
        refine (stIf_f t6).trans ?_
        have e4 : hsB ls ws m hs = ws.all fun e => decide (hs.getD e.1.toNat 0 + ls.getD e.2.toNat 0 ≤ hs.getD e.2.toNat 0) := by simp only [hsB, a1, a2, Bool.true_and]
        rw [e4]
        have c1 := comp_mapT (ρ := rH ls ws (.int m) (.p (intsD hs))) (S := S) (fsrc := s__law_are_heights_1) (vs := [4]) (t := tName 4) (tb := t__law_are_heights_1) (el := eVar 4) (g := edgeD) (c := fun e => !(decide (hs.getD e.1.toNat 0 + ls.getD e.2.toNat 0 ≤ hs.getD e.2.toNat 0))) (f := edgeD) (srcSeq_tup ((bin_of rfl rfl).trans rfl)) (its_tup (ws.map edgeD)) (by omega)
          (fun e he => by
            have hr := hw.ed e.1 e.2 he
            have i1 := ix_ints (ls := hs) (k := e.2) (by omega) S
            have i2 := ix_ints (ls := ls) (k := e.2) (by omega) S
            have i3 := ix_ints (ls := hs) (k := e.1) (by omega) S
            refine ⟨[some (.p (.tuple [intsD ls, .tuple (ws.map edgeD)])), some (.p (.int m)), some (.p (intsD hs)), none, some (.p (edgeD e))], rfl, ?_, fun _ => rfl⟩
            have p0 : eBin fIx (eVar 4) (eC (.int 0)) [some (.p (.tuple [intsD ls, .tuple (ws.map edgeD)])), some (.p (.int m)), some (.p (intsD hs)), none, some (.p (edgeD e))] S = .ok (.p (.int e.1)) S := (bin_of rfl rfl).trans rfl
            have p1 : eBin fIx (eVar 4) (eC (.int 1)) [some (.p (.tuple [intsD ls, .tuple (ws.map edgeD)])), some (.p (.int m)), some (.p (intsD hs)), none, some (.p (edgeD e))] S = .ok (.p (.int e.2)) S := (bin_of rfl rfl).trans rfl
            refine eT_of ((bin_of ((bin_of rfl p1).trans i1) ((bin_of ((bin_of ((bin_of rfl rfl).trans rfl) p1).trans i2) ((bin_of rfl p0).trans i3)).trans rfl)).trans ?_)
            have eb : (!(decide (hs.getD e.1.toNat 0 + ls.getD e.2.toNat 0 ≤ hs.getD e.2.toNat 0))) = decide (hs.getD e.2.toNat 0 < ls.getD e.2.toNat 0 + hs.getD e.1.toNat 0) := by
              generalize hs.getD e.1.toNat 0 = a
              generalize hs.getD e.2.toNat 0 = b
              generalize ls.getD e.2.toNat 0 = c
              by_cases h : a + c ≤ b
              · have : ¬ b < c + a := by omega
                simp [h, this]
              · have : b < c + a := by omega
                simp [h, this]
            rw [eb]
            rfl)
        have n1' := eqNil ((ws.filter fun e => !(decide (hs.getD e.1.toNat 0 + ls.getD e.2.toNat 0 ≤ hs.getD e.2.toNat 0))).map edgeD) S (shp_lstI fun d hd => by
          obtain ⟨e, _, rfl⟩ := List.mem_map.mp hd
          exact ⟨(OkS.edge e).l, by have := (OkS.edge e).d; omega⟩)
        rw [List.isEmpty_map, filt_nil] at n1'
        exact sRet_of ((bin_of c1 rfl).trans n1')
end
end LK
set_option Elab.async false
set_option linter.all false
set_option maxRecDepth 100000
set_option maxHeartbeats 400000
namespace LK
open PySem PySem.Spec L2 DL
/-- a loop over a list of the store that stays as it is -/
theorem for_cell {src : Fsrc} {t : Tg} {u : Fs} {ρ : Sl} {S S1 : Store} {j : Nat} {ds : List D} (Inv : Sl → Store → Prop) (hs : src ρ S = .ok (.seq (.o j)) S1) (h0 : Inv ρ S1) (hc : ∀ ρ S, Inv ρ S → S[j]? = some (.lst ds))
    (step : ∀ d ∈ ds, ∀ ρ S, Inv ρ S → ∃ ρ1 ρ2 S2, t d ρ = some ρ1 ∧ u ρ1 S = .nx ρ2 S2 ∧ Inv ρ2 S2) : ∃ ρ' S', sFor src t u ρ S = .nx ρ' S' ∧ Inv ρ' S' := by
  have it : ∀ ρ S, Inv ρ S → seqItems S (.o j) = some ds := fun ρ S h => vec_items (hc ρ S h)
  have main : ∀ (m i : Nat) (ρ : Sl) (S : Store), i + m = ds.length → Inv ρ S → ∃ ρ' S', loopS (.seq (.o j)) t u m i ρ S = .nx ρ' S' ∧ Inv ρ' S' := by
    intro m
    induction m with
    | zero =>
      intro i ρ S hi h
      refine ⟨ρ, S, ?_, h⟩
      have e : (SrcV.seq (.o j)).nxt i S = some none := by
        show (seqItems S (.o j)).map _ = _
        rw [it ρ S h, Option.map_some, List.getElem?_eq_none (by omega)]
      unfold loopS
      rw [e]
    | succ m ih =>
      intro i ρ S hi h
      have hlt : i < ds.length := by omega
      obtain ⟨ρ1, ρ2, S2, e1, e2, h2⟩ := step ds[i] (List.getElem_mem hlt) ρ S h
      obtain ⟨ρ', S', e3, h3⟩ := ih (i + 1) ρ2 S2 (by omega) h2
      refine ⟨ρ', S', ?_, h3⟩
      have e : (SrcV.seq (.o j)).nxt i S = some (some ds[i]) := by
        show (seqItems S (.o j)).map _ = _
        rw [it ρ S h, Option.map_some, List.getElem?_eq_getElem hlt]
      unfold loopS
      rw [e]
      simp only [e1, e2]
      exact e3
  unfold sFor bindS
  rw [hs]
  have ec : (SrcV.seq (.o j)).count S1 = ds.length := by
    show ((seqItems S1 (.o j)).map List.length).getD 0 = _
    rw [it ρ S1 h0]
    rfl
  dsimp only
  rw [ec]
  exact main _ 0 ρ S1 (by omega) h0
theorem srcSeq_cell {X : Fe} {ρ : Sl} {S S1 : Store} {j : Nat} {ds : List D} (h : X ρ S = .ok (.o j) S1) (hj : S1[j]? = some (.lst ds)) : srcSeq X ρ S = .ok (.seq (.o j)) S1 := by
  have e : seqItems S1 (.o j) = some ds := vec_items hj
  unfold srcSeq M.bind
  rw [h]
  simp [ofSeq, e]
theorem eCell_of {fs : Fl} {ρ : Sl} {S S1 : Store} {ds : List D} (h : fs ρ S = .ok ds S1) (hz : ds.length ≤ 1000) : eCell fs ρ S = .ok (.o S1.length) (S1 ++ [.lst ds]) := by
  unfold eCell M.bind
  rw [h]
  simp only [kCell]
  rw [if_pos (by rw [sizeLine_eq]; omega)]
theorem cat2_of {X Y : Fe} {ρ : Sl} {S S1 S2 : Store} {i j : Nat} {a b : List D} (h : X ρ S = .ok (.o i) S1) (g : Y ρ S1 = .ok (.o j) S2) (hi : S2[i]? = some (.lst a)) (hj : S2[j]? = some (.lst b)) (hz : a.length + b.length ≤ 1000) :
    eBin fCat2 X Y ρ S = .ok (.o S2.length) (S2 ++ [.lst (a ++ b)]) := by
  refine (bin_of h g).trans ?_
  simp only [fCat2, vec_lst hi, vec_lst hj]
  rw [if_pos (by rw [sizeLine_eq]; omega)]
end LK
set_option Elab.async false
set_option linter.all false
set_option maxRecDepth 100000
set_option maxHeartbeats 400000
namespace LK
open PySem PySem.Spec L2 DL
theorem lens_comp {n : Nat} {ls : List Int} {ws : Es} {b : PyData} {fs : Fsrc} {el : Fe} {ρ : Sl} {S : Store} (hw : WOk n ws) (hl : ls.length = n) (hs : fs ρ S = .ok (.seq (.p (waysD (waysOf n ws)))) S) {vs : List Nat} {t : Tg}
    (he : ∀ w ∈ waysOf n ws, ∃ ρ1, t (.p (wayD w)) (wipeD ρ vs) = some ρ1 ∧ el ρ1 S = F__law_length [.p (.tuple [intsD ls, b]), .p (wayD w)] S) {m : Int} (hm : far n ls ws m) : eCB (on1 fMaxL) (aCons (eLc fs vs t (fun _ => M.pure true) el) aNil) ρ S = .ok (.p (.int m)) S := by
  have few := waysOf_few hw
  have e := comp_allT (ρ := ρ) (S := S) (vs := vs) (t := t) (el := el) (g := wayD) (f := fun w => .int (wl ls w)) hs (its_lst _) (by omega)
    (fun w hw' => by
      obtain ⟨ρ1, h1, h2⟩ := he w hw'
      exact ⟨ρ1, h1, h2.trans (law_length_ok hl hw.n8 (waysOf_ok hw w hw'))⟩)
  have mx := max_ints (isMax_maxI hm) S
  rw [List.map_map] at mx
  exact (cb1 e).trans mx
theorem last_at (S : Store) (c : Cell) : (S ++ [c])[S.length]? = some c := by simp
theorem is_due_ok (a : Bool) (S : Store) : F__law_is_due [.p (.bool a), .p (.bool a)] S = .ok (.p (.bool true)) S := by
  cases a <;> rfl
/-- the slots of the law -/
abbrev rL (s : List Int) (ls : List Int) (ws : Es) (b q : Nat) (ev : List (List Int)) (m : Int) (hts : List Int) (n a : Nat) (x9 x10 x11 : Option D) : Sl :=
  [some (.s s), some (.p (.tuple [intsD ls, .tuple (ws.map edgeD)])), some (.o b), some (.o q), some (.p (waysD ev)), some (.p (.int m)), some (.p (intsD hts)), some (.p (.int n)), some (.p (.int a)), x9, x10, x11, none, none]
def vals1 (ls : List Int) (m : Int) (hts : List Int) (n a : Nat) : List PyData :=
  [intsD hts, intsD (hts.map fun x => x + 1), intsD (hts.set a (hts.getD a 0 + 3)), intsD (hts.set a (if hts.getD a 0 - 1 > 0 then hts.getD a 0 - 1 else 0)), intsD ls, .tuple (List.replicate n (.int 0)), .tuple (List.replicate n (.int m))]
def vals2 (hts : List Int) (n q : Nat) (r1 r2 : PyData) : List D :=
  [.p (.list (hts.map PyData.int)), .p (.tuple ((hts.map PyData.int).drop 1)), .p (.tuple (hts.map PyData.int ++ [.int 0])), .p .none, .p (.int 0), .p (.tuple []), .p (.tuple (hts.map PyData.int).reverse), .p (.tuple (List.replicate n (.bool true))), .p (.tuple (List.replicate n .none)), .o q, .p r1, .p r2, .p (.tuple (List.replicate n (.int 1000000000)))]
section
variable {s ls hts : List Int} {ws : Es} {b q n a : Nat} {ev : List (List Int)} {m : Int} {x9 x10 x11 : Option D} {T : Store}
theorem pow9 (ρ : Sl) (S : Store) : eBin fPow (eC (.int 10)) (eC (.int 9)) ρ S = .ok (.p (.int 1000000000)) S := by
  refine (bin_of rfl rfl).trans ?_
  show fI CPow _ _ _ S = _
  simp [fI, CPow]
theorem vals1_ok (hh : hts.length = n) (hl : ls.length = n) (h1 : 1 ≤ n) (h8 : n ≤ 8) (ha : a < n) :
    b_law_4 (rL s ls ws b q ev m hts n a x9 x10 x11) T = b_law_3 (rL s ls ws b q ev m hts n a (some (.o T.length)) x10 x11) (T ++ [.lst ((vals1 ls m hts n a).map D.p)]) := by
  have ea : eBin fIx (eVar 6) (eVar 8) (rL s ls ws b q ev m hts n a x9 x10 x11) T = .ok (.p (.int (hts.getD a 0))) T := by
    have i := ix_ints (ls := hts) (k := a) (by omega) T
    rw [Int.toNat_natCast] at i
    exact (bin_of rfl rfl).trans i
  have c1 := comp_allT (ρ := rL s ls ws b q ev m hts n a x9 x10 x11) (S := T) (fsrc := srcSeq (eVar 6)) (vs := [13]) (t := tName 13) (el := e_law_1) (g := PyData.int) (f := fun x => PyData.int (x + 1)) (srcSeq_tup (X := eVar 6) rfl) (its_tup (hts.map PyData.int)) (by omega)
    (fun x hx => ⟨_, rfl, (bin_of (d := .p (.int x)) (e := .p (.int 1)) rfl rfl).trans rfl⟩)
  have v1 : eCB (on1 fTuple) (aCons c_law_1 aNil) (rL s ls ws b q ev m hts n a x9 x10 x11) T = .ok (.p (intsD (hts.map fun x => x + 1))) T := by
    refine ((cb1 c1).trans (tupleL _ T)).trans ?_
    rw [intsD, List.map_map]
    rfl
  have v2 := repl_of (A := eVar 6) (P := eVar 8) (X := eBin fAdd (eBin fIx (eVar 6) (eVar 8)) (eC (.int 3))) (ρ := rL s ls ws b q ev m hts n a x9 x10 x11) (S := T) (ls := hts) (p := a) (x := hts.getD a 0 + 3) rfl rfl ((bin_of ea rfl).trans rfl) (by omega) (by omega)
  have v3 := repl_of (A := eVar 6) (P := eVar 8) (X := eCB (on2 fMax) (aCons (eC (.int 0)) (aCons (eBin fSub (eBin fIx (eVar 6) (eVar 8)) (eC (.int 1))) aNil))) (ρ := rL s ls ws b q ev m hts n a x9 x10 x11) (S := T) (ls := hts) (p := a) (x := if hts.getD a 0 - 1 > 0 then hts.getD a 0 - 1 else 0) rfl rfl ((cb2 rfl ((bin_of ea rfl).trans rfl)).trans rfl) (by omega) (by omega)
  have v5 := rep_of (X := eTup (aCons (eC (.int 0)) aNil)) (Y := eVar 7) (ρ := rL s ls ws b q ev m hts n a x9 x10 x11) (S := T) (x := .int 0) (k := n) (tup1 rfl) rfl h1 (by omega)
  have v6 := rep_of (X := eTup (aCons (eVar 5) aNil)) (Y := eVar 7) (ρ := rL s ls ws b q ev m hts n a x9 x10 x11) (S := T) (x := .int m) (k := n) (tup1 rfl) rfl h1 (by omega)
  have c := eCell_of (aCons_of (X := eVar 6) (S := T) (ρ := rL s ls ws b q ev m hts n a x9 x10 x11) rfl (aCons_of v1 (aCons_of v2 (aCons_of v3 (aCons_of (X := eBin fIx (eVar 1) (eC (.int 0))) ((bin_of rfl rfl).trans rfl) (aCons_of v5 (aCons_of v6 aNil_of))))))) (by simp)
  exact stSet c
theorem vals2_ok (hh : hts.length = n) (h1 : 1 ≤ n) (h8 : n ≤ 8) (hb : Bx b T) (hg : gd (intsD hts) = true) {j : Nat} {l1 : List D} (hj : T[j]? = some (.lst l1)) (hjb : j ≠ b) (hl1 : l1.length ≤ 100) :
    ∃ r1 r2 j2 T', b_law_3 (rL s ls ws b q ev m hts n a (some (.o j)) x10 x11) T = b_law_2 (rL s ls ws b q ev m hts n a (some (.o j2)) x10 x11) T' ∧ T'[j2]? = some (.lst (l1 ++ vals2 hts n q r1 r2)) ∧ OkV r1 40 ∧ OkV r2 40 ∧ Kp b T T' := by
  have oH : OkS (intsD hts) 1 101 := ok_ints (by omega)
  obtain ⟨r1, T1, e1, o1, k1, z1⟩ := spoilt_v (deep := 1) oH (by omega) (by omega) hg (shp_intsT _) (by omega) hb
  obtain ⟨r2, T2, e2, o2, k2, z2⟩ := spoilt_v (deep := 1) oH (by omega) (by omega) hg (shp_intsT _) (by omega) k1.box
  let ρ := rL s ls ws b q ev m hts n a (some (.o j)) x10 x11
  have due : ∀ S, eVar 6 ρ S = .ok (.p (.tuple (hts.map PyData.int))) S := fun S => rfl
  have u1 : eCB (F__law_spoilt 20) (aCons (eVar 2) (aCons (eVar 6) (aCons (eC (.int 1)) aNil))) ρ T = .ok (.p r1) T1 := (cb3 rfl rfl rfl).trans e1
  have u2 : eCB (F__law_spoilt 20) (aCons (eVar 2) (aCons (eVar 6) (aCons (eC (.int 1)) aNil))) ρ T1 = .ok (.p r2) T2 := (cb3 rfl rfl rfl).trans e2
  have y1 := rep_of (X := eTup (aCons (eC (.bool true)) aNil)) (Y := eVar 7) (ρ := ρ) (S := T) (x := .bool true) (k := n) (tup1 rfl) rfl h1 (by omega)
  have y2 := rep_of (X := eTup (aCons (eC .none) aNil)) (Y := eVar 7) (ρ := ρ) (S := T) (x := .none) (k := n) (tup1 rfl) rfl h1 (by omega)
  have y3 := rep_of (X := eTup (aCons (eBin fPow (eC (.int 10)) (eC (.int 9))) aNil)) (Y := eVar 7) (ρ := ρ) (S := T2) (x := .int 1000000000) (k := n) (tup1 (pow9 _ _)) rfl h1 (by omega)
  have c := eCell_of (ρ := ρ) (aCons_of (list_of (due T)) (aCons_of (rest_of (due T)) (aCons_of (addT_of (due T) (tup1 (X := eC (.int 0)) rfl) (by simp; omega)) (aCons_of (X := eC .none) rfl (aCons_of (X := eC (.int 0)) rfl (aCons_of (X := eTup aNil) rfl (aCons_of (rev_of (due T)) (aCons_of y1 (aCons_of y2 (aCons_of (X := eVar 3) rfl (aCons_of u1 (aCons_of u2 (aCons_of y3 aNil_of))))))))))))) (by simp)
  have k3 := (k1.trans k2).trans (Kp.ext k2.box [Cell.lst (vals2 hts n q r1 r2)])
  have g := cat2_of (X := eVar 9) (ρ := ρ) (S := T) (i := j) (a := l1) (b := vals2 hts n q r1 r2) rfl c (k3.get hj hjb) (last_at T2 (.lst (vals2 hts n q r1 r2))) (by simp [vals2]; omega)
  refine ⟨r1, r2, _, _, stSet g, last_at _ _, o1.v (by omega) (by omega), o2.v (by omega) (by omega), k3.trans (Kp.ext k3.box _)⟩
/-- one number, one value -/
def isVal (ls hts : List Int) (q : Nat) (v : D) : Prop := v = .o q ∨ ∃ d, v = .p d ∧ OkV d 40
theorem ask_ok (hw : WOk ls.length ws) (hz : ws.length ≤ 1000) (hq : T[q]? = some (workC ls ws)) {v : D} (hv : isVal ls hts q v) {e : PyData} (he : noDict e = true) (hb : ∀ m, e = .int m → m < 1000000000000) :
    l_law_1 (rL s ls ws b q ev m hts n a x9 (some v) (some (.p e))) T = .nx (rL s ls ws b q ev m hts n a x9 (some v) (some (.p e))) T := by
  obtain ⟨c, h1, h2⟩ : ∃ c, F_heights_hold [.o q, .p e, v] T = .ok (.p (.bool c)) T ∧ F__law_are_heights [.p (.tuple [intsD ls, .tuple (ws.map edgeD)]), .p e, v] T = .ok (.p (.bool c)) T := by
    rcases hv with rfl | ⟨d, rfl, hd⟩
    · exact ⟨_, hold_o hq he, are_o hq he⟩
    · exact ⟨_, hold_p hq hw hz he hd, are_p hw hz he hb hd⟩
  exact (sIf_f (bNot_of (t := true) (eT_of ((cb2 ((cb3 rfl rfl rfl).trans h1) ((cb3 rfl rfl rfl).trans h2)).trans (is_due_ok c T))))).trans rfl
def nums (m : Int) : List PyData := [.int m, .int (m - 1), .int (m + 1), .int (m + 3), .int 0, .int 1000000000, .int (-1), .none, .bool true, .str "1", .list [.int 0]]
theorem asks_ok (hw : WOk ls.length ws) (hz : ws.length ≤ 1000) (hq : T[q]? = some (workC ls ws)) {v : D} (hv : isVal ls hts q v) (hm : m < 100000000) :
    ∃ y11, l_law_2 (rL s ls ws b q ev m hts n a x9 (some v) x11) T = .nx (rL s ls ws b q ev m hts n a x9 (some v) y11) T := by
  let ρ := rL s ls ws b q ev m hts n a x9 (some v) x11
  have hs : s_law_1 ρ T = .ok (.seq (.p (.list (nums m)))) T := srcSeq_lst (eLst_of (ds := nums m)
    (cons_p (X := eVar 5) rfl (cons_p ((bin_of rfl rfl).trans rfl) (cons_p ((bin_of rfl rfl).trans rfl) (cons_p ((bin_of rfl rfl).trans rfl) (cons_p (X := eC (.int 0)) rfl (cons_p (pow9 _ _) (cons_p (X := eUn fNeg (eC (.int 1))) ((un_of rfl).trans rfl) (cons_p (X := eC .none) rfl (cons_p (X := eC (.bool true)) rfl (cons_p (X := eC (.str "1")) rfl (cons_p (eLst_of (ds := [.int 0]) (cons_p (X := eC (.int 0)) rfl nil_p) (by simp)) nil_p))))))))))) (by simp [nums]))
  obtain ⟨ρ', T', e, y11, rfl, rfl⟩ := for_onT (src := s_law_1) (ρ := ρ) (S := T) (t := tName 11) (u := l_law_1) (xs := nums m) (g := id) (by rw [List.map_id]; exact its_lst _)
    (fun _ ρ T' => ∃ y11, ρ = rL s ls ws b q ev m hts n a x9 (some v) y11 ∧ T' = T) hs ⟨x11, rfl, rfl⟩
    (fun d rest ρ T' hd ⟨y11, hρ, hT⟩ => by
      subst hρ
      subst hT
      have h : noDict d = true ∧ ∀ k, d = .int k → k < 1000000000000 := by
        simp only [nums, List.mem_cons, List.not_mem_nil, or_false] at hd
        rcases hd with rfl | rfl | rfl | rfl | rfl | rfl | rfl | rfl | rfl | rfl | rfl <;> refine ⟨rfl, fun k e => ?_⟩ <;> cases e <;> omega
      exact ⟨_, _, T', rfl, ask_ok hw hz hq hv h.1 h.2, _, rfl, rfl⟩)
  exact ⟨y11, e⟩
/-- all values -/
theorem loop_ok (hw : WOk ls.length ws) (hz : ws.length ≤ 1000) (hq : T[q]? = some (workC ls ws)) (hm : m < 100000000) {j : Nat} {l : List D} (hj : T[j]? = some (.lst l)) (hl : ∀ v ∈ l, isVal ls hts q v) :
    b_law_2 (rL s ls ws b q ev m hts n a (some (.o j)) x10 x11) T = .rt (.p (.bool true)) T := by
  obtain ⟨ρ', T', e, y10, y11, rfl, rfl⟩ := for_cell (t := tName 10) (u := l_law_2) (ds := l) (fun ρ T' => ∃ y10 y11, ρ = rL s ls ws b q ev m hts n a (some (.o j)) y10 y11 ∧ T' = T) (srcSeq_cell (X := eVar 9) (ρ := rL s ls ws b q ev m hts n a (some (.o j)) x10 x11) rfl hj) ⟨x10, x11, rfl, rfl⟩ (fun ρ T' ⟨_, _, _, hT⟩ => by subst hT; exact hj)
    (fun v hv ρ T' ⟨y10, y11, hρ, hT⟩ => by
      subst hρ
      subst hT
      obtain ⟨z11, e⟩ := asks_ok (s := s) (b := b) (n := n) (a := a) (ev := ev) (x9 := some (.o j)) (x11 := y11) hw hz hq (hl v hv) hm
      exact ⟨_, _, _, rfl, e, _, _, rfl, rfl⟩)
  exact (stp e).trans rfl
end
end LK
set_option Elab.async false
set_option linter.all false
set_option maxRecDepth 100000
set_option maxHeartbeats 400000
namespace LK
open PySem PySem.Spec L2 DL
theorem sum_le_len {f : Int → Int} {c : Int} (h : ∀ k, f k ≤ c) : ∀ w : List Int, (w.map f).sum ≤ w.length * c
  | [] => by simp
  | k :: w => by
    have := sum_le_len h w
    have := h k
    simp only [List.map_cons, List.sum_cons, List.length_cons]
    have e : ((w.length + 1 : Nat) : Int) * c = w.length * c + c := by rw [Int.natCast_add, Int.add_mul]; simp
    omega
theorem gd_big {l : List Int} (h : ∀ x ∈ l, 0 ≤ x ∧ x < 100000000) : gd (intsD l) = true := by
  show gdL (l.map PyData.int) = true
  induction l with
  | nil => rfl
  | cons x l ih =>
    have h1 := h x (by simp)
    have a : gd (.int x) = true := by
      simp [gd]
      omega
    rw [List.map_cons, gdL, a, ih fun y hy => h y (by simp [hy])]
    rfl
theorem LOk.all {n : Nat} {ls : List Int} (h : LOk n ls) (k : Nat) : 0 ≤ ls.getD k 0 ∧ ls.getD k 0 ≤ 999999 := by
  by_cases q : k < ls.length
  · have := h.rg ls[k] (List.getElem_mem q)
    simp [q]
    omega
  · simp [q]
theorem far_lt {n : Nat} {ls : List Int} {ws : Es} {m : Int} (hl : LOk n ls) (hw : WOk n ws) (h : far n ls ws m) : m < 100000000 := by
  obtain ⟨w, h1, rfl⟩ := List.mem_map.mp h.1
  have := (waysOf_ok hw w h1).few
  have := hw.n8
  have := sum_le_len (f := fun k => ls.getD k.toNat 0) (c := 999999) (fun k => (hl.all _).2) w
  unfold wl
  omega
theorem isVal_p {ls hts : List Int} {q : Nat} {d : PyData} {k c : Nat} (h : OkS d k c) (hk : k ≤ 40 := by omega) (hc : c ≤ 1000000 := by omega) : isVal ls hts q (.p d) := .inr ⟨d, rfl, h.v hk hc⟩
theorem vals_all {ls hts : List Int} {m : Int} {n a q : Nat} {r1 r2 : PyData} (hh : hts.length = n) (hl : ls.length = n) (h8 : n ≤ 8) (o1 : OkV r1 40) (o2 : OkV r2 40) : ∀ v ∈ (vals1 ls m hts n a).map D.p ++ vals2 hts n q r1 r2, isVal ls hts q v := by
  have i : ∀ l : List Int, l.length ≤ 100 → isVal ls hts q (.p (intsD l)) := fun l h => isVal_p (ok_ints h)
  have r : ∀ x : PyData, OkS x 0 1 → isVal ls hts q (.p (.tuple (List.replicate n x))) := fun x h => isVal_p (ok_rep h (by omega))
  intro v hv
  simp only [vals1, vals2, List.map_cons, List.map_nil, List.cons_append, List.nil_append, List.mem_cons, List.not_mem_nil, or_false] at hv
  rcases hv with rfl | rfl | rfl | rfl | rfl | rfl | rfl | rfl | rfl | rfl | rfl | rfl | rfl | rfl | rfl | rfl | rfl | rfl | rfl | rfl
  · exact i _ (by omega)
  · exact i _ (by simp; omega)
  · exact i _ (by simp; omega)
  · exact i _ (by simp; omega)
  · exact i _ (by omega)
  · exact r _ (OkS.int _)
  · exact r _ (OkS.int _)
  · exact isVal_p (ok_intsL (by omega))
  · have := i (hts.drop 1) (by simp; omega)
    rwa [intsD, List.map_drop] at this
  · have := i (hts ++ [0]) (by simp; omega)
    rwa [intsD, List.map_append] at this
  · exact isVal_p OkS.non
  · exact isVal_p (OkS.int _)
  · exact isVal_p ok_nil
  · have := i hts.reverse (by simp; omega)
    rwa [intsD, List.map_reverse] at this
  · exact r _ (OkS.bl _)
  · exact r _ OkS.non
  · exact .inl rfl
  · exact .inr ⟨_, rfl, o1⟩
  · exact .inr ⟨_, rfl, o2⟩
  · exact r _ (OkS.int _)
theorem law_true (ns : List Int) : ∃ S, F_law [.s ns] [] = .ok (.p (.bool true)) S := by
  obtain ⟨n, ls, ws, S1, e1, hl, hw, hz⟩ := work_ok ns []
  obtain ⟨c, e2, hb⟩ := box_kp ns 4 S1
  obtain ⟨m, hm⟩ := far_is hw ls
  have mk := work_make hl hw (by omega) (S1 ++ [c])
  obtain ⟨w, hmin⟩ := tops_min hm
  have hlen := hl.len
  have n1 := hw.n1
  have n8 := hw.n8
  have h0 := fun k => (hl.all k).1
  have hz : ws.length ≤ 1000 := by omega
  have few := waysOf_few hw
  have hhf := hts_far hw h0 hm
  have hhl := htsN_len ls ws n
  have mlt := far_lt hl hw hm
  generalize hhts : htsN ls ws n = hts at *
  let b := S1.length
  let q := (S1 ++ [c]).length
  let S3 := S1 ++ [c] ++ [workC ls ws]
  have hq3 : S3[q]? = some (workC ls ws) := by simp [S3, q]
  have hb3 : Bx b S3 := (Kp.ext hb [workC ls ws]).box
  have qb : q ≠ b := by simp [q, b]
  obtain ⟨U1, eh1⟩ := law_heights_ok (S := S3) hlen h0 hw hz
  have kp1 := Kp.ext hb3 U1
  obtain ⟨U2, eh2⟩ := heights_ok (S := S3 ++ U1) (kp1.get hq3 qb) hlen hw hz
  have kp2 := kp1.trans (Kp.ext kp1.box U2)
  rw [hhts] at eh1 eh2
  obtain ⟨at_, T1, et, g0, g1, k1, _⟩ := take_kp kp2.box n (by omega) (by omega)
  obtain ⟨a, rfl⟩ : ∃ a : Nat, at_ = a := ⟨at_.toNat, by omega⟩
  have kp3 := kp2.trans k1
  have kp4 := kp3.trans (Kp.ext kp3.box [.lst ((vals1 ls m hts n a).map D.p)])
  have nn : ∀ x ∈ hts, 0 ≤ x := fun x hx => by
    rw [← hhts] at hx
    obtain ⟨i, _, rfl⟩ := (htsN_mem ls ws n x).mp hx
    exact hAt_nn hw h0 i
  have hb1 : T1.length ≠ b := by have hx : Bx b T1 := kp3.box; have := hx.lt; omega
  obtain ⟨r1, r2, j2, T', ev2, ej2, o1, o2, k5⟩ := vals2_ok (s := ns) (ls := ls) (ws := ws) (b := b) (q := q) (n := n) (a := a) (ev := waysOf n ws) (m := m) (x10 := none) (x11 := none) hhl n1 n8 kp4.box (gd_big fun x hx => ⟨nn x hx, by have := hhf.2 x hx; omega⟩) (last_at T1 (.lst ((vals1 ls m hts n a).map D.p))) hb1 (by simp [vals1])
  have hqT := (kp4.trans k5).get hq3 qb
  have lp := loop_ok (s := ns) (b := b) (n := n) (a := a) (ev := waysOf n ws) (hts := hts) (x10 := none) (x11 := none) (by rw [hlen]; exact hw) hz hqT mlt ej2 (vals_all hhl hlen n8 o1 o2)
  refine ⟨T', finR_of (F := F_law) rfl rfl ?_⟩
  refine (stSet (d := .p (.tuple [intsD ls, .tuple (ws.map edgeD)])) (S1 := S1) ((cb1 rfl).trans e1)).trans ?_
  refine (stSet (d := .o b) (S1 := S1 ++ [c]) ((cb2 rfl rfl).trans e2)).trans ?_
  refine (stSet (d := .o q) (S1 := S3) ((cb2 ((bin_of rfl rfl).trans (fix_tupN (ds := [intsD ls, .tuple (ws.map edgeD)]) (k := 0) (by simp) _)) ((bin_of rfl rfl).trans (fix_tupN (ds := [intsD ls, .tuple (ws.map edgeD)]) (k := 1) (by simp) _))).trans mk)).trans ?_
  refine (stSet (d := .p (waysD (waysOf n ws))) (S1 := S3) ((cb1 rfl).trans (law_ways_ok hlen hw hz _))).trans ?_
  refine (stSet (d := .p (.int m)) (S1 := S3) (lens_comp (ρ := [some (.s ns), some (.p (.tuple [intsD ls, .tuple (ws.map edgeD)])), some (.o b), some (.o q), some (.p (waysD (waysOf n ws))), none, none, none, none, none, none, none, none, none]) (vs := [12]) (t := tName 12) (el := e_law_2) (fs := srcSeq (eVar 4)) hw hlen (srcSeq_lst rfl)
    (fun w hw' => ⟨[some (.s ns), some (.p (.tuple [intsD ls, .tuple (ws.map edgeD)])), some (.o b), some (.o q), some (.p (waysD (waysOf n ws))), none, none, none, none, none, none, none, some (.p (wayD w)), none], rfl, cb2 rfl rfl⟩) hm)).trans ?_
  -- ending, longest
  let ρ : Sl := [some (.s ns), some (.p (.tuple [intsD ls, .tuple (ws.map edgeD)])), some (.o b), some (.o q), some (.p (waysD (waysOf n ws))), some (.p (.int m)), none, none, none, none, none, none, none, none]
  have ee : eCB F_ending (aCons (eVar 3) aNil) ρ S3 = .ok (.p (.int m)) S3 := (cb1 rfl).trans (ending_ok hq3 hlen hw hz hm)
  have cm := comp_mapT (ρ := ρ) (S := S3) (fsrc := srcSeq (eVar 4)) (vs := [12]) (t := tName 12) (tb := t_law_1) (el := eVar 12) (g := wayD) (c := fun w => decide (wl ls w = m)) (f := wayD) (srcSeq_lst rfl) (its_lst _) (by omega)
    (fun w hw' => ⟨[some (.s ns), some (.p (.tuple [intsD ls, .tuple (ws.map edgeD)])), some (.o b), some (.o q), some (.p (waysD (waysOf n ws))), some (.p (.int m)), none, none, none, none, none, none, some (.p (wayD w)), none], rfl, eT_of ((bin_of ((cb2 rfl rfl).trans (law_length_ok hlen n8 (waysOf_ok hw w hw'))) rfl).trans (eqInt _ _ _)), fun _ => rfl⟩)
  have em : eCB (on1 fMinA) (aCons c_law_2 aNil) ρ S3 = .ok (.p (wayD w)) S3 := (cb1 cm).trans (min_ways hmin S3)
  have el : eCB F_longest (aCons (eVar 3) aNil) ρ S3 = .ok (.p (wayD w)) S3 := (cb1 rfl).trans (longest_ok hq3 hlen hw hz hm hmin)
  have n0 := neInt S3 m m
  rw [decide_eq_true rfl] at n0
  refine (stIf_f (S1 := S3) ((bOr_f (eT_of ((bin_of ee rfl).trans n0))).trans ((bOr_f (bNot_of (t := true) (eT_of ((cb1 ee).trans (law_whole_ok (.int m) rfl _))))).trans (eT_of ((bin_of el em).trans (ne_same _ (shp_intsT w) _)))))).trans ?_
  -- heights
  refine (stSet (d := .p (intsD hts)) (S1 := S3 ++ U1) ((cb1 rfl).trans eh1)).trans ?_
  have n3 := neInt (S3 ++ U1 ++ U2) m m
  rw [decide_eq_true rfl] at n3
  refine (stIf_f (S1 := S3 ++ U1 ++ U2) ((bOr_f (eT_of ((bin_of ((cb1 rfl).trans eh2) rfl).trans (ne_same _ (shp_intsT hts) _)))).trans (eT_of ((bin_of ((cb1 rfl).trans (max_tup (isMax_maxI hhf) _)) rfl).trans n3)))).trans ?_
  have ln := len_tup (S3 ++ U1 ++ U2) (hts.map PyData.int)
  rw [List.length_map, hhl] at ln
  refine (stSet (d := .p (.int n)) (S1 := S3 ++ U1 ++ U2) ((cb1 rfl).trans ln)).trans ?_
  refine (stSet (d := .p (.int a)) (S1 := T1) ((cb2 rfl rfl).trans et)).trans ?_
  exact (vals1_ok (s := ns) (b := b) (q := q) (ev := waysOf n ws) (x9 := none) (x10 := none) (x11 := none) hhl hlen n1 n8 (by omega)).trans (ev2.trans lp)
end LK
set_option Elab.async false
set_option linter.all false
set_option maxRecDepth 100000
namespace LK
open PySem PySem.Spec L2 DL PySem.HandSPX
theorem law_trueB (ns : List Int) (h : ns.length ≤ 63) (hb : ∀ z ∈ ns, Builtin.Int.intBits z ≤ 1048576) : ∃ S, F_law [.s ns] [] = .ok (.p (.bool true)) S := law_true ns
abbrev sx_InvalidLengths : Stmt := inClass (top 2) 0
theorem tx_InvalidLengths : ErrText sx_InvalidLengths "value" := ⟨_, _, _, _, _, _, _, _, _, _, _, _, _, _, rfl, rfl, rfl, rfl⟩
abbrev sx_InvalidWaits : Stmt := inClass (top 3) 0
theorem tx_InvalidWaits : ErrText sx_InvalidWaits "value" := ⟨_, _, _, _, _, _, _, _, _, _, _, _, _, _, rfl, rfl, rfl, rfl⟩
set_option maxHeartbeats 4000000 in
theorem all_mk {l : PySem.W.OpenLaw} {w : World} {K : PySem.W.Frag} {h : Heap} {mg : Str → Option Value} {fa : Addr} (X : K.In h) (G : h.Ns mainGlobals mg) (hfa : mg "law" = some (.ref fa))
    {f0 : Addr} {od0 an0 : Option Addr} {sl0 : Array (Option Value)} {oc0 kV0 dc0 pm0 cd0 ct0 : Value}
    {f1 : Addr} {od1 an1 : Option Addr} {sl1 : Array (Option Value)} {oc1 kV1 dc1 pm1 cd1 ct1 : Value}
    {f2 : Addr} {od2 an2 : Option Addr} {sl2 : Array (Option Value)} {oc2 kV2 dc2 pm2 cd2 ct2 : Value}
    {f3 : Addr} {od3 an3 : Option Addr} {sl3 : Array (Option Value)} {oc3 kV3 dc3 pm3 cd3 ct3 : Value}
    {f4 : Addr} {od4 an4 : Option Addr} {sl4 : Array (Option Value)} {oc4 kV4 dc4 pm4 cd4 ct4 : Value}
    {f5 : Addr} {od5 an5 : Option Addr} {sl5 : Array (Option Value)} {oc5 kV5 dc5 pm5 cd5 ct5 : Value}
    {f6 : Addr} {od6 an6 : Option Addr} {sl6 : Array (Option Value)} {oc6 kV6 dc6 pm6 cd6 ct6 : Value}
    {f7 : Addr} {od7 an7 : Option Addr} {sl7 : Array (Option Value)} {oc7 kV7 dc7 pm7 cd7 ct7 : Value}
    {f8 : Addr} {od8 an8 : Option Addr} {sl8 : Array (Option Value)} {oc8 kV8 dc8 pm8 cd8 ct8 : Value}
    {f9 : Addr} {od9 an9 : Option Addr} {sl9 : Array (Option Value)} {oc9 kV9 dc9 pm9 cd9 ct9 : Value}
    {f10 : Addr} {od10 an10 : Option Addr} {sl10 : Array (Option Value)} {oc10 kV10 dc10 pm10 cd10 ct10 : Value}
    {f11 : Addr} {od11 an11 : Option Addr} {sl11 : Array (Option Value)} {oc11 kV11 dc11 pm11 cd11 ct11 : Value}
    {f12 : Addr} {od12 an12 : Option Addr} {sl12 : Array (Option Value)} {oc12 kV12 dc12 pm12 cd12 ct12 : Value}
    {f13 : Addr} {od13 an13 : Option Addr} {sl13 : Array (Option Value)} {oc13 kV13 dc13 pm13 cd13 ct13 : Value}
    {f14 : Addr} {od14 an14 : Option Addr} {sl14 : Array (Option Value)} {oc14 kV14 dc14 pm14 cd14 ct14 : Value}
    {f15 : Addr} {od15 an15 : Option Addr} {sl15 : Array (Option Value)} {oc15 kV15 dc15 pm15 cd15 ct15 : Value}
    {f16 : Addr} {od16 an16 : Option Addr} {sl16 : Array (Option Value)} {oc16 kV16 dc16 pm16 cd16 ct16 : Value}
    {f17 : Addr} {od17 an17 : Option Addr} {sl17 : Array (Option Value)} {oc17 kV17 dc17 pm17 cd17 ct17 : Value}
    {f18 : Addr} {od18 an18 : Option Addr} {sl18 : Array (Option Value)} {oc18 kV18 dc18 pm18 cd18 ct18 : Value}
    {f19 : Addr} {od19 an19 : Option Addr} {sl19 : Array (Option Value)} {oc19 kV19 dc19 pm19 cd19 ct19 : Value}
    {f20 : Addr} {od20 an20 : Option Addr} {sl20 : Array (Option Value)} {oc20 kV20 dc20 pm20 cd20 ct20 : Value}
    {f21 : Addr} {od21 an21 : Option Addr} {sl21 : Array (Option Value)} {oc21 kV21 dc21 pm21 cd21 ct21 : Value}
    {f22 : Addr} {od22 an22 : Option Addr} {sl22 : Array (Option Value)} {oc22 kV22 dc22 pm22 cd22 ct22 : Value}
    {f23 : Addr} {od23 an23 : Option Addr} {sl23 : Array (Option Value)} {oc23 kV23 dc23 pm23 cd23 ct23 : Value}
    {f24 : Addr} {od24 an24 : Option Addr} {sl24 : Array (Option Value)} {oc24 kV24 dc24 pm24 cd24 ct24 : Value}
    {f25 : Addr} {od25 an25 : Option Addr} {sl25 : Array (Option Value)} {oc25 kV25 dc25 pm25 cd25 ct25 : Value}
    {f26 : Addr} {od26 an26 : Option Addr} {sl26 : Array (Option Value)} {oc26 kV26 dc26 pm26 cd26 ct26 : Value}
    {f27 : Addr} {od27 an27 : Option Addr} {sl27 : Array (Option Value)} {oc27 kV27 dc27 pm27 cd27 ct27 : Value}
    {f28 : Addr} {od28 an28 : Option Addr} {sl28 : Array (Option Value)} {oc28 kV28 dc28 pm28 cd28 ct28 : Value}
    {f29 : Addr} {od29 an29 : Option Addr} {sl29 : Array (Option Value)} {oc29 kV29 dc29 pm29 cd29 ct29 : Value}
    {t_MOST_LENGTH : Tok}
    {t_MOST_PIECES : Tok}
    {C_Work : Addr}
    {C_InvalidLengths : Addr}
    {C_InvalidWaits : Addr}
    {nm_InvalidLengths q_InvalidLengths : Str} {N_InvalidLengths : Addr} {bs_InvalidLengths bm_InvalidLengths : List Value} {sn_InvalidLengths : List Str} {sbc_InvalidLengths : List Value} {ab_InvalidLengths : Bool} {col_InvalidLengths : Option Bool} {dd_InvalidLengths : Option Addr} {m0_InvalidLengths m1_InvalidLengths m2_InvalidLengths m3_InvalidLengths m5_InvalidLengths : Option Value}
    {e_InvalidLengths cda_InvalidLengths cc_InvalidLengths : Addr} {eoc_InvalidLengths edc_InvalidLengths epm_InvalidLengths ect_InvalidLengths ccl_InvalidLengths ecl_InvalidLengths : Value} {eod_InvalidLengths ean_InvalidLengths cdd_InvalidLengths cld_InvalidLengths : Option Addr} {esl_InvalidLengths ccs_InvalidLengths csl_InvalidLengths : Array (Option Value)} {vs_InvalidLengths : Array Value} {fi_InvalidLengths : Str} {tf_InvalidLengths : Tok}
    {nm_InvalidWaits q_InvalidWaits : Str} {N_InvalidWaits : Addr} {bs_InvalidWaits bm_InvalidWaits : List Value} {sn_InvalidWaits : List Str} {sbc_InvalidWaits : List Value} {ab_InvalidWaits : Bool} {col_InvalidWaits : Option Bool} {dd_InvalidWaits : Option Addr} {m0_InvalidWaits m1_InvalidWaits m2_InvalidWaits m3_InvalidWaits m5_InvalidWaits : Option Value}
    {e_InvalidWaits cda_InvalidWaits cc_InvalidWaits : Addr} {eoc_InvalidWaits edc_InvalidWaits epm_InvalidWaits ect_InvalidWaits ccl_InvalidWaits ecl_InvalidWaits : Value} {eod_InvalidWaits ean_InvalidWaits cdd_InvalidWaits cld_InvalidWaits : Option Addr} {esl_InvalidWaits ccs_InvalidWaits csl_InvalidWaits : Array (Option Value)} {vs_InvalidWaits : Array Value} {fi_InvalidWaits : Str} {tf_InvalidWaits : Tok}
    (a0 : PySem.W.nsIn K mainGlobals "_law_is_due" = some (some (.ref f0)))
    (l0 : K.lookup f0 = some ⟨oc0, od0, .func (PySem.W.fnOf "_law_is_due" "_law_is_due" (defArgs s__law_is_due) (defBody s__law_is_due) (defScope s__law_is_due) .none kV0 dc0 pm0 an0 cd0 ct0), sl0⟩)
    (c0 : PySem.W.codeIn K cd0 "_law_is_due" = true)
    (k0 : PySem.W.keepIn K (.ref f0) = true)
    (a1 : PySem.W.nsIn K mainGlobals "_law_whole" = some (some (.ref f1)))
    (l1 : K.lookup f1 = some ⟨oc1, od1, .func (PySem.W.fnOf "_law_whole" "_law_whole" (defArgs s__law_whole) (defBody s__law_whole) (defScope s__law_whole) .none kV1 dc1 pm1 an1 cd1 ct1), sl1⟩)
    (c1 : PySem.W.codeIn K cd1 "_law_whole" = true)
    (k1 : PySem.W.keepIn K (.ref f1) = true)
    (a2 : PySem.W.nsIn K mainGlobals "_law_is_numbers" = some (some (.ref f2)))
    (l2 : K.lookup f2 = some ⟨oc2, od2, .func (PySem.W.fnOf "_law_is_numbers" "_law_is_numbers" (defArgs s__law_is_numbers) (defBody s__law_is_numbers) (defScope s__law_is_numbers) .none kV2 dc2 pm2 an2 cd2 ct2), sl2⟩)
    (c2 : PySem.W.codeIn K cd2 "_law_is_numbers" = true)
    (k2 : PySem.W.keepIn K (.ref f2) = true)
    (a3 : PySem.W.nsIn K mainGlobals "_law_are_heights" = some (some (.ref f3)))
    (l3 : K.lookup f3 = some ⟨oc3, od3, .func (PySem.W.fnOf "_law_are_heights" "_law_are_heights" (defArgs s__law_are_heights) (defBody s__law_are_heights) (defScope s__law_are_heights) .none kV3 dc3 pm3 an3 cd3 ct3), sl3⟩)
    (c3 : PySem.W.codeIn K cd3 "_law_are_heights" = true)
    (k3 : PySem.W.keepIn K (.ref f3) = true)
    (a4 : PySem.W.nsIn K mainGlobals "is_integer" = some (some (.ref f4)))
    (l4 : K.lookup f4 = some ⟨oc4, od4, .func (PySem.W.fnOf "is_integer" "is_integer" (defArgs s_is_integer) (defBody s_is_integer) (defScope s_is_integer) .none kV4 dc4 pm4 an4 cd4 ct4), sl4⟩)
    (c4 : PySem.W.codeIn K cd4 "is_integer" = true)
    (k4 : PySem.W.keepIn K (.ref f4) = true)
    (a5 : PySem.W.nsIn K mainGlobals "is_integer_in" = some (some (.ref f5)))
    (l5 : K.lookup f5 = some ⟨oc5, od5, .func (PySem.W.fnOf "is_integer_in" "is_integer_in" (defArgs s_is_integer_in) (defBody s_is_integer_in) (defScope s_is_integer_in) .none kV5 dc5 pm5 an5 cd5 ct5), sl5⟩)
    (c5 : PySem.W.codeIn K cd5 "is_integer_in" = true)
    (k5 : PySem.W.keepIn K (.ref f5) = true)
    (a6 : PySem.W.nsIn K mainGlobals "is_number" = some (some (.ref f6)))
    (l6 : K.lookup f6 = some ⟨oc6, od6, .func (PySem.W.fnOf "is_number" "is_number" (defArgs s_is_number) (defBody s_is_number) (defScope s_is_number) .none kV6 dc6 pm6 an6 cd6 ct6), sl6⟩)
    (c6 : PySem.W.codeIn K cd6 "is_number" = true)
    (k6 : PySem.W.keepIn K (.ref f6) = true)
    (a7 : PySem.W.nsIn K mainGlobals "heights_hold" = some (some (.ref f7)))
    (l7 : K.lookup f7 = some ⟨oc7, od7, .func (PySem.W.fnOf "heights_hold" "heights_hold" (defArgs s_heights_hold) (defBody s_heights_hold) (defScope s_heights_hold) .none kV7 dc7 pm7 an7 cd7 ct7), sl7⟩)
    (c7 : PySem.W.codeIn K cd7 "heights_hold" = true)
    (k7 : PySem.W.keepIn K (.ref f7) = true)
    (a8 : PySem.W.nsIn K mainGlobals "_law_take" = some (some (.ref f8)))
    (l8 : K.lookup f8 = some ⟨oc8, od8, .func (PySem.W.fnOf "_law_take" "_law_take" (defArgs s__law_take) (defBody s__law_take) (defScope s__law_take) .none kV8 dc8 pm8 an8 cd8 ct8), sl8⟩)
    (c8 : PySem.W.codeIn K cd8 "_law_take" = true)
    (k8 : PySem.W.keepIn K (.ref f8) = true)
    (a9 : PySem.W.nsIn K mainGlobals "_law_pick" = some (some (.ref f9)))
    (l9 : K.lookup f9 = some ⟨oc9, od9, .func (PySem.W.fnOf "_law_pick" "_law_pick" (defArgs s__law_pick) (defBody s__law_pick) (defScope s__law_pick) .none kV9 dc9 pm9 an9 cd9 ct9), sl9⟩)
    (c9 : PySem.W.codeIn K cd9 "_law_pick" = true)
    (k9 : PySem.W.keepIn K (.ref f9) = true)
    (a10 : PySem.W.nsIn K mainGlobals "_law_spoilt" = some (some (.ref f10)))
    (l10 : K.lookup f10 = some ⟨oc10, od10, .func (PySem.W.fnOf "_law_spoilt" "_law_spoilt" (defArgs s__law_spoilt) (defBody s__law_spoilt) (defScope s__law_spoilt) .none kV10 dc10 pm10 an10 cd10 ct10), sl10⟩)
    (c10 : PySem.W.codeIn K cd10 "_law_spoilt" = true)
    (k10 : PySem.W.keepIn K (.ref f10) = true)
    (a11 : PySem.W.nsIn K mainGlobals "heights" = some (some (.ref f11)))
    (l11 : K.lookup f11 = some ⟨oc11, od11, .func (PySem.W.fnOf "heights" "heights" (defArgs s_heights) (defBody s_heights) (defScope s_heights) .none kV11 dc11 pm11 an11 cd11 ct11), sl11⟩)
    (c11 : PySem.W.codeIn K cd11 "heights" = true)
    (k11 : PySem.W.keepIn K (.ref f11) = true)
    (a12 : PySem.W.nsIn K mainGlobals "_law_heights" = some (some (.ref f12)))
    (l12 : K.lookup f12 = some ⟨oc12, od12, .func (PySem.W.fnOf "_law_heights" "_law_heights" (defArgs s__law_heights) (defBody s__law_heights) (defScope s__law_heights) .none kV12 dc12 pm12 an12 cd12 ct12), sl12⟩)
    (c12 : PySem.W.codeIn K cd12 "_law_heights" = true)
    (k12 : PySem.W.keepIn K (.ref f12) = true)
    (a13 : PySem.W.nsIn K mainGlobals "_length" = some (some (.ref f13)))
    (l13 : K.lookup f13 = some ⟨oc13, od13, .func (PySem.W.fnOf "_length" "_length" (defArgs s__length) (defBody s__length) (defScope s__length) .none kV13 dc13 pm13 an13 cd13 ct13), sl13⟩)
    (c13 : PySem.W.codeIn K cd13 "_length" = true)
    (k13 : PySem.W.keepIn K (.ref f13) = true)
    (a14 : PySem.W.nsIn K mainGlobals "_all_ways" = some (some (.ref f14)))
    (l14 : K.lookup f14 = some ⟨oc14, od14, .func (PySem.W.fnOf "_all_ways" "_all_ways" (defArgs s__all_ways) (defBody s__all_ways) (defScope s__all_ways) .none kV14 dc14 pm14 an14 cd14 ct14), sl14⟩)
    (c14 : PySem.W.codeIn K cd14 "_all_ways" = true)
    (k14 : PySem.W.keepIn K (.ref f14) = true)
    (a15 : PySem.W.nsIn K mainGlobals "ending" = some (some (.ref f15)))
    (l15 : K.lookup f15 = some ⟨oc15, od15, .func (PySem.W.fnOf "ending" "ending" (defArgs s_ending) (defBody s_ending) (defScope s_ending) .none kV15 dc15 pm15 an15 cd15 ct15), sl15⟩)
    (c15 : PySem.W.codeIn K cd15 "ending" = true)
    (k15 : PySem.W.keepIn K (.ref f15) = true)
    (a16 : PySem.W.nsIn K mainGlobals "longest" = some (some (.ref f16)))
    (l16 : K.lookup f16 = some ⟨oc16, od16, .func (PySem.W.fnOf "longest" "longest" (defArgs s_longest) (defBody s_longest) (defScope s_longest) .none kV16 dc16 pm16 an16 cd16 ct16), sl16⟩)
    (c16 : PySem.W.codeIn K cd16 "longest" = true)
    (k16 : PySem.W.keepIn K (.ref f16) = true)
    (a17 : PySem.W.nsIn K mainGlobals "_law_length" = some (some (.ref f17)))
    (l17 : K.lookup f17 = some ⟨oc17, od17, .func (PySem.W.fnOf "_law_length" "_law_length" (defArgs s__law_length) (defBody s__law_length) (defScope s__law_length) .none kV17 dc17 pm17 an17 cd17 ct17), sl17⟩)
    (c17 : PySem.W.codeIn K cd17 "_law_length" = true)
    (k17 : PySem.W.keepIn K (.ref f17) = true)
    (a18 : PySem.W.nsIn K mainGlobals "_law_ways" = some (some (.ref f18)))
    (l18 : K.lookup f18 = some ⟨oc18, od18, .func (PySem.W.fnOf "_law_ways" "_law_ways" (defArgs s__law_ways) (defBody s__law_ways) (defScope s__law_ways) .none kV18 dc18 pm18 an18 cd18 ct18), sl18⟩)
    (c18 : PySem.W.codeIn K cd18 "_law_ways" = true)
    (k18 : PySem.W.keepIn K (.ref f18) = true)
    (a19 : PySem.W.nsIn K mainGlobals "plain" = some (some (.ref f19)))
    (l19 : K.lookup f19 = some ⟨oc19, od19, .func (PySem.W.fnOf "plain" "plain" (defArgs s_plain) (defBody s_plain) (defScope s_plain) .none kV19 dc19 pm19 an19 cd19 ct19), sl19⟩)
    (c19 : PySem.W.codeIn K cd19 "plain" = true)
    (k19 : PySem.W.keepIn K (.ref f19) = true)
    (a20 : PySem.W.nsIn K mainGlobals "is_ascending" = some (some (.ref f20)))
    (l20 : K.lookup f20 = some ⟨oc20, od20, .func (PySem.W.fnOf "is_ascending" "is_ascending" (defArgs s_is_ascending) (defBody s_is_ascending) (defScope s_is_ascending) .none kV20 dc20 pm20 an20 cd20 ct20), sl20⟩)
    (c20 : PySem.W.codeIn K cd20 "is_ascending" = true)
    (k20 : PySem.W.keepIn K (.ref f20) = true)
    (a21 : PySem.W.nsIn K mainGlobals "is_pair" = some (some (.ref f21)))
    (l21 : K.lookup f21 = some ⟨oc21, od21, .func (PySem.W.fnOf "is_pair" "is_pair" (defArgs s_is_pair) (defBody s_is_pair) (defScope s_is_pair) .none kV21 dc21 pm21 an21 cd21 ct21), sl21⟩)
    (c21 : PySem.W.codeIn K cd21 "is_pair" = true)
    (k21 : PySem.W.keepIn K (.ref f21) = true)
    (a22 : PySem.W.nsIn K mainGlobals "is_upward_pair" = some (some (.ref f22)))
    (l22 : K.lookup f22 = some ⟨oc22, od22, .func (PySem.W.fnOf "is_upward_pair" "is_upward_pair" (defArgs s_is_upward_pair) (defBody s_is_upward_pair) (defScope s_is_upward_pair) .none kV22 dc22 pm22 an22 cd22 ct22), sl22⟩)
    (c22 : PySem.W.codeIn K cd22 "is_upward_pair" = true)
    (k22 : PySem.W.keepIn K (.ref f22) = true)
    (a23 : PySem.W.nsIn K mainGlobals "are_upward_pairs" = some (some (.ref f23)))
    (l23 : K.lookup f23 = some ⟨oc23, od23, .func (PySem.W.fnOf "are_upward_pairs" "are_upward_pairs" (defArgs s_are_upward_pairs) (defBody s_are_upward_pairs) (defScope s_are_upward_pairs) .none kV23 dc23 pm23 an23 cd23 ct23), sl23⟩)
    (c23 : PySem.W.codeIn K cd23 "are_upward_pairs" = true)
    (k23 : PySem.W.keepIn K (.ref f23) = true)
    (a24 : PySem.W.nsIn K mainGlobals "_are_lengths" = some (some (.ref f24)))
    (l24 : K.lookup f24 = some ⟨oc24, od24, .func (PySem.W.fnOf "_are_lengths" "_are_lengths" (defArgs s__are_lengths) (defBody s__are_lengths) (defScope s__are_lengths) .none kV24 dc24 pm24 an24 cd24 ct24), sl24⟩)
    (c24 : PySem.W.codeIn K cd24 "_are_lengths" = true)
    (k24 : PySem.W.keepIn K (.ref f24) = true)
    (a25 : PySem.W.findIn K (.ref C_Work) "__init__" = some (some (.ref f25)))
    (i25 : PySem.W.isFn K (.ref f25) = true)
    (l25 : K.lookup f25 = some ⟨oc25, od25, .func (PySem.W.fnOf "__init__" "Work.__init__" (defArgs s_m_Workdd_initdd) (defBody s_m_Workdd_initdd) (defScope s_m_Workdd_initdd) .none kV25 dc25 pm25 an25 cd25 ct25), sl25⟩)
    (c25 : PySem.W.codeIn K cd25 "Work.__init__" = true)
    (k25 : PySem.W.keepIn K (.ref f25) = true)
    (a26 : PySem.W.nsIn K mainGlobals "_law_box" = some (some (.ref f26)))
    (l26 : K.lookup f26 = some ⟨oc26, od26, .func (PySem.W.fnOf "_law_box" "_law_box" (defArgs s__law_box) (defBody s__law_box) (defScope s__law_box) .none kV26 dc26 pm26 an26 cd26 ct26), sl26⟩)
    (c26 : PySem.W.codeIn K cd26 "_law_box" = true)
    (k26 : PySem.W.keepIn K (.ref f26) = true)
    (a27 : PySem.W.nsIn K mainGlobals "_law_all_edges" = some (some (.ref f27)))
    (l27 : K.lookup f27 = some ⟨oc27, od27, .func (PySem.W.fnOf "_law_all_edges" "_law_all_edges" (defArgs s__law_all_edges) (defBody s__law_all_edges) (defScope s__law_all_edges) .none kV27 dc27 pm27 an27 cd27 ct27), sl27⟩)
    (c27 : PySem.W.codeIn K cd27 "_law_all_edges" = true)
    (k27 : PySem.W.keepIn K (.ref f27) = true)
    (a28 : PySem.W.nsIn K mainGlobals "_law_work" = some (some (.ref f28)))
    (l28 : K.lookup f28 = some ⟨oc28, od28, .func (PySem.W.fnOf "_law_work" "_law_work" (defArgs s__law_work) (defBody s__law_work) (defScope s__law_work) .none kV28 dc28 pm28 an28 cd28 ct28), sl28⟩)
    (c28 : PySem.W.codeIn K cd28 "_law_work" = true)
    (k28 : PySem.W.keepIn K (.ref f28) = true)
    (a29 : PySem.W.nsIn K mainGlobals "law" = some (some (.ref f29)))
    (l29 : K.lookup f29 = some ⟨oc29, od29, .func (PySem.W.fnOf "law" "law" (defArgs s_law) (defBody s_law) (defScope s_law) .none kV29 dc29 pm29 an29 cd29 ct29), sl29⟩)
    (c29 : PySem.W.codeIn K cd29 "law" = true)
    (k29 : PySem.W.keepIn K (.ref f29) = true)
    (b_abs : PySem.W.nsIn K mainGlobals "abs" = some none)
    (b_all : PySem.W.nsIn K mainGlobals "all" = some none)
    (b_bool : PySem.W.nsIn K mainGlobals "bool" = some none)
    (b_int : PySem.W.nsIn K mainGlobals "int" = some none)
    (b_isinstance : PySem.W.nsIn K mainGlobals "isinstance" = some none)
    (b_len : PySem.W.nsIn K mainGlobals "len" = some none)
    (b_list : PySem.W.nsIn K mainGlobals "list" = some none)
    (b_max : PySem.W.nsIn K mainGlobals "max" = some none)
    (b_min : PySem.W.nsIn K mainGlobals "min" = some none)
    (b_range : PySem.W.nsIn K mainGlobals "range" = some none)
    (b_str : PySem.W.nsIn K mainGlobals "str" = some none)
    (b_sum : PySem.W.nsIn K mainGlobals "sum" = some none)
    (b_tuple : PySem.W.nsIn K mainGlobals "tuple" = some none)
    (b_zip : PySem.W.nsIn K mainGlobals "zip" = some none)
    (g_MOST_LENGTH : PySem.W.nsIn K mainGlobals "MOST_LENGTH" = some (some (.int 999999 t_MOST_LENGTH)))
    (g_MOST_PIECES : PySem.W.nsIn K mainGlobals "MOST_PIECES" = some (some (.int 8 t_MOST_PIECES)))
    (a_Work : PySem.W.nsIn K mainGlobals "Work" = some (some (.ref C_Work)))
    (pg_Work : PySem.W.plainGet K C_Work Str.empty = true)
    (hd_Work : PySem.W.hasDictIn K C_Work = true)
    (po_Work : PySem.W.plainOver K C_Work = true)
    (sa_Work : PySem.W.findIn K (.ref C_Work) "__setattr__" = some (some (.builtin "object.__setattr__")))
    (mk_Work : PySem.W.makesIn K C_Work = true)
    (kp_Work : PySem.W.keepIn K (.ref C_Work) = true)
    (ca_Work : PySem.W.findIn K (.ref C_Work) "__class__" = some (some (.builtin "object.__class__")))
    (hn_Work : PySem.W.specialIn K (.builtin "object.__class__") "__get__" = some (some (.builtin "getset_descriptor.__get__")))
    (tk_Work : PySem.W.takesIn K (.builtin "object.__class__") = some true)
    (mr_Work : PySem.W.mroIn K C_Work (.type "object") = some true)
    (ic_Work : PySem.W.isClsIn K C_Work = true)
    (tc_Work : PySem.W.typeIn K (.ref C_Work) = some (.type "type"))
    (kit_non_Work : PySem.W.subIn K (.type "NoneType") (.ref C_Work) = some false)
    (kit_bl_Work : PySem.W.subIn K (.type "bool") (.ref C_Work) = some false)
    (kit_int_Work : PySem.W.subIn K (.type "int") (.ref C_Work) = some false)
    (kit_str_Work : PySem.W.subIn K (.type "str") (.ref C_Work) = some false)
    (kit_lst_Work : PySem.W.subIn K (.type "list") (.ref C_Work) = some false)
    (kit_tup_Work : PySem.W.subIn K (.type "tuple") (.ref C_Work) = some false)
    (nt_Work : PySem.W.mroIn K C_Work (.type "tuple") = some false)
    (n_Work_lengths : PySem.W.findIn K (.ref C_Work) "lengths" = some none)
    (n_Work_waits : PySem.W.findIn K (.ref C_Work) "waits" = some none)
    (a_InvalidLengths : PySem.W.nsIn K mainGlobals "InvalidLengths" = some (some (.ref C_InvalidLengths)))
    (a_InvalidWaits : PySem.W.nsIn K mainGlobals "InvalidWaits" = some (some (.ref C_InvalidWaits)))
    (nsup : PySem.W.nsIn K mainGlobals "super" = some none)
    (x_InvalidLengths : K.lookup C_InvalidLengths = some (excClassObj nm_InvalidLengths q_InvalidLengths C_InvalidLengths N_InvalidLengths bs_InvalidLengths bm_InvalidLengths true sn_InvalidLengths sbc_InvalidLengths ab_InvalidLengths col_InvalidLengths dd_InvalidLengths m0_InvalidLengths m1_InvalidLengths m2_InvalidLengths m3_InvalidLengths m5_InvalidLengths "ValueError.__new__"))
    (rv_InvalidLengths : refsVE bm_InvalidLengths = true)
    (esa_InvalidLengths : PySem.W.findIn K (.ref C_InvalidLengths) "__setattr__" = some (some (.builtin "object.__setattr__")))
    (ega_InvalidLengths : PySem.W.findIn K (.ref C_InvalidLengths) "__getattribute__" = some (some (.builtin "BaseException.__getattribute__")))
    (egg_InvalidLengths : PySem.W.findIn K (.ref C_InvalidLengths) "__getattr__" = some none)
    (eno_InvalidLengths : PySem.W.findIn K (.ref C_InvalidLengths) "value" = some none)
    (ei_InvalidLengths : PySem.W.findIn K (.ref C_InvalidLengths) "__init__" = some (some (.ref e_InvalidLengths)))
    (et_InvalidLengths : PySem.W.typeIn K (.ref e_InvalidLengths) = some (.type "function"))
    (ekC_InvalidLengths : PySem.W.keepIn K (.ref C_InvalidLengths) = true)
    (ehd_InvalidLengths : PySem.W.hasDictIn K C_InvalidLengths = true)
    (esup_InvalidLengths : PySem.W.ks_superIn K C_InvalidLengths C_InvalidLengths "__init__" = some (some (.builtin "ValueError.__init__")))
    (esv_InvalidLengths : PySem.W.subIn K (.ref C_InvalidLengths) (.type "ValueError") = some true)
    (emr_InvalidLengths : PySem.W.mroIn K C_InvalidLengths (.ref C_InvalidLengths) = some true)
    (el_InvalidLengths : K.lookup e_InvalidLengths = some ⟨eoc_InvalidLengths, eod_InvalidLengths, .func (PySem.W.ksFn "__init__" "InvalidLengths.__init__" (defArgs sx_InvalidLengths) (defBody sx_InvalidLengths) (defScope sx_InvalidLengths) .none .none edc_InvalidLengths epm_InvalidLengths ean_InvalidLengths (.ref cda_InvalidLengths) ect_InvalidLengths cc_InvalidLengths), esl_InvalidLengths⟩)
    (eco_InvalidLengths : PySem.W.codeIn K (.ref cda_InvalidLengths) "InvalidLengths.__init__" = true)
    (ecd_InvalidLengths : K.lookup cda_InvalidLengths = some ⟨ccl_InvalidLengths, cdd_InvalidLengths, .fields vs_InvalidLengths, ccs_InvalidLengths⟩)
    (ev2_InvalidLengths : vs_InvalidLengths[2]? = some (.str fi_InvalidLengths tf_InvalidLengths))
    (efi_InvalidLengths : ((l.prog.main.file : Str) == fi_InvalidLengths) = true)
    (ecc_InvalidLengths : K.lookup cc_InvalidLengths = some ⟨ecl_InvalidLengths, cld_InvalidLengths, .cell (some (.ref C_InvalidLengths)), csl_InvalidLengths⟩)
    (x_InvalidWaits : K.lookup C_InvalidWaits = some (excClassObj nm_InvalidWaits q_InvalidWaits C_InvalidWaits N_InvalidWaits bs_InvalidWaits bm_InvalidWaits true sn_InvalidWaits sbc_InvalidWaits ab_InvalidWaits col_InvalidWaits dd_InvalidWaits m0_InvalidWaits m1_InvalidWaits m2_InvalidWaits m3_InvalidWaits m5_InvalidWaits "ValueError.__new__"))
    (rv_InvalidWaits : refsVE bm_InvalidWaits = true)
    (esa_InvalidWaits : PySem.W.findIn K (.ref C_InvalidWaits) "__setattr__" = some (some (.builtin "object.__setattr__")))
    (ega_InvalidWaits : PySem.W.findIn K (.ref C_InvalidWaits) "__getattribute__" = some (some (.builtin "BaseException.__getattribute__")))
    (egg_InvalidWaits : PySem.W.findIn K (.ref C_InvalidWaits) "__getattr__" = some none)
    (eno_InvalidWaits : PySem.W.findIn K (.ref C_InvalidWaits) "value" = some none)
    (ei_InvalidWaits : PySem.W.findIn K (.ref C_InvalidWaits) "__init__" = some (some (.ref e_InvalidWaits)))
    (et_InvalidWaits : PySem.W.typeIn K (.ref e_InvalidWaits) = some (.type "function"))
    (ekC_InvalidWaits : PySem.W.keepIn K (.ref C_InvalidWaits) = true)
    (ehd_InvalidWaits : PySem.W.hasDictIn K C_InvalidWaits = true)
    (esup_InvalidWaits : PySem.W.ks_superIn K C_InvalidWaits C_InvalidWaits "__init__" = some (some (.builtin "ValueError.__init__")))
    (esv_InvalidWaits : PySem.W.subIn K (.ref C_InvalidWaits) (.type "ValueError") = some true)
    (emr_InvalidWaits : PySem.W.mroIn K C_InvalidWaits (.ref C_InvalidWaits) = some true)
    (el_InvalidWaits : K.lookup e_InvalidWaits = some ⟨eoc_InvalidWaits, eod_InvalidWaits, .func (PySem.W.ksFn "__init__" "InvalidWaits.__init__" (defArgs sx_InvalidWaits) (defBody sx_InvalidWaits) (defScope sx_InvalidWaits) .none .none edc_InvalidWaits epm_InvalidWaits ean_InvalidWaits (.ref cda_InvalidWaits) ect_InvalidWaits cc_InvalidWaits), esl_InvalidWaits⟩)
    (eco_InvalidWaits : PySem.W.codeIn K (.ref cda_InvalidWaits) "InvalidWaits.__init__" = true)
    (ecd_InvalidWaits : K.lookup cda_InvalidWaits = some ⟨ccl_InvalidWaits, cdd_InvalidWaits, .fields vs_InvalidWaits, ccs_InvalidWaits⟩)
    (ev2_InvalidWaits : vs_InvalidWaits[2]? = some (.str fi_InvalidWaits tf_InvalidWaits))
    (efi_InvalidWaits : ((l.prog.main.file : Str) == fi_InvalidWaits) = true)
    (ecc_InvalidWaits : K.lookup cc_InvalidWaits = some ⟨ecl_InvalidWaits, cld_InvalidWaits, .cell (some (.ref C_InvalidWaits)), csl_InvalidWaits⟩)
    (top_ : (l.prog.main.scope.names.lookup ("super" : Str)).isSome = false)
    (opq : PySem.W.nsIn K cStatics "thirdparty.any" = some none)
    (eB_InvalidLengths : PySem.W.subIn K (.ref C_InvalidLengths) (.type "BaseException") = some true)
    (eT_InvalidLengths : PySem.W.typeIn K (.ref C_InvalidLengths) = some (.type "type"))
    (eI_InvalidLengths : PySem.W.isClsIn K C_InvalidLengths = true)
    (s_InvalidLengths_InvalidLengths : PySem.W.subIn K (.ref C_InvalidLengths) (.ref C_InvalidLengths) = some true)
    (eB_InvalidWaits : PySem.W.subIn K (.ref C_InvalidWaits) (.type "BaseException") = some true)
    (eT_InvalidWaits : PySem.W.typeIn K (.ref C_InvalidWaits) = some (.type "type"))
    (eI_InvalidWaits : PySem.W.isClsIn K C_InvalidWaits = true)
    (s_InvalidWaits_InvalidWaits : PySem.W.subIn K (.ref C_InvalidWaits) (.ref C_InvalidWaits) = some true) :
    ∃ fd : FuncData, (∀ (s : Shared) (v : Value), BindsTo s fd ⟨[v], []⟩ [("script", v)]) ∧ ∀ base : Heap, K.In base → base.Ns mainGlobals mg → FnOk l.prog w K mg base (L2.CX l.prog w) 24 fa fd ["script"] (spD ⟨mg, K⟩ F_law) := by
  have e := hfa.symm.trans (PySem.W.mg_of X G a29)
  cases e
  have x_InvalidLengths' : ErrTxt l.prog K mg "InvalidLengths" "value" := by
    obtain ⟨m, p1, p2, q1, q2, q3, q4, q5, q6, r1, r2, r3, r4, j, t1, t2, t3, t4⟩ := tx_InvalidLengths
    rw [t1, t2, t3] at el_InvalidLengths
    exact ⟨⟨C_InvalidLengths, e_InvalidLengths, PySem.W.mg_of X G a_InvalidLengths, { cls := ⟨_, _, _, _, _, _, _, _, _, _, _, _, _, _, _, x_InvalidLengths, rv_InvalidLengths⟩, sa := esa_InvalidLengths, ga := ega_InvalidLengths, gg := egg_InvalidLengths, noN := eno_InvalidLengths, iC := ei_InvalidLengths, tC := et_InvalidLengths, kC := ekC_InvalidLengths, exC := eB_InvalidLengths, tyC := eT_InvalidLengths, hdC := ehd_InvalidLengths, te := exm_two eB_InvalidLengths eI_InvalidLengths eT_InvalidLengths s_InvalidLengths_InvalidLengths, sup := esup_InvalidLengths, sv := esv_InvalidLengths, op := opq, sub := emr_InvalidLengths, nsup := PySem.W.mg_none_of X G nsup, top := top_, fn := ⟨_, _, _, _, _, _, _, _, _, _, _, _, _, _, _, _, _, _, _, _, _, _, _, _, _, _, _, _, _, _, _, _, _, el_InvalidLengths, eco_InvalidLengths, ecd_InvalidLengths, ev2_InvalidLengths, efi_InvalidLengths, t4, ecc_InvalidLengths⟩ }⟩, plain_value, by decide +kernel⟩
  have x_InvalidWaits' : ErrTxt l.prog K mg "InvalidWaits" "value" := by
    obtain ⟨m, p1, p2, q1, q2, q3, q4, q5, q6, r1, r2, r3, r4, j, t1, t2, t3, t4⟩ := tx_InvalidWaits
    rw [t1, t2, t3] at el_InvalidWaits
    exact ⟨⟨C_InvalidWaits, e_InvalidWaits, PySem.W.mg_of X G a_InvalidWaits, { cls := ⟨_, _, _, _, _, _, _, _, _, _, _, _, _, _, _, x_InvalidWaits, rv_InvalidWaits⟩, sa := esa_InvalidWaits, ga := ega_InvalidWaits, gg := egg_InvalidWaits, noN := eno_InvalidWaits, iC := ei_InvalidWaits, tC := et_InvalidWaits, kC := ekC_InvalidWaits, exC := eB_InvalidWaits, tyC := eT_InvalidWaits, hdC := ehd_InvalidWaits, te := exm_two eB_InvalidWaits eI_InvalidWaits eT_InvalidWaits s_InvalidWaits_InvalidWaits, sup := esup_InvalidWaits, sv := esv_InvalidWaits, op := opq, sub := emr_InvalidWaits, nsup := PySem.W.mg_none_of X G nsup, top := top_, fn := ⟨_, _, _, _, _, _, _, _, _, _, _, _, _, _, _, _, _, _, _, _, _, _, _, _, _, _, _, _, _, _, _, _, _, el_InvalidWaits, eco_InvalidWaits, ecd_InvalidWaits, ev2_InvalidWaits, efi_InvalidWaits, t4, ecc_InvalidWaits⟩ }⟩, plain_value, by decide +kernel⟩
  have cl_Work : Cls K C_Work := ⟨pg_Work, hd_Work, po_Work, sa_Work⟩
  have T : Txt l.prog K mg C_Work := { b_abs := PySem.W.mg_none_of X G b_abs, b_all := PySem.W.mg_none_of X G b_all, b_bool := PySem.W.mg_none_of X G b_bool, b_int := PySem.W.mg_none_of X G b_int, b_isinstance := PySem.W.mg_none_of X G b_isinstance, b_len := PySem.W.mg_none_of X G b_len, b_list := PySem.W.mg_none_of X G b_list, b_max := PySem.W.mg_none_of X G b_max, b_min := PySem.W.mg_none_of X G b_min, b_range := PySem.W.mg_none_of X G b_range, b_str := PySem.W.mg_none_of X G b_str, b_sum := PySem.W.mg_none_of X G b_sum, b_tuple := PySem.W.mg_none_of X G b_tuple, b_zip := PySem.W.mg_none_of X G b_zip, c_MOST_LENGTH := ⟨_, PySem.W.mg_of X G g_MOST_LENGTH⟩, c_MOST_PIECES := ⟨_, PySem.W.mg_of X G g_MOST_PIECES⟩, g_Work := PySem.W.mg_of X G a_Work, cl_Work := cl_Work, mk_Work := ⟨mk_Work, kp_Work⟩, is_Work := ⟨cl_Work, ca_Work, hn_Work, tk_Work, mr_Work, kit_self, kit_own ic_Work tc_Work kit_non_Work, kit_own ic_Work tc_Work kit_bl_Work, kit_own ic_Work tc_Work kit_int_Work, kit_own ic_Work tc_Work kit_str_Work, kit_own ic_Work tc_Work kit_lst_Work, kit_own ic_Work tc_Work kit_tup_Work⟩, nt_Work := kit_base (by decide +kernel) nt_Work, n_Work_lengths := n_Work_lengths, n_Work_waits := n_Work_waits, x_InvalidLengths := x_InvalidLengths', x_InvalidWaits := x_InvalidWaits' }
  have F0 := fun_mk (st := s__law_is_due) l0 c0 k0
  have b0 := F0.binds (ps := ["told", "due"]) fun _ _ _ _ _ _ us hl => match us, hl with | [_, _], _ => rfl
  have F1 := fun_mk (st := s__law_whole) l1 c1 k1
  have b1 := F1.binds (ps := ["value"]) fun _ _ _ _ _ _ us hl => match us, hl with | [_], _ => rfl
  have F2 := fun_mk (st := s__law_is_numbers) l2 c2 k2
  have b2 := F2.binds (ps := ["value", "many"]) fun _ _ _ _ _ _ us hl => match us, hl with | [_, _], _ => rfl
  have F3 := fun_mk (st := s__law_are_heights) l3 c3 k3
  have b3 := F3.binds (ps := ["work", "many", "value"]) fun _ _ _ _ _ _ us hl => match us, hl with | [_, _, _], _ => rfl
  have F4 := fun_mk (st := s_is_integer) l4 c4 k4
  have b4 := F4.binds (ps := ["value"]) fun _ _ _ _ _ _ us hl => match us, hl with | [_], _ => rfl
  have F5 := fun_mk (st := s_is_integer_in) l5 c5 k5
  have b5 := F5.binds (ps := ["value", "low", "high"]) fun _ _ _ _ _ _ us hl => match us, hl with | [_, _, _], _ => rfl
  have F6 := fun_mk (st := s_is_number) l6 c6 k6
  have b6 := F6.binds (ps := ["value"]) fun _ _ _ _ _ _ us hl => match us, hl with | [_], _ => rfl
  have F7 := fun_mk (st := s_heights_hold) l7 c7 k7
  have b7 := F7.binds (ps := ["work", "many", "value"]) fun _ _ _ _ _ _ us hl => match us, hl with | [_, _, _], _ => rfl
  have F8 := fun_mk (st := s__law_take) l8 c8 k8
  have b8 := F8.binds (ps := ["box", "many"]) fun _ _ _ _ _ _ us hl => match us, hl with | [_, _], _ => rfl
  have F9 := fun_mk (st := s__law_pick) l9 c9 k9
  have b9 := F9.binds (ps := ["box", "some"]) fun _ _ _ _ _ _ us hl => match us, hl with | [_, _], _ => rfl
  have F10 := fun_mk (st := s__law_spoilt) l10 c10 k10
  have b10 := F10.binds (ps := ["box", "value", "deep"]) fun _ _ _ _ _ _ us hl => match us, hl with | [_, _, _], _ => rfl
  have F11 := fun_mk (st := s_heights) l11 c11 k11
  have b11 := F11.binds (ps := ["work"]) fun _ _ _ _ _ _ us hl => match us, hl with | [_], _ => rfl
  have F12 := fun_mk (st := s__law_heights) l12 c12 k12
  have b12 := F12.binds (ps := ["work"]) fun _ _ _ _ _ _ us hl => match us, hl with | [_], _ => rfl
  have F13 := fun_mk (st := s__length) l13 c13 k13
  have b13 := F13.binds (ps := ["work", "way"]) fun _ _ _ _ _ _ us hl => match us, hl with | [_, _], _ => rfl
  have F14 := fun_mk (st := s__all_ways) l14 c14 k14
  have b14 := F14.binds (ps := ["work"]) fun _ _ _ _ _ _ us hl => match us, hl with | [_], _ => rfl
  have F15 := fun_mk (st := s_ending) l15 c15 k15
  have b15 := F15.binds (ps := ["work"]) fun _ _ _ _ _ _ us hl => match us, hl with | [_], _ => rfl
  have F16 := fun_mk (st := s_longest) l16 c16 k16
  have b16 := F16.binds (ps := ["work"]) fun _ _ _ _ _ _ us hl => match us, hl with | [_], _ => rfl
  have F17 := fun_mk (st := s__law_length) l17 c17 k17
  have b17 := F17.binds (ps := ["work", "way"]) fun _ _ _ _ _ _ us hl => match us, hl with | [_, _], _ => rfl
  have F18 := fun_mk (st := s__law_ways) l18 c18 k18
  have b18 := F18.binds (ps := ["work"]) fun _ _ _ _ _ _ us hl => match us, hl with | [_], _ => rfl
  have F19 := fun_mk (st := s_plain) l19 c19 k19
  have b19 := F19.binds (ps := ["value"]) fun _ _ _ _ _ _ us hl => match us, hl with | [_], _ => rfl
  have F20 := fun_mk (st := s_is_ascending) l20 c20 k20
  have b20 := F20.binds (ps := ["members"]) fun _ _ _ _ _ _ us hl => match us, hl with | [_], _ => rfl
  have F21 := fun_mk (st := s_is_pair) l21 c21 k21
  have b21 := F21.binds (ps := ["value"]) fun _ _ _ _ _ _ us hl => match us, hl with | [_], _ => rfl
  have F22 := fun_mk (st := s_is_upward_pair) l22 c22 k22
  have b22 := F22.binds (ps := ["many", "value"]) fun _ _ _ _ _ _ us hl => match us, hl with | [_, _], _ => rfl
  have F23 := fun_mk (st := s_are_upward_pairs) l23 c23 k23
  have b23 := F23.binds (ps := ["many", "value"]) fun _ _ _ _ _ _ us hl => match us, hl with | [_, _], _ => rfl
  have F24 := fun_mk (st := s__are_lengths) l24 c24 k24
  have b24 := F24.binds (ps := ["value"]) fun _ _ _ _ _ _ us hl => match us, hl with | [_], _ => rfl
  have F25 := fun_mk (st := s_m_Workdd_initdd) l25 c25 k25
  have b25 := F25.binds (ps := ["self", "lengths", "waits"]) fun _ _ _ _ _ _ us hl => match us, hl with | [_, _, _], _ => rfl
  have F26 := fun_mk (st := s__law_box) l26 c26 k26
  have b26 := F26.binds (ps := ["script", "k"]) fun _ _ _ _ _ _ us hl => match us, hl with | [_, _], _ => rfl
  have F27 := fun_mk (st := s__law_all_edges) l27 c27 k27
  have b27 := F27.binds (ps := ["n"]) fun _ _ _ _ _ _ us hl => match us, hl with | [_], _ => rfl
  have F28 := fun_mk (st := s__law_work) l28 c28 k28
  have b28 := F28.binds (ps := ["script"]) fun _ _ _ _ _ _ us hl => match us, hl with | [_], _ => rfl
  have F29 := fun_mk (st := s_law) l29 c29 k29
  refine ⟨PySem.W.fnOf "law" "law" (defArgs s_law) (defBody s_law) (defScope s_law) .none kV29 dc29 pm29 an29 cd29 ct29, fun s v => .of_eq rfl, fun base _ _ => ?_⟩
  have D0 := d__law_is_due (w := w) (base := base) T ⟨⟨_, _, PySem.W.mg_of X G a0, F0, b0⟩⟩
  have D1 := d__law_whole (w := w) (base := base) T ⟨⟨_, _, PySem.W.mg_of X G a1, F1, b1⟩⟩
  have D2 := d__law_is_numbers (w := w) (base := base) T ⟨⟨_, _, PySem.W.mg_of X G a2, F2, b2⟩⟩ D1
  have D3 := d__law_are_heights (w := w) (base := base) T ⟨⟨_, _, PySem.W.mg_of X G a3, F3, b3⟩⟩ D2 D1
  have D4 := d_is_integer (w := w) (base := base) T ⟨⟨_, _, PySem.W.mg_of X G a4, F4, b4⟩⟩
  have D5 := d_is_integer_in (w := w) (base := base) T ⟨⟨_, _, PySem.W.mg_of X G a5, F5, b5⟩⟩ D4
  have D6 := d_is_number (w := w) (base := base) T ⟨⟨_, _, PySem.W.mg_of X G a6, F6, b6⟩⟩ D4
  have D7 := d_heights_hold (w := w) (base := base) T ⟨⟨_, _, PySem.W.mg_of X G a7, F7, b7⟩⟩ D5 D6
  have D8 := d__law_take (w := w) (base := base) T ⟨⟨_, _, PySem.W.mg_of X G a8, F8, b8⟩⟩
  have D9 := d__law_pick (w := w) (base := base) T ⟨⟨_, _, PySem.W.mg_of X G a9, F9, b9⟩⟩ D8
  have D10 := d__law_spoilt (w := w) (base := base) T ⟨⟨_, _, PySem.W.mg_of X G a10, F10, b10⟩⟩ D9 D1 D8 20
  have D11 := d_heights (w := w) (base := base) T ⟨⟨_, _, PySem.W.mg_of X G a11, F11, b11⟩⟩
  have D12 := d__law_heights (w := w) (base := base) T ⟨⟨_, _, PySem.W.mg_of X G a12, F12, b12⟩⟩
  have D13 := d__length (w := w) (base := base) T ⟨⟨_, _, PySem.W.mg_of X G a13, F13, b13⟩⟩
  have D14 := d__all_ways (w := w) (base := base) T ⟨⟨_, _, PySem.W.mg_of X G a14, F14, b14⟩⟩
  have D15 := d_ending (w := w) (base := base) T ⟨⟨_, _, PySem.W.mg_of X G a15, F15, b15⟩⟩ D14 D13
  have D16 := d_longest (w := w) (base := base) T ⟨⟨_, _, PySem.W.mg_of X G a16, F16, b16⟩⟩ D13 D14 D15
  have D17 := d__law_length (w := w) (base := base) T ⟨⟨_, _, PySem.W.mg_of X G a17, F17, b17⟩⟩
  have D18 := d__law_ways (w := w) (base := base) T ⟨⟨_, _, PySem.W.mg_of X G a18, F18, b18⟩⟩
  have D19 := d_plain (w := w) (base := base) T ⟨⟨_, _, PySem.W.mg_of X G a19, F19, b19⟩⟩ 20
  have D20 := d_is_ascending (w := w) (base := base) T ⟨⟨_, _, PySem.W.mg_of X G a20, F20, b20⟩⟩
  have D21 := d_is_pair (w := w) (base := base) T ⟨⟨_, _, PySem.W.mg_of X G a21, F21, b21⟩⟩
  have D22 := d_is_upward_pair (w := w) (base := base) T ⟨⟨_, _, PySem.W.mg_of X G a22, F22, b22⟩⟩ D5 D21
  have D23 := d_are_upward_pairs (w := w) (base := base) T ⟨⟨_, _, PySem.W.mg_of X G a23, F23, b23⟩⟩ D20 D22
  have D24 := d__are_lengths (w := w) (base := base) T ⟨⟨_, _, PySem.W.mg_of X G a24, F24, b24⟩⟩ D5
  have D25 := d_m_Workdd_initdd (w := w) (base := base) T ⟨⟨_, _, a25, i25, F25, b25⟩⟩ D19 D23 D24
  have D26 := d__law_box (w := w) (base := base) T ⟨⟨_, _, PySem.W.mg_of X G a26, F26, b26⟩⟩
  have D27 := d__law_all_edges (w := w) (base := base) T ⟨⟨_, _, PySem.W.mg_of X G a27, F27, b27⟩⟩
  have D28 := d__law_work (w := w) (base := base) T ⟨⟨_, _, PySem.W.mg_of X G a28, F28, b28⟩⟩ D8 D27 D9 D26
  exact fn_law T F29 D0 D3 D7 D10 D8 D11 D12 D16 D17 D1 D15 D18 D25 D26 D28
theorem only_rep {mg : Str → Option Value} {K : PySem.W.Frag} {H : Hp} : Rep ⟨mg, K⟩ ⟨K, fun _ => none, H, []⟩ H [] :=
  ⟨rfl, fun _ _ e => (by cases e), Same.refl _, fun _ _ e => (by cases e), rfl, List.nodup_nil, fun _ _ _ e => (by simp at e)⟩
/-- a law over a script: how it is asked -/
def spS (K : PySem.W.Frag) : Sp := fun vs H Q E => ∃ (a : Addr) (ns : List Int), vs = [.ref a] ∧ SqL K H a (ns.map V.int) ∧ ns.length ≤ 63 ∧ (∀ z ∈ ns, Builtin.Int.intBits z ≤ 1048576) ∧ ∀ H', Q (.bl true) H'
theorem spS_imp {mg : Str → Option Value} {K : PySem.W.Frag} {F : List D → M D} (hF : ∀ ns : List Int, ns.length ≤ 63 → (∀ z ∈ ns, Builtin.Int.intBits z ≤ 1048576) → ∃ S, F [.s ns] [] = .ok (.p (.bool true)) S) (vs : List V) (H : Hp) (Q : VK) (E : XK) (h : spS K vs H Q E) : spD ⟨mg, K⟩ F vs H Q E := by
  obtain ⟨a, ns, rfl, hs, hl, hb, q⟩ := h
  obtain ⟨S, e⟩ := hF ns hl hb
  refine ⟨_, [.s ns], [], only_rep, .cons ⟨a, rfl, hs⟩ .nil, ?_⟩
  rw [e]
  intro w' H' g R v hv
  cases hv
  exact q H'
theorem walk {l : PySem.W.OpenLaw} {q : Program} {loose : List Str} {XP : (Str → Option Value) → Heap → Prop} {YP : World → Heap → Prop} {d : DefRec} {K : Params → PySem.W.Frag} (hn : l.most = some 63) (hdf : d.params.defaults = [])
    (hY : ∀ (w : World) (h : Heap), YP w h → (K w.params).In h)
    (F : ∀ (w : World) (mg : Str → Option Value) (fa : Addr) (h : Heap), (K w.params).In h → h.Ns mainGlobals mg → mg d.name = some (.ref fa) →
      ∃ fd : FuncData, (∀ (s : Shared) (u : Value), BindsTo s fd ⟨[u], []⟩ [("script", u)]) ∧ ∀ base : Heap, (K w.params).In base → base.Ns mainGlobals mg → FnOk l.prog w (K w.params) mg base (L2.CX l.prog w) 24 fa fd ["script"] (spD ⟨mg, K w.params⟩ F_law)) :
    PySem.W.WalkO q loose XP YP l.row.toRowW d [] (fun f vs => PySem.call f vs) :=
  L2.walk_ofB (n := 63) (k := 24) (x := "script") (CX := fun w => L2.CX l.prog w) (sp := fun w => spS (K w.params)) hn (by decide) hdf ⟨by decide, by decide, by decide⟩ hY (fun w mg fa h KX G hm => let ⟨fd, b, f⟩ := F w mg fa h KX G hm; ⟨fd, b, fun base X Y => (f base X Y).imp (spS_imp law_trueB)⟩)
    (fun w H a ns hl hb _ hS => ⟨a, ns, rfl, hS, hl, hb, fun _ => rfl⟩) fun _ _ _ _ _ ⟨_, _, _, _, _, _, _, _, _, _, _, _, z⟩ => z

end LK
open PySem PySem.W PyProof.Rows in
set_option maxRecDepth 100000 in
set_option maxHeartbeats 0 in
theorem PySem.Challenge.cw_sureticks_k35_whole_longest_ways_holds : PySem.Challenge.rw_sureticks_k35_whole_longest_ways.Holds := by
  w_on; o_law; k_head; (case hw => w_witness2)
  k_fill
  refine LK.walk (l := PySem.Challenge.rw_sureticks_k35_whole_longest_ways) rfl rfl (fun w h Y => PySem.W.kIn_of Y) ?F
  case F =>
    intro w mg fa h KX G hmg
    refine' LK.all_mk (l := PySem.Challenge.rw_sureticks_k35_whole_longest_ways) KX G hmg ?a0 ?l0 ?c0 ?k0 ?a1 ?l1 ?c1 ?k1 ?a2 ?l2 ?c2 ?k2 ?a3 ?l3 ?c3 ?k3 ?a4 ?l4 ?c4 ?k4 ?a5 ?l5 ?c5 ?k5 ?a6 ?l6 ?c6 ?k6 ?a7 ?l7 ?c7 ?k7 ?a8 ?l8 ?c8 ?k8 ?a9 ?l9 ?c9 ?k9 ?a10 ?l10 ?c10 ?k10 ?a11 ?l11 ?c11 ?k11 ?a12 ?l12 ?c12 ?k12 ?a13 ?l13 ?c13 ?k13 ?a14 ?l14 ?c14 ?k14 ?a15 ?l15 ?c15 ?k15 ?a16 ?l16 ?c16 ?k16 ?a17 ?l17 ?c17 ?k17 ?a18 ?l18 ?c18 ?k18 ?a19 ?l19 ?c19 ?k19 ?a20 ?l20 ?c20 ?k20 ?a21 ?l21 ?c21 ?k21 ?a22 ?l22 ?c22 ?k22 ?a23 ?l23 ?c23 ?k23 ?a24 ?l24 ?c24 ?k24 ?a25 ?i25 ?l25 ?c25 ?k25 ?a26 ?l26 ?c26 ?k26 ?a27 ?l27 ?c27 ?k27 ?a28 ?l28 ?c28 ?k28 ?a29 ?l29 ?c29 ?k29 ?b_abs ?b_all ?b_bool ?b_int ?b_isinstance ?b_len ?b_list ?b_max ?b_min ?b_range ?b_str ?b_sum ?b_tuple ?b_zip ?g_MOST_LENGTH ?g_MOST_PIECES ?a_Work ?pg_Work ?hd_Work ?po_Work ?sa_Work ?mk_Work ?kp_Work ?ca_Work ?hn_Work ?tk_Work ?mr_Work ?ic_Work ?tc_Work ?kit_non_Work ?kit_bl_Work ?kit_int_Work ?kit_str_Work ?kit_lst_Work ?kit_tup_Work ?nt_Work ?n_Work_lengths ?n_Work_waits ?a_InvalidLengths ?a_InvalidWaits ?nsup ?x_InvalidLengths ?rv_InvalidLengths ?esa_InvalidLengths ?ega_InvalidLengths ?egg_InvalidLengths ?eno_InvalidLengths ?ei_InvalidLengths ?et_InvalidLengths ?ekC_InvalidLengths ?ehd_InvalidLengths ?esup_InvalidLengths ?esv_InvalidLengths ?emr_InvalidLengths ?el_InvalidLengths ?eco_InvalidLengths ?ecd_InvalidLengths ?ev2_InvalidLengths ?efi_InvalidLengths ?ecc_InvalidLengths ?x_InvalidWaits ?rv_InvalidWaits ?esa_InvalidWaits ?ega_InvalidWaits ?egg_InvalidWaits ?eno_InvalidWaits ?ei_InvalidWaits ?et_InvalidWaits ?ekC_InvalidWaits ?ehd_InvalidWaits ?esup_InvalidWaits ?esv_InvalidWaits ?emr_InvalidWaits ?el_InvalidWaits ?eco_InvalidWaits ?ecd_InvalidWaits ?ev2_InvalidWaits ?efi_InvalidWaits ?ecc_InvalidWaits ?top_ ?opq ?eB_InvalidLengths ?eT_InvalidLengths ?eI_InvalidLengths ?s_InvalidLengths_InvalidLengths ?eB_InvalidWaits ?eT_InvalidWaits ?eI_InvalidWaits ?s_InvalidWaits_InvalidWaits
    (case a_Work => k_is)
    (case a_InvalidLengths => k_is)
    (case a_InvalidWaits => k_is)
    (case a0 => k_is)
    (case l0 => k_is)
    (case c0 => k_is)
    (case k0 => k_is)
    (case a1 => k_is)
    (case l1 => k_is)
    (case c1 => k_is)
    (case k1 => k_is)
    (case a2 => k_is)
    (case l2 => k_is)
    (case c2 => k_is)
    (case k2 => k_is)
    (case a3 => k_is)
    (case l3 => k_is)
    (case c3 => k_is)
    (case k3 => k_is)
    (case a4 => k_is)
    (case l4 => k_is)
    (case c4 => k_is)
    (case k4 => k_is)
    (case a5 => k_is)
    (case l5 => k_is)
    (case c5 => k_is)
    (case k5 => k_is)
    (case a6 => k_is)
    (case l6 => k_is)
    (case c6 => k_is)
    (case k6 => k_is)
    (case a7 => k_is)
    (case l7 => k_is)
    (case c7 => k_is)
    (case k7 => k_is)
    (case a8 => k_is)
    (case l8 => k_is)
    (case c8 => k_is)
    (case k8 => k_is)
    (case a9 => k_is)
    (case l9 => k_is)
    (case c9 => k_is)
    (case k9 => k_is)
    (case a10 => k_is)
    (case l10 => k_is)
    (case c10 => k_is)
    (case k10 => k_is)
    (case a11 => k_is)
    (case l11 => k_is)
    (case c11 => k_is)
    (case k11 => k_is)
    (case a12 => k_is)
    (case l12 => k_is)
    (case c12 => k_is)
    (case k12 => k_is)
    (case a13 => k_is)
    (case l13 => k_is)
    (case c13 => k_is)
    (case k13 => k_is)
    (case a14 => k_is)
    (case l14 => k_is)
    (case c14 => k_is)
    (case k14 => k_is)
    (case a15 => k_is)
    (case l15 => k_is)
    (case c15 => k_is)
    (case k15 => k_is)
    (case a16 => k_is)
    (case l16 => k_is)
    (case c16 => k_is)
    (case k16 => k_is)
    (case a17 => k_is)
    (case l17 => k_is)
    (case c17 => k_is)
    (case k17 => k_is)
    (case a18 => k_is)
    (case l18 => k_is)
    (case c18 => k_is)
    (case k18 => k_is)
    (case a19 => k_is)
    (case l19 => k_is)
    (case c19 => k_is)
    (case k19 => k_is)
    (case a20 => k_is)
    (case l20 => k_is)
    (case c20 => k_is)
    (case k20 => k_is)
    (case a21 => k_is)
    (case l21 => k_is)
    (case c21 => k_is)
    (case k21 => k_is)
    (case a22 => k_is)
    (case l22 => k_is)
    (case c22 => k_is)
    (case k22 => k_is)
    (case a23 => k_is)
    (case l23 => k_is)
    (case c23 => k_is)
    (case k23 => k_is)
    (case a24 => k_is)
    (case l24 => k_is)
    (case c24 => k_is)
    (case k24 => k_is)
    (case a25 => k_is)
    (case i25 => k_is)
    (case l25 => k_is)
    (case c25 => k_is)
    (case k25 => k_is)
    (case a26 => k_is)
    (case l26 => k_is)
    (case c26 => k_is)
    (case k26 => k_is)
    (case a27 => k_is)
    (case l27 => k_is)
    (case c27 => k_is)
    (case k27 => k_is)
    (case a28 => k_is)
    (case l28 => k_is)
    (case c28 => k_is)
    (case k28 => k_is)
    (case a29 => k_is)
    (case l29 => k_is)
    (case c29 => k_is)
    (case k29 => k_is)
    (case b_abs => k_is)
    (case b_all => k_is)
    (case b_bool => k_is)
    (case b_int => k_is)
    (case b_isinstance => k_is)
    (case b_len => k_is)
    (case b_list => k_is)
    (case b_max => k_is)
    (case b_min => k_is)
    (case b_range => k_is)
    (case b_str => k_is)
    (case b_sum => k_is)
    (case b_tuple => k_is)
    (case b_zip => k_is)
    (case g_MOST_LENGTH => k_is)
    (case g_MOST_PIECES => k_is)
    (case pg_Work => k_is)
    (case hd_Work => k_is)
    (case po_Work => k_is)
    (case sa_Work => k_is)
    (case mk_Work => k_is)
    (case kp_Work => k_is)
    (case ca_Work => k_is)
    (case hn_Work => k_is)
    (case tk_Work => k_is)
    (case mr_Work => k_is)
    (case ic_Work => k_is)
    (case tc_Work => k_is)
    (case kit_non_Work => first | k_is | rfl | kernel_rfl | decide +kernel)
    (case kit_bl_Work => first | k_is | rfl | kernel_rfl | decide +kernel)
    (case kit_int_Work => first | k_is | rfl | kernel_rfl | decide +kernel)
    (case kit_str_Work => first | k_is | rfl | kernel_rfl | decide +kernel)
    (case kit_lst_Work => first | k_is | rfl | kernel_rfl | decide +kernel)
    (case kit_tup_Work => first | k_is | rfl | kernel_rfl | decide +kernel)
    (case nt_Work => k_is)
    (case n_Work_lengths => k_is)
    (case n_Work_waits => k_is)
    (case nsup => k_is)
    (case x_InvalidLengths => k_is)
    (case rv_InvalidLengths => decide +kernel)
    (case esa_InvalidLengths => k_is)
    (case ega_InvalidLengths => k_is)
    (case egg_InvalidLengths => k_is)
    (case eno_InvalidLengths => k_is)
    (case ei_InvalidLengths => k_is)
    (case et_InvalidLengths => k_is)
    (case ekC_InvalidLengths => k_is)
    (case ehd_InvalidLengths => k_is)
    (case esup_InvalidLengths => ks_is)
    (case esv_InvalidLengths => k_is)
    (case emr_InvalidLengths => first | k_is | rfl)
    (case el_InvalidLengths => k_is)
    (case eco_InvalidLengths => k_is)
    (case ecd_InvalidLengths => k_is)
    (case ev2_InvalidLengths => rfl)
    (case efi_InvalidLengths => first | rfl | decide +kernel)
    (case ecc_InvalidLengths => k_is)
    (case x_InvalidWaits => k_is)
    (case rv_InvalidWaits => decide +kernel)
    (case esa_InvalidWaits => k_is)
    (case ega_InvalidWaits => k_is)
    (case egg_InvalidWaits => k_is)
    (case eno_InvalidWaits => k_is)
    (case ei_InvalidWaits => k_is)
    (case et_InvalidWaits => k_is)
    (case ekC_InvalidWaits => k_is)
    (case ehd_InvalidWaits => k_is)
    (case esup_InvalidWaits => ks_is)
    (case esv_InvalidWaits => k_is)
    (case emr_InvalidWaits => first | k_is | rfl)
    (case el_InvalidWaits => k_is)
    (case eco_InvalidWaits => k_is)
    (case ecd_InvalidWaits => k_is)
    (case ev2_InvalidWaits => rfl)
    (case efi_InvalidWaits => first | rfl | decide +kernel)
    (case ecc_InvalidWaits => k_is)
    (case top_ => decide +kernel)
    (case opq => k_is)
    (case eB_InvalidLengths => k_is)
    (case eT_InvalidLengths => k_is)
    (case eI_InvalidLengths => k_is)
    (case s_InvalidLengths_InvalidLengths => first | rfl | k_is)
    (case eB_InvalidWaits => k_is)
    (case eT_InvalidWaits => k_is)
    (case eI_InvalidWaits => k_is)
    (case s_InvalidWaits_InvalidWaits => first | rfl | k_is)
