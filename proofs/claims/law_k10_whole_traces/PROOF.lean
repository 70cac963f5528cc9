import PyProof.Rows.All
import Wide.All
import OpenK.AllK
import Wide.FinOn
import PyProof.EqAt
import PyProof.EqKinds
import PyProof.TupleCall
import HandS.ForMost
import HandS.ForExc
import HandS.IsInst
import HandS.Deep
import HandS.TupAny
import HandS.TupLe
import HandS.Wide
import HandS.TryMany
import HandS.Zip
import PyProof.P3In
import KE.KExcSuper
import HandS.ExcField
import HandS.TupMul
import HandS.Style
import HandS.ExcValue
import KE.KExcIs
import PyProof.EqLayable
import HandS.EndBits
import PySem.Challenge.RW_sureticks_k10_whole_traces
set_option Elab.async false
set_option linter.all false
set_option maxRecDepth 100000
set_option maxHeartbeats 4000000
/-! The data layer: values as trees, mutable things as numbered cells; readings by plain functions of slots and cells. -/
namespace DL
open PySem PySem.Spec L2

/-- a value: data that never changes, or the cell of a number -/
inductive D where
  | p (d : PyData)
  | o (i : Nat)
  | s (ns : List Int)
/-- what a cell holds -/
inductive Cell where
  | lst (l : List D)
  | scr (l : List D)
  | dK (kvs : List (Key × D))
  | dT (kvs : List (List Key × D))
  | ins (c : Str) (fs : List (Str × D))
  | exn (c a : Str) (d : PyData)
abbrev Store := List Cell
/-- an exception: the name of its class, its attributes -/
structure Exn where
  cls : Str
  fs : List (Str × D)
inductive R (α : Type) where
  | ok (a : α) (S : Store)
  | exc (x : Exn) (S : Store)
  | bad
abbrev M (α : Type) := Store → R α
def M.pure {α : Type} (a : α) : M α := fun S => .ok a S
def M.bad {α : Type} : M α := fun _ => .bad
def M.bind {α β : Type} (m : M α) (k : α → M β) : M β := fun S => match m S with
  | .ok a S' => k a S'
  | .exc x S' => .exc x S'
  | .bad => .bad
def R.map {α β : Type} (f : α → β) : R α → R β
  | .ok a S => .ok (f a) S
  | .exc x S => .exc x S
  | .bad => .bad

/-- the module's names and the written part -/
structure Gm where
  mg : Str → Option Value
  K : PySem.W.Frag
abbrev _root_.L2.Cx.gm (X : Cx) : Gm := ⟨X.mg, X.K⟩
/-! ### data in a heap -/
mutual
inductive RepP (Z : Hp) : V → PyData → Prop
  | non : RepP Z .non .none
  | bl (b : Bool) : RepP Z (.bl b) (.bool b)
  | int (i : Int) : RepP Z (.int i) (.int i)
  | str (x : Str) : RepP Z (.str x) (.str x)
  | lst {a : Addr} {xs : List V} {ds : List PyData} : Z a = some (.lst xs) → RepPs Z xs ds → RepP Z (.ref a) (.list ds)
  | tup {a : Addr} {xs : List V} {ds : List PyData} : Z a = some (.tup xs) → RepPs Z xs ds → RepP Z (.ref a) (.tuple ds)
inductive RepPs (Z : Hp) : List V → List PyData → Prop
  | nil : RepPs Z [] []
  | cons {v : V} {vs : List V} {d : PyData} {ds : List PyData} : RepP Z v d → RepPs Z vs ds → RepPs Z (v :: vs) (d :: ds)
end
mutual
theorem RepP.mono {Z Z' : Hp} (s : Same Z Z') : ∀ (d : PyData) (v : V), RepP Z v d → RepP Z' v d
  | .none, _, h => by cases h; exact .non
  | .bool b, _, h => by cases h; exact .bl b
  | .int i, _, h => by cases h; exact .int i
  | .str x, _, h => by cases h; exact .str x
  | .list ds, _, h => by
    cases h with
    | lst h1 h2 => exact .lst (s _ _ h1) (RepPs.mono s ds _ h2)
  | .tuple ds, _, h => by
    cases h with
    | tup h1 h2 => exact .tup (s _ _ h1) (RepPs.mono s ds _ h2)
  | .dict _, _, h => by cases h
theorem RepPs.mono {Z Z' : Hp} (s : Same Z Z') : ∀ (ds : List PyData) (vs : List V), RepPs Z vs ds → RepPs Z' vs ds
  | [], _, h => by cases h; exact .nil
  | d :: ds, _, h => by
    cases h with
    | cons h1 h2 => exact .cons (RepP.mono s d _ h1) (RepPs.mono s ds _ h2)
end
mutual
theorem RepP.dp {K : PySem.W.Frag} {Z : Hp} : ∀ (d : PyData) (v : V), RepP Z v d → Dp K Z v d
  | .none, _, h => by cases h; exact .non
  | .bool b, _, h => by cases h; exact .bl b
  | .int i, _, h => by cases h; exact .int i
  | .str x, _, h => by cases h; exact .str x
  | .list ds, _, h => by
    cases h with
    | lst h1 h2 => exact .lst (SqL.of h1) (RepPs.dp ds _ h2)
  | .tuple ds, _, h => by
    cases h with
    | tup h1 h2 => exact .tup (SqT.of h1) (RepPs.dp ds _ h2)
  | .dict _, _, h => by cases h
theorem RepPs.dp {K : PySem.W.Frag} {Z : Hp} : ∀ (ds : List PyData) (vs : List V), RepPs Z vs ds → DpAll K Z vs ds
  | [], _, h => by cases h; exact .nil
  | d :: ds, _, h => by
    cases h with
    | cons h1 h2 => exact .cons (RepP.dp d _ h1) (RepPs.dp ds _ h2)
end
section
variable {Z Z' : Hp} {vs ws : List V} {ds es : List PyData} {v : V} {d : PyData}
theorem RepPs.length (h : RepPs Z vs ds) : vs.length = ds.length := by
  induction ds generalizing vs with
  | nil => cases h; rfl
  | cons d ds ih => cases h with | cons h1 h2 => simp [ih h2]
theorem RepPs.append (h : RepPs Z vs ds) (g : RepPs Z ws es) : RepPs Z (vs ++ ws) (ds ++ es) := by
  induction ds generalizing vs with
  | nil => cases h; exact g
  | cons d ds ih => cases h with | cons h1 h2 => exact .cons h1 (ih h2)
theorem RepPs.get (h : RepPs Z vs ds) : ∀ {i : Nat} {d : PyData}, ds[i]? = some d → ∃ v, vs[i]? = some v ∧ RepP Z v d := by
  induction ds generalizing vs with
  | nil => intro i d e; simp at e
  | cons d ds ih =>
    intro i e he
    cases h with
    | cons h1 h2 =>
      cases i with
      | zero => simp at he; subst he; exact ⟨_, rfl, h1⟩
      | succ i => simpa using ih h2 (by simpa using he)
theorem RepPs.get' (h : RepPs Z vs ds) : ∀ {i : Nat} {v : V}, vs[i]? = some v → ∃ d, ds[i]? = some d ∧ RepP Z v d := by
  induction ds generalizing vs with
  | nil => cases h; intro i d e; simp at e
  | cons d ds ih =>
    cases h with
    | cons h1 h2 =>
      intro i v he
      cases i with
      | zero => simp at he; subst he; exact ⟨_, rfl, h1⟩
      | succ i => simpa using ih h2 (by simpa using he)
theorem RepPs.take (h : RepPs Z vs ds) (n : Nat) : RepPs Z (vs.take n) (ds.take n) := by
  induction ds generalizing vs n with
  | nil => cases h; cases n <;> exact .nil
  | cons d ds ih =>
    cases h with
    | cons h1 h2 =>
      cases n with
      | zero => exact .nil
      | succ n => exact .cons h1 (ih h2 n)
theorem RepPs.drop (h : RepPs Z vs ds) (n : Nat) : RepPs Z (vs.drop n) (ds.drop n) := by
  induction ds generalizing vs n with
  | nil => cases h; cases n <;> exact .nil
  | cons d ds ih =>
    cases h with
    | cons h1 h2 =>
      cases n with
      | zero => exact .cons h1 h2
      | succ n => exact ih h2 n
theorem RepPs.of (n : vs.length = ds.length) (h : ∀ (i : Nat) (v : V) (d : PyData), vs[i]? = some v → ds[i]? = some d → RepP Z v d) : RepPs Z vs ds := by
  induction ds generalizing vs with
  | nil => cases vs with | nil => exact .nil | cons _ _ => simp at n
  | cons d ds ih =>
    cases vs with
    | nil => simp at n
    | cons v vs => exact .cons (h 0 v d rfl rfl) (ih (by simpa using n) fun i v' d' a b => h (i + 1) v' d' (by simpa using a) (by simpa using b))
theorem RepPs.reverse (h : RepPs Z vs ds) : RepPs Z vs.reverse ds.reverse := by
  have e := h.length
  refine .of (by simp [e]) fun i v d a b => ?_
  have hi : i < ds.length := by
    have := (List.getElem?_eq_some_iff.mp b).1
    simpa using this
  rw [List.getElem?_reverse (by omega)] at a
  rw [List.getElem?_reverse (by omega)] at b
  rw [e] at a
  obtain ⟨v', hv, r⟩ := h.get b
  rw [a] at hv
  cases hv
  exact r
theorem RepPs.ints : ∀ {ns : List Int} {vs : List V}, RepPs Z vs (ns.map PyData.int) → vs = ns.map V.int
  | [], _, h => by cases h; rfl
  | n :: ns, _, h => by
    cases h with
    | cons h1 h2 =>
      cases h1
      rw [RepPs.ints h2]
      rfl
theorem RepPs.of_ints : ∀ {ns : List Int}, RepPs Z (ns.map V.int) (ns.map PyData.int)
  | [] => .nil
  | _ :: _ => .cons (.int _) RepPs.of_ints
theorem RepPs.bls : ∀ {ns : List Bool} {vs : List V}, RepPs Z vs (ns.map PyData.bool) → vs = ns.map V.bl
  | [], _, h => by cases h; rfl
  | n :: ns, _, h => by
    cases h with
    | cons h1 h2 =>
      cases h1
      rw [RepPs.bls h2]
      rfl
end

/-! ### cells in a heap -/
/-- the heap in parts: B what others keep, Z the data, m where the cells stand -/
structure Wd where
  K : PySem.W.Frag
  B : Hp
  Z : Hp
  m : List Addr
def RepV (w : Wd) (v : V) : D → Prop
  | .p d => RepP w.Z v d
  | .o i => ∃ a, w.m[i]? = some a ∧ v = .ref a
  | .s ns => ∃ a, v = .ref a ∧ SqL w.K w.Z a (ns.map V.int)
abbrev RepVs (w : Wd) : List V → List D → Prop := Paired (RepV w)
def RepF {κ : Type} (w : Wd) : List (κ × V) → List (κ × D) → Prop := Paired fun p q => p.1 = q.1 ∧ RepV w p.2 q.2
def RepC (mg : Gm) (w : Wd) : HO → Cell → Prop
  | .lst xs, .lst ds => RepVs w xs ds
  | .frz _ (.lst xs), .scr ds => RepVs w xs ds
  | .dK kvs, .dK es => RepF w kvs es
  | .dT kvs, .dT es => RepF w kvs es
  | .ins C _ fs, .ins c gs => mg.mg c = some (.ref C) ∧ RepF w fs gs
  | .frz oe (.ext _), .exn c a d => ∃ C dx v vs, mg.mg c = some (.ref C) ∧ oe.cls = .ref C ∧ oe.dict = some dx ∧ oe.data = .fields vs ∧ w.Z dx = some (.xd [(a, v)]) ∧ RepP w.Z v d
  | _, _ => False
structure Grow (w w' : Wd) : Prop where
  k : w'.K = w.K
  b : w'.B = w.B
  z : Same w.Z w'.Z
  m : ∃ t, w'.m = w.m ++ t
theorem Grow.refl (w : Wd) : Grow w w := ⟨rfl, rfl, Same.refl _, [], by simp⟩
theorem Grow.trans {w w1 w2 : Wd} (a : Grow w w1) (b : Grow w1 w2) : Grow w w2 := by
  obtain ⟨t, e⟩ := a.m
  obtain ⟨u, f⟩ := b.m
  exact ⟨b.k.trans a.k, b.b.trans a.b, a.z.trans b.z, t ++ u, by rw [f, e]; simp⟩
theorem Grow.at {w w' : Wd} (g : Grow w w') {i : Nat} {a : Addr} (h : w.m[i]? = some a) : w'.m[i]? = some a := by
  obtain ⟨t, e⟩ := g.m
  rw [e, List.getElem?_append_left (List.getElem?_eq_some_iff.mp h).1]
  exact h
theorem RepV.grow {w w' : Wd} (g : Grow w w') {v : V} : ∀ {d : D}, RepV w v d → RepV w' v d
  | .p d, h => RepP.mono g.z d v h
  | .o i, ⟨a, h1, h2⟩ => ⟨a, g.at h1, h2⟩
  | .s ns, ⟨a, h1, h2⟩ => ⟨a, h1, by rw [g.k]; exact g.z.seq h2⟩
theorem RepVs.grow {w w' : Wd} (g : Grow w w') {vs : List V} {ds : List D} (h : RepVs w vs ds) : RepVs w' vs ds := Paired.mapP h fun _ _ r => r.grow g
theorem RepF.grow {κ : Type} {w w' : Wd} (g : Grow w w') {vs : List (κ × V)} {ds : List (κ × D)} (h : RepF w vs ds) : RepF w' vs ds := Paired.mapP h fun _ _ r => ⟨r.1, r.2.grow g⟩
theorem RepC.grow {mg : Gm} {w w' : Wd} (g : Grow w w') {o : HO} {c : Cell} (h : RepC mg w o c) : RepC mg w' o c := by
  unfold RepC at h ⊢
  split <;> simp_all
  · exact RepVs.grow g h
  · exact RepVs.grow g h
  · exact RepF.grow g h
  · exact RepF.grow g h
  · exact RepF.grow g h.2
  · obtain ⟨C, h1, h2, dx, h3, h4, v, h5, h6⟩ := h
    exact ⟨C, h1, h2, dx, h3, h4, v, g.z _ _ h5, RepP.mono g.z _ _ h6⟩
structure Rep (mg : Gm) (w : Wd) (H : Hp) (S : Store) : Prop where
  kk : w.K = mg.K
  bg : Same w.B H
  same : Same w.Z H
  bz : ∀ a o, w.B a = some o → w.Z a = none ∧ a ∉ w.m
  len : w.m.length = S.length
  nd : w.m.Nodup
  cell : ∀ (i : Nat) (a : Addr) (c : Cell), w.m[i]? = some a → S[i]? = some c → w.Z a = none ∧ ∃ o, H a = some o ∧ RepC mg w o c
/-- what slots hold -/
abbrev Sl := List (Option D)
structure RepE (w : Wd) (σ : L2.St) (ρ : Sl) : Prop where
  len : σ.length = ρ.length
  at_ : ∀ (i : Nat) (d : D), ρ[i]? = some (some d) → ∃ v, σ[i]? = some (some v) ∧ RepV w v d
theorem RepE.grow {w w' : Wd} {σ : L2.St} {ρ : Sl} (g : Grow w w') (h : RepE w σ ρ) : RepE w' σ ρ :=
  ⟨h.len, fun i d e => let ⟨v, h1, h2⟩ := h.at_ i d e; ⟨v, h1, h2.grow g⟩⟩
theorem RepE.set {w : Wd} {σ : L2.St} {ρ : Sl} (h : RepE w σ ρ) (i : Nat) {v : V} {d : D} (r : RepV w v d) : RepE w (σ.set i (some v)) (ρ.set i (some d)) := by
  refine ⟨by simp [h.len], fun j e he => ?_⟩
  by_cases hj : i = j
  · subst hj
    by_cases hl : i < ρ.length
    · rw [List.getElem?_set_self hl] at he
      cases he
      exact ⟨v, by rw [List.getElem?_set_self (by rw [h.len]; exact hl)], r⟩
    · rw [List.getElem?_eq_none (by simpa using hl)] at he
      cases he
  · rw [List.getElem?_set_ne hj] at he
    rw [List.getElem?_set_ne hj]
    exact h.at_ j e he
theorem RepE.drop {w : Wd} {σ : L2.St} {ρ : Sl} (h : RepE w σ ρ) (i : Nat) (v : Option V) : RepE w (σ.set i v) (ρ.set i none) := by
  refine ⟨by simp [h.len], fun j e he => ?_⟩
  by_cases hj : i = j
  · subst hj
    by_cases hl : i < ρ.length
    · rw [List.getElem?_set_self hl] at he
      cases he
    · rw [List.getElem?_eq_none (by simpa using hl)] at he
      cases he
  · rw [List.getElem?_set_ne hj] at he
    rw [List.getElem?_set_ne hj]
    exact h.at_ j e he
/-- an exception's class and own dict -/
def RepX (mg : Gm) (w : Wd) (cls : Value) (dx : Addr) (x : Exn) : Prop :=
  ∃ C fs, mg.mg x.cls = some (.ref C) ∧ cls = .ref C ∧ w.Z dx = some (.xd fs) ∧ RepF w fs x.fs
theorem RepX.grow {mg : Gm} {w w' : Wd} (g : Grow w w') {cls : Value} {dx : Addr} {x : Exn} (h : RepX mg w cls dx x) : RepX mg w' cls dx x :=
  let ⟨C, fs, h1, h2, h3, h4⟩ := h
  ⟨C, fs, h1, h2, g.z _ _ h3, h4.grow g⟩

/-! ### changing the heap -/
abbrev Wd.addZ (w : Wd) (p : Addr) (o : HO) : Wd := { w with Z := upd w.Z p o }
abbrev Wd.addM (w : Wd) (p : Addr) : Wd := { w with m := w.m ++ [p] }
section
variable {mg : Gm} {w : Wd} {H : Hp} {S : Store}
theorem Rep.notIn (h : Rep mg w H S) {p : Addr} (hp : H p = none) : p ∉ w.m := fun hm => by
  obtain ⟨i, hi⟩ := List.getElem?_of_mem hm
  have hl : i < S.length := by rw [← h.len]; exact (List.getElem?_eq_some_iff.mp hi).1
  obtain ⟨_, u, hu, _⟩ := h.cell i p S[i] hi (List.getElem?_eq_getElem hl)
  rw [hp] at hu; cases hu
/-- what stands at p (known to nobody) becomes data -/
theorem Rep.freeze (h : Rep mg w H S) {p : Addr} {o : HO} (hp : H p = some o) (hb : w.B p = none) (hz : w.Z p = none) (hm : p ∉ w.m) : Grow w (w.addZ p o) ∧ Rep mg (w.addZ p o) H S := by
  have g : Grow w (w.addZ p o) := ⟨rfl, rfl, fun b u e => by show upd w.Z p o b = _; rw [upd_ne (ne_of_none e hz)]; exact e, [], by simp⟩
  refine ⟨g, h.kk, h.bg, fun b u e => ?_, fun a u e => ⟨?_, (h.bz a u e).2⟩, h.len, h.nd, fun i a c h1 h2 => ?_⟩
  · have e : upd w.Z p o b = some u := e
    by_cases hb : b = p
    · subst hb; rw [upd_same] at e; cases e; exact hp
    · rw [upd_ne hb] at e; exact h.same b u e
  · show upd w.Z p o a = none
    rw [upd_ne (ne_of_none e hb)]; exact (h.bz a u e).1
  · obtain ⟨za, u, hu, r⟩ := h.cell i a c h1 h2
    have ne : a ≠ p := fun e => hm (e ▸ List.mem_of_getElem? h1)
    exact ⟨by show upd w.Z p o a = none; rw [upd_ne ne]; exact za, u, hu, r.grow g⟩
/-- .. something new at p, known to nobody yet -/
theorem Rep.lay (h : Rep mg w H S) {p : Addr} (o : HO) (hp : H p = none) : Rep mg w (upd H p o) S ∧ w.B p = none ∧ w.Z p = none ∧ p ∉ w.m := by
  refine ⟨⟨h.kk, fun b u e => ?_, fun b u e => ?_, h.bz, h.len, h.nd, fun i a c h1 h2 => ?_⟩, h.bg.free hp, h.same.free hp, h.notIn hp⟩
  · have e' := h.bg b u e
    rw [upd_ne (ne_of_none e' hp)]; exact e'
  · have e' := h.same b u e
    rw [upd_ne (ne_of_none e' hp)]; exact e'
  · obtain ⟨za, u, hu, r⟩ := h.cell i a c h1 h2
    exact ⟨za, u, by rw [upd_ne (ne_of_none hu hp)]; exact hu, r⟩
/-- new data at p -/
theorem Rep.newP (h : Rep mg w H S) {p : Addr} (o : HO) (hp : H p = none) : Grow w (w.addZ p o) ∧ Rep mg (w.addZ p o) (upd H p o) S := by
  obtain ⟨h', b, z, m⟩ := h.lay o hp
  exact h'.freeze upd_same b z m
/-- a new cell at p -/
theorem Rep.newC (h : Rep mg w H S) {p : Addr} {o : HO} {c : Cell} (hp : H p = none) (r : RepC mg (w.addM p) o c) : Grow w (w.addM p) ∧ Rep mg (w.addM p) (upd H p o) (S ++ [c]) := by
  have g : Grow w (w.addM p) := ⟨rfl, rfl, Same.refl _, [p], rfl⟩
  have np := h.notIn hp
  refine ⟨g, h.kk, fun b u e => ?_, fun b u e => ?_, fun a u e => ⟨(h.bz a u e).1, fun z => ?_⟩, by simp [h.len], ?_, fun i a c' h1 h2 => ?_⟩
  · have e' := h.bg b u e
    rw [upd_ne (ne_of_none e' hp)]; exact e'
  · have e' := h.same b u e
    rw [upd_ne (ne_of_none e' hp)]; exact e'
  · rcases List.mem_append.mp z with z | z
    · exact (h.bz a u e).2 z
    · have : a = p := by simpa using z
      subst this
      rw [h.bg _ _ e] at hp; cases hp
  · show (w.m ++ [p]).Nodup
    rw [List.nodup_append]
    exact ⟨h.nd, by simp, fun a ha b hb => by
      have : b = p := by simpa using hb
      subst this
      exact fun e => np (e ▸ ha)⟩
  · have h1 : (w.m ++ [p])[i]? = some a := h1
    by_cases hi : i < w.m.length
    · rw [List.getElem?_append_left hi] at h1
      rw [List.getElem?_append_left (by rw [← h.len]; exact hi)] at h2
      obtain ⟨za, u, hu, r'⟩ := h.cell i a c' h1 h2
      exact ⟨za, u, by rw [upd_ne (ne_of_none hu hp)]; exact hu, r'.grow g⟩
    · have hl : i < (w.m ++ [p]).length := (List.getElem?_eq_some_iff.mp h1).1
      have e : i = w.m.length := by simp at hl; omega
      subst e
      simp at h1
      rw [h.len] at h2
      simp at h2
      subst h1 h2
      exact ⟨h.same.free hp, o, upd_same, r⟩
/-- a cell is changed -/
theorem Rep.setC (h : Rep mg w H S) {i : Nat} {a : Addr} {o : HO} {c : Cell} (ha : w.m[i]? = some a) (r : RepC mg w o c) : Rep mg w (upd H a o) (S.set i c) := by
  have hi : i < S.length := by rw [← h.len]; exact (List.getElem?_eq_some_iff.mp ha).1
  obtain ⟨za, _⟩ := h.cell i a S[i] ha (List.getElem?_eq_getElem hi)
  refine ⟨h.kk, fun b u e => ?_, fun b u e => ?_, h.bz, by simp [h.len], h.nd, fun j b c' h1 h2 => ?_⟩
  · have : b ≠ a := fun z => (h.bz b u e).2 (z ▸ List.mem_of_getElem? ha)
    rw [upd_ne this]; exact h.bg b u e
  · rw [upd_ne (ne_of_none e za)]; exact h.same b u e
  · by_cases hj : i = j
    · subst hj
      rw [ha] at h1; cases h1
      rw [List.getElem?_set_self hi] at h2
      cases h2
      exact ⟨za, o, upd_same, r⟩
    · rw [List.getElem?_set_ne hj] at h2
      obtain ⟨zb, u, hu, r'⟩ := h.cell j b c' h1 h2
      have : b ≠ a := fun e => by
        subst e
        have h1' := List.getElem?_eq_some_iff.mp h1
        have h2' := List.getElem?_eq_some_iff.mp ha
        exact hj ((List.getElem_inj h.nd).mp (h2'.2.trans h1'.2.symm))
      exact ⟨zb, u, by rw [upd_ne this]; exact hu, r'⟩
theorem Rep.at_ (h : Rep mg w H S) {i : Nat} {a : Addr} (ha : w.m[i]? = some a) {c : Cell} (hc : S[i]? = some c) : ∃ o, H a = some o ∧ RepC mg w o c := (h.cell i a c ha hc).2
/-- another background: what is known to nobody is kept for another -/
theorem Rep.back (h : Rep mg w H S) {p : Addr} {o : HO} (hp : H p = some o) (hz : w.Z p = none) (hm : p ∉ w.m) : Rep mg { w with B := upd w.B p o } H S := by
  refine ⟨h.kk, fun b u e => ?_, h.same, fun a u e => ?_, h.len, h.nd, fun i a c h1 h2 => ?_⟩
  · have e : upd w.B p o b = some u := e
    by_cases hb : b = p
    · subst hb; rw [upd_same] at e; cases e; exact hp
    · rw [upd_ne hb] at e; exact h.bg b u e
  · have e : upd w.B p o a = some u := e
    by_cases hb : a = p
    · subst hb; exact ⟨hz, hm⟩
    · rw [upd_ne hb] at e; exact h.bz a u e
  · obtain ⟨za, u, hu, r⟩ := h.cell i a c h1 h2
    exact ⟨za, u, hu, by
      unfold RepC at r ⊢
      exact r⟩
end

/-! ### readings -/
section
variable {β : Type} (mg : Gm) (W : WX) (σ : L2.St) (w : Wd)
def PostG (ok : β → Wd → Hp → Prop) : R β → Prop
  | .ok b S' => ∀ w' H', Grow w w' → Rep mg w' H' S' → ok b w' H'
  | .exc x S' => ∀ cls dx w' H', Grow w w' → Rep mg w' H' S' → RepX mg w' cls dx x → W cls (some dx) σ H'
  | .bad => False
abbrev Post (Q : VK) : R D → Prop := PostG mg W σ w fun d w' H' => ∀ v, RepV w' v d → Q v H'
abbrev PostB (Q : Bool → Hp → Prop) : R Bool → Prop := PostG mg W σ w fun b _ H' => Q b H'
abbrev PostL (Q : List V → Hp → Prop) : R (List D) → Prop := PostG mg W σ w fun ds w' H' => ∀ vs, RepVs w' vs ds → Q vs H'
end
inductive RS where
  | nx (ρ : Sl) (S : Store)
  | rt (d : D) (S : Store)
  | bk (ρ : Sl) (S : Store)
  | ct (ρ : Sl) (S : Store)
  | exc (x : Exn) (ρ : Sl) (S : Store)
  | bad
def PostS (mg : Gm) (W : WX) (E : Ends) (w : Wd) : RS → Prop
  | .nx ρ S' => ∀ σ w' H', Grow w w' → Rep mg w' H' S' → RepE w' σ ρ → E.nx σ H'
  | .rt d S' => ∀ v w' H', Grow w w' → Rep mg w' H' S' → RepV w' v d → E.rt v H'
  | .bk ρ S' => ∀ σ w' H', Grow w w' → Rep mg w' H' S' → RepE w' σ ρ → E.bk σ H'
  | .ct ρ S' => ∀ σ w' H', Grow w w' → Rep mg w' H' S' → RepE w' σ ρ → E.ct σ H'
  | .exc x ρ S' => ∀ σ cls dx w' H', Grow w w' → Rep mg w' H' S' → RepE w' σ ρ → RepX mg w' cls dx x → W cls (some dx) σ H'
  | .bad => False
section
variable {mg : Gm} {W : WX} {σ : L2.St} {w w1 : Wd}
theorem PostG.grow {β : Type} {ok : β → Wd → Hp → Prop} (g : Grow w w1) {r : R β} (h : PostG mg W σ w ok r) : PostG mg W σ w1 ok r := by
  cases r with
  | ok d S => exact fun w' H' g' => h w' H' (g.trans g')
  | exc x S => exact fun c dx w' H' g' => h c dx w' H' (g.trans g')
  | bad => exact h
theorem PostS.grow {E : Ends} (g : Grow w w1) {r : RS} (h : PostS mg W E w r) : PostS mg W E w1 r := by
  cases r with
  | nx d S => exact fun v w' H' g' => h v w' H' (g.trans g')
  | rt d S => exact fun v w' H' g' => h v w' H' (g.trans g')
  | bk d S => exact fun v w' H' g' => h v w' H' (g.trans g')
  | ct d S => exact fun v w' H' g' => h v w' H' (g.trans g')
  | exc x ρ S => exact fun s c dx w' H' g' => h s c dx w' H' (g.trans g')
  | bad => exact h
end
abbrev Fe := Sl → M D
abbrev Fb := Sl → M Bool
abbrev Fl := Sl → M (List D)
abbrev Fs := Sl → Store → RS
def tD (mg : Gm) (W : WX) (f : Fe) : TE := fun σ H Q => ∃ w ρ S, Rep mg w H S ∧ RepE w σ ρ ∧ Post mg W σ w Q (f ρ S)
def tDT (mg : Gm) (W : WX) (f : Fb) : TT := fun σ H Q => ∃ w ρ S, Rep mg w H S ∧ RepE w σ ρ ∧ PostB mg W σ w Q (f ρ S)
def tDA (mg : Gm) (W : WX) (f : Fl) : TA := fun σ H Q => ∃ w ρ S, Rep mg w H S ∧ RepE w σ ρ ∧ PostL mg W σ w Q (f ρ S)
def tDS (mg : Gm) (W : WX) (g : Fs) : TS := fun E σ H => ∃ w ρ S, Rep mg w H S ∧ RepE w σ ρ ∧ PostS mg W E w (g ρ S)
abbrev DE (X : Cx) (W : WX) (e : Expr) (f : Fe) : Prop := PE X e (tD X.gm W f)
abbrev DT (X : Cx) (W : WX) (e : Expr) (f : Fb) : Prop := PT X e (tDT X.gm W f)
abbrev DA (X : Cx) (W : WX) (es : List Expr) (f : Fl) : Prop := PA X es (tDA X.gm W f)
abbrev DS (X : Cx) (W : WX) (s : Stmt) (f : Fs) : Prop := PS X s (tDS X.gm W f)
abbrev DSs (X : Cx) (W : WX) (s : List Stmt) (f : Fs) : Prop := PSs X s (tDS X.gm W f)
end DL
namespace L2
open PySem PySem.Spec
section
variable {X : Cx} {e : Expr}
theorem PE.imp {t t' : TE} (h : PE X e t) (q : ∀ σ H Q, t' σ H Q → t σ H Q) : PE X e t' := ⟨fun pins s σ H Q I w => h.run pins s σ H Q I (q σ H Q w)⟩
theorem PT.imp {t t' : TT} (h : PT X e t) (q : ∀ σ H Q, t' σ H Q → t σ H Q) : PT X e t' := ⟨fun pins s σ H Q I w => h.run pins s σ H Q I (q σ H Q w)⟩
theorem PW.imp {t t' : TT} (h : PW X e t) (q : ∀ σ H Q, t' σ H Q → t σ H Q) : PW X e t' := ⟨fun wh pins s σ H Q I w => h.run wh pins s σ H Q I (q σ H Q w)⟩
theorem PA.imp {es : List Expr} {t t' : TA} (h : PA X es t) (q : ∀ σ H Q, t' σ H Q → t σ H Q) : PA X es t' := ⟨fun pos pins s σ H Q I w => h.run pos pins s σ H Q I (q σ H Q w)⟩
theorem PS.imp {st : Stmt} {t t' : TS} (h : PS X st t) (q : ∀ E σ H, t' E σ H → t E σ H) : PS X st t' := ⟨fun pins s σ H E I w => h.run pins s σ H E I (q E σ H w)⟩
theorem PSs.imp {st : List Stmt} {t t' : TS} (h : PSs X st t) (q : ∀ E σ H, t' E σ H → t E σ H) : PSs X st t' := ⟨fun pins s σ H E I w => h.run pins s σ H E I (q E σ H w)⟩
end
end L2
namespace DL
open PySem PySem.Spec L2
/-! ### steps -/
section
variable {mg : Gm} {W : WX} {σ : L2.St} {w : Wd} {H : Hp} {S : Store} {ρ : Sl}
/-- what follows an expression in a statement -/
def bindS {α : Type} (ρ : Sl) (m : R α) (k : α → Store → RS) : RS := match m with
  | .ok a S => k a S
  | .exc x S => .exc x ρ S
  | .bad => .bad
theorem stepE {β : Type} {ok : β → Wd → Hp → Prop} {f : Fe} {k : D → M β} {Q : VK} (R : Rep mg w H S) (E : RepE w σ ρ) (P : PostG mg W σ w ok (M.bind (f ρ) k S))
    (q : ∀ v w1 H1 S1 d, Grow w w1 → Rep mg w1 H1 S1 → RepE w1 σ ρ → RepV w1 v d → PostG mg W σ w1 ok (k d S1) → Q v H1) : tD mg W f σ H Q := by
  refine ⟨w, ρ, S, R, E, ?_⟩
  unfold M.bind at P
  cases h : f ρ S with
  | ok d S' => rw [h] at P; exact fun w' H' g R' v V => q v w' H' S' d g R' (E.grow g) V (P.grow g)
  | exc x S' => rw [h] at P; exact P
  | bad => rw [h] at P; exact P
theorem stepT {β : Type} {ok : β → Wd → Hp → Prop} {f : Fb} {k : Bool → M β} {Q : Bool → Hp → Prop} (R : Rep mg w H S) (E : RepE w σ ρ) (P : PostG mg W σ w ok (M.bind (f ρ) k S))
    (q : ∀ b w1 H1 S1, Grow w w1 → Rep mg w1 H1 S1 → RepE w1 σ ρ → PostG mg W σ w1 ok (k b S1) → Q b H1) : tDT mg W f σ H Q := by
  refine ⟨w, ρ, S, R, E, ?_⟩
  unfold M.bind at P
  cases h : f ρ S with
  | ok d S' => rw [h] at P; exact fun w' H' g R' => q d w' H' S' g R' (E.grow g) (P.grow g)
  | exc x S' => rw [h] at P; exact P
  | bad => rw [h] at P; exact P
theorem stepA {β : Type} {ok : β → Wd → Hp → Prop} {f : Fl} {k : List D → M β} {Q : List V → Hp → Prop} (R : Rep mg w H S) (E : RepE w σ ρ) (P : PostG mg W σ w ok (M.bind (f ρ) k S))
    (q : ∀ vs w1 H1 S1 ds, Grow w w1 → Rep mg w1 H1 S1 → RepE w1 σ ρ → RepVs w1 vs ds → PostG mg W σ w1 ok (k ds S1) → Q vs H1) : tDA mg W f σ H Q := by
  refine ⟨w, ρ, S, R, E, ?_⟩
  unfold M.bind at P
  cases h : f ρ S with
  | ok d S' => rw [h] at P; exact fun w' H' g R' vs V => q vs w' H' S' d g R' (E.grow g) V (P.grow g)
  | exc x S' => rw [h] at P; exact P
  | bad => rw [h] at P; exact P
theorem stepES {En : Ends} {f : Fe} {k : D → Store → RS} {Q : VK} (R : Rep mg w H S) (E : RepE w σ ρ) (P : PostS mg W En w (bindS ρ (f ρ S) k))
    (q : ∀ v w1 H1 S1 d, Grow w w1 → Rep mg w1 H1 S1 → RepE w1 σ ρ → RepV w1 v d → PostS mg W En w1 (k d S1) → Q v H1) : tD mg W f σ H Q := by
  refine ⟨w, ρ, S, R, E, ?_⟩
  unfold bindS at P
  cases h : f ρ S with
  | ok d S' => rw [h] at P; exact fun w' H' g R' v V => q v w' H' S' d g R' (E.grow g) V (P.grow g)
  | exc x S' => rw [h] at P; exact fun c dx w' H' g R' X => P σ c dx w' H' g R' (E.grow g) X
  | bad => rw [h] at P; exact P
theorem stepTS {En : Ends} {f : Fb} {k : Bool → Store → RS} {Q : Bool → Hp → Prop} (R : Rep mg w H S) (E : RepE w σ ρ) (P : PostS mg W En w (bindS ρ (f ρ S) k))
    (q : ∀ b w1 H1 S1, Grow w w1 → Rep mg w1 H1 S1 → RepE w1 σ ρ → PostS mg W En w1 (k b S1) → Q b H1) : tDT mg W f σ H Q := by
  refine ⟨w, ρ, S, R, E, ?_⟩
  unfold bindS at P
  cases h : f ρ S with
  | ok d S' => rw [h] at P; exact fun w' H' g R' => q d w' H' S' g R' (E.grow g) (P.grow g)
  | exc x S' => rw [h] at P; exact fun c dx w' H' g R' X => P σ c dx w' H' g R' (E.grow g) X
  | bad => rw [h] at P; exact P
theorem stepAS {En : Ends} {f : Fl} {k : List D → Store → RS} {Q : List V → Hp → Prop} (R : Rep mg w H S) (E : RepE w σ ρ) (P : PostS mg W En w (bindS ρ (f ρ S) k))
    (q : ∀ vs w1 H1 S1 ds, Grow w w1 → Rep mg w1 H1 S1 → RepE w1 σ ρ → RepVs w1 vs ds → PostS mg W En w1 (k ds S1) → Q vs H1) : tDA mg W f σ H Q := by
  refine ⟨w, ρ, S, R, E, ?_⟩
  unfold bindS at P
  cases h : f ρ S with
  | ok d S' => rw [h] at P; exact fun w' H' g R' vs V => q vs w' H' S' d g R' (E.grow g) V (P.grow g)
  | exc x S' => rw [h] at P; exact fun c dx w' H' g R' X => P σ c dx w' H' g R' (E.grow g) X
  | bad => rw [h] at P; exact P
end
end DL
set_option Elab.async false
set_option linter.all false
set_option maxRecDepth 100000
set_option maxHeartbeats 4000000
namespace DL
open PySem PySem.Spec L2

/-! ### data out of cells -/
def asP : D → Option PyData
  | .p d => some d
  | _ => none
def asPs : List D → Option (List PyData)
  | [] => some []
  | .p d :: r => (asPs r).map (d :: ·)
  | .o _ :: _ => none
  | .s _ :: _ => none
def Cell.lst? : Cell → Option (List D)
  | .lst ds => some ds
  | _ => none
def Cell.seq? : Cell → Option (List D)
  | .lst ds => some ds
  | .scr ds => some ds
  | _ => none
theorem Cell.lst_eq {c : Cell} {ds : List D} (h : c.lst? = some ds) : c = .lst ds := by cases c <;> simp_all [Cell.lst?]
theorem Cell.seq_eq {c : Cell} {ds : List D} (h : c.seq? = some ds) : c = .lst ds ∨ c = .scr ds := by cases c <;> simp_all [Cell.seq?]
/-- a value as data: a list's cell by what it holds -/
def toPy (S : Store) : D → Option PyData
  | .p d => some d
  | .o i => (S[i]?.bind Cell.lst?).bind fun ds => (asPs ds).map .list
  | .s _ => none
theorem asPs_rep {w : Wd} : ∀ {ds : List D} {es : List PyData} {vs : List V}, asPs ds = some es → RepVs w vs ds → RepPs w.Z vs es
  | [], es, vs, h, r => by cases h; cases r; exact .nil
  | .p d :: ds, es, vs, h, r => by
    unfold asPs at h
    cases e : asPs ds with
    | none => rw [e] at h; cases h
    | some fs =>
      rw [e] at h
      cases h
      cases r with
      | cons r1 r2 => exact .cons r1 (asPs_rep e r2)
  | .o i :: ds, es, vs, h, r => by cases h
  | .s i :: ds, es, vs, h, r => by cases h
theorem RepPs.toVs {w : Wd} : ∀ {es : List PyData} {vs : List V}, RepPs w.Z vs es → RepVs w vs (es.map D.p)
  | [], _, h => by cases h; exact .nil
  | d :: es, _, h => by
    cases h with
    | cons h1 h2 => exact .cons h1 (RepPs.toVs h2)
section
variable {mg : Gm} {w : Wd} {H : Hp} {S : Store}
theorem RepP.dpH {K : PySem.W.Frag} (R : Rep mg w H S) {v : V} {d : PyData} (h : RepP w.Z v d) : Dp K H v d := RepP.dp d v (RepP.mono R.same d v h)
theorem RepC.lst_inv {o : HO} {ds : List D} (h : RepC mg w o (.lst ds)) : ∃ xs, o = .lst xs ∧ RepVs w xs ds := by
  cases o with
  | lst xs => exact ⟨xs, rfl, h⟩
  | frz ob u => cases u <;> exact False.elim h
  | _ => exact False.elim h
theorem RepC.scr_inv {o : HO} {ds : List D} (h : RepC mg w o (.scr ds)) : ∃ ob xs, o = .frz ob (.lst xs) ∧ RepVs w xs ds := by
  cases o with
  | frz ob u =>
    cases u with
    | lst xs => exact ⟨ob, xs, rfl, h⟩
    | _ => exact False.elim h
  | _ => exact False.elim h
theorem RepC.dK_inv {o : HO} {ds : List (Key × D)} (h : RepC mg w o (.dK ds)) : ∃ xs, o = .dK xs ∧ RepF w xs ds := by
  cases o with
  | dK xs => exact ⟨xs, rfl, h⟩
  | frz ob u => cases u <;> exact False.elim h
  | _ => exact False.elim h
theorem RepC.dT_inv {o : HO} {ds : List (List Key × D)} (h : RepC mg w o (.dT ds)) : ∃ xs, o = .dT xs ∧ RepF w xs ds := by
  cases o with
  | dT xs => exact ⟨xs, rfl, h⟩
  | frz ob u => cases u <;> exact False.elim h
  | _ => exact False.elim h
theorem RepC.ins_inv {o : HO} {c : Str} {ds : List (Str × D)} (h : RepC mg w o (.ins c ds)) : ∃ C dx xs, o = .ins C dx xs ∧ mg.mg c = some (.ref C) ∧ RepF w xs ds := by
  cases o with
  | ins C dx xs => exact ⟨C, dx, xs, rfl, h⟩
  | frz ob u => cases u <;> exact False.elim h
  | _ => exact False.elim h
theorem toPy_dp {K : PySem.W.Frag} (R : Rep mg w H S) {v : V} {d : D} {e : PyData} (h : RepV w v d) (t : toPy S d = some e) : Dp K H v e := by
  cases d with
  | p d => cases t; exact RepP.dpH R h
  | o i =>
    obtain ⟨a, ha, rfl⟩ := h
    unfold toPy at t
    obtain ⟨ds, h1, h2⟩ := Option.bind_eq_some_iff.mp t
    obtain ⟨c, hS, h3⟩ := Option.bind_eq_some_iff.mp h1
    obtain rfl := Cell.lst_eq h3
    obtain ⟨es, q, rfl⟩ := Option.map_eq_some_iff.mp h2
    obtain ⟨o, ho, r⟩ := R.at_ ha hS
    obtain ⟨xs, rfl, r⟩ := r.lst_inv
    exact .lst (SqL.of ho) (RepPs.dp es xs (RepPs.mono R.same es xs (asPs_rep q r)))
  | s ns => cases t
theorem RepVs.ints (w : Wd) : ∀ ns : List Int, RepVs w (ns.map V.int) (ns.map fun n => D.p (.int n))
  | [] => .nil
  | n :: ns => .cons (.int n) (RepVs.ints w ns)
/-- a value that is a list: its items as they may be read -/
def items (S : Store) : D → Option (List D)
  | .p (.list es) => some (es.map D.p)
  | .o i => S[i]?.bind Cell.seq?
  | .s ns => some (ns.map fun n => D.p (.int n))
  | _ => none
theorem items_sq (R : Rep mg w H S) {v : V} {d : D} {ds : List D} (h : RepV w v d) (t : items S d = some ds) : ∃ a xs, v = .ref a ∧ SqL mg.K H a xs ∧ RepVs w xs ds := by
  cases d with
  | p d =>
    cases d with
    | list es =>
      cases t
      cases h with
      | lst h1 h2 => exact ⟨_, _, rfl, SqL.of (R.same _ _ h1), RepPs.toVs h2⟩
    | _ => cases t
  | o i =>
    obtain ⟨a, ha, rfl⟩ := h
    obtain ⟨c, hS, h3⟩ := Option.bind_eq_some_iff.mp (show S[i]?.bind Cell.seq? = some ds from t)
    obtain ⟨o, ho, r⟩ := R.at_ ha hS
    rcases Cell.seq_eq h3 with rfl | rfl
    · obtain ⟨xs, rfl, r⟩ := r.lst_inv
      exact ⟨a, xs, rfl, SqL.of ho, r⟩
    · obtain ⟨ob, xs, rfl, r⟩ := r.scr_inv
      exact ⟨a, xs, rfl, .inl (.inr ⟨ob, ho⟩), r⟩
  | s ns =>
    cases t
    obtain ⟨a, rfl, h⟩ := h
    refine ⟨a, _, rfl, by rw [R.kk] at h; exact R.same.seq h, ?_⟩
    exact RepVs.ints w ns
end

/-! ### names, constants -/
def eVar (i : Nat) : Fe := fun ρ S => match ρ.getD i none with
  | some d => .ok d S
  | none => .bad
def eC (d : PyData) : Fe := fun _ S => .ok (.p d) S
section
variable {X : Cx} {W : WX} {e a b c : Expr} {f g k : Fe} {pos : Pos}
theorem getD_some {ρ : Sl} {i : Nat} {d : D} (h : ρ.getD i none = some d) : ρ[i]? = some (some d) := by
  rw [List.getD_eq_getElem?_getD] at h
  cases q : ρ[i]? with
  | none => rw [q] at h; cases h
  | some o => rw [q] at h; cases h; rfl
theorem de_var (i : Nat) {x : Str} (hN : X.N[i]? = some x := by rfl) (hv : Vis X.env.scope x := by first | exact Or.inl rfl | exact Or.inr (Or.inl rfl) | exact Or.inr (Or.inr rfl)) (hd : (x == ("__debug__" : Str)) = false := by decide)
    (hcd : (x == ("__classdict__" : Str)) = false := by decide) : DE X W (.Name x pos) (eVar i) := (pe_var (i := i) hN hv hd hcd).imp fun σ H Q ⟨w, ρ, S, R, E, P⟩ => by
  unfold eVar at P
  cases q : ρ.getD i none with
  | none => rw [q] at P; exact P.elim
  | some d =>
    rw [q] at P
    obtain ⟨v, h1, h2⟩ := E.at_ i d (getD_some q)
    exact ⟨v, h1, P w H (Grow.refl w) R v h2⟩
theorem tC_of {v : V} {d : PyData} (r : ∀ Z, RepP Z v d) {σ : L2.St} {H : Hp} {Q : VK} {mg : Gm} (h : tD mg W (eC d) σ H Q) : tC v σ H Q :=
  let ⟨w, _, _, R, _, P⟩ := h
  P w H (Grow.refl w) R v (r w.Z)
theorem de_int {i : Int} {j} : DE X W (.Constant (.int i) j pos) (eC (.int i)) := pe_int.imp fun _ _ _ h => tC_of (fun _ => .int i) h
theorem de_bl {i : Bool} {j} : DE X W (.Constant (.bool i) j pos) (eC (.bool i)) := pe_bl.imp fun _ _ _ h => tC_of (fun _ => .bl i) h
theorem de_non {j} : DE X W (.Constant .none j pos) (eC .none) := pe_non.imp fun _ _ _ h => tC_of (fun _ => .non) h
theorem de_str {x : Str} {j} : DE X W (.Constant (.str x) j pos) (eC (.str x)) := pe_str.imp fun _ _ _ h => tC_of (fun _ => .str x) h
/-- a constant of the module -/
theorem de_glob {x : Str} {i : Int} {t : Tok} (hg : Gl X x) (hm : X.mg x = some (.int i t)) (hd : (x == ("__debug__" : Str)) = false := by decide) : DE X W (.Name x pos) (eC (.int i)) :=
  (pe_glob (v := .int i) hg hm ⟨t, rfl⟩ hd).imp fun _ _ _ h => tC_of (fun _ => .int i) h

theorem de_globE {x : Str} {i : Int} (hg : Gl X x) (hm : ∃ t, X.mg x = some (.int i t)) (hd : (x == ("__debug__" : Str)) = false := by decide) : DE X W (.Name x pos) (eC (.int i)) :=
  let ⟨_, h⟩ := hm
  de_glob hg h hd
/-! ### operators by values -/
def R2ok (X : Cx) (r : R2) (F : D → D → M D) : Prop := ∀ (w : Wd) (H : Hp) (S : Store) (x y : V) (dx dy : D) (W : WX) (σ : L2.St) (Q : VK), Rep X.gm w H S → RepV w x dx → RepV w y dy → Post X.gm W σ w Q (F dx dy S) → r x y H Q
def eBin (F : D → D → M D) (f g : Fe) : Fe := fun ρ => M.bind (f ρ) fun x => M.bind (g ρ) fun y => F x y
theorem tOp_of {r : R2} {F : D → D → M D} (hF : R2ok X r F) {σ : L2.St} {H : Hp} {Q : VK} (h : tD X.gm W (eBin F f g) σ H Q) : tOp r (tD X.gm W f) (tD X.gm W g) σ H Q := by
  obtain ⟨w, ρ, S, R, E, P⟩ := h
  exact stepE R E P fun x w1 H1 S1 dx g1 R1 E1 V1 P1 => stepE R1 E1 P1 fun y w2 H2 S2 dy g2 R2 E2 V2 P2 => hF w2 H2 S2 x y dx dy W σ Q R2 (V1.grow g2) V2 P2
theorem de_bin {op : Operator} {r : R2} {F : D → D → M D} (ho : OpR X (binaryOp op) r) (hF : R2ok X r F) (ha : DE X W a f) (hb : DE X W b g) : DE X W (.BinOp a op b pos) (eBin F f g) :=
  (pe_op ho ha hb).imp fun _ _ _ h => tOp_of hF h
theorem de_cmp {op : CmpOp} {r : R2} {F : D → D → M D} (ho : OpR X (compareOp op) r) (hF : R2ok X r F) (ha : DE X W a f) (hb : DE X W b g) (hm : behindInMarks op b = false) : DE X W (.Compare a [op] [b] pos) (eBin F f g) :=
  (pe_cmpR ho ha hb hm).imp fun _ _ _ h => tOp_of hF h
theorem de_ix {r : R2} {F : D → D → M D} (ho : IxR X r) (hF : R2ok X r F) (ha : DE X W a f) (hb : DE X W b g) (hs : PlainIx b) : DE X W (.Subscript a b pos) (eBin F f g) :=
  (pe_ix ho ha hb hs).imp fun _ _ _ h => tOp_of hF h
/-- what F gives is at once told: the same heap, or a new object -/
theorem Post.here {mg : Gm} {W : WX} {σ : L2.St} {w : Wd} {Q : VK} {H : Hp} {S : Store} {d : D} (R : Rep mg w H S) (P : Post mg W σ w Q (.ok d S)) {v : V} (r : RepV w v d) : Q v H := P w H (Grow.refl w) R v r
theorem Post.newTup {mg : Gm} {W : WX} {σ : L2.St} {w : Wd} {Q : VK} {H : Hp} {S : Store} {ds : List PyData} {xs : List V} (R : Rep mg w H S) (P : Post mg W σ w Q (.ok (.p (.tuple ds)) S)) (r : RepPs w.Z xs ds) {p : Addr} (hp : H p = none) :
    Q (.ref p) (upd H p (.tup xs)) := by
  obtain ⟨g, R'⟩ := R.newP (.tup xs) hp
  exact P _ _ g R' _ (.tup upd_same (RepPs.mono g.z _ _ r))
theorem Post.newLst {mg : Gm} {W : WX} {σ : L2.St} {w : Wd} {Q : VK} {H : Hp} {S : Store} {ds : List PyData} {xs : List V} (R : Rep mg w H S) (P : Post mg W σ w Q (.ok (.p (.list ds)) S)) (r : RepPs w.Z xs ds) {p : Addr} (hp : H p = none) :
    Q (.ref p) (upd H p (.lst xs)) := by
  obtain ⟨g, R'⟩ := R.newP (.lst xs) hp
  exact P _ _ g R' _ (.lst upd_same (RepPs.mono g.z _ _ r))
theorem RepV.cases_p {w : Wd} {v : V} {d : PyData} (h : RepV w v (.p d)) : RepP w.Z v d := h

/-! ### arithmetic -/
def fAdd : D → D → M D
  | .p (.int i), .p (.int j) => M.pure (.p (.int (i + j)))
  | .p (.str i), .p (.str j) => fun S => if i.length + j.length ≤ sizeLine then .ok (.p (.str (i ++ j))) S else .bad
  | .p (.tuple xs), .p (.tuple ys) => fun S => if xs.length + ys.length ≤ sizeLine then .ok (.p (.tuple (xs ++ ys))) S else .bad
  | .p (.list xs), .p (.list ys) => fun S => if xs.length + ys.length ≤ sizeLine then .ok (.p (.list (xs ++ ys))) S else .bad
  | _, _ => M.bad
def rAddD (K : PySem.W.Frag) : R2 := fun x y H Q => (rI0 fun i j => .int (i + j)) x y H Q ∨ (fun x y H Q => ∃ i j, x = .str i ∧ y = .str j ∧ i.length + j.length ≤ sizeLine ∧ Q (.str (i ++ j)) H : R2) x y H Q ∨ rCatA K x y H Q ∨ rCat x y H Q
theorem op_addD : OpR X (binaryOp .Add) (rAddD X.K) := op_add.or (op_add_str.or (op_catA.or op_cat))
theorem ok_add : R2ok X (rAddD X.K) fAdd := by
  intro w H S x y dx dy W σ Q R vx vy P
  unfold fAdd at P
  split at P
  · cases vx.cases_p; cases vy.cases_p
    exact .inl ⟨_, _, rfl, rfl, Post.here R P (.int _)⟩
  · cases vx.cases_p; cases vy.cases_p
    split at P
    · rename_i hl
      exact .inr (.inl ⟨_, _, rfl, rfl, hl, Post.here R P (.str _)⟩)
    · exact P.elim
  · rename_i ds es
    have vx := vx.cases_p
    have vy := vy.cases_p
    cases vx with | tup hx rx =>
    cases vy with | tup hy ry =>
    split at P
    · rename_i hl
      refine .inr (.inr (.inl ⟨_, _, _, _, rfl, rfl, SqT.of (R.same _ _ hx), SqT.of (R.same _ _ hy), by rw [rx.length, ry.length]; exact hl, fun e => ?_, fun _ e => ?_, fun _ _ p hp => Post.newTup R P (rx.append ry) hp⟩))
      · subst e
        cases rx
        exact Post.here R P (.tup hy ry)
      · subst e
        cases ry
        rw [List.append_nil] at P
        exact Post.here R P (.tup hx rx)
    · exact P.elim
  · have vx := vx.cases_p
    have vy := vy.cases_p
    cases vx with | lst hx rx =>
    cases vy with | lst hy ry =>
    split at P
    · rename_i hl
      exact .inr (.inr (.inr ⟨_, _, _, _, rfl, rfl, R.same _ _ hx, R.same _ _ hy, by rw [rx.length, ry.length]; exact hl, fun p hp => Post.newLst R P (rx.append ry) hp⟩))
    · exact P.elim
  · exact P.elim
def fI (C : Int → Int → Prop) [∀ i j, Decidable (C i j)] (g : Int → Int → PyData) : D → D → M D
  | .p (.int i), .p (.int j) => fun S => if C i j then .ok (.p (g i j)) S else .bad
  | _, _ => M.bad
theorem ok_int {C : Int → Int → Prop} [∀ i j, Decidable (C i j)] {gv : Int → Int → V} {g : Int → Int → PyData} (hg : ∀ Z i j, RepP Z (gv i j) (g i j)) : R2ok X (rI C gv) (fI C g) := by
  intro w H S x y dx dy W σ Q R vx vy P
  unfold fI at P
  split at P
  · cases vx.cases_p; cases vy.cases_p
    split at P
    · rename_i hc
      exact ⟨_, _, rfl, rfl, hc, Post.here R P (hg _ _ _)⟩
    · exact P.elim
  · exact P.elim
def fI0 (g : Int → Int → PyData) : D → D → M D
  | .p (.int i), .p (.int j) => M.pure (.p (g i j))
  | _, _ => M.bad
theorem ok_int0 {gv : Int → Int → V} {g : Int → Int → PyData} (hg : ∀ Z i j, RepP Z (gv i j) (g i j)) : R2ok X (rI0 gv) (fI0 g) := by
  intro w H S x y dx dy W σ Q R vx vy P
  unfold fI0 at P
  split at P
  · cases vx.cases_p; cases vy.cases_p
    exact ⟨_, _, rfl, rfl, Post.here R P (hg _ _ _)⟩
  · exact P.elim
instance {i j : Int} : Decidable (CMul i j) := by unfold CMul; infer_instance
instance {i j : Int} : Decidable (CDiv i j) := by unfold CDiv; infer_instance
instance {i j : Int} : Decidable (CDivW i j) := by unfold CDivW; infer_instance
abbrev fDivW := fI CDivW fun i j => .int (i / j)
instance {i j : Int} : Decidable (CPow i j) := by unfold CPow; infer_instance
abbrev fSub := fI0 fun i j => .int (i - j)
abbrev fMul := fI CMul fun i j => .int (i * j)
abbrev fDiv := fI CDiv fun i j => .int (i / j)
abbrev fMod := fI (fun _ j => 0 < j) fun i j => .int (i % j)
abbrev fPow := fI CPow fun i j => .int (i ^ j.toNat)
theorem de_add (ha : DE X W a f) (hb : DE X W b g) : DE X W (.BinOp a .Add b pos) (eBin fAdd f g) := de_bin op_addD ok_add ha hb
theorem de_sub (ha : DE X W a f) (hb : DE X W b g) : DE X W (.BinOp a .Sub b pos) (eBin fSub f g) := de_bin op_sub (ok_int0 fun _ _ _ => .int _) ha hb
theorem de_mul (ha : DE X W a f) (hb : DE X W b g) : DE X W (.BinOp a .Mult b pos) (eBin fMul f g) := de_bin op_mul (ok_int fun _ _ _ => .int _) ha hb
theorem de_fdiv (ha : DE X W a f) (hb : DE X W b g) : DE X W (.BinOp a .FloorDiv b pos) (eBin fDiv f g) := de_bin op_fdiv (ok_int fun _ _ _ => .int _) ha hb
theorem de_fdivW (ha : DE X W a f) (hb : DE X W b g) : DE X W (.BinOp a .FloorDiv b pos) (eBin fDivW f g) := de_bin op_fdivW (ok_int fun _ _ _ => .int _) ha hb
theorem de_mod (ha : DE X W a f) (hb : DE X W b g) : DE X W (.BinOp a .Mod b pos) (eBin fMod f g) := de_bin op_mod (ok_int fun _ _ _ => .int _) ha hb
theorem de_pow (ha : DE X W a f) (hb : DE X W b g) : DE X W (.BinOp a .Pow b pos) (eBin fPow f g) := de_bin op_pow (ok_int fun _ _ _ => .int _) ha hb
def fNeg : D → M D
  | .p (.int i) => M.pure (.p (.int (-i)))
  | _ => M.bad
def eUn (F : D → M D) (f : Fe) : Fe := fun ρ => M.bind (f ρ) F
theorem de_neg (ha : DE X W a f) : DE X W (.UnaryOp .USub a pos) (eUn fNeg f) := (pe_un un_neg ha).imp fun σ H Q ⟨w, ρ, S, R, E, P⟩ =>
  stepE R E P fun x w1 H1 S1 dx g1 R1 E1 V1 P1 => by
    unfold fNeg at P1
    split at P1
    · cases V1.cases_p
      exact ⟨_, rfl, Post.here R1 P1 (.int _)⟩
    · exact P1.elim

/-! ### comparisons -/
abbrev fLt := fI0 fun i j => .bool (decide (i < j))
abbrev fLe := fI0 fun i j => .bool (decide (i ≤ j))
abbrev fGt := fI0 fun i j => .bool (decide (j < i))
abbrev fGe := fI0 fun i j => .bool (decide (j ≤ i))
theorem de_lt (ha : DE X W a f) (hb : DE X W b g) : DE X W (.Compare a [.Lt] [b] pos) (eBin (fI0 fun i j => .bool (decide (i < j))) f g) := de_cmp op_lt (ok_int0 fun _ _ _ => .bl _) ha hb (nomark _)
theorem de_le (ha : DE X W a f) (hb : DE X W b g) : DE X W (.Compare a [.LtE] [b] pos) (eBin (fI0 fun i j => .bool (decide (i ≤ j))) f g) := de_cmp op_le (ok_int0 fun _ _ _ => .bl _) ha hb (nomark _)
theorem de_gt (ha : DE X W a f) (hb : DE X W b g) : DE X W (.Compare a [.Gt] [b] pos) (eBin (fI0 fun i j => .bool (decide (j < i))) f g) := de_cmp op_gt (ok_int0 fun _ _ _ => .bl _) ha hb (nomark _)
theorem de_ge (ha : DE X W a f) (hb : DE X W b g) : DE X W (.Compare a [.GtE] [b] pos) (eBin (fI0 fun i j => .bool (decide (j ≤ i))) f g) := de_cmp op_ge (ok_int0 fun _ _ _ => .bl _) ha hb (nomark _)
/-- a < b <= c, the middle asked once -/
def onB (m n : M D) : D → M D
  | .p (.bool b) => if b = true then m else n
  | _ => M.bad
def eChain (F G : D → D → M D) (f g k : Fe) : Fe := fun ρ => M.bind (f ρ) fun x => M.bind (g ρ) fun y => M.bind (F x y) (onB (M.bind (k ρ) fun z => G y z) (M.pure (.p (.bool false))))
/-- == by values -/
def fEq (neg : Bool) : D → D → M D := fun x y S => match toPy S x, toPy S y with
  | some a, some b => if (SeqAt.shaped a && SeqAt.shaped b) = true then .ok (.p (.bool (if neg then !PyData.eqv a b else PyData.eqv a b))) S else .bad
  | _, _ => .bad
theorem fEq_inv {mg : Gm} {neg : Bool} {w : Wd} {H : Hp} {S : Store} {x y : V} {dx dy : D} {W : WX} {σ : L2.St} {Q : VK} {K : PySem.W.Frag} (R : Rep mg w H S) (vx : RepV w x dx) (vy : RepV w y dy) (P : Post mg W σ w Q (fEq neg dx dy S)) :
    ∃ a b, Dp K H x a ∧ Dp K H y b ∧ SeqAt.shaped a = true ∧ SeqAt.shaped b = true ∧ Q (.bl (if neg then !PyData.eqv a b else PyData.eqv a b)) H := by
  unfold fEq at P
  cases ta : toPy S dx with
  | none => rw [ta] at P; exact P.elim
  | some a =>
    cases tb : toPy S dy with
    | none => rw [ta, tb] at P; exact P.elim
    | some b =>
      rw [ta, tb] at P
      dsimp only at P
      by_cases hs : (SeqAt.shaped a && SeqAt.shaped b) = true
      · rw [if_pos hs] at P
        rw [Bool.and_eq_true] at hs
        exact ⟨a, b, toPy_dp R vx ta, toPy_dp R vy tb, hs.1, hs.2, Post.here R P (.bl _)⟩
      · rw [if_neg hs] at P
        exact P.elim
theorem ok_eq : R2ok X (rEqD X.K) (fEq false) := fun w H S x y dx dy W σ Q R vx vy P => fEq_inv R vx vy P
theorem ok_ne : R2ok X (rNeD X.K) (fEq true) := fun w H S x y dx dy W σ Q R vx vy P => fEq_inv R vx vy P
theorem de_eq (hu : X.A.units + 64 < cLine) (ha : DE X W a f) (hb : DE X W b g) : DE X W (.Compare a [.Eq] [b] pos) (eBin (fEq false) f g) := de_cmp (op_eqD hu) ok_eq ha hb (nomark _)
theorem de_ne (hu : X.A.units + 64 < cLine) (ha : DE X W a f) (hb : DE X W b g) : DE X W (.Compare a [.NotEq] [b] pos) (eBin (fEq true) f g) := de_cmp (op_neD hu) ok_ne ha hb (nomark _)
/-- in, not in -/
def seqPy : PyData → Option (List PyData)
  | .list xs => some xs
  | .tuple xs => some xs
  | _ => none
def fIn (neg : Bool) : D → D → M D := fun x y S => match toPy S x, toPy S y with
  | some a, some b => match seqPy b with
    | some xs => if (SeqAt.shaped a && SeqAt.shaped b) = true then .ok (.p (.bool (if neg then !(xs.any fun z => PyData.eqv z a) else xs.any fun z => PyData.eqv z a))) S else .bad
    | none => .bad
  | _, _ => .bad
def rInA (K : PySem.W.Frag) (neg : Bool) : R2 := fun x y H Q => ∃ d e ds, Dp K H x d ∧ Dp K H y e ∧ seqPy e = some ds ∧ SeqAt.shaped d = true ∧ SeqAt.shaped e = true ∧ Q (.bl (if neg then !(ds.any fun z => PyData.eqv z d) else ds.any fun z => PyData.eqv z d)) H
theorem op_inA (hu : X.A.units + 65 < cLine) : OpR X (compareOp .In) (rInA X.K false) := by
  intro pins s σ H x y v u Q I rx ry h
  obtain ⟨d, e, ds, hd, he, hs, sd, se, q⟩ := h
  obtain ⟨as, r1⟩ := Dp.reads I d x v hd rx
  obtain ⟨bs, r2⟩ := Dp.reads I e y u he ry
  cases e <;> cases hs
  · exact SeqAt.in_list_reads r2 r1 (SeqAt.canLay_of_shaped se) (SeqAt.canLay_of_shaped sd) (PyProof.Rows.room_in_shaped sd hu) ⟨.bl _, H, I, rfl, q⟩
  · exact SeqAt.in_tuple_reads r2 r1 (SeqAt.canLay_of_shaped se) (SeqAt.canLay_of_shaped sd) (PyProof.Rows.room_in_shaped sd hu) ⟨.bl _, H, I, rfl, q⟩
theorem op_notInA (hu : X.A.units + 65 < cLine) : OpR X (compareOp .NotIn) (rInA X.K true) := by
  intro pins s σ H x y v u Q I rx ry h
  obtain ⟨d, e, ds, hd, he, hs, sd, se, q⟩ := h
  obtain ⟨as, r1⟩ := Dp.reads I d x v hd rx
  obtain ⟨bs, r2⟩ := Dp.reads I e y u he ry
  cases e <;> cases hs
  · exact SeqAt.notIn_list_reads r2 r1 (SeqAt.canLay_of_shaped se) (SeqAt.canLay_of_shaped sd) (PyProof.Rows.room_in_shaped sd hu) ⟨.bl _, H, I, rfl, q⟩
  · exact SeqAt.notIn_tuple_reads r2 r1 (SeqAt.canLay_of_shaped se) (SeqAt.canLay_of_shaped sd) (PyProof.Rows.room_in_shaped sd hu) ⟨.bl _, H, I, rfl, q⟩
theorem ok_in {neg : Bool} : R2ok X (rInA X.K neg) (fIn neg) := by
  intro w H S x y dx dy W σ Q R vx vy P
  unfold fIn at P
  cases ta : toPy S dx with
  | none => rw [ta] at P; exact P.elim
  | some a =>
    cases tb : toPy S dy with
    | none => rw [ta, tb] at P; exact P.elim
    | some b =>
      rw [ta, tb] at P
      dsimp only at P
      cases q : seqPy b with
      | none => rw [q] at P; exact P.elim
      | some xs =>
        rw [q] at P
        dsimp only at P
        by_cases hs : (SeqAt.shaped a && SeqAt.shaped b) = true
        · rw [if_pos hs] at P
          rw [Bool.and_eq_true] at hs
          exact ⟨a, b, xs, toPy_dp R vx ta, toPy_dp R vy tb, q, hs.1, hs.2, Post.here R P (.bl _)⟩
        · rw [if_neg hs] at P
          exact P.elim
theorem de_in (hu : X.A.units + 65 < cLine) (ha : DE X W a f) (hb : DE X W b g) (hm : behindInMarks .In b = false := by rfl) : DE X W (.Compare a [.In] [b] pos) (eBin (fIn false) f g) := de_cmp (op_inA hu) ok_in ha hb hm
theorem de_notIn (hu : X.A.units + 65 < cLine) (ha : DE X W a f) (hb : DE X W b g) (hm : behindInMarks .NotIn b = false := by rfl) : DE X W (.Compare a [.NotIn] [b] pos) (eBin (fIn true) f g) := de_cmp (op_notInA hu) ok_in ha hb hm
/-- is None, is True, is False: the right side a constant; anything on the left -/
def isC (c : PyData) : D → Bool
  | .p .none => match c with | .none => true | _ => false
  | .p (.bool b) => match c with | .bool k => b == k | _ => false
  | _ => false
def fIs (neg : Bool) : D → D → M D
  | x, .p .none => M.pure (.p (.bool (if neg then !isC .none x else isC .none x)))
  | .p (.bool b), .p (.bool k) => M.pure (.p (.bool (if neg then !decide (b = k) else decide (b = k))))
  | _, _ => M.bad
def rIsA (neg : Bool) : R2 := fun x y H Q => (y = .non ∧ Q (.bl (if neg then !decide (x = .non) else decide (x = .non))) H) ∨ (∃ a b, x = .bl a ∧ y = .bl b ∧ Q (.bl (if neg then !decide (a = b) else decide (a = b))) H)
theorem op_isA : OpR X (compareOp .Is) (rIsA false) := op_isN.or op_is_bl
theorem op_isNotA : OpR X (compareOp .IsNot) (rIsA true) := op_notN.or op_isnot_bl
theorem ok_is {neg : Bool} : R2ok X (rIsA neg) (fIs neg) := by
  intro w H S x y dx dy W σ Q R vx vy P
  unfold fIs at P
  split at P
  · cases vy.cases_p
    refine .inl ⟨rfl, ?_⟩
    have e : isC .none dx = decide (x = .non) := by
      cases dx with
      | p d =>
        have vx := vx.cases_p
        cases vx <;> simp [isC]
      | o i =>
        obtain ⟨a, _, rfl⟩ := vx
        simp [isC]
      | s ns =>
        obtain ⟨a, rfl, _⟩ := vx
        simp [isC]
    rw [e] at P
    exact Post.here R P (.bl _)
  · cases vx.cases_p; cases vy.cases_p
    exact .inr ⟨_, _, rfl, rfl, Post.here R P (.bl _)⟩
  · exact P.elim
theorem de_is (ha : DE X W a f) (hb : DE X W b g) : DE X W (.Compare a [.Is] [b] pos) (eBin (fIs false) f g) := de_cmp op_isA ok_is ha hb (nomark _)
theorem de_isNot (ha : DE X W a f) (hb : DE X W b g) : DE X W (.Compare a [.IsNot] [b] pos) (eBin (fIs true) f g) := de_cmp op_isNotA ok_is ha hb (nomark _)
end
end DL
set_option Elab.async false
set_option linter.all false
set_option maxRecDepth 100000
set_option maxHeartbeats 4000000
namespace DL
open PySem PySem.Spec L2
section
variable {X : Cx} {W : WX} {e a b c : Expr} {f g k : Fe} {pos : Pos} {es rest : List Expr} {fs : Fl}

/-! ### chains -/
theorem de_chain {op op' : CmpOp} {r r' : R2} {F G : D → D → M D} (ho : OpR X (compareOp op) r) (ho' : OpR X (compareOp op') r') (hF : R2ok X r F) (hG : R2ok X r' G) (ha : DE X W a f) (hb : DE X W b g) (hc : DE X W c k)
    (hm : lastMarks [op, op'] [b, c] = false := by with_unfolding_all rfl) : DE X W (.Compare a [op, op'] [b, c] pos) (eChain F G f g k) := (pe_chain ho ho' ha hb hc hm).imp fun σ H Q ⟨w, ρ, S, R, E, P⟩ => by
  refine stepE R E P fun x w1 H1 S1 dx g1 R1 E1 V1 P1 => stepE R1 E1 P1 fun y w2 H2 S2 dy g2 R2 E2 V2 P2 => ?_
  -- the first comparison
  refine hF w2 H2 S2 x y dx dy W σ _ R2 (V1.grow g2) V2 ?_
  unfold M.bind at P2
  cases q : F dx dy S2 with
  | bad => rw [q] at P2; exact P2
  | exc x S => rw [q] at P2; exact P2
  | ok d S3 =>
    rw [q] at P2
    intro w3 H3 g3 R3 v V3
    cases d with
    | o i => exact P2.elim
    | s ns => exact P2.elim
    | p d =>
      cases d with
      | bool t =>
        cases V3.cases_p
        refine ⟨t, rfl, ?_⟩
        dsimp only [onB] at P2
        cases t with
        | true =>
          rw [if_pos rfl] at P2 ⊢
          exact stepE R3 (E2.grow g3) (P2.grow g3) fun z w4 H4 S4 dz g4 R4 E4 V4 P4 => hG w4 H4 S4 y z dy dz W σ Q R4 (V2.grow (g3.trans g4)) V4 P4
        | false =>
          rw [if_neg Bool.false_ne_true] at P2 ⊢
          exact Post.here R3 (P2.grow g3) (.bl _)
      | _ => exact P2.elim

/-! ### tests -/
def asB : D → M Bool
  | .p (.bool b) => M.pure b
  | _ => M.bad
def eT (f : Fe) : Fb := fun ρ => M.bind (f ρ) asB
theorem tB_of {σ : L2.St} {H : Hp} {Q : Bool → Hp → Prop} (h : tDT X.gm W (eT f) σ H Q) : tD X.gm W f σ H fun x H1 => ∃ c, x = .bl c ∧ Q c H1 := by
  obtain ⟨w, ρ, S, R, E, P⟩ := h
  refine stepE R E P fun x w1 H1 S1 d g1 R1 E1 V1 P1 => ?_
  cases d with
  | o i => exact P1.elim
  | s ns => exact P1.elim
  | p d =>
    cases d with
    | bool t => cases V1.cases_p; exact ⟨t, rfl, P1 w1 H1 (Grow.refl _) R1⟩
    | _ => exact P1.elim
theorem dt_val (h : DE X W e f) (he : ∀ whole, isTrue e X.env whole = (do let v ← whole; standAt e.pos; holding [v] (truthy v)) := by intro _; rfl) : DT X W e (eT f) := (pt_val h he).imp fun _ _ _ h => tB_of h
theorem dt_cmp {op : CmpOp} {r : R2} {F : D → D → M D} (ho : OpR X (compareOp op) r) (hF : R2ok X r F) (ha : DE X W a f) (hb : DE X W b g) (hm : behindInMarks op b = false) : DT X W (.Compare a [op] [b] pos) (eT (eBin F f g)) :=
  (pt_cmpR ho ha hb hm).imp fun σ H Q h => by
    have q := tB_of h
    exact tOp_of hF q
theorem dt_lt (ha : DE X W a f) (hb : DE X W b g) : DT X W (.Compare a [.Lt] [b] pos) (eT (eBin (fI0 fun i j => .bool (decide (i < j))) f g)) := dt_cmp op_lt (ok_int0 fun _ _ _ => .bl _) ha hb (nomark _)
theorem dt_le (ha : DE X W a f) (hb : DE X W b g) : DT X W (.Compare a [.LtE] [b] pos) (eT (eBin (fI0 fun i j => .bool (decide (i ≤ j))) f g)) := dt_cmp op_le (ok_int0 fun _ _ _ => .bl _) ha hb (nomark _)
theorem dt_gt (ha : DE X W a f) (hb : DE X W b g) : DT X W (.Compare a [.Gt] [b] pos) (eT (eBin (fI0 fun i j => .bool (decide (j < i))) f g)) := dt_cmp op_gt (ok_int0 fun _ _ _ => .bl _) ha hb (nomark _)
theorem dt_ge (ha : DE X W a f) (hb : DE X W b g) : DT X W (.Compare a [.GtE] [b] pos) (eT (eBin (fI0 fun i j => .bool (decide (j ≤ i))) f g)) := dt_cmp op_ge (ok_int0 fun _ _ _ => .bl _) ha hb (nomark _)
theorem dt_eq (hu : X.A.units + 64 < cLine) (ha : DE X W a f) (hb : DE X W b g) : DT X W (.Compare a [.Eq] [b] pos) (eT (eBin (fEq false) f g)) := dt_cmp (op_eqD hu) ok_eq ha hb (nomark _)
theorem dt_ne (hu : X.A.units + 64 < cLine) (ha : DE X W a f) (hb : DE X W b g) : DT X W (.Compare a [.NotEq] [b] pos) (eT (eBin (fEq true) f g)) := dt_cmp (op_neD hu) ok_ne ha hb (nomark _)
theorem dt_in (hu : X.A.units + 65 < cLine) (ha : DE X W a f) (hb : DE X W b g) (hm : behindInMarks .In b = false := by rfl) : DT X W (.Compare a [.In] [b] pos) (eT (eBin (fIn false) f g)) := dt_cmp (op_inA hu) ok_in ha hb hm
theorem dt_notIn (hu : X.A.units + 65 < cLine) (ha : DE X W a f) (hb : DE X W b g) (hm : behindInMarks .NotIn b = false := by rfl) : DT X W (.Compare a [.NotIn] [b] pos) (eT (eBin (fIn true) f g)) := dt_cmp (op_notInA hu) ok_in ha hb hm
theorem dt_is (ha : DE X W a f) (hb : DE X W b g) : DT X W (.Compare a [.Is] [b] pos) (eT (eBin (fIs false) f g)) := dt_cmp op_isA ok_is ha hb (nomark _)
theorem dt_isNot (ha : DE X W a f) (hb : DE X W b g) : DT X W (.Compare a [.IsNot] [b] pos) (eT (eBin (fIs true) f g)) := dt_cmp op_isNotA ok_is ha hb (nomark _)
abbrev DW (X : Cx) (W : WX) (e : Expr) (f : Fb) : Prop := PW X e (tDT X.gm W f)
def bAnd (f g : Fb) : Fb := fun ρ => M.bind (f ρ) fun b => if b = true then g ρ else M.pure false
def bOr (f g : Fb) : Fb := fun ρ => M.bind (f ρ) fun b => if b = true then M.pure true else g ρ
def bNot (f : Fb) : Fb := fun ρ => M.bind (f ρ) fun b => M.pure (!b)
theorem PostB.here {mg : Gm} {W : WX} {σ : L2.St} {w : Wd} {Q : Bool → Hp → Prop} {H : Hp} {S : Store} {d : Bool} (R : Rep mg w H S) (P : PostB mg W σ w Q (.ok d S)) : Q d H := P w H (Grow.refl w) R
theorem dw_and1 {fb : Fb} (ha : DT X W a fb) : DW X W (.BoolOp .And [a] pos) fb := pw_and1 ha
theorem dw_or1 {fb : Fb} (ha : DT X W a fb) : DW X W (.BoolOp .Or [a] pos) fb := pw_or1 ha
theorem dw_and {fb gb : Fb} (ha : DT X W a fb) (hb : DW X W (.BoolOp .And (b :: rest) pos) gb) : DW X W (.BoolOp .And (a :: b :: rest) pos) (bAnd fb gb) := (pw_and ha hb).imp fun σ H Q ⟨w, ρ, S, R, E, P⟩ =>
  stepT R E P fun c w1 H1 S1 g1 R1 E1 P1 => by
    cases c with
    | true => rw [if_pos rfl] at P1 ⊢; exact ⟨w1, ρ, S1, R1, E1, P1⟩
    | false => rw [if_neg Bool.false_ne_true] at P1 ⊢; exact PostB.here R1 P1
theorem dw_or {fb gb : Fb} (ha : DT X W a fb) (hb : DW X W (.BoolOp .Or (b :: rest) pos) gb) : DW X W (.BoolOp .Or (a :: b :: rest) pos) (bOr fb gb) := (pw_or ha hb).imp fun σ H Q ⟨w, ρ, S, R, E, P⟩ =>
  stepT R E P fun c w1 H1 S1 g1 R1 E1 P1 => by
    cases c with
    | false => rw [if_neg Bool.false_ne_true] at P1 ⊢; exact ⟨w1, ρ, S1, R1, E1, P1⟩
    | true => rw [if_pos rfl] at P1 ⊢; exact PostB.here R1 P1
theorem DW.dt {fb : Fb} (h : DW X W e fb) : DT X W e fb := PW.pt h
theorem dt_not {fb : Fb} (ha : DT X W a fb) : DT X W (.UnaryOp .Not a pos) (bNot fb) := (pt_not ha).imp fun σ H Q ⟨w, ρ, S, R, E, P⟩ =>
  stepT R E P fun c w1 H1 S1 g1 R1 E1 P1 => PostB.here R1 P1
/-! .. as values -/
def eAnd (f g : Fe) : Fe := fun ρ => M.bind (M.bind (f ρ) asB) fun b => if b = true then g ρ else M.pure (.p (.bool false))
def eOr (f g : Fe) : Fe := fun ρ => M.bind (M.bind (f ρ) asB) fun b => if b = true then M.pure (.p (.bool true)) else g ρ
def eNot (f : Fe) : Fe := fun ρ => M.bind (M.bind (f ρ) asB) fun b => M.pure (.p (.bool (!b)))
/-- an expression that is a bool, then -/
theorem stepB {β : Type} {mg : Gm} {σ : L2.St} {w : Wd} {H : Hp} {S : Store} {ρ : Sl} {ok : β → Wd → Hp → Prop} {k : Bool → M β} {Q : VK} (R : Rep mg w H S) (E : RepE w σ ρ) (P : PostG mg W σ w ok (M.bind (M.bind (f ρ) asB) k S))
    (q : ∀ b w1 H1 S1, Grow w w1 → Rep mg w1 H1 S1 → RepE w1 σ ρ → PostG mg W σ w1 ok (k b S1) → Q (.bl b) H1) : tD mg W f σ H Q := by
  have P' : PostG mg W σ w ok (M.bind (f ρ) (fun d => M.bind (asB d) k) S) := by
    unfold M.bind at P ⊢
    cases h : f ρ S with
    | ok d S' => rw [h] at P; exact P
    | exc x S' => rw [h] at P; exact P
    | bad => rw [h] at P; exact P
  refine stepE R E P' fun v w1 H1 S1 d g1 R1 E1 V1 P1 => ?_
  cases d with
  | o i => exact P1.elim
  | s ns => exact P1.elim
  | p d =>
    cases d with
    | bool t => cases V1.cases_p; exact q t w1 H1 S1 g1 R1 E1 P1
    | _ => exact P1.elim
theorem de_one {op} (h : DE X W a f) : DE X W (.BoolOp op [a] pos) f := pe_one h
theorem de_and (ha : DE X W a f) (hb : DE X W (.BoolOp .And (b :: rest) pos) g) : DE X W (.BoolOp .And (a :: b :: rest) pos) (eAnd f g) := (pe_and ha hb).imp fun σ H Q ⟨w, ρ, S, R, E, P⟩ =>
  stepB R E P fun c w1 H1 S1 g1 R1 E1 P1 => ⟨c, rfl, by
    cases c with
    | true => rw [if_pos rfl] at P1 ⊢; exact ⟨w1, ρ, S1, R1, E1, P1⟩
    | false => rw [if_neg Bool.false_ne_true] at P1 ⊢; exact Post.here R1 P1 (.bl _)⟩
theorem de_or (ha : DE X W a f) (hb : DE X W (.BoolOp .Or (b :: rest) pos) g) : DE X W (.BoolOp .Or (a :: b :: rest) pos) (eOr f g) := (pe_or ha hb).imp fun σ H Q ⟨w, ρ, S, R, E, P⟩ =>
  stepB R E P fun c w1 H1 S1 g1 R1 E1 P1 => ⟨c, rfl, by
    cases c with
    | false => rw [if_neg Bool.false_ne_true] at P1 ⊢; exact ⟨w1, ρ, S1, R1, E1, P1⟩
    | true => rw [if_pos rfl] at P1 ⊢; exact Post.here R1 P1 (.bl _)⟩
theorem de_not (ha : DE X W a f) : DE X W (.UnaryOp .Not a pos) (eNot f) := (pe_not ha).imp fun σ H Q ⟨w, ρ, S, R, E, P⟩ =>
  stepB R E P fun c w1 H1 S1 g1 R1 E1 P1 => ⟨c, rfl, Post.here R1 P1 (.bl _)⟩
def eIf (t : Fb) (f g : Fe) : Fe := fun ρ => M.bind (t ρ) fun b => if b = true then f ρ else g ρ
theorem de_if {t : Fb} (hc : DT X W c t) (ha : DE X W a f) (hb : DE X W b g) : DE X W (.IfExp c a b pos) (eIf t f g) := (pe_ifExp hc ha hb).imp fun σ H Q ⟨w, ρ, S, R, E, P⟩ =>
  stepT R E P fun c w1 H1 S1 g1 R1 E1 P1 => by
    cases c with
    | true => rw [if_pos rfl] at P1 ⊢; exact ⟨w1, ρ, S1, R1, E1, P1⟩
    | false => rw [if_neg Bool.false_ne_true] at P1 ⊢; exact ⟨w1, ρ, S1, R1, E1, P1⟩

/-! ### displays -/
def aNil : Fl := fun _ => M.pure []
def aCons (f : Fe) (g : Fl) : Fl := fun ρ => M.bind (f ρ) fun x => M.bind (g ρ) fun xs => M.pure (x :: xs)
theorem da_nil : DA X W [] aNil := pa_nil.imp fun σ H Q ⟨w, ρ, S, R, E, P⟩ => P w H (Grow.refl w) R [] .nil
theorem da_cons (ha : DE X W e f) (hr : DA X W es fs) (hs : starEach (e :: es) X.env = (false, eval e X.env) :: starEach es X.env := by rfl) : DA X W (e :: es) (aCons f fs) := (pa_cons ha hr hs).imp fun σ H Q ⟨w, ρ, S, R, E, P⟩ =>
  stepE R E P fun v w1 H1 S1 d g1 R1 E1 V1 P1 => stepA R1 E1 P1 fun vs w2 H2 S2 ds g2 R2 E2 V2 P2 => P2 w2 H2 (Grow.refl _) R2 _ (.cons (V1.grow g2) V2)
def kTup (ds : List D) : M D := fun S => match asPs ds with
  | some es => if es.length ≤ sizeLine then .ok (.p (.tuple es)) S else .bad
  | none => .bad
def kLst (ds : List D) : M D := fun S => match asPs ds with
  | some es => if es.length ≤ sizeLine then .ok (.p (.list es)) S else .bad
  | none => .bad
def kCell (ds : List D) : M D := fun S => if ds.length ≤ sizeLine then .ok (.o S.length) (S ++ [.lst ds]) else .bad
def eTup (g : Fl) : Fe := fun ρ => M.bind (g ρ) kTup
def eLst (g : Fl) : Fe := fun ρ => M.bind (g ρ) kLst
/-- a list that will be changed -/
def eCell (g : Fl) : Fe := fun ρ => M.bind (g ρ) kCell
theorem asPs_len {ds : List D} {es : List PyData} (h : asPs ds = some es) : es.length = ds.length := by
  induction ds generalizing es with
  | nil => cases h; rfl
  | cons d ds ih =>
    cases d with
    | o i => cases h
    | s ns => cases h
    | p d =>
      unfold asPs at h
      cases q : asPs ds with
      | none => rw [q] at h; cases h
      | some fs => rw [q] at h; cases h; simp [ih q]
theorem de_tup {x1} (h : DA X W es fs) : DE X W (.Tuple es x1 pos) (eTup fs) := (pe_tup h).imp fun σ H Q ⟨w, ρ, S, R, E, P⟩ =>
  stepA R E P fun vs w1 H1 S1 ds g1 R1 E1 V1 P1 => by
    unfold kTup at P1
    cases q : asPs ds with
    | none => rw [q] at P1; exact P1.elim
    | some ps =>
      rw [q] at P1
      dsimp only at P1
      split at P1
      · rename_i hl
        have r := asPs_rep q V1
        exact ⟨by rw [r.length]; exact hl, fun p hp => Post.newTup R1 P1 r hp⟩
      · exact P1.elim
theorem de_lst (h : DA X W es fs) : DE X W (.List es pos) (eLst fs) := (pe_lst h).imp fun σ H Q ⟨w, ρ, S, R, E, P⟩ =>
  stepA R E P fun vs w1 H1 S1 ds g1 R1 E1 V1 P1 => by
    unfold kLst at P1
    cases q : asPs ds with
    | none => rw [q] at P1; exact P1.elim
    | some ps =>
      rw [q] at P1
      dsimp only at P1
      split at P1
      · rename_i hl
        have r := asPs_rep q V1
        exact ⟨by rw [r.length]; exact hl, fun p hp => Post.newLst R1 P1 r hp⟩
      · exact P1.elim
theorem de_cell (h : DA X W es fs) : DE X W (.List es pos) (eCell fs) := (pe_lst h).imp fun σ H Q ⟨w, ρ, S, R, E, P⟩ =>
  stepA R E P fun vs w1 H1 S1 ds g1 R1 E1 V1 P1 => by
    unfold kCell at P1
    split at P1
    · rename_i hl
      refine ⟨by rw [V1.length]; exact hl, fun p hp => ?_⟩
      obtain ⟨g, R'⟩ := R1.newC (o := .lst vs) (c := .lst ds) hp (RepVs.grow (w := w1) (w' := w1.addM p) ⟨rfl, rfl, Same.refl _, [p], rfl⟩ V1)
      exact P1 _ _ g R' _ ⟨p, by show (w1.m ++ [p])[S1.length]? = some p; rw [← R1.len]; simp, rfl⟩
    · exact P1.elim
end
end DL
set_option Elab.async false
set_option linter.all false
set_option maxRecDepth 100000
set_option maxHeartbeats 4000000
namespace DL
open PySem PySem.Spec L2

theorem RepVs.get {w : Wd} : ∀ {vs : List V} {ds : List D} {i : Nat} {d : D}, RepVs w vs ds → ds[i]? = some d → ∃ v, vs[i]? = some v ∧ RepV w v d
  | _, _, _, _, .nil, e => by simp at e
  | _, _, 0, _, .cons r _, e => by simp at e; subst e; exact ⟨_, rfl, r⟩
  | _, _, i + 1, d, .cons _ t, e => by
    obtain ⟨u, h1, h2⟩ := RepVs.get (i := i) (d := d) t (by simpa using e)
    exact ⟨u, by simpa using h1, h2⟩
theorem RepVs.get' {w : Wd} : ∀ {vs : List V} {ds : List D} {i : Nat} {v : V}, RepVs w vs ds → vs[i]? = some v → ∃ d, ds[i]? = some d ∧ RepV w v d
  | _, _, _, _, .nil, e => by simp at e
  | _, _, 0, _, .cons r _, e => by simp at e; subst e; exact ⟨_, rfl, r⟩
  | _, _, i + 1, d, .cons _ t, e => by
    obtain ⟨u, h1, h2⟩ := RepVs.get' (i := i) (v := d) t (by simpa using e)
    exact ⟨u, by simpa using h1, h2⟩
theorem RepVs.length {w : Wd} {vs : List V} {ds : List D} (h : RepVs w vs ds) : vs.length = ds.length := Paired.length h
theorem RepVs.append {w : Wd} : ∀ {vs us : List V} {ds es : List D}, RepVs w vs ds → RepVs w us es → RepVs w (vs ++ us) (ds ++ es)
  | _, _, _, _, .nil, s => s
  | _, _, _, _, .cons r t, s => .cons r (RepVs.append t s)
theorem RepVs.take {w : Wd} : ∀ {vs : List V} {ds : List D} (n : Nat), RepVs w vs ds → RepVs w (vs.take n) (ds.take n)
  | _, _, 0, _ => .nil
  | _, _, _ + 1, .nil => .nil
  | _, _, n + 1, .cons r t => .cons r (RepVs.take n t)
theorem RepVs.drop {w : Wd} : ∀ {vs : List V} {ds : List D} (n : Nat), RepVs w vs ds → RepVs w (vs.drop n) (ds.drop n)
  | _, _, 0, r => r
  | _, _, _ + 1, .nil => .nil
  | _, _, n + 1, .cons _ t => RepVs.drop n t
theorem RepVs.set {w : Wd} {v : V} {d : D} (r : RepV w v d) : ∀ {vs : List V} {ds : List D} (i : Nat), RepVs w vs ds → RepVs w (vs.set i v) (ds.set i d)
  | _, _, _, .nil => .nil
  | _, _, 0, .cons _ t => .cons r t
  | _, _, i + 1, .cons q t => .cons q (RepVs.set r i t)
theorem RepVs.dropLast {w : Wd} {vs : List V} {ds : List D} (h : RepVs w vs ds) : RepVs w vs.dropLast ds.dropLast := by
  rw [List.dropLast_eq_take, List.dropLast_eq_take, h.length]
  exact h.take _
theorem RepVs.at_ {w : Wd} {vs : List V} {ds : List D} (h : RepVs w vs ds) {i : Int} {d : D} (e : atI ds i = some d) : ∃ v, atI vs i = some v ∧ RepV w v d := by
  unfold atI at e ⊢
  rw [h.length]
  obtain ⟨j, h1, h2⟩ := Option.bind_eq_some_iff.mp e
  obtain ⟨v, h3, h4⟩ := h.get h2
  exact ⟨v, by rw [h1]; exact h3, h4⟩
theorem RepPs.at_ {Z : Hp} {vs : List V} {ds : List PyData} (h : RepPs Z vs ds) {i : Int} {d : PyData} (e : atI ds i = some d) : ∃ v, atI vs i = some v ∧ RepP Z v d := by
  unfold atI at e ⊢
  rw [h.length]
  obtain ⟨j, h1, h2⟩ := Option.bind_eq_some_iff.mp e
  obtain ⟨v, h3, h4⟩ := h.get h2
  exact ⟨v, by rw [h1]; exact h3, h4⟩
def cutL {α : Type} (xs : List α) (lo hi : Option Int) : List α := (xs.drop (HT.sIx xs.length 0 lo)).take (HT.sIx xs.length xs.length hi - HT.sIx xs.length 0 lo)
section
variable {X : Cx} {W : WX} {e a b c : Expr} {f g k : Fe} {pos : Pos} {es rest : List Expr} {fs : Fl}
/-! ### items, slices -/
def ofO {α : Type} (S : Store) : Option α → R α
  | some a => .ok a S
  | none => .bad
def fIx : D → D → M D
  | .p (.tuple ds), .p (.int i) => fun S => ofO S ((atI ds i).map .p)
  | .p (.str z), .p (.int i) => fun S => if z.length ≤ sizeLine then ofO S ((atI z.cps.toList i).map fun c => .p (.str ⟨#[c]⟩)) else .bad
  | x, .p (.int i) => fun S => ofO S ((items S x).bind fun ds => atI ds i)
  | _, _ => M.bad
theorem ok_ix : R2ok X (rIx X.K) fIx := by
  intro w H S x y dx dy W σ Q R vx vy P
  have lst : ∀ (i : Int), Post X.gm W σ w Q (ofO S ((items S dx).bind fun ds => atI ds i)) → rIxL X.K x (.int i) H Q := fun i P => by
    cases q : items S dx with
    | none => rw [q] at P; exact P.elim
    | some ds =>
      rw [q] at P
      dsimp only [Option.bind] at P
      cases q2 : atI ds i with
      | none => rw [q2] at P; exact P.elim
      | some d =>
        rw [q2] at P
        obtain ⟨a, xs, rfl, hs, r⟩ := items_sq R vx q
        obtain ⟨v, h1, h2⟩ := r.at_ q2
        exact ⟨_, _, _, v, rfl, rfl, hs, h1, Post.here R P h2⟩
  cases dy with
  | o j => cases dx with
    | o i => exact P.elim
    | s ns => exact P.elim
    | p d => cases d <;> exact P.elim
  | s j => cases dx with
    | o i => exact P.elim
    | s ns => exact P.elim
    | p d => cases d <;> exact P.elim
  | p d =>
    cases d with
    | int i =>
      cases vy.cases_p
      cases dx with
      | o j => exact .inl (lst i P)
      | s ns => exact .inl (lst i P)
      | p d =>
        cases d with
        | tuple ds =>
          have vx := vx.cases_p
          cases vx with | tup hx rx =>
          replace P : Post X.gm W σ w Q (ofO S ((atI ds i).map .p)) := P
          cases q : atI ds i with
          | none => rw [q] at P; exact P.elim
          | some d =>
            rw [q] at P
            obtain ⟨v, h1, h2⟩ := rx.at_ q
            exact .inr (.inl ⟨_, _, _, v, rfl, rfl, SqT.of (R.same _ _ hx), h1, Post.here R P h2⟩)
        | str z =>
          cases vx.cases_p
          replace P : Post X.gm W σ w Q (if z.length ≤ sizeLine then ofO S ((atI z.cps.toList i).map fun c => .p (.str ⟨#[c]⟩)) else .bad) := P
          by_cases hl : z.length ≤ sizeLine
          · rw [if_pos hl] at P
            cases q : atI z.cps.toList i with
            | none => rw [q] at P; exact P.elim
            | some d =>
              rw [q] at P
              exact .inr (.inr ⟨_, _, d, rfl, rfl, hl, q, Post.here R P (.str _)⟩)
          · rw [if_neg hl] at P
            exact P.elim
        | none => exact .inl (lst i P)
        | bool _ => exact .inl (lst i P)
        | int _ => exact .inl (lst i P)
        | list _ => exact .inl (lst i P)
        | dict _ => exact .inl (lst i P)
    | _ => cases dx with
      | o i => exact P.elim
      | s ns => exact P.elim
      | p d => cases d <;> exact P.elim
theorem de_item (ha : DE X W a f) (hb : DE X W b g) (hs : PlainIx b := by exact fun _ _ => rfl) : DE X W (.Subscript a b pos) (eBin fIx f g) := de_ix ix_seq ok_ix ha hb hs
abbrev Fo := Sl → M (Option Int)
def tDO (mg : Gm) (W : WX) (f : Fo) : TO := fun σ H Q => ∃ w ρ S, Rep mg w H S ∧ RepE w σ ρ ∧ PostG mg W σ w (fun o _ H' => Q o H') (f ρ S)
abbrev DO (X : Cx) (W : WX) (e : Option Expr) (f : Fo) : Prop := PO X e (tDO X.gm W f)
def oNone : Fo := fun _ => M.pure none
def asI : D → M (Option Int)
  | .p (.int i) => M.pure (some i)
  | _ => M.bad
def oSome (f : Fe) : Fo := fun ρ => M.bind (f ρ) asI
theorem do_none : DO X W none oNone := ⟨fun pins s σ H Q I ⟨w, ρ, S, R, E, P⟩ => po_none.run pins s σ H Q I (P w H (Grow.refl w) R)⟩
theorem do_some (h : DE X W e f) : DO X W (some e) (oSome f) := ⟨fun pins s σ H Q I ⟨w, ρ, S, R, E, P⟩ => (po_some h).run pins s σ H Q I (by
  refine stepE R E P fun v w1 H1 S1 d g1 R1 E1 V1 P1 => ?_
  unfold asI at P1
  split at P1
  · cases V1.cases_p
    exact ⟨_, rfl, P1 w1 H1 (Grow.refl _) R1⟩
  · exact P1.elim)⟩
theorem stepO {β : Type} {mg : Gm} {σ : L2.St} {w : Wd} {H : Hp} {S : Store} {ρ : Sl} {ok : β → Wd → Hp → Prop} {f : Fo} {k : Option Int → M β} {Q : Option Int → Hp → Prop} (R : Rep mg w H S) (E : RepE w σ ρ) (P : PostG mg W σ w ok (M.bind (f ρ) k S))
    (q : ∀ b w1 H1 S1, Grow w w1 → Rep mg w1 H1 S1 → RepE w1 σ ρ → PostG mg W σ w1 ok (k b S1) → Q b H1) : tDO mg W f σ H Q := by
  refine ⟨w, ρ, S, R, E, ?_⟩
  unfold M.bind at P
  cases h : f ρ S with
  | ok d S' => rw [h] at P; exact fun w' H' g R' => q d w' H' S' g R' (E.grow g) (P.grow g)
  | exc x S' => rw [h] at P; exact P
  | bad => rw [h] at P; exact P
def fSl (lo hi : Option Int) : D → M D
  | .p (.tuple ds) => M.pure (.p (.tuple (cutL ds lo hi)))
  | .p (.str z) => fun S => if z.length ≤ sizeLine then .ok (.p (.str (cutS z lo hi))) S else .bad
  | x => fun S => ofO S ((items S x).bind fun ds => (asPs (cutL ds lo hi)).map fun es => .p (.list es))
def eSl (f : Fe) (fo go : Fo) : Fe := fun ρ => M.bind (f ρ) fun x => M.bind (fo ρ) fun lo => M.bind (go ρ) fun hi => fSl lo hi x
theorem cut_whole {α : Type} {xs : List α} {lo hi : Option Int} (h : HT.sIx xs.length 0 lo = 0 ∧ HT.sIx xs.length xs.length hi = xs.length) : cutL xs lo hi = xs := by
  unfold cutL
  rw [h.1, h.2]
  simp
theorem RepPs.cut {Z : Hp} {vs : List V} {ds : List PyData} (h : RepPs Z vs ds) (lo hi : Option Int) : RepPs Z (cutV vs lo hi) (cutL ds lo hi) := by
  unfold cutV cutL
  rw [h.length]
  exact (h.drop _).take _
theorem RepVs.cut {w : Wd} {vs : List V} {ds : List D} (h : RepVs w vs ds) (lo hi : Option Int) : RepVs w (cutV vs lo hi) (cutL ds lo hi) := by
  unfold cutV cutL
  rw [h.length]
  exact RepVs.take _ (RepVs.drop _ h)
def rSlD (K : PySem.W.Frag) : V → Option Int → Option Int → Hp → VK → Prop := fun x lo hi H Q => rSlA K x lo hi H Q ∨ (∃ z, x = .str z ∧ z.length ≤ sizeLine ∧ Q (.str (cutS z lo hi)) H) ∨ rSlL K x lo hi H Q
theorem sl_D : SlR X (rSlD X.K) := sl_tupA.or (sl_str.or sl_list)
theorem de_slice {lo hi : Option Expr} {fo go : Fo} {p2 : Pos} (he : DE X W e f) (hl : DO X W lo fo) (hu : DO X W hi go) : DE X W (.Subscript e (.Slice lo hi none p2) pos) (eSl f fo go) := (pe_slice sl_D he hl hu).imp fun σ H Q ⟨w, ρ, S, R, E, P⟩ => by
  refine stepE R E P fun x w1 H1 S1 dx g1 R1 E1 V1 P1 => stepO R1 E1 P1 fun lo w2 H2 S2 g2 R2 E2 P2 => stepO R2 E2 P2 fun hi w3 H3 S3 g3 R3 E3 P3 => ?_
  have V3 := V1.grow (g2.trans g3)
  have lst : Post X.gm W σ w3 Q (ofO S3 ((items S3 dx).bind fun ds => (asPs (cutL ds lo hi)).map fun es => .p (.list es))) → rSlL X.K x lo hi H3 Q := fun P3 => by
    cases q : items S3 dx with
    | none => rw [q] at P3; exact P3.elim
    | some ds =>
      rw [q] at P3
      dsimp only [Option.bind] at P3
      cases q2 : asPs (cutL ds lo hi) with
      | none => rw [q2] at P3; exact P3.elim
      | some es =>
        rw [q2] at P3
        obtain ⟨a, xs, rfl, hs, r⟩ := items_sq R3 V3 q
        exact ⟨a, xs, rfl, hs, fun p hp => Post.newLst R3 P3 (asPs_rep q2 (r.cut lo hi)) hp⟩
  cases dx with
  | o j => exact .inr (.inr (lst P3))
  | s ns => exact .inr (.inr (lst P3))
  | p d =>
    cases d with
    | tuple ds =>
      have V3 := V3.cases_p
      cases V3 with | tup hx rx =>
      refine .inl ⟨_, _, rfl, SqT.of (R3.same _ _ hx), fun hw => ?_, fun _ p hp => Post.newTup R3 P3 (rx.cut lo hi) hp⟩
      rw [rx.length] at hw
      replace P3 : Post X.gm W σ w3 Q (.ok (.p (.tuple (cutL ds lo hi))) S3) := P3
      rw [cut_whole hw] at P3
      exact Post.here R3 P3 (.tup hx rx)
    | str z =>
      cases V3.cases_p
      replace P3 : Post X.gm W σ w3 Q (if z.length ≤ sizeLine then .ok (.p (.str (cutS z lo hi))) S3 else .bad) := P3
      by_cases hl : z.length ≤ sizeLine
      · rw [if_pos hl] at P3
        exact .inr (.inl ⟨_, rfl, hl, Post.here R3 P3 (.str _)⟩)
      · rw [if_neg hl] at P3
        exact P3.elim
    | none => exact .inr (.inr (lst P3))
    | bool _ => exact .inr (.inr (lst P3))
    | int _ => exact .inr (.inr (lst P3))
    | list _ => exact .inr (.inr (lst P3))
    | dict _ => exact .inr (.inr (lst P3))
end
end DL
set_option Elab.async false
set_option linter.all false
set_option maxRecDepth 100000
set_option maxHeartbeats 4000000
namespace DL
open PySem PySem.Spec L2
section
variable {X : Cx} {W : WX} {e a b c : Expr} {f g k : Fe} {pos : Pos} {es rest : List Expr} {fs : Fl}
/-! ### built-in calls -/
def C1ok (X : Cx) (r : List V → Hp → VK → Prop) (F : List D → M D) : Prop := ∀ (w : Wd) (H : Hp) (S : Store) (xs : List V) (ds : List D) (W : WX) (σ : L2.St) (Q : VK), Rep X.gm w H S → RepVs w xs ds → Post X.gm W σ w Q (F ds S) → r xs H Q
def eCB (F : List D → M D) (g : Fl) : Fe := fun ρ => M.bind (g ρ) F
theorem de_callB {id : String} {x : Str} {p : Pos} {r : List V → Hp → VK → Prop} {F : List D → M D} (hc : CallR X (.builtin id) r) (hF : C1ok X r F) (hg : Gl X x) (hm : X.mg x = none) (hv : bootBuiltins x = some (.builtin id)) (ha : DA X W (e :: es) fs)
    (hn : x ≠ "__name__" := by decide) (hdb : (x == ("__debug__" : Str)) = false := by decide) (he : starEach (e :: es) X.env = (false, eval e X.env) :: starEach es X.env := by rfl) (hpl : (backTo pos (starEach es X.env)).any (·.1) = false := by rfl) :
    DE X W (.Call (.Name x p) (e :: es) [] pos) (eCB F fs) := (pe_callB hc hg hm hv ha hn hdb he hpl).imp fun σ H Q ⟨w, ρ, S, R, E, P⟩ =>
  stepA R E P fun vs w1 H1 S1 ds g1 R1 E1 V1 P1 => hF w1 H1 S1 vs ds W σ Q R1 V1 P1
theorem de_callTy {T : String} {x : Str} {p : Pos} {r : List V → Hp → VK → Prop} {F : List D → M D} (hc : CallR X (.type T) r) (hF : C1ok X r F) (hg : Gl X x) (hm : X.mg x = none) (hv : bootBuiltins x = some (.type T)) (ha : DA X W (e :: es) fs)
    (hn : x ≠ "__name__" := by decide) (hdb : (x == ("__debug__" : Str)) = false := by decide) (he : starEach (e :: es) X.env = (false, eval e X.env) :: starEach es X.env := by rfl) (hpl : (backTo pos (starEach es X.env)).any (·.1) = false := by rfl) :
    DE X W (.Call (.Name x p) (e :: es) [] pos) (eCB F fs) := (pe_callTy hc hg hm hv ha hn hdb he hpl).imp fun σ H Q ⟨w, ρ, S, R, E, P⟩ =>
  stepA R E P fun vs w1 H1 S1 ds g1 R1 E1 V1 P1 => hF w1 H1 S1 vs ds W σ Q R1 V1 P1
theorem RepVs.one {w : Wd} {xs : List V} {d : D} (h : RepVs w xs [d]) : ∃ x, xs = [x] ∧ RepV w x d := by
  cases h with | cons h1 h2 => cases h2; exact ⟨_, rfl, h1⟩
theorem RepVs.two {w : Wd} {xs : List V} {d e : D} (h : RepVs w xs [d, e]) : ∃ x y, xs = [x, y] ∧ RepV w x d ∧ RepV w y e := by
  cases h with | cons h1 h2 => cases h2 with | cons h2 h3 => cases h3; exact ⟨_, _, rfl, h1, h2⟩
/-- a one-argument function of values -/
def on1 (F : D → M D) : List D → M D
  | [d] => F d
  | _ => M.bad
theorem ok_on1 {r : List V → Hp → VK → Prop} {F : D → M D} (h : ∀ (w : Wd) (H : Hp) (S : Store) (x : V) (d : D) (W : WX) (σ : L2.St) (Q : VK), Rep X.gm w H S → RepV w x d → Post X.gm W σ w Q (F d S) → r [x] H Q) : C1ok X r (on1 F) := by
  intro w H S xs ds W σ Q R V P
  unfold on1 at P
  split at P
  · obtain ⟨x, rfl, v⟩ := RepVs.one V
    exact h w H S x _ W σ Q R v P
  · exact P.elim
def fLen : D → M D
  | .p (.str z) => fun S => if z.length ≤ sizeLine then .ok (.p (.int z.length)) S else .bad
  | .p (.tuple ds) => M.pure (.p (.int ds.length))
  | x => fun S => ofO S ((items S x).map fun ds => .p (.int ds.length))
theorem ok_len : C1ok X (fun xs H Q => ∃ x n, xs = [x] ∧ LenV X.K x H n ∧ Q (.int n) H) (on1 fLen) := ok_on1 fun w H S x d W σ Q R v P => by
  unfold fLen at P
  split at P
  · cases v.cases_p
    split at P
    · rename_i hl
      exact ⟨_, _, rfl, ⟨hl, rfl⟩, Post.here R P (.int _)⟩
    · exact P.elim
  · have v := v.cases_p
    cases v with | tup hx rx =>
    refine ⟨_, _, rfl, .inr ⟨_, SqT.of (R.same _ _ hx), rfl⟩, ?_⟩
    rw [rx.length]
    exact Post.here R P (.int _)
  · dsimp only at P
    cases q : items S d with
    | none => rw [q] at P; exact P.elim
    | some ds =>
      rw [q] at P
      obtain ⟨a, xs, rfl, hs, r⟩ := items_sq R v q
      refine ⟨_, _, rfl, .inl ⟨xs, hs, rfl⟩, ?_⟩
      rw [r.length]
      exact Post.here R P (.int _)
theorem de_len {p : Pos} (hg : Gl X "len") (hm : X.mg "len" = none) (ha : DE X W e f) (he : starEach [e] X.env = (false, eval e X.env) :: starEach [] X.env := by rfl) (hpl : (backTo pos (starEach [] X.env)).any (·.1) = false := by rfl) :
    DE X W (.Call (.Name "len" p) [e] [] pos) (eCB (on1 fLen) (aCons f aNil)) := de_callB call_len ok_len hg hm PySem.boot_len (da_cons ha da_nil he) (by decide) (by decide) he hpl
def fInt : D → M D
  | .p (.int i) => M.pure (.p (.int i))
  | .p (.bool b) => M.pure (.p (.int (if b then 1 else 0)))
  | _ => M.bad
theorem ok_int1 : C1ok X (fun xs H Q => (∃ i, xs = [.int i] ∧ Q (.int i) H) ∨ ∃ k, xs = [.bl k] ∧ Q (.int (if k then 1 else 0)) H) (on1 fInt) := ok_on1 fun w H S x d W σ Q R v P => by
  unfold fInt at P
  split at P
  · cases v.cases_p; exact .inl ⟨_, rfl, Post.here R P (.int _)⟩
  · cases v.cases_p; exact .inr ⟨_, rfl, Post.here R P (.int _)⟩
  · exact P.elim
theorem de_toInt {p : Pos} (hg : Gl X "int") (hm : X.mg "int" = none) (ha : DE X W e f) (he : starEach [e] X.env = (false, eval e X.env) :: starEach [] X.env := by rfl) (hpl : (backTo pos (starEach [] X.env)).any (·.1) = false := by rfl) :
    DE X W (.Call (.Name "int" p) [e] [] pos) (eCB (on1 fInt) (aCons f aNil)) := de_callTy call_int1 ok_int1 hg hm PyProof.Rows.boot_int (da_cons ha da_nil he) (by decide) (by decide) he hpl
def fAbs : D → M D
  | .p (.int i) => M.pure (.p (.int (if i < 0 then -i else i)))
  | _ => M.bad
theorem ok_abs : C1ok X (fun xs H Q => ∃ i, xs = [.int i] ∧ Q (.int (if i < 0 then -i else i)) H) (on1 fAbs) := ok_on1 fun w H S x d W σ Q R v P => by
  unfold fAbs at P
  split at P
  · cases v.cases_p; exact ⟨_, rfl, Post.here R P (.int _)⟩
  · exact P.elim
theorem de_abs {p : Pos} (hg : Gl X "abs") (hm : X.mg "abs" = none) (ha : DE X W e f) (he : starEach [e] X.env = (false, eval e X.env) :: starEach [] X.env := by rfl) (hpl : (backTo pos (starEach [] X.env)).any (·.1) = false := by rfl) :
    DE X W (.Call (.Name "abs" p) [e] [] pos) (eCB (on1 fAbs) (aCons f aNil)) := de_callB call_abs ok_abs hg hm PyProof.Rows.boot_abs (da_cons ha da_nil he) (by decide) (by decide) he hpl
def fStr : D → M D
  | .p (.int i) => fun S => if i.natAbs.log2 < 1920 then .ok (.p (.str (toString i))) S else .bad
  | _ => M.bad
theorem ok_str : C1ok X (fun xs H Q => ∃ i, xs = [.int i] ∧ i.natAbs.log2 < 1920 ∧ Q (.str (toString i)) H) (on1 fStr) := ok_on1 fun w H S x d W σ Q R v P => by
  unfold fStr at P
  split at P
  · cases v.cases_p
    split at P
    · rename_i hl; exact ⟨_, rfl, hl, Post.here R P (.str _)⟩
    · exact P.elim
  · exact P.elim
theorem de_toStr {p : Pos} (hg : Gl X "str") (hm : X.mg "str" = none) (ha : DE X W e f) (he : starEach [e] X.env = (false, eval e X.env) :: starEach [] X.env := by rfl) (hpl : (backTo pos (starEach [] X.env)).any (·.1) = false := by rfl) :
    DE X W (.Call (.Name "str" p) [e] [] pos) (eCB (on1 fStr) (aCons f aNil)) := de_callTy call_str_int ok_str hg hm PyProof.Rows.boot_str (da_cons ha da_nil he) (by decide) (by decide) he hpl
def fTuple : D → M D
  | .p (.tuple ds) => M.pure (.p (.tuple ds))
  | x => fun S => ofO S ((items S x).bind fun ds => (asPs ds).map fun es => .p (.tuple es))
theorem ok_tuple : C1ok X (fun xs H Q => ∃ p ys, xs = [.ref p] ∧ ((SqL X.K H p ys ∧ ∀ l, H l = none → Q (.ref l) (upd H l (.tup ys))) ∨ (SqT X.K H p ys ∧ Q (.ref p) H))) (on1 fTuple) := ok_on1 fun w H S x d W σ Q R v P => by
  unfold fTuple at P
  split at P
  · have v := v.cases_p
    cases v with | tup hx rx =>
    exact ⟨_, _, rfl, .inr ⟨SqT.of (R.same _ _ hx), Post.here R P (.tup hx rx)⟩⟩
  · dsimp only at P
    cases q : items S d with
    | none => rw [q] at P; exact P.elim
    | some ds =>
      rw [q] at P
      dsimp only [Option.bind] at P
      cases q2 : asPs ds with
      | none => rw [q2] at P; exact P.elim
      | some es =>
        rw [q2] at P
        obtain ⟨a, xs, rfl, hs, r⟩ := items_sq R v q
        exact ⟨a, xs, rfl, .inl ⟨hs, fun p hp => Post.newTup R P (asPs_rep q2 r) hp⟩⟩
theorem de_tuple {p : Pos} (hg : Gl X "tuple") (hm : X.mg "tuple" = none) (ha : DE X W e f) (he : starEach [e] X.env = (false, eval e X.env) :: starEach [] X.env := by rfl) (hpl : (backTo pos (starEach [] X.env)).any (·.1) = false := by rfl) :
    DE X W (.Call (.Name "tuple" p) [e] [] pos) (eCB (on1 fTuple) (aCons f aNil)) := de_callTy call_tuple_of ok_tuple hg hm PyProof.Rows.boot_tuple (da_cons ha da_nil he) (by decide) (by decide) he hpl
def fList : D → M D
  | .p (.tuple ds) => M.pure (.p (.list ds))
  | x => fun S => ofO S ((items S x).bind fun ds => (asPs ds).map fun es => .p (.list es))
theorem ok_list : C1ok X (fun xs H Q => ∃ p ys, xs = [.ref p] ∧ (SqL X.K H p ys ∨ SqT X.K H p ys) ∧ ∀ l, H l = none → Q (.ref l) (upd H l (.lst ys))) (on1 fList) := ok_on1 fun w H S x d W σ Q R v P => by
  unfold fList at P
  split at P
  · have v := v.cases_p
    cases v with | tup hx rx =>
    exact ⟨_, _, rfl, .inr (SqT.of (R.same _ _ hx)), fun p hp => Post.newLst R P rx hp⟩
  · dsimp only at P
    cases q : items S d with
    | none => rw [q] at P; exact P.elim
    | some ds =>
      rw [q] at P
      dsimp only [Option.bind] at P
      cases q2 : asPs ds with
      | none => rw [q2] at P; exact P.elim
      | some es =>
        rw [q2] at P
        obtain ⟨a, xs, rfl, hs, r⟩ := items_sq R v q
        exact ⟨a, xs, rfl, .inl hs, fun p hp => Post.newLst R P (asPs_rep q2 r) hp⟩
theorem de_list {p : Pos} (hg : Gl X "list") (hm : X.mg "list" = none) (ha : DE X W e f) (he : starEach [e] X.env = (false, eval e X.env) :: starEach [] X.env := by rfl) (hpl : (backTo pos (starEach [] X.env)).any (·.1) = false := by rfl) :
    DE X W (.Call (.Name "list" p) [e] [] pos) (eCB (on1 fList) (aCons f aNil)) := de_callTy call_list_of ok_list hg hm PyProof.Rows.boot_list (da_cons ha da_nil he) (by decide) (by decide) he hpl
/-! sums, tests over a list of data -/
def asInts : List D → Option (List Int)
  | [] => some []
  | .p (.int i) :: r => (asInts r).map (i :: ·)
  | _ :: _ => none
def asBools : List D → Option (List Bool)
  | [] => some []
  | .p (.bool i) :: r => (asBools r).map (i :: ·)
  | _ :: _ => none
theorem asInts_rep {w : Wd} : ∀ {ds : List D} {ns : List Int} {vs : List V}, asInts ds = some ns → RepVs w vs ds → vs = ns.map V.int
  | [], ns, vs, h, r => by cases h; cases r; rfl
  | .o _ :: _, _, _, h, _ => by cases h
  | .p d :: ds, ns, vs, h, r => by
    cases d with
    | int i =>
      obtain ⟨ms, q, e⟩ := Option.map_eq_some_iff.mp (show (asInts ds).map (i :: ·) = some ns from h)
      subst e
      cases r with
      | cons r1 r2 =>
        cases r1.cases_p
        rw [asInts_rep q r2]
        rfl
    | _ => cases h
theorem asBools_rep {w : Wd} : ∀ {ds : List D} {ns : List Bool} {vs : List V}, asBools ds = some ns → RepVs w vs ds → vs = ns.map V.bl
  | [], ns, vs, h, r => by cases h; cases r; rfl
  | .o _ :: _, _, _, h, _ => by cases h
  | .p d :: ds, ns, vs, h, r => by
    cases d with
    | bool i =>
      obtain ⟨ms, q, e⟩ := Option.map_eq_some_iff.mp (show (asBools ds).map (i :: ·) = some ns from h)
      subst e
      cases r with
      | cons r1 r2 =>
        cases r1.cases_p
        rw [asBools_rep q r2]
        rfl
    | _ => cases h
def fSum : D → M D := fun x S => ofO S ((items S x).bind fun ds => (asInts ds).map fun ns => .p (.int ns.sum))
def fAll : D → M D := fun x S => ofO S ((items S x).bind fun ds => (asBools ds).map fun ns => .p (.bool (ns.all id)))
def fAny : D → M D := fun x S => ofO S ((items S x).bind fun ds => (asBools ds).map fun ns => .p (.bool (ns.any id)))
theorem ok_sum : C1ok X (rSum X.K) (on1 fSum) := ok_on1 fun w H S x d W σ Q R v P => by
  unfold fSum at P
  cases q : items S d with
  | none => rw [q] at P; exact P.elim
  | some ds =>
    rw [q] at P
    dsimp only [Option.bind] at P
    cases q2 : asInts ds with
    | none => rw [q2] at P; exact P.elim
    | some es =>
      rw [q2] at P
      obtain ⟨a, xs, rfl, hs, r⟩ := items_sq R v q
      rw [asInts_rep q2 r] at hs
      exact ⟨a, es, rfl, hs, Post.here R P (.int _)⟩
theorem ok_all : C1ok X (rAll X.K) (on1 fAll) := ok_on1 fun w H S x d W σ Q R v P => by
  unfold fAll at P
  cases q : items S d with
  | none => rw [q] at P; exact P.elim
  | some ds =>
    rw [q] at P
    dsimp only [Option.bind] at P
    cases q2 : asBools ds with
    | none => rw [q2] at P; exact P.elim
    | some es =>
      rw [q2] at P
      obtain ⟨a, xs, rfl, hs, r⟩ := items_sq R v q
      rw [asBools_rep q2 r] at hs
      exact ⟨a, es, rfl, hs, Post.here R P (.bl _)⟩
theorem ok_any : C1ok X (rAny X.K) (on1 fAny) := ok_on1 fun w H S x d W σ Q R v P => by
  unfold fAny at P
  cases q : items S d with
  | none => rw [q] at P; exact P.elim
  | some ds =>
    rw [q] at P
    dsimp only [Option.bind] at P
    cases q2 : asBools ds with
    | none => rw [q2] at P; exact P.elim
    | some es =>
      rw [q2] at P
      obtain ⟨a, xs, rfl, hs, r⟩ := items_sq R v q
      rw [asBools_rep q2 r] at hs
      exact ⟨a, es, rfl, hs, Post.here R P (.bl _)⟩
theorem de_sum {p : Pos} (hg : Gl X "sum") (hm : X.mg "sum" = none) (hc : X.calm = true) (ha : DE X W e f) (he : starEach [e] X.env = (false, eval e X.env) :: starEach [] X.env := by rfl) (hpl : (backTo pos (starEach [] X.env)).any (·.1) = false := by rfl) :
    DE X W (.Call (.Name "sum" p) [e] [] pos) (eCB (on1 fSum) (aCons f aNil)) := de_callB (cr_sum hc) ok_sum hg hm PyProof.Rows.boot_sum (da_cons ha da_nil he) (by decide) (by decide) he hpl
theorem de_all {p : Pos} (hg : Gl X "all") (hm : X.mg "all" = none) (hc : X.calm = true) (ha : DE X W e f) (he : starEach [e] X.env = (false, eval e X.env) :: starEach [] X.env := by rfl) (hpl : (backTo pos (starEach [] X.env)).any (·.1) = false := by rfl) :
    DE X W (.Call (.Name "all" p) [e] [] pos) (eCB (on1 fAll) (aCons f aNil)) := de_callB (cr_all hc) ok_all hg hm PyProof.Rows.boot_all (da_cons ha da_nil he) (by decide) (by decide) he hpl
theorem de_any {p : Pos} (hg : Gl X "any") (hm : X.mg "any" = none) (hc : X.calm = true) (ha : DE X W e f) (he : starEach [e] X.env = (false, eval e X.env) :: starEach [] X.env := by rfl) (hpl : (backTo pos (starEach [] X.env)).any (·.1) = false := by rfl) :
    DE X W (.Call (.Name "any" p) [e] [] pos) (eCB (on1 fAny) (aCons f aNil)) := de_callB (cr_any hc) ok_any hg hm PyProof.Rows.boot_any (da_cons ha da_nil he) (by decide) (by decide) he hpl
def on2 (F : D → D → M D) : List D → M D
  | [d, e] => F d e
  | _ => M.bad
def fMax := fI0 fun i j => .int (if j > i then j else i)
def fMin := fI0 fun i j => .int (if j < i then j else i)
theorem ok_max2 : C1ok X (fun xs H Q => ∃ i j, xs = [.int i, .int j] ∧ Q (.int (if j > i then j else i)) H) (on2 fMax) := by
  intro w H S xs ds W σ Q R V P
  unfold on2 fMax fI0 at P
  split at P
  · obtain ⟨x, y, rfl, vx, vy⟩ := RepVs.two V
    split at P
    · cases vx.cases_p; cases vy.cases_p
      exact ⟨_, _, rfl, Post.here R P (.int _)⟩
    · exact P.elim
  · exact P.elim
theorem ok_min2 : C1ok X (fun xs H Q => ∃ i j, xs = [.int i, .int j] ∧ Q (.int (if j < i then j else i)) H) (on2 fMin) := by
  intro w H S xs ds W σ Q R V P
  unfold on2 fMin fI0 at P
  split at P
  · obtain ⟨x, y, rfl, vx, vy⟩ := RepVs.two V
    split at P
    · cases vx.cases_p; cases vy.cases_p
      exact ⟨_, _, rfl, Post.here R P (.int _)⟩
    · exact P.elim
  · exact P.elim
theorem de_max2 {p : Pos} (hg : Gl X "max") (hm : X.mg "max" = none) (hc : X.calm = true) (ha : DE X W a f) (hb : DE X W b g) (he : starEach [a, b] X.env = (false, eval a X.env) :: starEach [b] X.env := by rfl) (he' : starEach [b] X.env = (false, eval b X.env) :: starEach [] X.env := by rfl) (hpl : (backTo pos (starEach [b] X.env)).any (·.1) = false := by rfl) :
    DE X W (.Call (.Name "max" p) [a, b] [] pos) (eCB (on2 fMax) (aCons f (aCons g aNil))) := de_callB (call_max2 hc) ok_max2 hg hm PyProof.Rows.boot_max (da_cons ha (da_cons hb da_nil he') he) (by decide) (by decide) he hpl
theorem de_min2 {p : Pos} (hg : Gl X "min") (hm : X.mg "min" = none) (hc : X.calm = true) (ha : DE X W a f) (hb : DE X W b g) (he : starEach [a, b] X.env = (false, eval a X.env) :: starEach [b] X.env := by rfl) (he' : starEach [b] X.env = (false, eval b X.env) :: starEach [] X.env := by rfl) (hpl : (backTo pos (starEach [b] X.env)).any (·.1) = false := by rfl) :
    DE X W (.Call (.Name "min" p) [a, b] [] pos) (eCB (on2 fMin) (aCons f (aCons g aNil))) := de_callB (call_min2 hc) ok_min2 hg hm PyProof.Rows.boot_min (da_cons ha (da_cons hb da_nil he') he) (by decide) (by decide) he hpl

/-! ### isinstance against a built-in class -/
def tyP : PyData → String
  | .none => "NoneType"
  | .bool _ => "bool"
  | .int _ => "int"
  | .str _ => "str"
  | .list _ => "list"
  | .tuple _ => "tuple"
  | .dict _ => "dict"
def Cell.ty? : Cell → Option String
  | .lst _ => some "list"
  | .scr _ => some "list"
  | _ => none
def tyC (S : Store) : D → Option String
  | .p d => some (tyP d)
  | .o i => S[i]?.bind Cell.ty?
  | .s _ => some "list"
def fIsi (T : String) : D → M D := fun x S => ofO S ((tyC S x).bind fun t => (kitB t T).map fun b => .p (.bool b))
theorem tyC_ty {w : Wd} {H : Hp} {S : Store} {x : V} {d : D} {t : String} (R : Rep X.gm w H S) (v : RepV w x d) (h : tyC S d = some t) : TyX X.K H x (.type t) := by
  cases d with
  | s ns =>
    cases h
    obtain ⟨a, rfl, q⟩ := v
    rw [R.kk] at q
    rcases R.same.seq q with (q | ⟨o, q⟩) | ⟨o, its, n, h1, h2, _⟩
    · exact .base (.lst q)
    · exact .base (.frz q)
    · exact .kList h1 h2
  | p d =>
    cases h
    have v := v.cases_p
    cases v with
    | non => exact .base .non
    | bl b => exact .base (.bl b)
    | int i => exact .base (.int i)
    | str s => exact .base (.str s)
    | lst h1 h2 => exact .base (.lst (R.same _ _ h1))
    | tup h1 h2 => exact .base (.tup (R.same _ _ h1))
  | o i =>
    obtain ⟨a, ha, rfl⟩ := v
    obtain ⟨cc, q, h⟩ := Option.bind_eq_some_iff.mp (show S[i]?.bind Cell.ty? = some t from h)
    obtain ⟨o, ho, r⟩ := R.at_ ha q
    cases cc with
    | lst ds =>
      cases h
      obtain ⟨xs, rfl, _⟩ := r.lst_inv
      exact .base (.lst ho)
    | scr ds =>
      cases h
      obtain ⟨ob, xs, rfl, _⟩ := r.scr_inv
      exact .base (.frz ho)
    | _ => cases h
theorem de_isi {T : String} {y : Str} {p p2 : Pos} (hg : Gl X "isinstance") (hm : X.mg "isinstance" = none) (hgT : Gl X y) (hmT : X.mg y = none) (hv : bootBuiltins y = some (.type T)) (ha : DE X W e f)
    (hnT : y ≠ "__name__" := by decide) (hdT : (y == ("__debug__" : Str)) = false := by decide)
    (he : starEach [e, .Name y p2] X.env = (false, eval e X.env) :: starEach [.Name y p2] X.env := by rfl) (he' : starEach [.Name y p2] X.env = (false, eval (.Name y p2) X.env) :: starEach [] X.env := by rfl) (hpl : (backTo pos (starEach [.Name y p2] X.env)).any (·.1) = false := by rfl) :
    DE X W (.Call (.Name "isinstance" p) [e, .Name y p2] [] pos) (eUn (fIsi T) f) :=
  (pe_callB call_isi hg hm PyProof.Rows.boot_isinstance (pa_cons ha (pa_cons (pe_bltn (v := .ty T) hgT hmT hv rfl hnT hdT) pa_nil he') he) (by decide) (by decide) he hpl).imp fun σ H Q ⟨w, ρ, S, R, E, P⟩ => by
    refine stepE R E P fun x w1 H1 S1 d g1 R1 E1 V1 P1 => ?_
    unfold fIsi at P1
    cases q : tyC S1 d with
    | none => rw [q] at P1; exact P1.elim
    | some t =>
      rw [q] at P1
      dsimp only [Option.bind] at P1
      cases q2 : kitB t T with
      | none => rw [q2] at P1; exact P1.elim
      | some b =>
        rw [q2] at P1
        exact ⟨x, .ty T, .type t, .type T, b, rfl, .ty T, tyC_ty R1 V1 q, kit_ty q2, Post.here R1 P1 (.bl _)⟩

/-! ### fields of instances -/
def insAt (S : Store) (i : Nat) : Option (Str × List (Str × D)) := match S[i]? with
  | some (.ins c fs) => some (c, fs)
  | _ => none
def fFld (c : Str) (m : Str) : D → M D
  | .o i => fun S => ofO S ((insAt S i).bind fun p => if p.1 = c then p.2.lookup m else none)
  | _ => M.bad
theorem RepF.look {w : Wd} {m : Str} : ∀ {fs : List (Str × V)} {gs : List (Str × D)}, RepF w fs gs → (∀ d, gs.lookup m = some d → ∃ v, fs.lookup m = some v ∧ RepV w v d) ∧ (gs.lookup m = none → fs.lookup m = none)
  | _, _, .nil => ⟨fun d e => by simp at e, fun _ => rfl⟩
  | (a, x) :: fs, (b, y) :: gs, .cons ⟨h1, h2⟩ t => by
    have h1 : a = b := h1
    subst h1
    obtain ⟨i1, i2⟩ := RepF.look (m := m) t
    constructor
    · intro d e
      rw [List.lookup_cons] at e ⊢
      cases q : m == a with
      | true => rw [q] at e; cases e; exact ⟨x, rfl, h2⟩
      | false => rw [q] at e; exact i1 d e
    · intro e
      rw [List.lookup_cons] at e ⊢
      cases q : m == a with
      | true => rw [q] at e; cases e
      | false => rw [q] at e; exact i2 e
theorem insAt_some {S : Store} {i : Nat} {p : Str × List (Str × D)} (h : insAt S i = some p) : S[i]? = some (.ins p.1 p.2) := by
  unfold insAt at h
  split at h
  · rename_i h'; cases h; exact h'
  · cases h
theorem de_fld {C : Addr} {c m : Str} (hmc : X.mg c = some (.ref C)) (cl : Cls X.K C) (nm : NoAttr X.K C m) (he : DE X W e f) (hb : attributeBase e m X.env (eval e X.env) = eval e X.env := by rfl) : DE X W (.Attribute e m pos) (eUn (fFld c m) f) := (pe_fld he hb).imp fun σ H Q ⟨w, ρ, S, R, E, P⟩ => by
  refine stepE R E P fun x w1 H1 S1 d g1 R1 E1 V1 P1 => ?_
  cases d with
  | s ns => exact P1.elim
  | p d => exact P1.elim
  | o i =>
    replace P1 : Post X.gm W σ w1 Q (ofO S1 ((insAt S1 i).bind fun p => if p.1 = c then p.2.lookup m else none)) := P1
    cases q : insAt S1 i with
    | none => rw [q] at P1; exact P1.elim
    | some pr =>
      rw [q] at P1
      dsimp only [Option.bind] at P1
      by_cases hc : pr.1 = c
      · rw [if_pos hc] at P1
        cases q2 : pr.2.lookup m with
        | none => rw [q2] at P1; exact P1.elim
        | some d =>
          rw [q2] at P1
          obtain ⟨a, ha, rfl⟩ := V1
          obtain ⟨o, ho, r⟩ := R1.at_ ha (insAt_some q)
          obtain ⟨C', dx, xs, rfl, hmg, rf⟩ := r.ins_inv
          have hmg : X.mg pr.1 = some (.ref C') := hmg
          rw [hc, hmc] at hmg
          cases hmg
          obtain ⟨v, h1, h2⟩ := rf.look.1 d q2
          exact ⟨a, C, dx, xs, v, rfl, ho, cl, nm, h1, Post.here R1 P1 h2⟩
      · rw [if_neg hc] at P1
        exact P1.elim
end
end DL
set_option Elab.async false
set_option linter.all false
set_option maxRecDepth 100000
set_option maxHeartbeats 4000000
namespace DL
open PySem PySem.Spec L2
section
variable {X : Cx} {W : WX} {e a b c : Expr} {f g k : Fe} {pos : Pos} {es rest : List Expr} {fs : Fl} {st : Stmt} {sts : List Stmt} {u v : Fs}

/-! ### blocks, small statements -/
def sNil : Fs := fun ρ S => .nx ρ S
def thenS (r : RS) (k : Fs) : RS := match r with
  | .nx ρ S => k ρ S
  | r => r
def sSeq (u v : Fs) : Fs := fun ρ S => thenS (u ρ S) v
theorem dss_nil : DSs X W [] sNil := pss_nil.imp fun E σ H ⟨w, ρ, S, R, e, P⟩ => P σ w H (Grow.refl w) R e
theorem dss_cons (h1 : DS X W st u) (h2 : DSs X W sts v) : DSs X W (st :: sts) (sSeq u v) := (pss_cons h1 h2).imp fun E σ H ⟨w, ρ, S, R, e, P⟩ => by
  refine ⟨w, ρ, S, R, e, ?_⟩
  unfold sSeq thenS at P
  cases h : u ρ S with
  | nx ρ' S' => rw [h] at P; exact fun σ' w' H' g R' e' => ⟨w', ρ', S', R', e', P.grow g⟩
  | rt d S' => rw [h] at P; exact P
  | bk ρ' S' => rw [h] at P; exact P
  | ct ρ' S' => rw [h] at P; exact P
  | exc x ρ' S' => rw [h] at P; exact P
  | bad => rw [h] at P; exact P
theorem dss_one (h1 : DS X W st u) : DSs X W [st] u := pss_one h1
theorem ds_pass : DS X W (.Pass pos) sNil := ps_pass.imp fun E σ H ⟨w, ρ, S, R, e, P⟩ => P σ w H (Grow.refl w) R e
def sBreak : Fs := fun ρ S => .bk ρ S
def sCont : Fs := fun ρ S => .ct ρ S
theorem ds_break : DS X W (.Break pos) sBreak := ps_break.imp fun E σ H ⟨w, ρ, S, R, e, P⟩ => P σ w H (Grow.refl w) R e
theorem ds_continue : DS X W (.Continue pos) sCont := ps_continue.imp fun E σ H ⟨w, ρ, S, R, e, P⟩ => P σ w H (Grow.refl w) R e
theorem ds_doc {x j pos'} : DS X W (.Expr (.Constant (.str x) j pos) pos') sNil := ps_doc.imp fun E σ H ⟨w, ρ, S, R, e, P⟩ => P σ w H (Grow.refl w) R e
def sExpr (f : Fe) : Fs := fun ρ S => bindS ρ (f ρ S) fun _ S1 => .nx ρ S1
theorem ds_expr (he : DE X W e f) (hs : swapsWith e none pos.line X.env = pure false := by rfl) : DS X W (.Expr e pos) (sExpr f) := (ps_expr he hs).imp fun E σ H ⟨w, ρ, S, R, e, P⟩ =>
  stepES R e P fun v w1 H1 S1 d g1 R1 E1 V1 P1 => P1 σ w1 H1 (Grow.refl _) R1 E1
def sRet (f : Fe) : Fs := fun ρ S => bindS ρ (f ρ S) fun d S1 => .rt d S1
theorem ds_ret (he : DE X W e f) : DS X W (.Return (some e) pos) (sRet f) := (ps_ret he).imp fun E σ H ⟨w, ρ, S, R, e, P⟩ =>
  stepES R e P fun v w1 H1 S1 d g1 R1 E1 V1 P1 => P1 v w1 H1 (Grow.refl _) R1 V1
def sRetN : Fs := fun ρ S => .rt (.p .none) S
theorem ds_retN : DS X W (.Return none pos) sRetN := ps_retN.imp fun E σ H ⟨w, ρ, S, R, e, P⟩ => P .non w H (Grow.refl w) R .non
def sIf (t : Fb) (u v : Fs) : Fs := fun ρ S => bindS ρ (t ρ S) fun b S1 => if b = true then u ρ S1 else v ρ S1
theorem ds_if {t : Fb} {xs ys : List Stmt} (hc : DT X W c t) (ha : DSs X W xs u) (hb : DSs X W ys v) : DS X W (.If c xs ys pos) (sIf t u v) := (ps_if hc ha hb).imp fun E σ H ⟨w, ρ, S, R, e, P⟩ =>
  stepTS R e P fun b w1 H1 S1 g1 R1 E1 P1 => by
    cases b with
    | true => rw [if_pos rfl] at P1 ⊢; exact ⟨w1, ρ, S1, R1, E1, P1⟩
    | false => rw [if_neg Bool.false_ne_true] at P1 ⊢; exact ⟨w1, ρ, S1, R1, E1, P1⟩
def sSet (i : Nat) (f : Fe) : Fs := fun ρ S => bindS ρ (f ρ S) fun d S1 => .nx (ρ.set i (some d)) S1
theorem ds_set {i : Nat} {x : Str} {pos' : Pos} (hN : X.N.Nodup) (hi : X.N[i]? = some x) (hx : Loc X.env.scope x) (he : DE X W e f) (hs : swapsWith e (some (.Name x pos')) pos.line X.env = pure false := by rfl) (hf : X.fn x = true ∨ X.env.scope.names.lookup x = some .local := by first | exact .inl rfl | exact .inr rfl | assumption) :
    DS X W (.Assign [.Name x pos'] e pos) (sSet i f) := (ps_set hN hi hx he hs hf).imp fun E σ H ⟨w, ρ, S, R, e, P⟩ =>
  stepES R e P fun v w1 H1 S1 d g1 R1 E1 V1 P1 => P1 _ w1 H1 (Grow.refl _) R1 (E1.set i V1)
/-- a, b = x, y -/
def sPar (i j : Nat) (f g : Fe) : Fs := fun ρ S => bindS ρ (f ρ S) fun d S1 => bindS ρ (g ρ S1) fun e S2 => .nx ((ρ.set i (some d)).set j (some e)) S2
theorem ds_par {i j : Nat} {x y : Str} {px py pt : Pos} {kt k2 pt2} (hc : X.calm = true) (hN : X.N.Nodup) (hi : X.N[i]? = some x) (hj : X.N[j]? = some y) (hij : i ≠ j)
    (hx : X.env.scope.names.lookup x = some .local) (hy : X.env.scope.names.lookup y = some .local) (ha : DE X W a f) (hb : DE X W b g)
    (hw : swappedStores [.Tuple [.Name x px, .Name y py] kt pt] (.Tuple [a, b] k2 pt2) X.env = pure (some [x, y]))
    (hs : swapsWithSole [.Tuple [.Name x px, .Name y py] kt pt] (.Tuple [a, b] k2 pt2) pos.line X.env = pure false := by rfl)
    (he : starEach [a, b] X.env = (false, eval a X.env) :: starEach [b] X.env := by rfl) (he' : starEach [b] X.env = (false, eval b X.env) :: starEach [] X.env := by rfl) :
    DS X W (.Assign [.Tuple [.Name x px, .Name y py] kt pt] (.Tuple [a, b] k2 pt2) pos) (sPar i j f g) :=
  (ps_par hc hN hi hj hij hx hy (pa_cons ha (pa_cons hb pa_nil he') he) hw hs).imp fun E σ H ⟨w, ρ, S, R, e, P⟩ =>
    stepES R e P fun v w1 H1 S1 d g1 R1 E1 V1 P1 => stepES R1 E1 P1 fun v2 w2 H2 S2 d2 g2 R2 E2 V2 P2 => ⟨v, v2, rfl, P2 _ w2 H2 (Grow.refl _) R2 ((E2.set i (V1.grow g2)).set j V2)⟩

/-! ### targets -/
abbrev Tg := D → Sl → Option Sl
abbrev Tgs := List D → Sl → Option Sl
def okO {α : Type} (p : α → Prop) : Option α → Prop
  | some a => p a
  | none => False
def gD (mg : Gm) (t : Tg) : TG := fun v σ H Q => ∃ w ρ S d, Rep mg w H S ∧ RepE w σ ρ ∧ RepV w v d ∧ okO (fun ρ' => ∀ σ', RepE w σ' ρ' → Q σ' H) (t d ρ)
def gDs (mg : Gm) (t : Tgs) : TGs := fun vs σ H Q => ∃ w ρ S ds, Rep mg w H S ∧ RepE w σ ρ ∧ RepVs w vs ds ∧ okO (fun ρ' => ∀ σ', RepE w σ' ρ' → Q σ' H) (t ds ρ)
abbrev DG (X : Cx) (e : Expr) (t : Tg) : Prop := PG X e (gD X.gm t)
theorem PG.imp {t t' : TG} (h : PG X e t) (q : ∀ v σ H Q, t' v σ H Q → t v σ H Q) : PG X e t' := ⟨fun pins s σ H v u Q I r w => h.run pins s σ H v u Q I r (q v σ H Q w)⟩
theorem PGs.imp {t t' : TGs} (h : PGs X es t) (q : ∀ v σ H Q, t' v σ H Q → t v σ H Q) : PGs X es t' := ⟨fun pins s σ H v u Q I r w => h.run pins s σ H v u Q I r (q v σ H Q w)⟩
def tName (i : Nat) : Tg := fun d ρ => some (ρ.set i (some d))
theorem dg_name {i : Nat} {x : Str} (hN : X.N.Nodup) (hi : X.N[i]? = some x) (hx : Loc X.env.scope x) (hf : X.fn x = true ∨ X.env.scope.names.lookup x = some .local := by first | exact .inl rfl | exact .inr rfl | assumption) : DG X (.Name x pos) (tName i) :=
  PG.imp (pg_name hN hi hx hf) fun v σ H Q ⟨w, ρ, S, d, R, E, V, P⟩ => P _ (E.set i V)
def tsNil : Tgs := fun ds ρ => match ds with
  | [] => some ρ
  | _ => none
def tsCons (t : Tg) (r : Tgs) : Tgs := fun ds ρ => match ds with
  | d :: ds => (t d ρ).bind (r ds)
  | [] => none
theorem dgs_nil : PGs X [] (gDs X.gm tsNil) := PGs.imp pgs_nil fun vs σ H Q ⟨w, ρ, S, ds, R, E, V, P⟩ => by
  unfold tsNil at P
  cases ds with
  | nil => cases V; exact ⟨rfl, P σ E⟩
  | cons d ds => exact P.elim
theorem dgs_cons {t : Tg} {r : Tgs} (h1 : DG X e t) (h2 : PGs X es (gDs X.gm r)) (hs : (assignEach (e :: es) X.env).map (·.2) = assign e X.env :: (assignEach es X.env).map (·.2) := by rfl) : PGs X (e :: es) (gDs X.gm (tsCons t r)) :=
  PGs.imp (pgs_cons h1 h2 hs) fun vs σ H Q ⟨w, ρ, S, ds, R, E, V, P⟩ => by
    cases ds with
    | nil => exact P.elim
    | cons y ys =>
      cases V with
      | cons v1 vr =>
        refine ⟨_, _, rfl, w, ρ, S, y, R, E, v1, ?_⟩
        have P : okO (fun ρ' => ∀ σ', RepE w σ' ρ' → Q σ' H) ((t y ρ).bind (r ys)) := P
        cases q : t y ρ with
        | none => rw [q] at P; exact P.elim
        | some ρ1 => rw [q] at P; exact fun σ1 E1 => ⟨w, ρ1, S, ys, R, E1, vr, P⟩
def tTupT (n : Nat) (r : Tgs) : Tg := fun d ρ => match d with
  | .p (.tuple ds) => if ds.length = n then r (ds.map .p) ρ else none
  | _ => none
theorem dg_tup {k : Nat} {r : Tgs} {n : Nat} (hc : X.calm = true) (h : PGs X es (gDs X.gm r))
    (hn : (assignEach es X.env).length = n := by rfl) (hst : (assignEach es X.env).findIdx? (·.1) = none := by rfl) : DG X (.Tuple es k pos) (tTupT n r) := PG.imp (pg_tup hc h hn hst) fun v σ H Q ⟨w, ρ, S, d, R, E, V, P⟩ => by
  unfold tTupT at P
  split at P
  · have V := V.cases_p
    cases V with | tup hx rx =>
    split at P
    · rename_i hl
      exact ⟨_, _, rfl, SqT.of (R.same _ _ hx), by rw [rx.length]; exact hl, w, ρ, S, _, R, E, RepPs.toVs rx, P⟩
    · exact P.elim
  · exact P.elim
def sAsg (f : Fe) (t : Tg) : Fs := fun ρ S => bindS ρ (f ρ S) fun d S1 => match t d ρ with
  | some ρ' => .nx ρ' S1
  | none => .bad
theorem ds_asg {tg : Expr} {t : Tg} (he : DE X W e f) (hg : DG X tg t) (hs : swapsWithSole [tg] e pos.line X.env = pure false := by rfl) (hw : swappedStores [tg] e X.env = pure none := by rfl)
    (h1 : (assignEach [tg] X.env).map (·.2) = [assign tg X.env] := by rfl) : DS X W (.Assign [tg] e pos) (sAsg f t) := (ps_asg he hg hs hw h1).imp fun E σ H ⟨w, ρ, S, R, e, P⟩ =>
  stepES R e P fun v w1 H1 S1 d g1 R1 E1 V1 P1 => by
    refine ⟨w1, ρ, S1, d, R1, E1, V1, ?_⟩
    cases q : t d ρ with
    | none => rw [q] at P1; exact P1.elim
    | some ρ1 => rw [q] at P1; exact fun σ1 E2 => P1 σ1 w1 H1 (Grow.refl _) R1 E2

/-! ### what a loop walks -/
structure GrowD (w w' : Wd) : Prop where
  k : w'.K = w.K
  z : Same w.Z w'.Z
  m : ∃ t, w'.m = w.m ++ t
theorem Grow.d {w w' : Wd} (g : Grow w w') : GrowD w w' := ⟨g.k, g.z, g.m⟩
theorem GrowD.trans {w w1 w2 : Wd} (a : GrowD w w1) (b : GrowD w1 w2) : GrowD w w2 := by
  obtain ⟨t, e⟩ := a.m
  obtain ⟨u, f⟩ := b.m
  exact ⟨b.k.trans a.k, a.z.trans b.z, t ++ u, by rw [f, e]; simp⟩
theorem GrowD.toB {w w' : Wd} (g : GrowD w w') : Grow w { w' with B := w.B } := ⟨g.k, rfl, g.z, g.m⟩
theorem RepV.growD {w w' : Wd} (g : GrowD w w') {v : V} {d : D} (h : RepV w v d) : RepV w' v d := by
  have q := h.grow g.toB
  cases d <;> exact q
theorem RepE.growD {w w' : Wd} {σ : L2.St} {ρ : Sl} (g : GrowD w w') (h : RepE w σ ρ) : RepE w' σ ρ :=
  ⟨h.len, fun i d e => let ⟨v, h1, h2⟩ := h.at_ i d e; ⟨v, h1, h2.growD g⟩⟩
inductive SrcV where
  | seq (x : D)
  | rng (lo : Int) (n : Nat)
  | zip (x y : D)
/-- the items of a list or a tuple -/
def seqItems (S : Store) : D → Option (List D)
  | .p (.tuple ds) => some (ds.map .p)
  | x => items S x
def pairUp : D → D → Option D
  | .p a, .p b => some (.p (.tuple [a, b]))
  | _, _ => none
def zipAt (xs ys : List D) (i : Nat) : Option (Option D) := match xs[i]?, ys[i]? with
  | some a, some b => (pairUp a b).map some
  | _, _ => some none
def SrcV.nxt : SrcV → Nat → Store → Option (Option D)
  | .seq x, i, S => (seqItems S x).map fun ds => ds[i]?
  | .rng lo n, i, _ => some (if i < n then some (.p (.int (lo + i))) else none)
  | .zip x y, i, S => (seqItems S x).bind fun xs => (seqItems S y).bind fun ys => zipAt xs ys i
def SrcV.count : SrcV → Store → Nat
  | .seq x, S => ((seqItems S x).map List.length).getD 0
  | .rng _ n, _ => n
  | .zip x y, S => min (((seqItems S x).map List.length).getD 0) (((seqItems S y).map List.length).getD 0)
structure Src (mg : Gm) (J : It) (sv : SrcV) (w0 : Wd) : Prop where
  go : ∀ (i : Nat) (w : Wd) (H : Hp) (S : Store) (d : D), GrowD w0 w → Rep mg w H S → sv.nxt i S = some (some d) → J.go i H ∧ ∀ x H', J.yld i H x H' → ∃ w', Grow w w' ∧ Rep mg w' H' S ∧ RepV w' x d
  stop : ∀ (i : Nat) (w : Wd) (H : Hp) (S : Store), GrowD w0 w → Rep mg w H S → sv.nxt i S = some none → J.stop i H
abbrev Fsrc := Sl → M SrcV
def tDI (mg : Gm) (W : WX) (f : Fsrc) : TI := fun σ H T => ∃ w ρ S, Rep mg w H S ∧ RepE w σ ρ ∧ PostG mg W σ w (fun sv w' H' => ∀ J, Src mg J sv w' → T J H') (f ρ S)
abbrev DI (X : Cx) (W : WX) (tg iter : Expr) (f : Fsrc) : Prop := PI X tg iter (tDI X.gm W f)
def ofSeq (x : D) : M SrcV := fun S => if (seqItems S x).isSome = true then .ok (.seq x) S else .bad
def srcSeq (f : Fe) : Fsrc := fun ρ => M.bind (f ρ) ofSeq
theorem src_list {mg : Gm} {w0 : Wd} {a : Addr} {d : D} (V : RepV w0 (.ref a) d) (hd : ∀ ds, d ≠ .p (.tuple ds)) : Src mg (Itl mg.K a) (.seq d) w0 := by
  have si : ∀ S, seqItems S d = items S d := fun S => by
    cases d with
    | o i => rfl
    | s ns => rfl
    | p d => cases d with
      | tuple ds => exact absurd rfl (hd ds)
      | _ => rfl
  refine ⟨fun i w H S x g R h => ?_, fun i w H S g R h => ?_⟩
  · obtain ⟨ds, h1, h2⟩ := Option.map_eq_some_iff.mp h
    rw [si] at h1
    obtain ⟨a', xs, e, hs, r⟩ := items_sq R (V.growD g) h1
    cases e
    obtain ⟨v, h3, h4⟩ := r.get h2
    refine ⟨⟨xs, v, hs, h3⟩, fun y H' ⟨e, hy⟩ => ?_⟩
    subst e
    have := hy xs hs
    rw [h3] at this
    cases this
    exact ⟨w, Grow.refl w, R, h4⟩
  · obtain ⟨ds, h1, h2⟩ := Option.map_eq_some_iff.mp h
    rw [si] at h1
    obtain ⟨a', xs, e, hs, r⟩ := items_sq R (V.growD g) h1
    cases e
    exact ⟨xs, hs, by rw [r.length]; exact List.getElem?_eq_none_iff.mp h2⟩
theorem src_tup {K : PySem.W.Frag} {mg : Gm} {w0 : Wd} {a : Addr} {ds : List PyData} (V : RepV w0 (.ref a) (.p (.tuple ds))) : Src mg (Itt K a) (.seq (.p (.tuple ds))) w0 := by
  refine ⟨fun i w H S x g R h => ?_, fun i w H S g R h => ?_⟩
  · have h : some ((ds.map D.p)[i]?) = some (some x) := h
    have V' := (V.growD g).cases_p
    cases V' with | tup hx rx =>
    rename_i xs
    have r := RepPs.toVs (w := w) rx
    obtain ⟨v, h3, h4⟩ := r.get (Option.some.inj h)
    have hs : SqT K H a xs := SqT.of (R.same _ _ hx)
    refine ⟨⟨xs, v, hs, h3⟩, fun y H' ⟨e, hy⟩ => ?_⟩
    subst e
    have := hy xs hs
    rw [h3] at this
    cases this
    exact ⟨w, Grow.refl w, R, h4⟩
  · have h : some ((ds.map D.p)[i]?) = some none := h
    have V' := (V.growD g).cases_p
    cases V' with | tup hx rx =>
    rename_i xs
    have e := List.getElem?_eq_none_iff.mp (Option.some.inj h)
    rw [List.length_map] at e
    exact ⟨xs, SqT.of (R.same _ _ hx), by rw [rx.length]; exact e⟩
theorem src_rng {mg : Gm} {w0 : Wd} {lo : Int} {n : Nat} : Src mg (Itr lo n) (.rng lo n) w0 := by
  refine ⟨fun i w H S x g R h => ?_, fun i w H S g R h => ?_⟩
  · have h := Option.some.inj h
    by_cases hi : i < n
    · rw [if_pos hi] at h
      cases h
      exact ⟨hi, fun y H' ⟨e, hy⟩ => ⟨w, Grow.refl w, by rw [e]; exact R, by rw [hy]; exact .int _⟩⟩
    · rw [if_neg hi] at h; cases h
  · have h := Option.some.inj h
    by_cases hi : i < n
    · rw [if_pos hi] at h; cases h
    · exact Nat.le_of_not_lt hi
theorem di_seq {tg : Expr} (he : DE X W e f) : DI X W tg e (srcSeq f) := ⟨fun pins s σ H T I ⟨w, ρ, S, R, E, P⟩ => by
  unfold srcSeq M.bind at P
  have lst : (∀ d S', f ρ S = .ok d S' → ∀ ds, d ≠ .p (.tuple ds)) → wpAny (model X.prog X.w) X.A (eval e X.env) (fun v s1 => wpAny (model X.prog X.w) X.A (pyIter v) (PIE X pins σ tg T) X.xe s1) X.xe s := fun hn => by
    refine (pi_list he).run pins s σ H T I ⟨w, ρ, S, R, E, ?_⟩
    cases h : f ρ S with
    | bad => rw [h] at P; exact P
    | exc x S' => rw [h] at P; exact P
    | ok d S' =>
      rw [h] at P
      have nt := hn d S' h
      intro w' H' g R' v V
      have P : PostG X.gm W σ w (fun sv w' H' => ∀ J, Src X.gm J sv w' → T J H') (if (seqItems S' d).isSome = true then .ok (.seq d) S' else .bad) := P
      have si : seqItems S' d = items S' d := by
        cases d with
        | o i => rfl
        | s ns => rfl
        | p d => cases d with
          | tuple ds => exact absurd rfl (nt ds)
          | _ => rfl
      cases q : items S' d with
      | none => rw [si, q] at P; exact P.elim
      | some ds =>
        rw [si, q] at P
        obtain ⟨a', xs, rfl, hs, r⟩ := items_sq R' V q
        exact ⟨a', rfl, ⟨xs, hs⟩, P w' H' g R' _ (src_list V nt)⟩
  cases h : f ρ S with
  | bad => rw [h] at P; exact P.elim
  | exc x S' => exact lst fun d S'' q => by rw [h] at q; cases q
  | ok d S' =>
    by_cases ht : ∃ ds, d = .p (.tuple ds)
    · obtain ⟨ds, rfl⟩ := ht
      rw [h] at P
      refine (pi_tup he).run pins s σ H T I ⟨w, ρ, S, R, E, ?_⟩
      rw [h]
      intro w' H' g R' v V
      have V' := V.cases_p
      cases V' with | tup hx rx =>
      exact ⟨_, rfl, ⟨_, SqT.of (R'.same _ _ hx)⟩, P w' H' g R' _ (src_tup V)⟩
    · exact lst fun d' S'' q ds e => by
        rw [h] at q
        cases q
        exact ht ⟨ds, e⟩⟩
def ofRng1 : List D → M SrcV
  | [.p (.int j)] => fun S => if -(2 ^ 62) ≤ j ∧ j < 2 ^ 62 then .ok (.rng 0 j.toNat) S else .bad
  | _ => M.bad
def ofRng2 : List D → M SrcV
  | [.p (.int i), .p (.int j)] => fun S => if -(2 ^ 62) ≤ i ∧ i < 2 ^ 62 ∧ -(2 ^ 62) ≤ j ∧ j < 2 ^ 62 then .ok (.rng i (j - i).toNat) S else .bad
  | _ => M.bad
def srcRng1 (f : Fe) : Fsrc := fun ρ => M.bind (aCons f aNil ρ) ofRng1
def srcRng2 (f g : Fe) : Fsrc := fun ρ => M.bind (aCons f (aCons g aNil) ρ) ofRng2
theorem di_rng1 {tg : Expr} {p : Pos} (hg : Gl X "range") (hm : X.mg "range" = none) (ha : DE X W a f) (hs : starEach [a] X.env = [(false, eval a X.env)] := by rfl) : DI X W tg (.Call (.Name "range" p) [a] [] pos) (srcRng1 f) :=
  ⟨fun pins s σ H T I ⟨w, ρ, S, R, E, P⟩ => (pi_range1 hg hm (da_cons ha da_nil hs) hs).run pins s σ H T I (by
    refine stepA R E P fun vs w1 H1 S1 ds g1 R1 E1 V1 P1 => ?_
    unfold ofRng1 at P1
    split at P1
    · obtain ⟨x, rfl, vx⟩ := RepVs.one V1
      cases vx.cases_p
      split at P1
      · rename_i hl
        exact ⟨_, rfl, hl.1, hl.2, P1 w1 H1 (Grow.refl _) R1 _ src_rng⟩
      · exact P1.elim
    · exact P1.elim)⟩
theorem di_rng2 {tg : Expr} {p : Pos} (hg : Gl X "range") (hm : X.mg "range" = none) (ha : DE X W a f) (hb : DE X W b g) (hs : starEach [a, b] X.env = [(false, eval a X.env), (false, eval b X.env)] := by rfl) (hs2 : starEach [b] X.env = [(false, eval b X.env)] := by rfl) :
    DI X W tg (.Call (.Name "range" p) [a, b] [] pos) (srcRng2 f g) :=
  ⟨fun pins s σ H T I ⟨w, ρ, S, R, E, P⟩ => (pi_range2 hg hm (da_cons ha (da_cons hb da_nil hs2) (by rw [hs, hs2])) hs hs2).run pins s σ H T I (by
    refine stepA R E P fun vs w1 H1 S1 ds g1 R1 E1 V1 P1 => ?_
    unfold ofRng2 at P1
    split at P1
    · obtain ⟨x, y, rfl, vx, vy⟩ := RepVs.two V1
      cases vx.cases_p; cases vy.cases_p
      split at P1
      · rename_i hl
        exact ⟨_, _, rfl, hl, P1 w1 H1 (Grow.refl _) R1 _ src_rng⟩
      · exact P1.elim
    · exact P1.elim)⟩

/-! ### for -/
def loopS (sv : SrcV) (t : Tg) (u : Fs) : Nat → Nat → Fs
  | 0, i => fun ρ S => match sv.nxt i S with
    | some none => .nx ρ S
    | _ => .bad
  | k + 1, i => fun ρ S => match sv.nxt i S with
    | some (some d) => match t d ρ with
      | some ρ1 => match u ρ1 S with
        | .nx ρ' S' => loopS sv t u k (i + 1) ρ' S'
        | .ct ρ' S' => loopS sv t u k (i + 1) ρ' S'
        | .bk ρ' S' => .nx ρ' S'
        | r => r
      | none => .bad
    | _ => .bad
def sFor (fsrc : Fsrc) (t : Tg) (u : Fs) : Fs := fun ρ S => bindS ρ (fsrc ρ S) fun sv S1 => loopS sv t u (sv.count S1) 0 ρ S1
theorem ds_for {tg iter : Expr} {body : List Stmt} {fsrc : Fsrc} {t : Tg} (hp : PassesOwn (model X.prog X.w) X.A X.env X.xe) (hc : X.calm = true) (hi : DI X W tg iter fsrc) (hg : DG X tg t) (hb : DSs X W body u)
    (hs : ∀ x, foldedSetIterable iter X.env x = pure x := by intro _; rfl) : DS X W (.For tg iter body [] pos) (sFor fsrc t u) := (ps_for hp hc hi hg hb hs).imp fun En σ H ⟨w, ρ, S, R, E, P⟩ => by
  refine ⟨w, ρ, S, R, E, ?_⟩
  unfold sFor bindS at P
  cases h : fsrc ρ S with
  | bad => rw [h] at P; exact P
  | exc x S' => rw [h] at P; exact fun c dx w' H' g R' X => P σ c dx w' H' g R' (E.grow g) X
  | ok sv S' =>
    rw [h] at P
    intro w' H' g R' J hJ
    refine ⟨fun i m σ H => ∃ w1 ρ1 S1, GrowD w' w1 ∧ Rep X.gm w1 H S1 ∧ RepE w1 σ ρ1 ∧ PostS X.gm W En w1 (loopS sv t u m i ρ1 S1), ⟨_, w', ρ, S', (Grow.refl w').d, R', E.grow g, P.grow g⟩, ?_⟩
    rintro i m σ1 H1 ⟨w1, ρ1, S1, g1, R1, E1, P1⟩
    cases m with
    | zero =>
      unfold loopS at P1
      cases q : sv.nxt i S1 with
      | none => rw [q] at P1; exact P1.elim
      | some o =>
        rw [q] at P1
        cases o with
        | some d => exact P1.elim
        | none => exact .inl ⟨hJ.stop i w1 H1 S1 g1 R1 q, P1 σ1 w1 H1 (Grow.refl _) R1 E1⟩
    | succ m =>
      unfold loopS at P1
      cases q : sv.nxt i S1 with
      | none => rw [q] at P1; exact P1.elim
      | some o =>
        rw [q] at P1
        cases o with
        | none => exact P1.elim
        | some d =>
          obtain ⟨h1, h2⟩ := hJ.go i w1 H1 S1 d g1 R1 q
          refine .inr ⟨h1, fun σ H => ∃ w1 ρ1 S1, GrowD w' w1 ∧ Rep X.gm w1 H S1 ∧ RepE w1 σ ρ1 ∧ PostS X.gm W En w1 (loopS sv t u m (i + 1) ρ1 S1), fun σ' H' q' => ⟨m, Nat.lt_succ_self m, q'⟩, fun x H2 y => ?_⟩
          obtain ⟨w2, g2, R2, V2⟩ := h2 x H2 y
          refine ⟨w2, ρ1, S1, d, R2, E1.grow g2, V2, ?_⟩
          have P1 : PostS X.gm W En w1 (match t d ρ1 with
            | some ρ1 => match u ρ1 S1 with
              | .nx ρ' S' => loopS sv t u m (i + 1) ρ' S'
              | .ct ρ' S' => loopS sv t u m (i + 1) ρ' S'
              | .bk ρ' S' => .nx ρ' S'
              | r => r
            | none => .bad) := P1
          cases q2 : t d ρ1 with
          | none => rw [q2] at P1; exact P1.elim
          | some ρ2 =>
            rw [q2] at P1
            intro σ2 E2
            refine ⟨w2, ρ2, S1, R2, E2, ?_⟩
            dsimp only at P1
            cases q3 : u ρ2 S1 with
            | bad => rw [q3] at P1; exact P1
            | exc x ρ' S' => rw [q3] at P1; exact P1.grow g2
            | rt d S' => rw [q3] at P1; exact P1.grow g2
            | bk ρ' S' => rw [q3] at P1; exact P1.grow g2
            | nx ρ' S' => rw [q3] at P1; exact fun σ3 w3 H3 g3 R3 E3 => ⟨w3, ρ', S', g1.trans (g2.trans g3).d, R3, E3, P1.grow (g2.trans g3)⟩
            | ct ρ' S' => rw [q3] at P1; exact fun σ3 w3 H3 g3 R3 E3 => ⟨w3, ρ', S', g1.trans (g2.trans g3).d, R3, E3, P1.grow (g2.trans g3)⟩
end
end DL
set_option Elab.async false
set_option linter.all false
set_option maxRecDepth 100000
set_option maxHeartbeats 4000000
namespace DL
open PySem PySem.Spec L2
/-- nothing is let out -/
abbrev Wno : WX := fun _ _ _ _ => False
def bindN {α β : Type} (r : R α) (k : α → Store → R β) : R β := match r with
  | .ok a S => k a S
  | _ => .bad
def R.bind {α β : Type} (r : R α) (k : α → Store → R β) : R β := match r with
  | .ok a S => k a S
  | .exc x S => .exc x S
  | .bad => .bad
theorem M.bind_eq {α β : Type} (m : M α) (k : α → M β) (S : Store) : M.bind m k S = R.bind (m S) k := by
  unfold M.bind R.bind
  cases m S <;> rfl
def wipeD (ρ : Sl) : List Nat → Sl
  | [] => ρ
  | v :: vs => (wipeD ρ vs).set v none
theorem RepE.wipe {w : Wd} {σ : L2.St} {ρ : Sl} (h : RepE w σ ρ) : ∀ vs, RepE w (L2.wipe σ vs) (wipeD ρ vs)
  | [] => h
  | v :: vs => (RepE.wipe h vs).drop v none
def loopC (sv : SrcV) (t : Tg) (tb : Fb) (el : Fe) : Nat → Nat → Sl → List D → Store → R (List D)
  | 0, i, ρ, acc, S => match sv.nxt i S with
    | some none => .ok acc S
    | _ => .bad
  | k + 1, i, ρ, acc, S => match sv.nxt i S with
    | some (some d) => match t d ρ with
      | some ρ1 => bindN (tb ρ1 S) fun b S1 => if b = true then bindN (el ρ1 S1) fun y S2 => if acc.length < sizeLine then loopC sv t tb el k (i + 1) ρ (acc ++ [y]) S2 else .bad
        else loopC sv t tb el k (i + 1) ρ acc S1
      | none => .bad
    | _ => .bad
def kAcc (ds : List D) : M D := fun S => ofO S ((asPs ds).map fun es => .p (.list es))
def eLc (fsrc : Fsrc) (vs : List Nat) (t : Tg) (tb : Fb) (el : Fe) : Fe := fun ρ => M.bind (fsrc ρ) fun sv => M.bind (fun S => loopC sv t tb el (sv.count S) 0 (wipeD ρ vs) [] S) kAcc
/-- a comprehension's target -/
def TgC (mg : Gm) (g : TG) (t : Tg) (vs : List Nat) : Prop := ∀ (w : Wd) (σ0 : L2.St) (ρ : Sl) (x : V) (d : D) (H : Hp) (S : Store) (Q : L2.St → Hp → Prop), Rep mg w H S → RepE w (wipe σ0 vs) ρ → RepV w x d →
  okO (fun ρ' => ∀ σ2, RepE w σ2 ρ' → wipe σ2 vs = wipe σ0 vs → Q σ2 H) (t d ρ) → g x (wipe σ0 vs) H Q
theorem tgc_one {mg : Gm} {i : Nat} : TgC mg (gName i) (tName i) [i] := fun w σ0 ρ x d H S Q R E V P =>
  P _ (E.set i V) (by simp [wipe])
theorem tgc_two {mg : Gm} {K : PySem.W.Frag} {i j : Nat} : TgC mg (gTup K 2 (gCons (gName i) (gCons (gName j) gNil))) (tTupT 2 (tsCons (tName i) (tsCons (tName j) tsNil))) [i, j] := fun w σ0 ρ x d H S Q R E V P => by
  cases d with
  | o i => exact P.elim
  | s ns => exact P.elim
  | p d =>
    cases d with
    | tuple ds =>
      have V := V.cases_p
      cases V with | tup hx rx =>
      match ds, rx, P with
      | [], _, P => exact P.elim
      | [_], _, P => exact P.elim
      | [a, b], .cons r1 (.cons r2 .nil), P =>
        refine ⟨_, _, rfl, SqT.of (R.same _ _ hx), rfl, _, _, rfl, _, _, rfl, rfl, ?_⟩
        refine P _ ((E.set i (show RepV w _ (.p a) from r1)).set j (show RepV w _ (.p b) from r2)) ?_
        simp only [wipe]
        refine List.ext_getElem? fun k => ?_
        simp only [List.getElem?_set, List.length_set]
        by_cases h1 : i = k <;> by_cases h2 : j = k <;> simp [h1, h2]
      | _ :: _ :: _ :: _, _, P => exact P.elim
    | _ => exact P.elim
section
variable {mg : Gm} {w : Wd} {H : Hp} {S : Store}
theorem Rep.unback {p : Addr} {o : HO} {B : Hp} (h : Rep mg w H S) (e : w.B = upd B p o) (hb : B p = none) : Rep mg { w with B := B } H S := by
  refine ⟨h.kk, fun b u q => h.bg b u ?_, h.same, fun a u q => h.bz a u ?_, h.len, h.nd, fun i a c h1 h2 => ?_⟩
  · rw [e, upd_ne (ne_of_none q hb)]; exact q
  · rw [e, upd_ne (ne_of_none q hb)]; exact q
  · obtain ⟨za, u, hu, r⟩ := h.cell i a c h1 h2
    exact ⟨za, u, hu, by unfold RepC at r ⊢; exact r⟩
theorem RepVs.growD {w w' : Wd} (g : GrowD w w') {vs : List V} {ds : List D} (h : RepVs w vs ds) : RepVs w' vs ds := Paired.mapP h fun _ _ r => r.growD g
end
section
variable {X : Cx} {W : WX} {e : Expr} {fsrc : Fsrc} {vs : List Nat} {t : Tg} {tb : Fb} {el : Fe} {g : TG}
theorem tLc_of (hg : TgC X.gm g t vs) {σ : L2.St} {H : Hp} {Q : VK} (h : tD X.gm W (eLc fsrc vs t tb el) σ H Q) : tLc (tDI X.gm W fsrc) g (tDT X.gm Wno tb) (tD X.gm Wno el) vs σ H Q := by
  obtain ⟨w, ρ, S, R, E, P⟩ := h
  refine ⟨w, ρ, S, R, E, ?_⟩
  unfold eLc at P
  rw [M.bind_eq] at P
  cases h : fsrc ρ S with
  | bad => rw [h] at P; exact P
  | exc x S' => rw [h] at P; exact P
  | ok sv S' =>
    rw [h] at P
    intro w' H' g' R' J hJ D0 hD
    have P : Post X.gm W σ w Q (M.bind (fun S => loopC sv t tb el (sv.count S) 0 (wipeD ρ vs) [] S) kAcc S') := P
    rw [M.bind_eq] at P
    have P := P.grow g'
    obtain ⟨R0, b0, z0, m0⟩ := R'.lay (.lst []) hD
    refine ⟨fun i m H => ∃ w1 S1 acc xs, Grow w' w1 ∧ Rep X.gm w1 H S1 ∧ w1.B D0 = none ∧ w1.Z D0 = none ∧ D0 ∉ w1.m ∧ H D0 = some (.lst xs) ∧ RepVs w1 xs acc ∧ Post X.gm W σ w1 Q (DL.R.bind (loopC sv t tb el m i (wipeD ρ vs) acc S1) kAcc),
      ⟨_, w', S', [], [], Grow.refl _, R0, b0, z0, m0, upd_same, .nil, P⟩, ?_⟩
    rintro i m H1 ⟨w1, S1, acc, xs, g1, R1, b1, z1, m1, hd1, r1, P1⟩
    cases m with
    | zero =>
      unfold loopC at P1
      cases q : sv.nxt i S1 with
      | none => rw [q] at P1; exact P1.elim
      | some o =>
        rw [q] at P1
        cases o with
        | some d => exact P1.elim
        | none =>
          refine .inl ⟨hJ.stop i w1 H1 S1 g1.d R1 q, ?_⟩
          have P1 : Post X.gm W σ w1 Q (kAcc acc S1) := P1
          unfold kAcc at P1
          cases q2 : asPs acc with
          | none => rw [q2] at P1; exact P1.elim
          | some es =>
            rw [q2] at P1
            obtain ⟨g2, R2⟩ := R1.freeze hd1 b1 z1 m1
            exact P1 _ _ g2 R2 _ (.lst upd_same (RepPs.mono g2.z _ _ (asPs_rep q2 r1)))
    | succ m =>
      unfold loopC at P1
      cases q : sv.nxt i S1 with
      | none => rw [q] at P1; exact P1.elim
      | some o =>
        rw [q] at P1
        cases o with
        | none => exact P1.elim
        | some d =>
          obtain ⟨h1, h2⟩ := hJ.go i w1 H1 S1 d g1.d R1 q
          refine .inr ⟨h1, _, fun H' q' => ⟨m, Nat.lt_succ_self m, q'⟩, fun x H2 y => ?_⟩
          -- the item has come; the list that grows is kept by the background
          have R1b := R1.back hd1 z1 m1
          obtain ⟨h1', h2'⟩ := hJ.go i _ H1 S1 d (show GrowD w' { w1 with B := upd w1.B D0 (.lst xs) } from ⟨g1.k, g1.z, g1.m⟩) R1b q
          obtain ⟨w2, g2, R2, V2⟩ := h2' x H2 y
          have gE : Grow w w1 := g'.trans g1
          have E2 : RepE w2 (wipe σ vs) (wipeD ρ vs) := (RepE.wipe E vs).growD (gE.d.trans (show GrowD w1 { w1 with B := upd w1.B D0 (.lst xs) } from ⟨rfl, Same.refl _, [], by simp⟩) |>.trans g2.d)
          refine hg w2 σ (wipeD ρ vs) x d H2 S1 _ R2 E2 V2 ?_
          dsimp only at P1
          cases q2 : t d (wipeD ρ vs) with
          | none => rw [q2] at P1; exact P1.elim
          | some ρ2 =>
            rw [q2] at P1
            intro σ2 Eσ hw
            refine ⟨hw, w2, ρ2, S1, R2, Eσ, ?_⟩
            dsimp only at P1
            -- back to a world without the list
            have fin : ∀ {w3 : Wd} {H3 : Hp} {S3 : Store}, Grow w2 w3 → Rep X.gm w3 H3 S3 → H3 D0 = some (.lst xs) ∧ Grow w1 { w3 with B := w1.B } ∧ Rep X.gm { w3 with B := w1.B } H3 S3 ∧ w3.Z D0 = none ∧ D0 ∉ w3.m := fun {w3 H3 S3} g3 R3 => by
              have gg := g2.trans g3
              have eB : w3.B = upd w1.B D0 (.lst xs) := gg.b
              have hB : w3.B D0 = some (.lst xs) := by rw [eB]; exact upd_same
              exact ⟨R3.bg _ _ hB, ⟨gg.k, rfl, gg.z, gg.m⟩, R3.unback eB b1, (R3.bz _ _ hB).1, (R3.bz _ _ hB).2⟩
            cases q3 : tb ρ2 S1 with
            | bad => rw [q3] at P1; exact P1.elim
            | exc x S3 => rw [q3] at P1; exact P1.elim
            | ok b S3 =>
              rw [q3] at P1
              dsimp only [bindN] at P1
              intro w3 H3 g3 R3
              cases b with
              | false =>
                rw [if_neg Bool.false_ne_true] at P1 ⊢
                obtain ⟨hd3, gB, RB, zB, mB⟩ := fin g3 R3
                exact ⟨{ w3 with B := w1.B }, S3, acc, xs, g1.trans gB, RB, b1, zB, mB, hd3, RepVs.grow gB r1, P1.grow gB⟩
              | true =>
                rw [if_pos rfl] at P1 ⊢
                refine ⟨w3, ρ2, S3, R3, Eσ.grow g3, ?_⟩
                cases q4 : el ρ2 S3 with
                | bad => rw [q4] at P1; exact P1.elim
                | exc x S4 => rw [q4] at P1; exact P1.elim
                | ok yd S4 =>
                  rw [q4] at P1
                  dsimp only at P1
                  intro w4 H4 g4 R4 yv V4
                  obtain ⟨hd4, gB, RB, zB, mB⟩ := fin (g3.trans g4) R4
                  by_cases hl : acc.length < sizeLine
                  · rw [if_pos hl] at P1
                    have r4 : RepVs { w4 with B := w1.B } xs acc := RepVs.grow gB r1
                    refine ⟨xs, hd4, by rw [r1.length]; exact hl, { w4 with B := w1.B }, S4, acc ++ [yd], xs ++ [yv], g1.trans gB, ?_, b1, zB, mB, upd_same, r4.append (.cons (V4.growD (show GrowD w4 { w4 with B := w1.B } from ⟨rfl, Same.refl _, [], by simp⟩)) .nil), P1.grow gB⟩
                    -- the list has grown: nobody's
                    refine ⟨RB.kk, fun b u e => ?_, fun b u e => ?_, RB.bz, RB.len, RB.nd, fun i a c h1 h2 => ?_⟩
                    · have : b ≠ D0 := ne_of_none e b1
                      rw [upd_ne this]; exact RB.bg b u e
                    · have : b ≠ D0 := ne_of_none e zB
                      rw [upd_ne this]; exact RB.same b u e
                    · obtain ⟨za, u, hu, r⟩ := RB.cell i a c h1 h2
                      have : a ≠ D0 := fun e => mB (e ▸ List.mem_of_getElem? h1)
                      exact ⟨za, u, by rw [upd_ne this]; exact hu, r⟩
                  · rw [if_neg hl] at P1
                    exact P1.elim
theorem dts_nil {mg : Gm} : PTs X [] (tDT mg W fun _ => M.pure true) := ⟨fun pins s σ H Q I ⟨w, ρ, S, R, E, P⟩ => pts_nil.run pins s σ H Q I (P w H (Grow.refl w) R)⟩
theorem dts_one {c : Expr} (h : PT X c (tDT X.gm W tb)) : PTs X [c] (tDT X.gm W tb) := pts_one h
theorem de_lc {elt tg iter : Expr} {ifs : List Expr} {scope : Scope} {own : List (Str × Nat)} {pos : Pos} (hc : X.calm = true) (hN : X.N.Nodup) (hi : DI X W tg iter fsrc) (ok : BlkOk X.N X.env.scope scope own)
    (hT : TgC X.gm g t (own.map (·.2))) (hg : ∀ (s : Shared) (H : Hp) (C : Addr) (cl : List (Str × Addr)) (fp : List Addr), PG (X.blk s H scope (compEnvC scope cl C X.env) fp) tg g) (ht : ∀ (s : Shared) (H : Hp) (C : Addr) (cl : List (Str × Addr)) (fp : List Addr), PTs (X.blk s H scope (compEnvC scope cl C X.env) fp) ifs (tDT X.gm Wno tb))
    (he : ∀ (s : Shared) (H : Hp) (C : Addr) (cl : List (Str × Addr)) (fp : List Addr), DE (X.blk s H scope (compEnvC scope cl C X.env) fp) Wno elt el) (hs : ∀ x, foldedSetIterable iter X.env x = pure x := by intro _; rfl) :
    DE X W (.ListComp elt [⟨tg, iter, ifs, 0⟩] scope pos) (eLc fsrc (own.map (·.2)) t tb el) := (pe_lc hc hN hi ok hg ht he hs).imp fun σ H Q h => tLc_of hT h
theorem ds_setLc {i : Nat} {y : Str} {py : Pos} {elt tg iter : Expr} {ifs : List Expr} {scope : Scope} {own : List (Str × Nat)} {pos spos : Pos} (hc : X.calm = true) (hN : X.N.Nodup) (hy : X.N[i]? = some y) (hyl : X.env.scope.names.lookup y = some .local)
    (hsw : swapsWith (.ListComp elt [⟨tg, iter, ifs, 0⟩] scope pos) (some (.Name y py)) spos.line X.env = pure true) (hi : DI X W tg iter fsrc) (ok : BlkOk X.N X.env.scope scope own)
    (hT : TgC X.gm g t (own.map (·.2))) (hg : ∀ (s : Shared) (H : Hp) (C : Addr) (cl : List (Str × Addr)) (fp : List Addr), PG (X.blk s H scope (compEnvC scope cl C X.env) fp) tg g) (ht : ∀ (s : Shared) (H : Hp) (C : Addr) (cl : List (Str × Addr)) (fp : List Addr), PTs (X.blk s H scope (compEnvC scope cl C X.env) fp) ifs (tDT X.gm Wno tb))
    (he : ∀ (s : Shared) (H : Hp) (C : Addr) (cl : List (Str × Addr)) (fp : List Addr), DE (X.blk s H scope (compEnvC scope cl C X.env) fp) Wno elt el) (hs : ∀ x, foldedSetIterable iter X.env x = pure x := by intro _; rfl) :
    DS X W (.Assign [.Name y py] (.ListComp elt [⟨tg, iter, ifs, 0⟩] scope pos) spos) (sSet i (eLc fsrc (own.map (·.2)) t tb el)) := (ps_setLc hc hN hy hyl hsw hi ok hg ht he hs).imp fun En σ H ⟨w, ρ, S, R, E, P⟩ => by
  refine tLc_of (W := W) (fsrc := fsrc) (t := t) (tb := tb) (el := el) hT ?_
  exact stepES R E P fun v w1 H1 S1 d g1 R1 E1 V1 P1 => P1 _ w1 H1 (Grow.refl _) R1 (E1.set i V1)
end
end DL
set_option Elab.async false
set_option linter.all false
set_option maxRecDepth 100000
set_option maxHeartbeats 4000000
namespace DL
open PySem PySem.Spec L2

/-! ### what a def is worth -/
/-- F of the arguments, as data, and of the cells -/
def spD (mg : Gm) (F : List D → M D) : Sp := fun vs H Q E => ∃ w ds S, Rep mg w H S ∧ RepVs w vs ds ∧ Post mg (fun c d _ H => E c d H) [] w Q (F ds S)
abbrev WF (E : XK) : WX := fun c d _ H => E c d H
def finR : RS → R D
  | .nx _ S => .ok (.p .none) S
  | .rt d S => .ok d S
  | .exc x _ S => .exc x S
  | _ => .bad
/-- the slots at the start -/
def slots (N : Nat) (ds : List D) : Sl := ds.map some ++ List.replicate (N - ds.length) none
theorem RepE.start {w : Wd} {N : List Str} : ∀ {vs : List V} {ds : List D}, RepVs w vs ds → RepE w (L2.start N vs) (slots N.length ds) := fun {vs ds} r => by
  have e := r.length
  refine ⟨by simp [L2.start, slots, e], fun i d h => ?_⟩
  unfold slots at h
  by_cases hi : i < ds.length
  · rw [List.getElem?_append_left (by simpa using hi), List.getElem?_map] at h
    cases q : ds[i]? with
    | none => rw [q] at h; cases h
    | some d' =>
      rw [q] at h
      cases h
      obtain ⟨v, h1, h2⟩ := RepVs.get r q
      refine ⟨v, ?_, h2⟩
      unfold L2.start
      rw [List.getElem?_append_left (by simpa [e] using hi), List.getElem?_map, h1]
      rfl
  · rw [List.getElem?_append_right (by simpa using hi)] at h
    have := List.mem_of_getElem? h
    rw [List.mem_replicate] at this
    cases this.2
/-- a def whose body's reading is g, worth F -/
theorem fnd_of {P : Program} {w : World} {K : PySem.W.Frag} {mg : Str → Option Value} {base : Heap} {x qual : Str} {st : Stmt} {f : Addr} {fd : FuncData} {N ps : List Str} {k : Nat} {g : Fs} {F : List D → M D}
    (Fn : Fun K x qual st f fd) (S : FnScope N ps (defScope st))
    (hbody : ∀ (cdv : Value) (A : Around) (outer : List Env) (s : Shared) (H : Hp) (E : XK), Room k (A.deeper (PyProof.Rows.envOfC qual (defScope st) s.heap.objs.size f cdv)) →
      DSs (cxOf (L2.CX P w) P w K mg base N qual (defScope st) f cdv A outer s H E) (WF E) (defBody st) g)
    (hF : ∀ ds S, F ds S ≠ .bad → ds.length = ps.length ∧ finR (g (slots N.length ds) S) = F ds S) : FnOk P w K mg base (L2.CX P w) (k + 1) f fd ps (spD ⟨mg, K⟩ F) := by
  refine Fn.okX S (fun vs H Q E ⟨w, ds, S, R, V, P⟩ => ?_) (fun cdv A outer s H vs Q E hr ⟨w', ds, S', R, V, P⟩ => ⟨_, hbody cdv A outer s H E hr, w', slots N.length ds, S', R, RepE.start V, ?_⟩)
  · have nb : F ds S ≠ .bad := fun e => by rw [e] at P; exact P.elim
    rw [V.length, (hF ds S nb).1]
  · have nb : F ds S' ≠ .bad := fun e => by rw [e] at P; exact P.elim
    have e := (hF ds S' nb).2
    rw [← e] at P
    show PostS ⟨mg, K⟩ (WF E) { nx := fun _ H' => Q .non H', rt := Q } w' (g (slots N.length ds) S')
    cases q : g (slots N.length ds) S' with
    | nx ρ S1 => rw [q] at P; exact fun σ w1 H1 g1 R1 _ => P w1 H1 g1 R1 _ .non
    | rt d S1 => rw [q] at P; exact fun v w1 H1 g1 R1 V1 => P w1 H1 g1 R1 v V1
    | exc x ρ S1 => rw [q] at P; exact fun σ c dx w1 H1 g1 R1 _ X1 => P c dx w1 H1 g1 R1 X1
    | bk ρ S1 => rw [q] at P; exact P.elim
    | ct ρ S1 => rw [q] at P; exact P.elim
    | bad => rw [q] at P; exact P.elim
/-- a weaker worth -/
theorem fnd_imp {P : Program} {w : World} {K : PySem.W.Frag} {mg : Str → Option Value} {base : Heap} {CX : CXT} {f : Addr} {fd : FuncData} {ps : List Str} {k : Nat} {G : Gm} {F F' : List D → M D} (h : FnOk P w K mg base CX k f fd ps (spD G F))
    (hF : ∀ ds S, F' ds S ≠ .bad → F ds S = F' ds S) : FnOk P w K mg base CX k f fd ps (spD G F') := h.imp fun vs H Q E ⟨w', ds, S, R, V, P⟩ => ⟨w', ds, S, R, V, by
  have nb : F' ds S ≠ .bad := fun e => by rw [e] at P; exact P.elim
  rw [hF ds S nb]
  exact P⟩

/-! ### calls of defs -/
section
variable {X : Cx} {W : WX} {e a b c o i : Expr} {f g k : Fe} {pos : Pos} {es rest : List Expr} {fs : Fl} {st : Stmt} {sts : List Stmt} {u v : Fs}
theorem de_call {x : Str} {p : Pos} {lv : Nat} {fa : Addr} {fd : FuncData} {ps : List Str} {F : List D → M D} (Fn : FnOk X.prog X.w X.K X.mg X.base (L2.CX X.prog X.w) lv fa fd ps (spD X.gm F)) (hr : Room lv X.A) (hg : Gl X x) (hm : X.mg x = some (.ref fa)) (hk : PySem.W.keepIn X.K (.ref fa) = true)
    (hb : Binds X.K fd ps []) (tk : Takes X W) (ha : DA X W (e :: es) fs) (hdb : (x == ("__debug__" : Str)) = false := by decide) (he : starEach (e :: es) X.env = (false, eval e X.env) :: starEach es X.env := by rfl) (hpl : (backTo pos (starEach es X.env)).any (·.1) = false := by rfl) :
    DE X W (.Call (.Name x p) (e :: es) [] pos) (eCB F fs) := (pe_callS Fn hr hg hm hk hb (fun σ => passAt tk σ) ha hdb he hpl).imp fun σ H Q ⟨w, ρ, S, R, E, P⟩ =>
  stepA R E P fun vs w1 H1 S1 ds g1 R1 E1 V1 P1 => ⟨w1, ds, S1, R1, V1, by
    cases q : F ds S1 with
    | ok d S2 => rw [q] at P1; exact P1
    | exc x S2 => rw [q] at P1; exact P1
    | bad => rw [q] at P1; exact P1⟩

/-! ### a new instance -/
theorem run_makeS {CX : CXT} {C fi : Addr} {fd : FuncData} {ps : List Str} {lv : Nat} {sp : Sp} {E : XK} {pins : List (Addr × Obj)} {σ : L2.St} {H : Hp} {s : Shared} {Q : VK} {us : List Value} {vs : List V} (M : Mk X.K C fi) (F : FnOk X.prog X.w X.K X.mg X.base CX lv fi fd ps sp) (hr : Room (lv + 1) X.A) (hb : Binds X.K fd ps [])
    (hx : ∀ (pins : List (Addr × Obj)) (H : Hp) (s : Shared) (e : Value) (s' : Shared), Inv X pins σ H s → CX X.stack H s E e s' → X.xe e s') (I : Inv X pins σ H s) (r : Vals vs us)
    (h : ∀ x dx, H x = none → H dx = none → dx ≠ x → sp (.ref x :: vs) (upd (upd H dx (.own x)) x (.ins C dx [])) (fun v H2 => v = .non ∧ Q (.ref x) H2) E) :
    wpAny (model X.prog X.w) X.A (PySem.call (.ref C) us) (EP X pins σ Q) X.xe s := by
  have hq := h (s.heap.objs.size + 1) s.heap.objs.size (I.hok.fresh (Nat.le_succ _)) (I.hok.fresh (Nat.le_refl _)) (Nat.ne_of_lt (Nat.lt_succ_self _))
  have I2 := Inv.made (C := C) I
  have r2 : Vals (V.ref (s.heap.objs.size + 1) :: vs) (Value.ref (s.heap.objs.size + 1) :: us) := .cons rfl r
  have hl : (Value.ref (s.heap.objs.size + 1) :: us ++ []).length = ps.length := by
    have e := r2.length
    rw [F.len _ _ _ _ hq] at e
    rw [List.append_nil]
    exact e.symm
  have b := hb _ (Value.ref (s.heap.objs.size + 1) :: us) I2.kIn hl
  rw [List.append_nil] at b
  refine wpAny_call (make_map (f := fi) I.kIn M.makes M.init (beq_iff_eq.mp M.fn) (codeAny_mono (F.run _ X.stack _ _ ⟨Value.ref (s.heap.objs.size + 1) :: us, []⟩ (Value.ref (s.heap.objs.size + 1) :: us) _ _ E (hr.make C us [])
    (I2.env0.make C us []) b r2 hq) fun r s' hq' => ?_))
  cases r with
  | error e => exact hx pins _ _ e s' I2 hq'
  | ok fl =>
    cases fl with
    | ret u =>
      obtain ⟨v, H', I3, rv, ev, q3⟩ := I2.after hq'
      subst ev
      exact ⟨rv, ⟨V.ref (s.heap.objs.size + 1), H', I3, rfl, q3⟩⟩
    | next => exact False.elim hq'
    | brk => exact False.elim hq'
    | cont => exact False.elim hq'
def tMakeS (C : Addr) (sp : Sp) (E : L2.St → XK) (t : TA) : TE := fun σ H Q => t σ H fun vs H1 => ∀ x dx, H1 x = none → H1 dx = none → dx ≠ x →
  sp (.ref x :: vs) (upd (upd H1 dx (.own x)) x (.ins C dx [])) (fun v H2 => v = .non ∧ Q (.ref x) H2) (E σ)
theorem pe_makeS {CX : CXT} {C fi : Addr} {fd : FuncData} {ps : List Str} {lv : Nat} {sp : Sp} {E : L2.St → XK} {x : Str} {p : Pos} {t : TA} (M : Mk X.K C fi) (F : FnOk X.prog X.w X.K X.mg X.base CX lv fi fd ps sp) (hr : Room (lv + 1) X.A) (hg : Gl X x) (hm : X.mg x = some (.ref C)) (hb : Binds X.K fd ps [])
    (hx : ∀ σ, PassesAt CX X σ (E σ))
    (ha : PA X (e :: es) t) (hdb : (x == ("__debug__" : Str)) = false := by decide) (he : starEach (e :: es) X.env = (false, eval e X.env) :: starEach es X.env := by rfl) (hpl : (backTo pos (starEach es X.env)).any (·.1) = false := by rfl) :
    PE X (.Call (.Name x p) (e :: es) [] pos) (tMakeS C sp E t) := by
  refine ⟨fun pins s σ H Q I h => ?_⟩
  refine wpAny_Call_Name_kw (ld_glob I hg hm ?_ hdb)
  refine PySem.W.callWith_K (h₀ := X.base) I.ok.mod.kin M.kp (thn (ha.run pos pins s σ H _ I h) fun us s1 ⟨vs, H1, I1, r, q⟩ => ⟨I1.kIn, ?_⟩) he hpl
  exact run_makeS M F hr hb (hx σ) I1 r q
def kMake (c : Str) (F : List D → M D) : List D → M D := fun ds S => match F (.o S.length :: ds) (S ++ [.ins c []]) with
  | .ok (.p .none) S' => .ok (.o S.length) S'
  | .exc x S' => .exc x S'
  | _ => .bad
theorem de_make {x : Str} {p : Pos} {C fi : Addr} {lv : Nat} {fd : FuncData} {ps : List Str} {F : List D → M D} (M : Mk X.K C fi) (Fn : FnOk X.prog X.w X.K X.mg X.base (L2.CX X.prog X.w) lv fi fd ps (spD X.gm F)) (hr : Room (lv + 1) X.A) (hg : Gl X x) (hm : X.mg x = some (.ref C))
    (hb : Binds X.K fd ps []) (tk : Takes X W) (ha : DA X W (e :: es) fs) (hdb : (x == ("__debug__" : Str)) = false := by decide) (he : starEach (e :: es) X.env = (false, eval e X.env) :: starEach es X.env := by rfl) (hpl : (backTo pos (starEach es X.env)).any (·.1) = false := by rfl) :
    DE X W (.Call (.Name x p) (e :: es) [] pos) (eCB (kMake x F) fs) := (pe_makeS M Fn hr hg hm hb (fun σ => passAt tk σ) ha hdb he hpl).imp fun σ H Q ⟨w, ρ, S, R, E, P⟩ =>
  stepA R E P fun vs w1 H1 S1 ds g1 R1 E1 V1 P1 y dx hy hdx hne => by
    obtain ⟨R2, b2, z2, m2⟩ := R1.lay (.own y) hdx
    have hy2 : (upd H1 dx (.own y)) y = none := by rw [upd_ne (Ne.symm hne)]; exact hy
    obtain ⟨g3, R3⟩ := R2.newC (o := .ins C dx []) (c := .ins x []) hy2 ⟨hm, .nil⟩
    have ey : RepV (w1.addM y) (.ref y) (.o S1.length) := ⟨y, by show (w1.m ++ [y])[S1.length]? = some y; rw [← R1.len]; simp, rfl⟩
    refine ⟨_, .o S1.length :: ds, S1 ++ [.ins x []], R3, .cons ey (RepVs.grow g3 V1), ?_⟩
    have P1 := P1.grow g3
    unfold kMake at P1
    cases q : F (.o S1.length :: ds) (S1 ++ [.ins x []]) with
    | bad => rw [q] at P1; exact P1.elim
    | exc z S4 => rw [q] at P1; exact P1
    | ok d S4 =>
      rw [q] at P1
      intro w4 H4 g4 R4 v4 V4
      cases d with
      | o i => exact P1.elim
      | s ns => exact P1.elim
      | p d =>
        cases d with
        | none =>
          cases V4.cases_p
          exact ⟨rfl, P1 w4 H4 g4 R4 _ (ey.grow g4)⟩
        | _ => exact P1.elim

/-! ### stores -/
/-- self.m = v -/
def putD (m : Str) (v : D) : List (Str × D) → List (Str × D)
  | [] => [(m, v)]
  | (a, x) :: r => if a = m then (a, v) :: r else (a, x) :: putD m v r
theorem RepF.put {w : Wd} {m : Str} {v : V} {d : D} (rv : RepV w v d) : ∀ {fs : List (Str × V)} {gs : List (Str × D)}, RepF w fs gs → RepF w (putF m v fs) (putD m d gs)
  | _, _, .nil => .cons ⟨rfl, rv⟩ .nil
  | (a, x) :: fs, (b, y) :: gs, .cons ⟨h1, h2⟩ t => by
    have h1 : a = b := h1
    subst h1
    unfold putF putD
    by_cases e : a = m
    · rw [if_pos e, if_pos e]; exact .cons ⟨rfl, rv⟩ t
    · rw [if_neg e, if_neg e]; exact .cons ⟨rfl, h2⟩ (RepF.put rv t)
theorem RepF.length {κ : Type} {w : Wd} {fs : List (κ × V)} {gs : List (κ × D)} (h : RepF w fs gs) : fs.length = gs.length := Paired.length h
def putAt (c m : Str) (x v : D) (S : Store) : Option Store := match x with
  | .o i => (insAt S i).bind fun p => if p.1 = c ∧ p.2.length < 1000 then some (S.set i (.ins c (putD m v p.2))) else none
  | _ => none
def nxO (ρ : Sl) : Option Store → RS
  | some S => .nx ρ S
  | none => .bad
def sFld (c m : Str) (fo fv : Fe) : Fs := fun ρ S => bindS ρ (fv ρ S) fun v S1 => bindS ρ (fo ρ S1) fun x S2 => nxO ρ (putAt c m x v S2)
theorem ds_fld {C : Addr} {c m : Str} {value : Expr} {pos' : Pos} {fv : Fe} (hmc : X.mg c = some (.ref C)) (cl : Cls X.K C) (nm : NoAttr X.K C m) (ho : DE X W o f) (hv : DE X W value fv) (hs : swapsWith value (some (.Attribute o m pos')) pos.line X.env = pure false := by rfl) :
    DS X W (.Assign [.Attribute o m pos'] value pos) (sFld c m f fv) := (ps_fld ho hv hs).imp fun En σ H ⟨w, ρ, S, R, E, P⟩ =>
  stepES R E P fun y w1 H1 S1 dv g1 R1 E1 V1 P1 => stepES R1 E1 P1 fun x w2 H2 S2 d g2 R2 E2 V2 P2 => by
    unfold putAt at P2
    cases d with
    | p d => exact P2.elim
    | s ns => exact P2.elim
    | o i =>
      replace P2 : PostS X.gm W En w2 (nxO ρ ((insAt S2 i).bind fun p => if p.1 = c ∧ p.2.length < 1000 then some (S2.set i (.ins c (putD m dv p.2))) else none)) := P2
      cases q : insAt S2 i with
      | none => rw [q] at P2; exact P2.elim
      | some pr =>
        rw [q] at P2
        dsimp only [Option.bind] at P2
        by_cases hc : pr.1 = c ∧ pr.2.length < 1000
        · rw [if_pos hc] at P2
          obtain ⟨a, ha, rfl⟩ := V2
          obtain ⟨oo, ho, r⟩ := R2.at_ ha (insAt_some q)
          obtain ⟨C', dx, xs, rfl, hmg, rf⟩ := r.ins_inv
          have hmg : X.mg pr.1 = some (.ref C') := hmg
          rw [hc.1, hmc] at hmg
          cases hmg
          exact ⟨a, C, dx, xs, rfl, ho, cl, nm, by rw [rf.length]; exact hc.2, P2 σ w2 _ (Grow.refl _) (R2.setC (o := .ins C dx (putF m y xs)) ha ⟨hmc, RepF.put (V1.grow g2) rf⟩) E2⟩
        · rw [if_neg hc] at P2
          exact P2.elim
/-- xs[i] = v of a list's cell -/
def lstAt (S : Store) (i : Nat) : Option (List D) := S[i]?.bind Cell.lst?
theorem lstAt_some {S : Store} {i : Nat} {ds : List D} (h : lstAt S i = some ds) : S[i]? = some (.lst ds) := by
  obtain ⟨c, h1, h2⟩ := Option.bind_eq_some_iff.mp h
  rw [h1, Cell.lst_eq h2]
def setAt (x i v : D) (S : Store) : Option Store := match x, i with
  | .o a, .p (.int k) => (lstAt S a).bind fun ds => (ixN ds.length k).map fun j => S.set a (.lst (ds.set j v))
  | _, _ => none
def sItem (fo fi fv : Fe) : Fs := fun ρ S => bindS ρ (fv ρ S) fun v S1 => bindS ρ (fo ρ S1) fun x S2 => bindS ρ (fi ρ S2) fun i S3 => nxO ρ (setAt x i v S3)
theorem ds_item {value : Expr} {pos' : Pos} {fv : Fe} (ho : DE X W o f) (hi : DE X W i g) (hv : DE X W value fv)
    (ha : ∀ v, assign (.Subscript o i pos') X.env v = (do
      let ov ← holding [v] (eval o X.env)
      let iv ← holding [v, ov] (eval i X.env)
      standAt pos'
      holding [v, ov, iv] (setItem ov iv v)
      release [v, ov, iv] []) := by intro _; rfl)
    (hs : swapsWithSole [.Subscript o i pos'] value pos.line X.env = pure false := by rfl) (hw : swappedStores [.Subscript o i pos'] value X.env = pure none := by rfl)
    (h1 : (assignEach [.Subscript o i pos'] X.env).map (·.2) = [assign (.Subscript o i pos') X.env] := by rfl) :
    DS X W (.Assign [.Subscript o i pos'] value pos) (sItem f g fv) := (ps_asg hv (pg_sub ho hi set_list ha) hs hw h1).imp fun En σ H ⟨w, ρ, S, R, E, P⟩ =>
  stepES R E P fun y w1 H1 S1 dv g1 R1 E1 V1 P1 => stepES R1 E1 P1 fun x w2 H2 S2 d g2 R2 E2 V2 P2 => stepES R2 E2 P2 fun z w3 H3 S3 di g3 R3 E3 V3 P3 => by
    unfold setAt at P3
    split at P3
    · rename_i a k
      cases V3.cases_p
      obtain ⟨ad, ha, rfl⟩ := V2.grow g3
      cases q : lstAt S3 a with
      | none => rw [q] at P3; exact P3.elim
      | some ds =>
        rw [q] at P3
        dsimp only [Option.bind] at P3
        cases q2 : ixN ds.length k with
        | none => rw [q2] at P3; exact P3.elim
        | some j =>
          rw [q2] at P3
          obtain ⟨oo, ho, r⟩ := R3.at_ ha (lstAt_some q)
          obtain ⟨xs, rfl, r⟩ := r.lst_inv
          exact ⟨ad, xs, k, j, rfl, rfl, ho, by rw [r.length]; exact q2, P3 σ w3 _ (Grow.refl _) (R3.setC (o := .lst (xs.set j y)) ha (RepVs.set (V1.grow (g2.trans g3)) j r)) E3⟩
    · exact P3.elim

/-! ### methods of lists -/
def kIsL : D → M D := fun x S => match x with
  | .o i => if (lstAt S i).isSome = true then .ok x S else .bad
  | _ => .bad
def kApp (x y : D) : M D := fun S => match x with
  | .o i => ofO S (lstAt S i) |> fun r => match r with
    | .ok ds S => if ds.length < sizeLine then .ok (.p .none) (S.set i (.lst (ds ++ [y]))) else .bad
    | _ => .bad
  | _ => .bad
def kPop (x : D) : M D := fun S => match x with
  | .o i => match lstAt S i with
    | some ds => match ds[ds.length - 1]? with
      | some y => .ok y (S.set i (.lst ds.dropLast))
      | none => .bad
    | none => .bad
  | _ => .bad
def eApp (f g : Fe) : Fe := fun ρ => M.bind (f ρ) fun x => M.bind (kIsL x) fun _ => M.bind (g ρ) fun y => kApp x y
def ePop (f : Fe) : Fe := fun ρ => M.bind (f ρ) kPop
theorem mtr_of {id : String} {r : V → List V → Hp → VK → Prop} (h : MtM X id r) : MtR X id r := h
theorem de_app {apos cpos : Pos} (ho : DE X W o f) (ha : DE X W e g)
    (hbase : attributeBase o "append" X.env (eval o X.env) = eval o X.env := by rfl)
    (hfew : ((backTo cpos (starEach [e] X.env)).all (fun x => !x.1) && (backToKw cpos (keywordEach [] X.env)).all (fun x => x.1.isSome)
      && decide (([e] : List Expr).length + ([] : List Keyword).length + (if ([] : List Keyword).isEmpty then 0 else 1) < 30)) = true := by rfl)
    (hline : (apos.endLine == cpos.line) = true := by rfl) (hs : starEach [e] X.env = (false, eval e X.env) :: starEach [] X.env := by rfl) (hplain : (backTo cpos (starEach [] X.env)).any (·.1) = false := by rfl) :
    DE X W (.Call (.Attribute o "append" apos) [e] [] cpos) (eApp f g) :=
  (pe_bm PySem.F.plainAttrs_list PySem.F.slot_list_append PySem.F.type_list_append mt_append ho (pa_cons ha pa_nil hs) hbase hfew hline hs hplain).imp fun σ H Q ⟨w, ρ, S, R, E, P⟩ => by
    refine stepE R E P fun x w1 H1 S1 d g1 R1 E1 V1 P1 => ?_
    have P1 : Post X.gm W σ w1 Q (M.bind (kIsL d) (fun _ => M.bind (g ρ) fun y => kApp d y) S1) := P1
    cases d with
    | p d => exact P1.elim
    | s ns => exact P1.elim
    | o i =>
      rw [M.bind_eq] at P1
      unfold kIsL at P1
      dsimp only at P1
      cases q : lstAt S1 i with
      | none => rw [q] at P1; exact P1.elim
      | some ds =>
        rw [q] at P1
        obtain ⟨a, ha, rfl⟩ := id V1
        obtain ⟨oo, ho, r⟩ := R1.at_ ha (lstAt_some q)
        obtain ⟨xs, rfl, r⟩ := r.lst_inv
        refine ⟨.inl ⟨rfl, _, SqL.of ho⟩, ?_⟩
        have P1 : Post X.gm W σ w1 Q (M.bind (g ρ) (fun y => kApp (.o i) y) S1) := P1
        refine stepE R1 E1 P1 fun y w2 H2 S2 dy g2 R2 E2 V2 P2 => ?_
        unfold kApp at P2
        dsimp only at P2
        cases q2 : lstAt S2 i with
        | none => rw [q2] at P2; exact P2.elim
        | some ds2 =>
          rw [q2] at P2
          have P2 : Post X.gm W σ w2 Q (if ds2.length < sizeLine then .ok (.p .none) (S2.set i (.lst (ds2 ++ [dy]))) else .bad) := P2
          by_cases hl : ds2.length < sizeLine
          · rw [if_pos hl] at P2
            obtain ⟨o2, ho2, r2⟩ := R2.at_ (g2.at ha) (lstAt_some q2)
            obtain ⟨ys, rfl, r2⟩ := r2.lst_inv
            exact ⟨a, ys, y, rfl, rfl, ho2, by rw [r2.length]; exact hl, P2 w2 _ (Grow.refl _) (R2.setC (o := .lst (ys ++ [y])) (g2.at ha) (RepVs.append r2 (.cons V2 .nil))) _ .non⟩
          · rw [if_neg hl] at P2
            exact P2.elim
theorem de_pop {apos cpos : Pos} (ho : DE X W o f) (hbase : attributeBase o "pop" X.env (eval o X.env) = eval o X.env := by rfl) (hline : (apos.endLine == cpos.line) = true := by rfl) :
    DE X W (.Call (.Attribute o "pop" apos) [] [] cpos) (ePop f) := (pe_bm0 PySem.F.plainAttrs_list PySem.F.slot_list_pop PySem.F.type_list_pop mt_pop ho hbase hline).imp fun σ H Q ⟨w, ρ, S, R, E, P⟩ => by
    refine stepE R E P fun x w1 H1 S1 d g1 R1 E1 V1 P1 => ?_
    cases d with
    | p d => exact P1.elim
    | s ns => exact P1.elim
    | o i =>
      unfold kPop at P1
      dsimp only at P1
      cases q : lstAt S1 i with
      | none => rw [q] at P1; exact P1.elim
      | some ds =>
        rw [q] at P1
        dsimp only at P1
        cases q2 : ds[ds.length - 1]? with
        | none => rw [q2] at P1; exact P1.elim
        | some y =>
          rw [q2] at P1
          obtain ⟨a, ha, rfl⟩ := V1
          obtain ⟨oo, ho, r⟩ := R1.at_ ha (lstAt_some q)
          obtain ⟨xs, rfl, r⟩ := r.lst_inv
          obtain ⟨v, h1, h2⟩ := RepVs.get r q2
          exact ⟨.inl ⟨rfl, _, SqL.of ho⟩, a, xs, v, rfl, rfl, ho, by rw [r.length]; exact h1, P1 w1 _ (Grow.refl _) (R1.setC (o := .lst xs.dropLast) ha r.dropLast) _ h2⟩
end
end DL
set_option Elab.async false
set_option linter.all false
set_option maxRecDepth 100000
set_option maxHeartbeats 4000000
namespace DL
open PySem PySem.Spec L2
/-! ### defs by their names -/
/-- the def stands in the module under its name -/
structure DefAt (K : PySem.W.Frag) (mg : Str → Option Value) (x : Str) (st : Stmt) (ps : List Str) : Prop where
  ex : ∃ fa fd, mg x = some (.ref fa) ∧ Fun K x x st fa fd ∧ Binds K fd ps []
/-- .. and what it is worth -/
structure DefOk (P : Program) (w : World) (K : PySem.W.Frag) (mg : Str → Option Value) (base : Heap) (x : Str) (ps : List Str) (lv : Nat) (F : List D → M D) : Prop where
  ex : ∃ fa fd, mg x = some (.ref fa) ∧ PySem.W.keepIn K (.ref fa) = true ∧ Binds K fd ps [] ∧ FnOk P w K mg base (L2.CX P w) lv fa fd ps (spD ⟨mg, K⟩ F)
/-- a method that stands in a class -/
structure MethAt (K : PySem.W.Frag) (C : Addr) (m qual : Str) (st : Stmt) (ps : List Str) : Prop where
  ex : ∃ fa fd, PySem.W.findIn K (.ref C) m = some (some (.ref fa)) ∧ PySem.W.isFn K (.ref fa) = true ∧ Fun K m qual st fa fd ∧ Binds K fd ps []
structure MethOk (P : Program) (w : World) (K : PySem.W.Frag) (mg : Str → Option Value) (base : Heap) (C : Addr) (m : Str) (ps : List Str) (lv : Nat) (F : List D → M D) : Prop where
  ex : ∃ fa fd, PySem.W.findIn K (.ref C) m = some (some (.ref fa)) ∧ PySem.W.isFn K (.ref fa) = true ∧ PySem.W.keepIn K (.ref fa) = true ∧ Binds K fd ps [] ∧ FnOk P w K mg base (L2.CX P w) lv fa fd ps (spD ⟨mg, K⟩ F)
section
variable {P : Program} {w : World} {K : PySem.W.Frag} {mg : Str → Option Value} {base : Heap}
theorem DefOk.imp {x : Str} {ps : List Str} {lv : Nat} {F F' : List D → M D} (h : DefOk P w K mg base x ps lv F) (hF : ∀ ds S, F' ds S ≠ .bad → F ds S = F' ds S) : DefOk P w K mg base x ps lv F' :=
  let ⟨fa, fd, h1, h2, h3, h4⟩ := h.ex
  ⟨fa, fd, h1, h2, h3, fnd_imp h4 hF⟩
theorem DefOk.mono {x : Str} {ps : List Str} {lv lv' : Nat} {F : List D → M D} (h : DefOk P w K mg base x ps lv F) (l : lv ≤ lv') : DefOk P w K mg base x ps lv' F :=
  let ⟨fa, fd, h1, h2, h3, h4⟩ := h.ex
  ⟨fa, fd, h1, h2, h3, h4.mono l⟩
/-- a def is worth what the reading of its body gives -/
def bodyF (n N : Nat) (g : Fs) : List D → M D := fun ds S => if ds.length = n then finR (g (slots N ds) S) else .bad
theorem def_ok {x : Str} {st : Stmt} {N ps : List Str} {k : Nat} {g : Fs} (h : DefAt K mg x st ps) (S : FnScope N ps (defScope st))
    (hbody : ∀ (f : Addr) (cdv : Value) (A : Around) (outer : List Env) (s : Shared) (H : Hp) (E : XK), Room k (A.deeper (PyProof.Rows.envOfC x (defScope st) s.heap.objs.size f cdv)) →
      DSs (cxOf (L2.CX P w) P w K mg base N x (defScope st) f cdv A outer s H E) (WF E) (defBody st) g) : DefOk P w K mg base x ps (k + 1) (bodyF ps.length N.length g) := by
  obtain ⟨fa, fd, h1, h2, h3⟩ := h.ex
  refine ⟨fa, fd, h1, h2.kp, h3, fnd_of h2 S (hbody fa) fun ds S' nb => ?_⟩
  unfold bodyF at nb ⊢
  by_cases e : ds.length = ps.length
  · rw [if_pos e]; exact ⟨e, rfl⟩
  · rw [if_neg e] at nb; exact absurd rfl nb
theorem meth_ok {C : Addr} {m qual : Str} {st : Stmt} {N ps : List Str} {k : Nat} {g : Fs} (h : MethAt K C m qual st ps) (S : FnScope N ps (defScope st))
    (hbody : ∀ (f : Addr) (cdv : Value) (A : Around) (outer : List Env) (s : Shared) (H : Hp) (E : XK), Room k (A.deeper (PyProof.Rows.envOfC qual (defScope st) s.heap.objs.size f cdv)) →
      DSs (cxOf (L2.CX P w) P w K mg base N qual (defScope st) f cdv A outer s H E) (WF E) (defBody st) g) : MethOk P w K mg base C m ps (k + 1) (bodyF ps.length N.length g) := by
  obtain ⟨fa, fd, h1, h1', h2, h3⟩ := h.ex
  refine ⟨fa, fd, h1, h1', h2.kp, h3, fnd_of h2 S (hbody fa) fun ds S' nb => ?_⟩
  unfold bodyF at nb ⊢
  by_cases e : ds.length = ps.length
  · rw [if_pos e]; exact ⟨e, rfl⟩
  · rw [if_neg e] at nb; exact absurd rfl nb
end
theorem hu65 {A : Around} {k : Nat} (hr : Room k A) : A.units + 65 < cLine := by have := hr.un; omega
theorem hu1 {A : Around} {k : Nat} (hr : Room k A) : A.units + 1 < cLine := by have := hr.un; omega
section
variable {X : Cx} {W : WX} {e a b c o i : Expr} {f g k : Fe} {pos : Pos} {es rest : List Expr} {fs : Fl}
theorem de_callD {x : Str} {p : Pos} {lv : Nat} {ps : List Str} {F : List D → M D} (h : DefOk X.prog X.w X.K X.mg X.base x ps lv F) (hr : Room lv X.A) (hg : Gl X x) (tk : Takes X W) (ha : DA X W (e :: es) fs)
    (hdb : (x == ("__debug__" : Str)) = false := by decide) (he : starEach (e :: es) X.env = (false, eval e X.env) :: starEach es X.env := by rfl) (hpl : (backTo pos (starEach es X.env)).any (·.1) = false := by rfl) :
    DE X W (.Call (.Name x p) (e :: es) [] pos) (eCB F fs) :=
  let ⟨_, _, h1, h2, h3, h4⟩ := h.ex
  de_call h4 hr hg h1 h2 h3 tk ha hdb he hpl
/-- what a class must have to be made -/
structure MkC (K : PySem.W.Frag) (C : Addr) : Prop where
  makes : PySem.W.makesIn K C = true
  kp : PySem.W.keepIn K (.ref C) = true
theorem de_makeD {x : Str} {p : Pos} {C : Addr} {lv : Nat} {ps : List Str} {F : List D → M D} (hm : X.mg x = some (.ref C)) (M : MkC X.K C) (h : MethOk X.prog X.w X.K X.mg X.base C "__init__" ps lv F) (hr : Room (lv + 1) X.A) (hg : Gl X x) (tk : Takes X W) (ha : DA X W (e :: es) fs)
    (hdb : (x == ("__debug__" : Str)) = false := by decide) (he : starEach (e :: es) X.env = (false, eval e X.env) :: starEach es X.env := by rfl) (hpl : (backTo pos (starEach es X.env)).any (·.1) = false := by rfl) :
    DE X W (.Call (.Name x p) (e :: es) [] pos) (eCB (kMake x F) fs) :=
  let ⟨_, _, h1, h1', _, h3, h4⟩ := h.ex
  de_make ⟨M.makes, h1, h1', M.kp⟩ h4 hr hg hm h3 tk ha hdb he hpl

/-! ### isinstance against an own class -/
structure IsC (K : PySem.W.Frag) (C : Addr) : Prop where
  cl : Cls K C
  ca : PySem.W.findIn K (.ref C) "__class__" = some (some (.builtin "object.__class__"))
  hn : PySem.W.specialIn K (.builtin "object.__class__") "__get__" = some (some (.builtin "getset_descriptor.__get__"))
  htk : PySem.W.takesIn K (.builtin "object.__class__") = some true
  hm : PySem.W.mroIn K C (.type "object") = some true
  self : PySem.W.kitOne K (.ref C) (.ref C) = some true
  non : PySem.W.kitOne K (.type "NoneType") (.ref C) = some false
  bl : PySem.W.kitOne K (.type "bool") (.ref C) = some false
  int : PySem.W.kitOne K (.type "int") (.ref C) = some false
  str : PySem.W.kitOne K (.type "str") (.ref C) = some false
  lst : PySem.W.kitOne K (.type "list") (.ref C) = some false
  tup : PySem.W.kitOne K (.type "tuple") (.ref C) = some false
def fIsiOwn (c : Str) : D → M D := fun x S => match x with
  | .o i => match insAt S i with
    | some p => if p.1 = c then .ok (.p (.bool true)) S else .bad
    | none => match lstAt S i with
      | some _ => .ok (.p (.bool false)) S
      | none => .bad
  | .p (.dict _) => .bad
  | _ => .ok (.p (.bool false)) S
theorem de_isiOwn {C : Addr} {c : Str} {p p2 : Pos} (hg : Gl X "isinstance") (hm : X.mg "isinstance" = none) (hgc : Gl X c) (hmc : X.mg c = some (.ref C)) (T : IsC X.K C) (ha : DE X W e f)
    (hdT : (c == ("__debug__" : Str)) = false := by decide)
    (he : starEach [e, .Name c p2] X.env = (false, eval e X.env) :: starEach [.Name c p2] X.env := by rfl) (he' : starEach [.Name c p2] X.env = (false, eval (.Name c p2) X.env) :: starEach [] X.env := by rfl) (hpl : (backTo pos (starEach [.Name c p2] X.env)).any (·.1) = false := by rfl) :
    DE X W (.Call (.Name "isinstance" p) [e, .Name c p2] [] pos) (eUn (fIsiOwn c) f) :=
  (pe_callB call_isi hg hm PyProof.Rows.boot_isinstance (pa_cons ha (pa_cons (pe_glob (v := .ref C) hgc hmc rfl hdT) pa_nil he') he) (by decide) (by decide) he hpl).imp fun σ H Q ⟨w, ρ, S, R, E, P⟩ => by
    refine stepE R E P fun x w1 H1 S1 d g1 R1 E1 V1 P1 => ?_
    have fin : ∀ {t : Value} {b : Bool}, TyX X.K H1 x t → PySem.W.kitOne X.K t (.ref C) = some b → Q (.bl b) H1 → rIsi X.K [x, .ref C] H1 Q := fun ty k q => ⟨x, .ref C, _, .ref C, _, rfl, .own C, ty, k, q⟩
    cases d with
    | s ns => exact fin (tyC_ty R1 V1 rfl) T.lst (Post.here R1 P1 (.bl _))
    | p d =>
      cases d with
      | none => exact fin (tyC_ty R1 V1 rfl) T.non (Post.here R1 P1 (.bl _))
      | bool _ => exact fin (tyC_ty R1 V1 rfl) T.bl (Post.here R1 P1 (.bl _))
      | int _ => exact fin (tyC_ty R1 V1 rfl) T.int (Post.here R1 P1 (.bl _))
      | str _ => exact fin (tyC_ty R1 V1 rfl) T.str (Post.here R1 P1 (.bl _))
      | list _ => exact fin (tyC_ty R1 V1 rfl) T.lst (Post.here R1 P1 (.bl _))
      | tuple _ => exact fin (tyC_ty R1 V1 rfl) T.tup (Post.here R1 P1 (.bl _))
      | dict _ => exact P1.elim
    | o i =>
      unfold fIsiOwn at P1
      dsimp only at P1
      cases q : insAt S1 i with
      | some pr =>
        rw [q] at P1
        dsimp only at P1
        by_cases hc : pr.1 = c
        · rw [if_pos hc] at P1
          obtain ⟨a, ha, rfl⟩ := id V1
          obtain ⟨oo, ho, r⟩ := R1.at_ ha (insAt_some q)
          obtain ⟨C', dx, xs, rfl, hmg, rf⟩ := r.ins_inv
          have hmg : X.mg pr.1 = some (.ref C') := hmg
          rw [hc, hmc] at hmg
          cases hmg
          exact fin (.base (.ins ho T.cl T.ca T.hn T.htk T.hm)) T.self (Post.here R1 P1 (.bl _))
        · rw [if_neg hc] at P1; exact P1.elim
      | none =>
        rw [q] at P1
        dsimp only at P1
        cases q2 : lstAt S1 i with
        | none => rw [q2] at P1; exact P1.elim
        | some ds =>
          rw [q2] at P1
          have e : tyC S1 (.o i) = some "list" := by
            show S1[i]?.bind Cell.ty? = some "list"
            rw [lstAt_some q2]; rfl
          exact fin (tyC_ty R1 V1 e) T.lst (Post.here R1 P1 (.bl _))

/-! ### zip of two lists or of two tuples -/
def isTupD : D → Bool
  | .p (.tuple _) => true
  | _ => false
def ofZip : List D → M SrcV
  | [x, y] => fun S => if (seqItems S x).isSome = true ∧ (seqItems S y).isSome = true ∧ isTupD x = isTupD y then .ok (.zip x y) S else .bad
  | _ => M.bad
def srcZip (f g : Fe) : Fsrc := fun ρ => M.bind (aCons f (aCons g aNil) ρ) ofZip
end
end DL
set_option Elab.async false
set_option linter.all false
set_option maxRecDepth 100000
set_option maxHeartbeats 4000000
namespace DL
open PySem PySem.Spec PySem.W PySem.Calls PySem.HandSPX
/-! ### an error class of the program: its __init__ says super().__init__(a text), then keeps its argument -/
def xA (a : Str) (p1 p2 : Pos) : Arguments := { posonlyargs := [], args := [{ arg := "self", annotation := none, pos := p1 }, { arg := a, annotation := none, pos := p2 }], vararg := none, kwonlyargs := [], kw_defaults := [], kwarg := none, defaults := [] }
def xB (a m : Str) (q1 q2 q3 q4 q5 q6 r1 r2 r3 r4 : Pos) (j : Nat) : List Stmt := [.Expr (.Call (.Attribute (.Call (.Name "super" q1) [] [] q2) "__init__" q3) [.Constant (.str m) j q4] [] q5) q6, .Assign [.Attribute (.Name "self" r1) a r2] (.Name a r3) r4]
def xS (a : Str) : Scope := { kind := .function, names := [(PySem.Str.ofString "self", .local), (a, .local), (PySem.Str.ofString "__class__", .free), (PySem.Str.ofString "super", .globalImplicit)], isGenerator := false, isCoroutine := false, more := [] }
theorem super_form {q1 q2 q3 q4 q5 : Pos} {m : Str} {j : Nat} {env : Env} (hp : (q3.endLine == q5.line) = true) : eval (.Call (.Attribute (.Call (.Name "super" q1) [] [] q2) "__init__" q3) [.Constant (.str m) j q4] [] q5) env = (do
      let ov ← attributeBase (.Call (.Name "super" q1) [] [] q2) "__init__" env (eval (.Call (.Name "super" q1) [] [] q2) env)
      standAt q3.atName
      let (f, first) ← holding [ov] (getMethod ov "__init__" (do return (← importBound (.Call (.Name "super" q1) [] [] q2) env).getD true))
      callWith q5 f first (backTo q5 (starEach [.Constant (.str m) j q4] env)) []) := by
  have h : eval (.Call (.Attribute (.Call (.Name "super" q1) [] [] q2) "__init__" q3) [.Constant (.str m) j q4] [] q5) env = (do
      let ov ← attributeBase (.Call (.Name "super" q1) [] [] q2) "__init__" env (eval (.Call (.Name "super" q1) [] [] q2) env)
      standAt q3.atName
      methodCall (.Call (.Name "super" q1) [] [] q2) "__init__" q3 q5 env ov 1 (backTo q5 (starEach [.Constant (.str m) j q4] env)) []) := rfl
  rw [h]
  have hf : methodCallForm 1 (backTo q5 (starEach [.Constant (.str m) j q4] env)) [] = true := rfl
  simp only [methodCall, hf, calleeOf, methodCallPos, hp, Bool.not_true, Bool.false_or, if_true]
  rfl
/-- what stands of such a class at C, its __init__ at fI -/
structure ErrC (P : Program) (K : Frag) (mg : Str → Option Value) (a : Str) (C fI : Addr) : Prop where
  cls : ∃ nm q N bs bm sn sub ab col dd k0 k1 k2 k3 k5, K.lookup C = some (excClassObj nm q C N bs bm true sn sub ab col dd k0 k1 k2 k3 k5 "ValueError.__new__") ∧ refsVE bm = true
  sa : findIn K (.ref C) "__setattr__" = some (some (.builtin "object.__setattr__"))
  ga : findIn K (.ref C) "__getattribute__" = some (some (.builtin "BaseException.__getattribute__"))
  gg : findIn K (.ref C) "__getattr__" = some none
  noN : findIn K (.ref C) a = some none
  iC : findIn K (.ref C) "__init__" = some (some (.ref fI))
  tC : typeIn K (.ref fI) = some (.type "function")
  kC : keepIn K (.ref C) = true
  exC : subIn K (.ref C) (.type "BaseException") = some true
  tyC : typeIn K (.ref C) = some (.type "type")
  hdC : hasDictIn K C = true
  te : exmOne K (.ref C) (.ref C) = some true
  sup : ks_superIn K C C "__init__" = some (some (.builtin "ValueError.__init__"))
  sv : subIn K (.ref C) (.type "ValueError") = some true
  op : nsIn K cStatics "thirdparty.any" = some none
  sub : mroIn K C (.ref C) = some true
  nsup : mg "super" = none
  top : (P.main.scope.names.lookup ("super" : Str)).isSome = false
  fn : ∃ (oc : Value) (od : Option Addr) (qual m : Str) (doc pm ct ccl cl : Value) (an cdd cld : Option Addr) (osl ccs csl : Array (Option Value)) (cda cc : Addr) (vs : Array Value) (file : Str) (tf : Tok) (p1 p2 q1 q2 q3 q4 q5 q6 r1 r2 r3 r4 : Pos) (j : Nat),
    K.lookup fI = some ⟨oc, od, .func (ksFn "__init__" qual (xA a p1 p2) (xB a m q1 q2 q3 q4 q5 q6 r1 r2 r3 r4 j) (xS a) .none .none doc pm an (.ref cda) ct cc), osl⟩ ∧ codeIn K (.ref cda) qual = true ∧
    K.lookup cda = some ⟨ccl, cdd, .fields vs, ccs⟩ ∧ vs[2]? = some (.str file tf) ∧ ((P.main.file : Str) == file) = true ∧ (q3.endLine == q5.line) = true ∧ K.lookup cc = some ⟨cl, cld, .cell (some (.ref C)), csl⟩
/-- the attribute's name is a plain one -/
structure PlainA (a : Str) : Prop where
  bd : ∀ (s : Shared) (qual : Str) (b : List Stmt) (doc pm : Value) (an : Option Addr) (cd ct cc : _) (p1 p2 : Pos) (x v : Value), BindsTo s (ksFn "__init__" qual (xA a p1 p2) b (xS a) .none .none doc pm an cd ct cc) ⟨[x, v], []⟩ [("self", x), (a, v)]
  la : (xS a).names.lookup a = some .local
  lsup : (xS a).names.lookup ("super" : Str) = some .globalImplicit
  lcls : (xS a).names.lookup ("__class__" : Str) = some .free
  lself : (xS a).names.lookup ("self" : Str) = some .local
  ns : ¬ a = ("self" : Str)
  nd : (a == ("__debug__" : Str)) = false
theorem plain_value : PlainA "value" := ⟨fun _ _ _ _ _ _ _ _ _ _ _ _ _ => BindsTo.of_eq (by first | rfl | with_unfolding_all rfl), by decide +kernel, by decide +kernel, by decide +kernel, by decide +kernel, by decide +kernel, by decide +kernel⟩
theorem plain_what : PlainA "what" := ⟨fun _ _ _ _ _ _ _ _ _ _ _ _ _ => BindsTo.of_eq (by first | rfl | with_unfolding_all rfl), by decide +kernel, by decide +kernel, by decide +kernel, by decide +kernel, by decide +kernel, by decide +kernel⟩
theorem plain_word : PlainA "word" := ⟨fun _ _ _ _ _ _ _ _ _ _ _ _ _ => BindsTo.of_eq (by first | rfl | with_unfolding_all rfl), by decide +kernel, by decide +kernel, by decide +kernel, by decide +kernel, by decide +kernel, by decide +kernel⟩
/-- what __init__ leaves of a fresh exception at x -/
structure XEnd (h h' : Heap) (x C dx t1 : Addr) (a : Str) (v : Value) : Prop where
  keep : ∀ b o, b ≠ x → h.get? b = some o → h'.get? b = some o
  obj : h'.get? x = some { cls := .ref C, dict := some dx, data := .fields #[.ref t1, .none, .none, .none, .bool false, .none] }
  dbig : h.objs.size ≤ dx
  dne : dx ≠ x
  ns : h'.Ns1 dx (fun y => if y = a then some v else none)
section
variable {prog : Program} {w : World} {A : Around} {E : Value → Shared → Prop} {R : Result → Shared → Prop} {s : Shared} {K : Frag} {mg : Str → Option Value} {C fI : Addr} {a : Str}
/-- the bound built-in __init__ called -/
theorem call_mw {B i newId : String} {bmB : List Value} {h : Heap} {g : Array GenState} {d : Drawn} {t : Nat} {os : OsState} {u x t0 : Addr} {rest : List Value} {Q : Value → Shared → Prop} (FB : ExcBaseFacts B newId i bmB)
    {nm q : Str} {N : Addr} {bs bm : List Value} {hdct : Bool} {sn : List Str} {sub : List Value} {ab : Bool} {col : Option Bool} {dd : Option Addr} {k0 k1 k2 k3 k5 : Option Value}
    (hC : h.get? C = some (excClassObj nm q C N bs bm hdct sn sub ab col dd k0 k1 k2 k3 k5 newId)) (hu : h.get? u = some (kxs_mw i x)) (he : h.get? x = some (excO C t0)) (hz : rest.length ≤ sizeLine)
    (fin : ∀ h', (∀ b o, b ≠ x → h.get? b = some o → h'.get? b = some o) → h'.get? x = some (excO C h.objs.size) → Q .none ⟨h', g, d, t, os⟩) : wpAny (model prog w) A (PySem.call (.ref u) rest) Q E ⟨h, g, d, t, os⟩ := by
  refine wpAny_call (codeAny_of_tree ?_)
  show wpAny _ A.in1 (callAny (.ref u) ⟨rest, []⟩) _ _ _
  simp only [callAny]
  refine wpAny_bind (wpAny_load hu ?_)
  simp only [kxs_mw, show (Value.type "method-wrapper" == Value.type "method" || Value.type "method-wrapper" == Value.type "builtin_function_or_method" || Value.type "method-wrapper" == Value.type "method-wrapper") = true by decide, if_true]
  refine KFB.if_so (by decide) ?_
  refine wpAny_bind (check_bound_init FB.toExcCallFacts hC he rfl ?_)
  refine wpAny_bind (wpAny_pure (wpAny_pure ?_))
  refine ⟨plainId_quiet FB.init.plain _, codeAny_builtin FB.initEntry ?_⟩
  exact exc_init_tree (cls := .ref C) (t0 := t0) (dv := none) (c2 := .none) (c3 := .none) (b4 := .bool false) he hz fun h' k e _ => fin h' k e
theorem err_init (T : ErrC prog K mg a C fI) (PA : PlainA a) {x t0 : Addr} {v : Value} (X : K.In s.heap) (hgl : s.heap.Ns mainGlobals mg) {mb : Str → Option Value} (hbl : s.heap.Ns builtinsNs mb) (hbs : mb "super" = some (.type "super")) (hlim : s.heap.NoLimit) (hx : s.heap.get? x = some (excO C t0)) (hnx : K.lookup x = none) (hroom : A.depth < recursionLimit)
    (hq : ∀ h' tk dx t1, XEnd s.heap h' x C dx t1 a v → R (.ok (.ret .none)) { s with heap := h', toks := tk }) :
    codeAny (model prog w) A (.call (.ref fI) ⟨[.ref x, v], []⟩) R s := by
  obtain ⟨oc, od, qual, m, doc, pm, ct, ccl, cl, an, cdd, cld, osl, ccs, csl, cda, cc, vs, file, tf, p1, p2, q1, q2, q3, q4, q5, q6, r1, r2, r3, r4, j, ho, hcd, hcode, hvs, hfile, hpos, hcell⟩ := T.fn
  obtain ⟨nm, q, N, bs, bm, sn, sub, ab, col, dd, k0, k1, k2, k3, k5, hC, hbm⟩ := T.cls
  have hcl : clsIn K C = some { name := nm, bases := bs, mro := .ref C :: bm, ns := N, qualname := q, hasDict := true, slotNames := sn, subclasses := sub, abstract := ab, collection := col, hasDel := false } := by unfold clsIn; rw [hC] <;> rfl
  refine ks_codeAny_call_defAt (fd := ksFn "__init__" qual (xA a p1 p2) (xB a m q1 q2 q3 q4 q5 q6 r1 r2 r3 r4 j) (xS a) .none .none doc pm an (.ref cda) ct cc) (body := xB a m q1 q2 q3 q4 q5 q6 r1 r2 r3 r4 j) (binds := [("self", .ref x), (a, v)]) hroom (X _ _ ho) rfl hlim (codeRec_of X hcd) rfl
    (PA.bd _ _ _ _ _ _ _ _ _ _ _ _ _) ?_ ?_ (fun h₁ hns hk₁ => ?_) rfl rfl rfl
  · intro y hy
    have hy : y ∈ [(PySem.Str.ofString "self", NameKind.local), (a, .local), (PySem.Str.ofString "__class__", .free), (PySem.Str.ofString "super", .globalImplicit)] := hy
    simp only [List.mem_cons, List.not_mem_nil, or_false] at hy
    rcases hy with rfl | rfl | rfl | rfl <;> (intro z; cases z)
  · intro y hy
    simp only [List.mem_cons, List.not_mem_nil, or_false] at hy
    rcases hy with rfl | rfl
    · exact PA.lself
    · exact PA.la
  · have X₁ : K.In h₁ := X.keeps hk₁
    have hx₁ := hk₁ _ _ hx
    have hnx₁ : x ≠ s.heap.objs.size := Nat.ne_of_lt (Heap.lt_size hx)
    obtain ⟨hp, g, d, t, os⟩ := s
    show wpAt (model prog w) (A.deeper (ksEnv qual (xS a) hp.objs.size fI (.ref cda) cc)) (.func _ (ksEnv qual (xS a) hp.objs.size fI (.ref cda) cc)) (execs (xB a m q1 q2 q3 q4 q5 q6 r1 r2 r3 r4 j) (ksEnv qual (xS a) hp.objs.size fI (.ref cda) cc)) _ _ _
    unfold xB
    refine ks_wpAt_execs_cons (ks_wpAt_Expr_any ?_)
    refine ks_wpAt_MethodCall ?_ (super_form hpos)
    refine ks_wpAt_super_base (env := ksEnv qual (xS a) hp.objs.size fI (.ref cda) cc) PA.lsup PA.lcls (by decide +kernel) rfl (X₁ _ _ ho) rfl rfl rfl (X₁ _ _ hcode) rfl hvs hfile T.top ?_
    refine ks_loadName_global rfl PA.lsup (loadGlobal_builtin (env := ksEnv qual (xS a) hp.objs.size fI (.ref cda) cc) (hgl.keeps hk₁) T.nsup (hbl.keeps hk₁) hbs ⟨rfl, ?_⟩)
    refine wpAny_loadName_free rfl PA.lcls rfl ⟨_, X₁ _ _ hcell, rfl⟩ ?_
    have vself : ([("self", Value.ref x), (a, v)] : List (Str × Value)).reverse.lookup ("self" : Str) = some (.ref x) := by
      show List.lookup (Str.ofString "self") [(a, v), (Str.ofString "self", Value.ref x)] = _
      have : ((Str.ofString "self") == a) = false := by
        have := PA.ns
        simp only [beq_eq_false_iff_ne, ne_eq]
        exact fun z => this z.symm
      simp [List.lookup, this]
    have va : ([("self", Value.ref x), (a, v)] : List (Str × Value)).reverse.lookup a = some v := by
      show List.lookup a [(a, v), (Str.ofString "self", Value.ref x)] = _
      simp [List.lookup]
    refine wpAny_loadName_local rfl PA.lself hns (v := .ref x) vself ?_
    refine ks_wpAny_isType_cls (X₁ _ _ hC) rfl ⟨rfl, ?_⟩
    refine ks_wpAny_call_super (X₁ _ _ hC) rfl hx₁ rfl (fun c e => by cases e) (looks_mroIn X₁ T.sub) (fun h2 e2 k2 => ?_)
    have X2 : K.In h2 := X₁.keeps k2
    have hx2 := k2 _ _ hx₁
    have I2 : InstAt h2 x (excO C t0) C none := ⟨hx2, rfl, rfl, trivial⟩
    have xC : x ≠ C := fun z => by rw [z, hC] at hnx; cases hnx
    refine kxs_getMethod kxs_ValueError (K := K) (D := C) (x := x) (C := C) e2 (looks_opaque X2 T.op) (l₀ := .ref C :: bm) ((looks_clsIn X2 hcl).andThen .now) rfl X2 ?_ (I2.type.andThen (looks_subIn X2 T.sv)) xC (by decide +kernel) ?_
    · have z := T.sup
      unfold ks_superIn at z
      rw [hcl] at z
      exact z
    have up : ∀ b o, h2.get? b = some o → (h2.push (kxs_mw "ValueError.__init__" x)).get? b = some o := fun b o e => Heap.get?_push_of_some _ e
    refine kxs_callWith (i := "ValueError.__init__") (x := x) rfl (evalArgs_plain ?_)
    refine Calls.spliced_cons (wpAny_Constant_str (k := j) (pos := q4) ?_)
    refine Calls.spliced_nil ?_
    refine ⟨Heap.get?_push_at rfl rfl, ?_⟩
    refine call_mw F.excBase_ValueError (up _ _ (k2 _ _ (hk₁ _ _ (X _ _ hC)))) (Heap.get?_push_at rfl rfl) (up _ _ hx2) (by rw [sizeLine_eq]; exact (by decide : 1 ≤ 16777216)) fun h3 k3 x3 => ?_
    have k3' : ∀ b o, b ≠ x → h₁.get? b = some o → h3.get? b = some o := fun b o hb e => k3 b o hb (up _ _ (k2 _ _ e))
    have X3 : K.In h3 := fun b o e => k3' b o (fun z => by rw [z, hnx] at e; cases e) (X₁ _ _ e)
    have hn3 : h3.Ns hp.objs.size (fun y => ([("self", Value.ref x), (a, v)] : List (Str × Value)).reverse.lookup y) := by
      obtain ⟨oL, es, ep, hL, r⟩ := hns
      exact ⟨oL, es, ep, k3' _ _ (Ne.symm hnx₁) hL, r⟩
    refine ks_wpAt_execs_cons (wpAt_of_wpAny (plainObj_wpAny_Assign_Attribute ?_))
    refine wpAny_Name (wpAny_loadName_local rfl PA.la hn3 va (wpAny_Name (wpAny_loadName_local rfl PA.lself hn3 vself ?_) (by decide +kernel))) PA.nd
    refine set_plain X3 (ox := excO C _) (od := none) ⟨x3, rfl, rfl, trivial⟩ T.sa ?_
    refine exc_osa X3 x3 hcl (show refsVE (.ref C :: bm) = true from hbm) rfl T.noN (fun h4 tk4 dx k4 dn dne hx4 hn4 => ?_)
    refine wpAt_of_wpAny ?_
    show wpAny _ _ (execs [] _) _ _ _
    have z : hp.objs.size < h3.objs.size := hn3.lt
    exact wpAny_execs_nil (hq h4 tk4 dx _ ⟨fun b o hb e => k4 b o hb (k3' b o hb (hk₁ b o e)), hx4, Nat.le_of_lt (Nat.lt_of_lt_of_le z dn), dne, hn4⟩)
end
end DL
set_option Elab.async false
set_option linter.all false
set_option maxRecDepth 100000
set_option maxHeartbeats 4000000
namespace DL
open PySem PySem.Spec PySem.W PySem.Calls PySem.HandSPX PyProof.Rows
/-- a made error -/
structure ErrMade (h h' : Heap) (e C d : Addr) (a : Str) (v : Value) : Prop where
  keep : ∀ b o, h.get? b = some o → h'.get? b = some o
  new : h.objs.size ≤ e
  obj : ∃ oe vs, h'.get? e = some oe ∧ oe.cls = .ref C ∧ oe.dict = some d ∧ oe.data = .fields vs ∧ vs[1]? = some .none
  dbig : h.objs.size ≤ d
  dne : d ≠ e
  ns : h'.Ns1 d (fun y => if y = a then some v else none)
section
variable {prog : Program} {w : World} {A : Around} {E : Value → Shared → Prop} {R : Result → Shared → Prop} {s : Shared} {K : Frag} {mg : Str → Option Value} {C fI : Addr} {a : Str}
theorem err_made (T : ErrC prog K mg a C fI) (PA : PlainA a) {v : Value} (X : K.In s.heap) (hgl : s.heap.Ns mainGlobals mg) {mb : Str → Option Value} (hbl : s.heap.Ns builtinsNs mb) (hbs : mb "super" = some (.type "super")) (hlim : s.heap.NoLimit) (hroom : A.depth + 1 < recursionLimit)
    (hq : ∀ h' tk e d, ErrMade s.heap h' e C d a v → R (.ok (.ret (.ref e))) { s with heap := h', toks := tk }) :
    codeAny (model prog w) A (.call (.ref C) ⟨[v], []⟩) R s := by
  obtain ⟨nm, q, N, bs, bm, sn, sub, ab, col, dd, k0, k1, k2, k3, k5, hC, hbm⟩ := T.cls
  obtain ⟨hp, g, dr, tk, os⟩ := s
  have k : ∀ b o, hp.get? b = some o → ((hp.push (kdv_tup [v])).push (excO C hp.objs.size)).get? b = some o := fun b o e => Heap.get?_push_of_some _ (Heap.get?_push_of_some _ e)
  have hget : ((hp.push (kdv_tup [v])).push (excO C hp.objs.size)).get? (hp.objs.size + 1) = some (excO C hp.objs.size) := by heap_get
  have hnx : K.lookup (hp.objs.size + 1) = none := by
    cases e : K.lookup (hp.objs.size + 1) with
    | none => rfl
    | some o =>
      have z : hp.get? (hp.objs.size + 1) = some o := X _ _ e
      exact absurd (Nat.lt_of_succ_lt (Heap.lt_size z)) (Nat.lt_irrefl _)
  refine call_own F.excBase_ValueError (fun X => refsVE_contains X bm hbm) (X _ _ hC) (looks_findIn X T.iC) (fun self => bind_fn X self T.tC) (by rw [sizeLine_eq]; exact (by decide : 1 ≤ 16777216)) ?_
  refine err_init (s := ⟨(hp.push (kdv_tup [v])).push (excO C hp.objs.size), g, dr, tk, os⟩) T PA (X.keeps k) (hgl.keeps k) (hbl.keeps k) hbs (hlim.keeps k) hget hnx ?_ fun h' tk' dx t1 ⟨k', hx, dn, dne, hns⟩ => ?_
  · show A.depth + 1 < recursionLimit
    exact hroom
  · have old : ∀ b o, hp.get? b = some o → h'.get? b = some o := fun b o e => k' b o (Nat.ne_of_lt (Nat.lt_succ_of_lt (Heap.lt_size e))) (k b o e)
    have z : hp.objs.size + 1 + 1 ≤ dx := by
      first
        | (simpa only [Heap.size_push] using dn)
        | exact dn
        | (have q := dn; rw [Heap.size_push, Heap.size_push] at q; exact q)
    exact ⟨rfl, hq h' tk' (hp.objs.size + 1) dx ⟨old, Nat.le_succ _, ⟨_, _, hx, rfl, rfl, rfl, rfl⟩, Nat.le_trans (Nat.le_trans (Nat.le_succ _) (Nat.le_succ _)) z, dne, hns⟩⟩
end
end DL
namespace DL
open PySem PySem.Spec L2 PyProof.Rows
theorem relO_err {a : Str} {v : V} {v' : Value} (r : RelV v v') (f : Str) : RelO (List.lookup f [(a, v)]) (if f = a then some v' else none) := by
  by_cases hw : f = a
  · subst hw
    rw [if_pos rfl]
    have q : List.lookup f [(f, v)] = some v := by simp [List.lookup]
    rw [q]
    exact r
  · rw [if_neg hw]
    have qw : (f == a) = false := by simpa using hw
    have q2 : List.lookup f [(a, v)] = none := by simp [List.lookup, qw]
    rw [q2]
    trivial
structure ErrTxt (P : Program) (K : PySem.W.Frag) (mg : Str → Option Value) (c a : Str) : Prop where
  at_ : ∃ C fI, mg c = some (.ref C) ∧ ErrC P K mg a C fI
  pl : PlainA a
  nd : (c == ("__debug__" : Str)) = false
section
variable {X : Cx} {W : WX} {c a : Str}
/-- c(e), raised -/
def tMkErr (C : Addr) (a : Str) (ta : TA) : L2.St → Hp → XK → Prop := fun σ H Q => ta σ H fun vs H1 => ∃ v, vs = [v] ∧ ∀ d, H1 d = none → Q (.ref C) (some d) (upd H1 d (.xd [(a, v)]))
theorem pmk_err {e : Expr} {ta : TA} {p pos : Pos} {k : Nat} {C fI : Addr} (T : ErrC X.prog X.K X.mg a C fI) (hc : X.mg c = some (.ref C)) (PA' : PlainA a) (hd : (c == ("__debug__" : Str)) = false) (hr : Room k X.A) (ha : PA X [e] ta) (hg : Gl X c)
    (he : starEach (e :: []) X.env = (false, eval e X.env) :: starEach [] X.env := by rfl) (hpl : (backTo pos (starEach [] X.env)).any (·.1) = false := by rfl) :
    PMk X (.Call (.Name c p) [e] [] pos) (tMkErr C a ta) := by
  intro pins s σ H Q I h
  refine wpAny_Call_Name_kw (ld_glob I hg hc ?_ hd)
  refine PySem.W.callWith_K (h₀ := X.base) I.ok.mod.kin T.kC (thn (ha.run pos pins s σ H _ I h) fun us s1 hh => ?_) he hpl
  obtain ⟨vs, H1, I1, r1, v, ev, q1⟩ := hh
  subst ev
  refine ⟨I1.kIn, ?_⟩
  cases r1 with
  | cons rv rn =>
    rename_i v' us'
    cases rn
    show wpAny _ _ (call (.ref C) [v']) _ _ _
    have hlim := I1.nolimit
    obtain ⟨mb, hb1, hb2⟩ := I1.mod.blt
    have hgl := I1.mod.glob.keeps I1.bk
    have hbl := hb1.keeps I1.bk
    have hbs : mb "super" = some (.type "super") := (hb2 _ (by decide +kernel)).trans (by first | boot_by_name | rfl | kernel_rfl)
    obtain ⟨hp, g, dr, tk, os⟩ := s1
    refine wpAny_call (err_made T PA' I1.kIn hgl hbl hbs hlim (by have := hr.dp; omega) fun h' tk' e d M => ?_)
    show MkP X pins σ Q (.ref e) ⟨h', g, dr, tk', os⟩
    obtain ⟨oe, fv, hoe, hcl, hd', hdat, h1⟩ := M.obj
    have hns := M.ns
    obtain ⟨G', g1, g2⟩ := restrict h' fun b => decide (b ≠ e)
    have gk : ∀ b, b ≠ e → G'.get? b = h'.get? b := fun b hb => g1 b (decide_eq_true hb)
    have ge : G'.get? e = none := g2 e (by simp)
    have old : ∀ b o, hp.get? b = some o → G'.get? b = some o := fun b o q => (gk b (Nat.ne_of_lt (Nat.lt_of_lt_of_le (Heap.lt_size q) M.new))).trans (M.keep b o q)
    have ob : ObjOk X.prog X.w (upd H1 d (.xd [(a, v)])) G' d (.xd [(a, v)]) :=
      ⟨_, hns.at (fun o q => (gk d M.dne).trans q), fun f => relO_err rv f⟩
    have J : Inv X pins σ (upd H1 d (.xd [(a, v)])) ⟨G', g, dr, tk', os⟩ := I1.laid (t' := tk') old M.dbig ob
    refine ⟨e, oe, fv, ⟨G', g, dr, tk', os⟩, _, .ref C, some d, rfl, J, fun b o q => ?_, ge, hoe, ⟨hcl, hd'⟩, hdat, h1, ?_, rfl, I1.bare, raises_own T.exC T.tyC, q1 d (I1.hok.fresh M.dbig)⟩
    · by_cases hb : b = e
      · have q' : G'.get? b = some o := q
        rw [hb, ge] at q'; cases q'
      · exact (gk b hb).symm.trans q
    · rw [upd_ne (Ne.symm M.dne)]
      exact I1.hok.fresh M.new
def sRaise (c a : Str) (f : Fe) : Fs := fun ρ S => bindS ρ (f ρ S) fun d S' => .exc ⟨c, [(a, d)]⟩ ρ S'
theorem ds_raise {e : Expr} {f : Fe} {p pos pos2 : Pos} {k : Nat} (hcalm : X.calm = true) (T : ErrTxt X.prog X.K X.mg c a) (hr : Room k X.A) (tk : Takes X W) (he : DE X W e f) (hg : Gl X c := by rfl)
    (hs : starEach (e :: []) X.env = (false, eval e X.env) :: starEach [] X.env := by rfl) (hpl : (backTo pos (starEach [] X.env)).any (·.1) = false := by rfl) :
    DS X W (.Raise (some (.Call (.Name c p) [e] [] pos)) none pos2) (sRaise c a f) := by
  obtain ⟨C, fI, hc, T'⟩ := T.at_
  refine (ps_raise hcalm tk (pmk_err T' hc T.pl T.nd hr (pa_cons he pa_nil hs) hg hs hpl)).imp fun E σ H ⟨w, ρ, S, R, e, P⟩ => ?_
  refine stepES R e P fun v w1 H1 S1 d g1 R1 E1 V1 P1 => ?_
  refine ⟨v, rfl, fun dx hdx => ?_⟩
  obtain ⟨g2, R2⟩ := R1.newP (.xd [(a, v)]) hdx
  exact P1 σ (.ref C) dx _ _ g2 R2 (E1.grow g2) ⟨C, _, hc, rfl, upd_same, .cons ⟨rfl, V1.grow g2⟩ .nil⟩
end
end DL
set_option Elab.async false
set_option linter.all false
set_option maxRecDepth 100000
set_option maxHeartbeats 4000000
/-! a try with several clauses 'except X as n' -/
namespace DL
open PySem PySem.Spec L2 PyProof.Rows
abbrev SuiteT := Addr → Value → Option Addr → TS
/-- the ends of a clause: its name is gone -/
def goneAt (i : Nat) (D : Ends) : Ends := { nx := fun τ G => D.nx (τ.set i none) G, rt := D.rt, bk := fun τ G => D.bk (τ.set i none) G, ct := fun τ G => D.ct (τ.set i none) G }
/-- what the clauses wish of an exception -/
def wAsMany (K : PySem.W.Frag) (Wo : WX) (D : Ends) : List (Value × Nat × SuiteT) → WX
  | [] => Wo
  | q :: r => fun cls dx τ G => ∃ yes, PySem.W.exmOne K cls q.1 = some yes ∧
      ((yes = true ∧ ∀ e, G e = none → q.2.2 e cls dx (goneAt q.2.1 D) (τ.set q.2.1 (some (.ref e))) G) ∨ (yes = false ∧ wAsMany K Wo D r cls dx τ G))
inductive AsOk (X : Cx) : List ExceptHandler → List (Value × Nat × SuiteT) → Prop
  | nil : AsOk X [] []
  | cons {x n : Str} {c : Value} {i : Nat} {ts : SuiteT} {b : Stmt} {bs : List Stmt} {p1 p2 : Pos} {hds : List ExceptHandler} {l : List (Value × Nat × SuiteT)} :
      Names X x c → X.N[i]? = some n → X.env.kindOf n = some .local →
      (∀ (e : Addr) (oe : Obj) (cls : Value) (dx : Option Addr) (pn : List (Addr × Obj)), Zc cls dx oe → (∃ vs, oe.data = .fields vs) → PSs (X.suite e ((e, oe) :: pn)) (b :: bs) (ts e cls dx)) →
      AsOk X hds l → AsOk X (.ExceptHandler (some (.Name x p1)) (some n) (b :: bs) p2 :: hds) ((c, i, ts) :: l)
section
variable {X : Cx} {bod : List Stmt} {hds : List ExceptHandler} {l : List (Value × Nat × SuiteT)} {pos : Pos} {tb : WX → TS} {Wo : WX}
/-- an exception at e, in the air above X's frame -/
structure Aloft (X : Cx) (pins : List (Addr × Obj)) (τ : L2.St) (G : Hp) (B : Heap) (e : Addr) (cls : Value) (dx : Option Addr) (s0 s1 : Shared) : Prop where
  base : Inv X pins τ G s0
  low : ∀ b o, s0.heap.get? b = some o → b ∉ frs X.stack → B.get? b = some o
  rise : s0.heap.UpToSlots s1.heap
  fly : HandSPX.FlyingZ B (X.env :: X.outer) e (Zc cls dx) s1.heap
  free : G e = none
  os : s1.os = s0.os
  bare : AllBare s1.gens
section
variable {pins : List (Addr × Obj)} {τ : L2.St} {G : Hp} {B : Heap} {e : Addr} {cls : Value} {dx : Option Addr} {s0 s1 : Shared}
theorem Aloft.inv (T : Aloft X pins τ G B e cls dx s0 s1) : Inv X pins τ G s1 := T.base.landed T.low T.fly.1 T.rise T.os T.bare
/-- what stands at e, and the context of a clause -/
theorem Aloft.inSuite (T : Aloft X pins τ G B e cls dx s0 s1) (hf : X.env.frame = some X.env.locals) :
    ∃ oe vs, s1.heap.get? e = some oe ∧ Zc cls dx oe ∧ oe.data = .fields vs ∧ Inv (X.suite e ((e, oe) :: (X.pn ++ pins))) [] τ G s1 := by
  obtain ⟨oe, vs, he, hz, hd⟩ := T.fly.there
  have far : e ∉ frs (X.env :: X.outer) := fun hm => by
    obtain ⟨_, o, ho, hn⟩ := T.fly.2.2.1.mem hm
    rw [he] at ho
    cases ho
    exact hn _ hd
  refine ⟨oe, vs, he, hz, hd, T.inv.suite he hd T.free (fun z => far ?_) (fun hm => far ?_)⟩
  · exact List.mem_filterMap.mpr ⟨X.env, List.mem_cons_self, by rw [hf, z]⟩
  · obtain ⟨v, hv, q⟩ := List.mem_filterMap.mp hm
    exact List.mem_filterMap.mpr ⟨v, List.mem_cons_of_mem _ hv, q⟩
/-- none of the clauses takes it -/
theorem Aloft.away {D : Ends} (T : Aloft X pins τ G B e cls dx s0 s1) (st : X.stack = X.env :: X.outer) (hf : X.env.frame = some X.env.locals) (tk : Takes X Wo) (w : Wo cls dx τ G) :
    wpAny (model X.prog X.w) X.A (handleBy (.ref e) X.env []) (SP X pins D) X.xe s1 := by
  refine wpAny_handleBy_nil ?_
  have up : wpAny (model X.prog X.w) X.A (setFlight (.ref e) X.env.frame) (fun _ s2 => wpAny (model X.prog X.w) X.A (throw (.ref e) : Sem Flow) (SP X pins D) X.xe s2) X.xe s1 := by
    rw [hf]
    obtain ⟨h1, g1, d1, t1, o1⟩ := s1
    refine HandSPX.setFlight_upZ T.fly fun h2 held r2 => wpAny_throw (tk _ _ ?_)
    exact ⟨e, B, s0, pins, τ, G, cls, dx, rfl, T.base, T.low, T.rise.trans r2, Or.inr (Or.inr (by rw [st]; exact held)), T.free, T.os, T.bare, w⟩
  obtain ⟨_, _, _, oe, vs, tb, _, _, he, _, hd, h1, _⟩ := id T.fly
  unfold PySem.passOn
  refine wpAny_bind (wpAny_field he hd h1 ?_)
  have nn : ¬ ((Value.ref tb == Value.none) = true) := by simp
  rw [if_neg nn]
  first
    | exact wpAny_bind (wpAny_pure (wpAny_bind up))
    | exact wpAny_bind up
/-- the clauses, one after the other -/
theorem Aloft.handled {D : Ends} (st : X.stack = X.env :: X.outer) (hf : X.env.frame = some X.env.locals) (hN : X.N.Nodup) (tk : Takes X Wo) (hh : AsOk X hds l) (T : Aloft X pins τ G B e cls dx s0 s1) :
    wAsMany X.K Wo D l cls dx τ G → wpAny (model X.prog X.w) X.A (handleBy (.ref e) X.env hds) (SP X pins D) X.xe s1 := by
  induction hh with
  | nil => exact fun w => T.away st hf tk w
  | @cons x n c i ts b bs p1 p2 hds' l' hc hi hn hs hr ih =>
    intro ⟨yes, hy, w⟩
    obtain ⟨oe, vs, he, hz, hd, S⟩ := T.inSuite hf
    refine wpAny_handleBy_cons (codeAny_handlers_test ?_) (by intro q; cases q)
    have typ : PySem.W.Looks (model X.prog X.w) s1.heap (typeOf (.ref e)) cls := fun A Q E s k q => wpAny_typeOf_ref (k _ _ he) (by rw [hz.1]; exact q)
    have mat := PySem.W.exm_one (M := model X.prog X.w) T.inv.kIn typ hy
    have clause : ∀ {Q : Value → Shared → Prop} {E : Value → Shared → Prop}, Q c s1 → wpAny (model X.prog X.w) (X.A.mark (some (.ref e))) (eval (.Name x p1) X.env) Q E s1 := by
      intro Q E q
      rcases hc with ⟨hg, hb, hm | ⟨hm, hv, hq⟩⟩
      · exact ld_glob (X := X.suite e ((e, oe) :: (X.pn ++ pins))) S hg hm q hb
      · exact ld_blt (X := X.suite e ((e, oe) :: (X.pn ++ pins))) S hg hm hv q hq hb
    refine clause (mat.here ?_)
    rcases w with ⟨rfl, w⟩ | ⟨rfl, w⟩
    · refine codeAny_handlers_suite_as ?_
      obtain ⟨h1, g1, d1, t1, o1⟩ := s1
      refine HandSPX.lands_againZ T.fly fun h2 f2 r2 => ?_
      have T2 : Aloft X pins τ G B e cls dx s0 ⟨h2, g1, d1, t1, o1⟩ := ⟨T.base, T.low, T.rise.trans r2, f2, T.free, T.os, T.bare⟩
      obtain ⟨oe2, vs2, he2, hz2, hd2, S2⟩ := T2.inSuite hf
      refine store_ok (X := X.suite e ((e, oe2) :: (X.pn ++ pins))) (v := .ref e) S2 hN hi (.inl hn) rfl (fun s3 S3 => ?_) (.inr hn)
      have fin : ∀ {τ' : L2.St} {G' : Hp} {s4 : Shared} {Q : Shared → Prop}, Inv (X.suite e ((e, oe2) :: (X.pn ++ pins))) [] τ' G' s4 → (∀ s5, Inv X pins (τ'.set i none) G' s5 → Q s5) →
          wpAny (model X.prog X.w) X.A (do bindName X.env n .none; unbindBehindTheSuite X.env n p2) (fun _ s5 => Q s5) X.xe s4 := fun J q => gone_ok (J.unsuite T.base.ok) hN hi hn q
      refine wpAny_mono ((hs e oe2 cls dx (X.pn ++ pins) hz2 ⟨_, hd2⟩).run [] s3 _ G _ S3 (w e T.free)) (fun f s4 q => ?_) (fun _ _ z => z.elim)
      cases f
      case next => obtain ⟨τ', G', J, q⟩ := q; exact fin J fun _ J' => ⟨_, _, J', q⟩
      case brk => obtain ⟨τ', G', J, q⟩ := q; exact fin J fun _ J' => ⟨_, _, J', q⟩
      case cont => obtain ⟨τ', G', J, q⟩ := q; exact fin J fun _ J' => ⟨_, _, J', q⟩
      case ret u => obtain ⟨v, τ', G', J, r, q⟩ := q; exact fin J fun _ J' => ⟨_, _, _, J', r, q⟩
    · show wpAny _ X.A (handleBy (.ref e) X.env hds') _ _ _
      exact ih w
end
theorem ps_try_asMany (st : X.stack = X.env :: X.outer) (hf : X.env.frame = some X.env.locals) (hN : X.N.Nodup) (tk : Takes X Wo) {h₀ : ExceptHandler}
    (hb : ∀ (W : WX) (pn : List (Addr × Obj)) (xe : Value → Shared → Prop), Takes (X.tr pn xe) W → PassesOwn (model X.prog X.w) X.A X.env xe → PSs (X.tr pn xe) bod (tb W))
    (hh : AsOk X (h₀ :: hds) l) : PS X (.Try bod (h₀ :: hds) [] [] pos) (fun D τ G => tb (wAsMany X.K Wo D l) D τ G) := by
  constructor
  intro pins s τ G D I h
  refine wpAny_Try_except ?_
  let xe' : Value → Shared → Prop := fun u s1 => wpAny (model X.prog X.w) X.A (noteFrame u X.env) (fun _ s2 => wpAny (model X.prog X.w) X.A (setFlight u none) (fun _ s3 => wpAny (model X.prog X.w) X.A (handleBy u X.env (h₀ :: hds)) (SP X pins D) X.xe s3) X.xe s2) X.xe s1
  have tk' : Takes (X.tr (X.pn ++ pins) xe') (wAsMany X.K Wo D l) := by
    intro u s1 xx
    obtain ⟨e, B, s0, pins', τ', G', cls, dx, rfl, J, low, rise, sky, free, os, bare, w⟩ := xx
    have sky : Sky B (X.env :: X.outer) e (Zc cls dx) X.env.locals s1.heap := by rw [← st]; exact sky
    refine Sky.land Zc.steady (I.ok.frames.trans (by rw [st])) hf sky fun h3 fl r3 => ?_
    exact Aloft.handled st hf hN tk hh ⟨J.ofTry I.ok, low, rise.trans r3, fl, free, os, bare⟩ w
  refine wpAny_mono ((hb _ (X.pn ++ pins) xe' tk' PassesOwn.looking).run [] s τ G D (I.toTry _) h) (fun f s1 q => ?_) (fun _ _ z => z)
  cases f
  case next => obtain ⟨τ', G', J, q⟩ := q; exact wpAny_execs_nil ⟨τ', G', J.ofTry I.ok, q⟩
  case brk => obtain ⟨τ', G', J, q⟩ := q; exact ⟨τ', G', J.ofTry I.ok, q⟩
  case cont => obtain ⟨τ', G', J, q⟩ := q; exact ⟨τ', G', J.ofTry I.ok, q⟩
  case ret u => obtain ⟨v, τ', G', J, r, q⟩ := q; exact ⟨v, τ', G', J.ofTry I.ok, r, q⟩
end
end DL
set_option Elab.async false
set_option linter.all false
set_option maxRecDepth 100000
set_option maxHeartbeats 4000000
/-! try: .. except X as n: return (a text, n.a) -/
namespace DL
open PySem PySem.Spec L2 PyProof.Rows
/-- a clause: its class, the slot of its name, what it returns ahead of the attribute, the attribute -/
structure Hd where
  c : Str
  i : Nat
  word : Option Str
  at_ : Str
def Hd.run (h : Hd) (x : Exn) (S : Store) : RS := match x.fs with
  | [(a, .p d)] => if a = h.at_ then (match h.word with | none => .rt (.p d) S | some t => .rt (.p (.tuple [.str t, d])) S) else .bad
  | _ => .bad
def hRun (EN : List Str) (x : Exn) (ρ : Sl) (S : Store) : List Hd → RS
  | [] => .exc x ρ S
  | h :: hs => if EN.contains x.cls = true ∧ h.i < ρ.length then (if (x.cls == h.c) = true then h.run x S else hRun EN x ρ S hs) else .bad
def sTry (EN : List Str) (g : Fs) (hs : List Hd) : Fs := fun ρ S => match g ρ S with
  | .exc x ρ' S' => hRun EN x ρ' S' hs
  | r => r
structure HdTxt (K : PySem.W.Frag) (mg : Str → Option Value) (EN : List Str) (c : Str) : Prop where
  at_ : ∃ C, mg c = some (.ref C) ∧ ∀ y, EN.contains y = true → ∀ Cy, mg y = some (.ref Cy) → PySem.W.exmOne K (.ref Cy) (.ref C) = some (y == c)
section
variable {X : Cx} {W : WX}
/-- what a clause's suite wishes: n stands in slot i -/
def tSuite (h : Hd) (C : Addr) : SuiteT := fun e cls dx => fun E σ H => σ[h.i]? = some (some (.ref e)) ∧ cls = .ref C ∧ ∃ dd v, dx = some dd ∧ H dd = some (.xd [(h.at_, v)]) ∧
  match h.word with | none => E.rt v H | some t => ∀ p, H p = none → E.rt (.ref p) (upd H p (.tup [.str t, v]))
def tErrAt (C : Addr) (at_ : Str) (a : Addr) (cls : Value) (d : Option Addr) (te : TE) : TE := fun σ H Q => te σ H fun x H1 => x = .ref a ∧ cls = .ref C ∧ ∃ (dd : Addr) (v : V), d = some dd ∧ H1 dd = some (.xd [(at_, v)]) ∧ Q v H1
theorem pe_errAt {C fI : Addr} {at_ : Str} {a : Addr} {oe : Obj} {cls : Value} {d : Option Addr} {pn : List (Addr × Obj)} {e : Expr} {te : TE} {pos : Pos} (T : ErrC X.prog X.K X.mg at_ C fI) (hz : Zc cls d oe) (hf : ∃ vs, oe.data = .fields vs) (he : PE (X.suite a ((a, oe) :: pn)) e te)
    (hb : attributeBase e at_ X.env (eval e X.env) = eval e X.env := by rfl) :
    PE (X.suite a ((a, oe) :: pn)) (.Attribute e at_ pos) (tErrAt C at_ a cls d te) := by
  refine ⟨fun pins s σ H Q I h => ?_⟩
  refine attr_of hb (thn (he.run pins s σ H _ I h) fun u s1 hh => ?_)
  obtain ⟨x, H1, I1, rx, ex, ec, dd, v, ed, ea, q⟩ := hh
  subst ex
  obtain rfl : u = Value.ref a := rx
  subst ec
  subst ed
  obtain ⟨ha, _⟩ := I1.pin (a, oe) (List.mem_append_left _ List.mem_cons_self)
  obtain ⟨vs, hd⟩ := hf
  have hx : ObjOk X.prog X.w H1 s1.heap dd (.xd [(at_, v)]) := I1.hok dd _ ea
  obtain ⟨mA, hns, hr⟩ := hx
  obtain ⟨od, ho, hl⟩ := lookIn_ns hns
  have l : List.lookup at_ [(at_, v)] = some v := by simp [List.lookup]
  obtain ⟨u, hu, ru⟩ := RelO.some_of (v := v) (o := mA at_) (by rw [← l]; exact hr at_)
  have J : PySem.W.InstAt s1.heap a oe C (some od) := ⟨ha, hz.1, by unfold PySem.W.notCls; rw [hd] <;> rfl, by rw [hz.2]; exact ho⟩
  exact HandSPX.exc_get I1.kIn J T.ga T.gg T.exC (PySem.W.findObj_own T.hdC T.noN rfl (by rw [hl, hu])) (handed_of ru) ⟨v, H1, I1.tok _, ru, q⟩
/-- clauses and their reading -/
inductive HdOk (X : Cx) (EN : List Str) : List ExceptHandler → List Hd → List (Value × Nat × SuiteT) → Prop
  | nil : HdOk X EN [] [] []
  | cons {hds : List ExceptHandler} {hs : List Hd} {l : List (Value × Nat × SuiteT)} {h : Hd} {C : Addr} {x n : Str} {p1 p2 : Pos} {b : Stmt} {bs : List Stmt} : X.mg h.c = some (.ref C) → (∀ y, EN.contains y = true → ∀ Cy, X.mg y = some (.ref Cy) → PySem.W.exmOne X.K (.ref Cy) (.ref C) = some (y == h.c)) →
      Names X x (.ref C) → X.N[h.i]? = some n → X.env.kindOf n = some .local →
      (∀ (e : Addr) (oe : Obj) (cls : Value) (dx : Option Addr) (pn : List (Addr × Obj)), Zc cls dx oe → (∃ vs, oe.data = .fields vs) → PSs (X.suite e ((e, oe) :: pn)) (b :: bs) (tSuite h C e cls dx)) →
      HdOk X EN hds hs l → HdOk X EN (.ExceptHandler (some (.Name x p1)) (some n) (b :: bs) p2 :: hds) (h :: hs) ((.ref C, h.i, tSuite h C) :: l)
theorem HdOk.as {EN : List Str} {hds : List ExceptHandler} {hs : List Hd} {l : List (Value × Nat × SuiteT)} (h : HdOk X EN hds hs l) : AsOk X hds l := by
  induction h with
  | nil => exact .nil
  | cons _ _ c n k s _ ih => exact .cons c n k s ih
theorem HdOk.wish {EN : List Str} {hds : List ExceptHandler} {hs : List Hd} {l : List (Value × Nat × SuiteT)} (h : HdOk X EN hds hs l) {D : Ends} {w : Wd} {σ : L2.St} {H : Hp} {ρ : Sl} {S : Store} {x : Exn} {cls : Value} {dx : Addr}
    (R : Rep X.gm w H S) (E : RepE w σ ρ) (V : RepX X.gm w cls dx x) (P : PostS X.gm W D w (hRun EN x ρ S hs)) : wAsMany X.K W D l cls (some dx) σ H := by
  induction h with
  | nil => exact P σ cls dx w H (Grow.refl w) R E V
  | @cons hds hs l h C y n p1 p2 b bs hC hm _ _ _ _ _ ih =>
    simp only [hRun] at P
    by_cases c : EN.contains x.cls = true ∧ h.i < ρ.length
    · rw [if_pos c] at P
      obtain ⟨Cx, fs, hx, rfl, hz, hfs⟩ := V
      refine ⟨_, hm _ c.1 Cx hx, ?_⟩
      by_cases e : (x.cls == h.c) = true
      · refine .inl ⟨e, fun a ha => ?_⟩
        rw [if_pos e] at P
        have e' : x.cls = h.c := by simpa using e
        rw [e'] at hx
        have hx2 : some (Value.ref C) = some (Value.ref Cx) := hC.symm.trans hx
        cases hx2
        obtain ⟨xc, xfs⟩ := x
        unfold Hd.run at P
        split at P
        · rename_i a' d he'
          dsimp only at he'
          subst he'
          dsimp only at hfs
          cases hfs with
          | cons h1 h2 =>
            rename_i p ps
            cases h2
            obtain ⟨pa, pv⟩ := p
            obtain ⟨hpa, hpv⟩ := h1
            dsimp only at hpa hpv
            subst hpa
            by_cases ea : pa = h.at_
            · rw [if_pos ea] at P
              subst ea
              refine ⟨by rw [List.getElem?_set_self (by rw [E.len]; exact c.2)], rfl, dx, pv, rfl, R.same _ _ hz, ?_⟩
              cases hw : h.word with
              | none => rw [hw] at P; exact P _ _ _ (Grow.refl w) R hpv
              | some t =>
                rw [hw] at P
                intro q hq
                obtain ⟨g, R'⟩ := R.newP (.tup [.str t, pv]) hq
                exact P _ _ _ g R' (.tup upd_same (.cons (.str t) (.cons (RepP.mono g.z _ _ hpv) .nil)))
            · rw [if_neg ea] at P; exact P.elim
        · exact P.elim
      · rw [if_neg e] at P
        exact .inr ⟨by simpa using e, ih P⟩
    · rw [if_neg c] at P; exact P.elim
theorem ds_try {EN : List Str} {body : List Stmt} {h₀ : ExceptHandler} {hds : List ExceptHandler} {hs : List Hd} {l : List (Value × Nat × SuiteT)} {g : Fs} {pos : Pos} (st : X.stack = X.env :: X.outer) (hf : X.env.frame = some X.env.locals) (hN : X.N.Nodup) (tk : Takes X W)
    (hb : ∀ (W' : WX) (pn : List (Addr × Obj)) (xe : Value → Shared → Prop), Takes (X.tr pn xe) W' → PassesOwn (model X.prog X.w) X.A X.env xe → DSs (X.tr pn xe) W' body g)
    (hh : HdOk X EN (h₀ :: hds) hs l) : DS X W (.Try body (h₀ :: hds) [] [] pos) (sTry EN g hs) :=
  (ps_try_asMany (Wo := W) st hf hN tk (tb := fun W' => tDS X.gm W' g) (fun W' pn xe t p => hb W' pn xe t p) hh.as).imp fun D σ H ⟨w, ρ, S, R, E, P⟩ => by
    refine ⟨w, ρ, S, R, E, ?_⟩
    unfold sTry at P
    split at P
    · rename_i x ρ' S' e
      rw [e]
      intro σ' cls dx w' H' g' R' E' V'
      exact hh.wish R' E' V' (P.grow g')
    · rename_i r hr
      cases e : g ρ S with
      | exc x ρ' S' => exact absurd e (hr x ρ' S')
      | nx _ _ => rw [e] at P; exact P
      | rt _ _ => rw [e] at P; exact P
      | bk _ _ => rw [e] at P; exact P
      | ct _ _ => rw [e] at P; exact P
      | bad => rw [e] at P; exact P
/-- the two suites -/
theorem suite_at {h : Hd} {C fI : Addr} {n : Str} {p pos pos2 : Pos} (hw : h.word = none) (T : ErrC X.prog X.K X.mg h.at_ C fI) (hN : X.N[h.i]? = some n) (hv : Vis X.env.scope n) (hd : (n == ("__debug__" : Str)) = false) (hcd : (n == ("__classdict__" : Str)) = false)
    (hb : attributeBase (.Name n p) h.at_ X.env (eval (.Name n p) X.env) = eval (.Name n p) X.env) :
    ∀ (e : Addr) (oe : Obj) (cls : Value) (dx : Option Addr) (pn : List (Addr × Obj)), Zc cls dx oe → (∃ vs, oe.data = .fields vs) → PSs (X.suite e ((e, oe) :: pn)) [.Return (some (.Attribute (.Name n p) h.at_ pos)) pos2] (tSuite h C e cls dx) := by
  intro e oe cls dx pn hz hf
  refine (pss_one (ps_ret (pe_errAt T hz hf (pe_var (X := X.suite e ((e, oe) :: pn)) (i := h.i) hN hv hd hcd) hb))).imp fun E σ H hh => ?_
  unfold tSuite at hh
  rw [hw] at hh
  obtain ⟨h1, h2, dd, v, h3, h4, h5⟩ := hh
  exact ⟨_, h1, rfl, h2, dd, v, h3, h4, h5⟩
theorem suite_tup {h : Hd} {C fI : Addr} {n t : Str} {j} {x1} {p p3 pos pos2 pos3 : Pos} (hw : h.word = some t) (T : ErrC X.prog X.K X.mg h.at_ C fI) (hN : X.N[h.i]? = some n) (hv : Vis X.env.scope n) (hd : (n == ("__debug__" : Str)) = false) (hcd : (n == ("__classdict__" : Str)) = false)
    (hb : attributeBase (.Name n p) h.at_ X.env (eval (.Name n p) X.env) = eval (.Name n p) X.env)
    (hs1 : starEach [.Constant (.str t) j p3, .Attribute (.Name n p) h.at_ pos] X.env = (false, eval (.Constant (.str t) j p3) X.env) :: starEach [.Attribute (.Name n p) h.at_ pos] X.env) (hs2 : starEach [.Attribute (.Name n p) h.at_ pos] X.env = (false, eval (.Attribute (.Name n p) h.at_ pos) X.env) :: starEach [] X.env) :
    ∀ (e : Addr) (oe : Obj) (cls : Value) (dx : Option Addr) (pn : List (Addr × Obj)), Zc cls dx oe → (∃ vs, oe.data = .fields vs) → PSs (X.suite e ((e, oe) :: pn)) [.Return (some (.Tuple [.Constant (.str t) j p3, .Attribute (.Name n p) h.at_ pos] x1 pos3)) pos2] (tSuite h C e cls dx) := by
  intro e oe cls dx pn hz hf
  refine (pss_one (ps_ret (pe_tup (pa_cons (X := X.suite e ((e, oe) :: pn)) pe_str (pa_cons (pe_errAt T hz hf (pe_var (X := X.suite e ((e, oe) :: pn)) (i := h.i) hN hv hd hcd) hb) pa_nil hs2) hs1)))).imp fun E σ H hh => ?_
  unfold tSuite at hh
  rw [hw] at hh
  obtain ⟨h1, h2, dd, v, h3, h4, h5⟩ := hh
  exact ⟨_, h1, rfl, h2, dd, v, h3, h4, by rw [sizeLine_eq]; exact (by decide : 2 ≤ 16777216), h5⟩
end
end DL
namespace DL
open PySem PySem.Spec L2 PyProof.Rows
section
variable {X : Cx} {W : WX} {EN : List Str} {hds : List ExceptHandler} {hs : List Hd}
def DHd (X : Cx) (EN : List Str) (hds : List ExceptHandler) (hs : List Hd) : Prop := ∃ l, HdOk X EN hds hs l
theorem dh_nil : DHd X EN [] [] := ⟨_, .nil⟩
theorem dh_tup {c a n t : Str} (i : Nat) {j} {x1} {p p1 p2 p3 pos pos2 pos3 : Pos} (T : ErrTxt X.prog X.K X.mg c a) (Th : HdTxt X.K X.mg EN c) (r : DHd X EN hds hs) (hN : X.N[i]? = some n := by rfl) (hk : X.env.kindOf n = some .local := by rfl)
    (hv : Vis X.env.scope n := by first | exact Or.inl rfl | exact Or.inr (Or.inl rfl) | exact Or.inr (Or.inr rfl)) (hd : (n == ("__debug__" : Str)) = false := by decide) (hcd : (n == ("__classdict__" : Str)) = false := by decide) (hg : Gl X c := by rfl)
    (hb : attributeBase (.Name n p) a X.env (eval (.Name n p) X.env) = eval (.Name n p) X.env := by rfl)
    (hs1 : starEach [.Constant (.str t) j p3, .Attribute (.Name n p) a pos] X.env = (false, eval (.Constant (.str t) j p3) X.env) :: starEach [.Attribute (.Name n p) a pos] X.env := by rfl) (hs2 : starEach [.Attribute (.Name n p) a pos] X.env = (false, eval (.Attribute (.Name n p) a pos) X.env) :: starEach [] X.env := by rfl) :
    DHd X EN (.ExceptHandler (some (.Name c p1)) (some n) [.Return (some (.Tuple [.Constant (.str t) j p3, .Attribute (.Name n p) a pos] x1 pos3)) pos2] p2 :: hds) (⟨c, i, some t, a⟩ :: hs) := by
  obtain ⟨l, r⟩ := r
  obtain ⟨C, fI, hc, T'⟩ := T.at_
  obtain ⟨C', hc', hm⟩ := Th.at_
  have e : some (Value.ref C) = some (Value.ref C') := hc.symm.trans hc'
  cases e
  exact ⟨_, .cons (h := ⟨c, i, some t, a⟩) hc hm ⟨hg, T.nd, .inl hc⟩ hN hk (suite_tup (h := ⟨c, i, some t, a⟩) rfl T' hN hv hd hcd hb hs1 hs2) r⟩
theorem dh_at {c a n : Str} (i : Nat) {p p1 p2 pos pos2 : Pos} (T : ErrTxt X.prog X.K X.mg c a) (Th : HdTxt X.K X.mg EN c) (r : DHd X EN hds hs) (hN : X.N[i]? = some n := by rfl) (hk : X.env.kindOf n = some .local := by rfl)
    (hv : Vis X.env.scope n := by first | exact Or.inl rfl | exact Or.inr (Or.inl rfl) | exact Or.inr (Or.inr rfl)) (hd : (n == ("__debug__" : Str)) = false := by decide) (hcd : (n == ("__classdict__" : Str)) = false := by decide) (hg : Gl X c := by rfl)
    (hb : attributeBase (.Name n p) a X.env (eval (.Name n p) X.env) = eval (.Name n p) X.env := by rfl) :
    DHd X EN (.ExceptHandler (some (.Name c p1)) (some n) [.Return (some (.Attribute (.Name n p) a pos)) pos2] p2 :: hds) (⟨c, i, none, a⟩ :: hs) := by
  obtain ⟨l, r⟩ := r
  obtain ⟨C, fI, hc, T'⟩ := T.at_
  obtain ⟨C', hc', hm⟩ := Th.at_
  have e : some (Value.ref C) = some (Value.ref C') := hc.symm.trans hc'
  cases e
  exact ⟨_, .cons (h := ⟨c, i, none, a⟩) hc hm ⟨hg, T.nd, .inl hc⟩ hN hk (suite_at (h := ⟨c, i, none, a⟩) rfl T' hN hv hd hcd hb) r⟩
theorem ds_tryD {body : List Stmt} {h₀ : ExceptHandler} {g : Fs} {pos : Pos} (st : X.stack = X.env :: X.outer) (hf : X.env.frame = some X.env.locals) (hN : X.N.Nodup) (tk : Takes X W)
    (hb : ∀ (W' : WX) (pn : List (Addr × Obj)) (xe : Value → Shared → Prop), Takes (X.tr pn xe) W' → PassesOwn (model X.prog X.w) X.A X.env xe → DSs (X.tr pn xe) W' body g)
    (hh : DHd X EN (h₀ :: hds) hs) : DS X W (.Try body (h₀ :: hds) [] [] pos) (sTry EN g hs) :=
  let ⟨_, h⟩ := hh
  ds_try st hf hN tk hb h
end
end DL
set_option Elab.async false
set_option linter.all false
set_option maxRecDepth 100000
set_option maxHeartbeats 4000000
/-! repetition, list(..) to be changed, three names at once, two items at once -/
namespace DL
open PySem PySem.Spec L2 PyProof.Rows
section
variable {X : Cx} {W : WX} {a b e : Expr} {f g : Fe} {pos : Pos}
theorem RepPs.repl {Z : Hp} {vs : List V} {ds : List PyData} (h : RepPs Z vs ds) : ∀ (n : Nat), RepPs Z (List.replicate n vs).flatten (List.replicate n ds).flatten
  | 0 => .nil
  | n + 1 => by
    rw [List.replicate_succ, List.replicate_succ, List.flatten_cons, List.flatten_cons]
    exact h.append (RepPs.repl h n)
def fRepT : D → D → M D
  | .p (.tuple ds), .p (.int k) => fun S => if ds ≠ [] ∧ 2 ≤ k ∧ k ≤ 1000 ∧ ds.length ≤ 1000 then .ok (.p (.tuple (List.replicate k.toNat ds).flatten)) S else .bad
  | _, _ => M.bad
instance {ds : List PyData} : Decidable (ds ≠ []) := by cases ds <;> simp <;> infer_instance
theorem ok_repT : R2ok X (rRepT X.K) fRepT := by
  intro w H S x y dx dy W σ Q R vx vy P
  unfold fRepT at P
  split at P
  · have vx := vx.cases_p
    cases vy.cases_p
    cases vx with | tup hx rx =>
    split at P
    · rename_i hc
      obtain ⟨h0, h1, h2, h3⟩ := hc
      exact ⟨_, _, _, rfl, rfl, SqT.of (R.same _ _ hx), fun z => h0 (by subst z; cases rx; rfl), h1, h2, by rw [rx.length]; exact h3, fun p hp => Post.newTup R P (rx.repl _) hp⟩
    · exact P.elim
  · exact P.elim
theorem de_repT (ha : DE X W a f) (hb : DE X W b g) : DE X W (.BinOp a .Mult b pos) (eBin fRepT f g) := de_bin op_repT ok_repT ha hb
def CRep (n : Nat) (k : Int) : Prop := -(2 ^ 63) ≤ k ∧ k < 2 ^ 63 ∧ n * k.toNat ≤ sizeLine
instance {n : Nat} {k : Int} : Decidable (CRep n k) := by unfold CRep; infer_instance
def fRepL : D → D → M D
  | .p (.list ds), .p (.int k) => fun S => if CRep ds.length k then .ok (.p (.list (List.replicate k.toNat ds).flatten)) S else .bad
  | _, _ => M.bad
theorem ok_repL : R2ok X rRep fRepL := by
  intro w H S x y dx dy W σ Q R vx vy P
  unfold fRepL at P
  split at P
  · have vx := vx.cases_p
    cases vy.cases_p
    cases vx with | lst hx rx =>
    split at P
    · rename_i hc
      exact ⟨_, _, _, rfl, rfl, R.same _ _ hx, hc.1, hc.2.1, by rw [rx.length]; exact hc.2.2, fun p hp => Post.newLst R P (rx.repl _) hp⟩
    · exact P.elim
  · exact P.elim
theorem de_repL (ha : DE X W a f) (hb : DE X W b g) : DE X W (.BinOp a .Mult b pos) (eBin fRepL f g) := de_bin op_rep ok_repL ha hb
/-- a new list that will be changed, of data -/
theorem Post.newCel {mg : Gm} {W : WX} {σ : L2.St} {w : Wd} {Q : VK} {H : Hp} {S : Store} {ds : List PyData} {xs : List V} (R : Rep mg w H S) (P : Post mg W σ w Q (.ok (.o S.length) (S ++ [.lst (ds.map D.p)]))) (r : RepPs w.Z xs ds) {p : Addr} (hp : H p = none) :
    Q (.ref p) (upd H p (.lst xs)) := by
  obtain ⟨g, R'⟩ := R.newC (o := .lst xs) (c := .lst (ds.map D.p)) hp (RepVs.grow (w := w) (w' := w.addM p) ⟨rfl, rfl, Same.refl _, [p], rfl⟩ (RepPs.toVs r))
  exact P _ _ g R' _ ⟨p, by show (w.m ++ [p])[S.length]? = some p; rw [← R.len]; simp, rfl⟩
def fRepC : D → D → M D
  | .p (.list ds), .p (.int k) => fun S => if CRep ds.length k then .ok (.o S.length) (S ++ [.lst ((List.replicate k.toNat ds).flatten.map D.p)]) else .bad
  | _, _ => M.bad
theorem ok_repC : R2ok X rRep fRepC := by
  intro w H S x y dx dy W σ Q R vx vy P
  unfold fRepC at P
  split at P
  · have vx := vx.cases_p
    cases vy.cases_p
    cases vx with | lst hx rx =>
    split at P
    · rename_i hc
      exact ⟨_, _, _, rfl, rfl, R.same _ _ hx, hc.1, hc.2.1, by rw [rx.length]; exact hc.2.2, fun p hp => Post.newCel R P (rx.repl _) hp⟩
    · exact P.elim
  · exact P.elim
theorem de_repC (ha : DE X W a f) (hb : DE X W b g) : DE X W (.BinOp a .Mult b pos) (eBin fRepC f g) := de_bin op_rep ok_repC ha hb
def fListC : D → M D
  | .p (.tuple ds) => fun S => .ok (.o S.length) (S ++ [.lst (ds.map D.p)])
  | _ => M.bad
theorem ok_listC : C1ok X (fun xs H Q => ∃ p ys, xs = [.ref p] ∧ (SqL X.K H p ys ∨ SqT X.K H p ys) ∧ ∀ l, H l = none → Q (.ref l) (upd H l (.lst ys))) (on1 fListC) := ok_on1 fun w H S x d W σ Q R v P => by
  unfold fListC at P
  split at P
  · have v := v.cases_p
    cases v with | tup hx rx =>
    exact ⟨_, _, rfl, .inr (SqT.of (R.same _ _ hx)), fun p hp => Post.newCel R P rx hp⟩
  · exact P.elim
theorem de_listC {p : Pos} (hg : Gl X "list") (hm : X.mg "list" = none) (ha : DE X W e f) (he : starEach [e] X.env = (false, eval e X.env) :: starEach [] X.env := by rfl) (hpl : (backTo pos (starEach [] X.env)).any (·.1) = false := by rfl) :
    DE X W (.Call (.Name "list" p) [e] [] pos) (eCB (on1 fListC) (aCons f aNil)) := de_callTy call_list_of ok_listC hg hm PyProof.Rows.boot_list (da_cons ha da_nil he) (by decide) (by decide) he hpl
/-- a, b, c = x, y, z -/
def sPar3 (i j l : Nat) (f g k : Fe) : Fs := fun ρ S => bindS ρ (f ρ S) fun d S1 => bindS ρ (g ρ S1) fun d2 S2 => bindS ρ (k ρ S2) fun d3 S3 => .nx (((ρ.set i (some d)).set j (some d2)).set l (some d3)) S3
theorem ds_par3 {c : Expr} {k : Fe} {i j l : Nat} {x y z : Str} {px py pz pt : Pos} {kt k2 pt2} (hc : X.calm = true) (hN : X.N.Nodup) (hi : X.N[i]? = some x) (hj : X.N[j]? = some y) (hl : X.N[l]? = some z) (hij : i ≠ j) (hil : i ≠ l) (hjl : j ≠ l)
    (hx : X.env.scope.names.lookup x = some .local) (hy : X.env.scope.names.lookup y = some .local) (hz : X.env.scope.names.lookup z = some .local) (ha : DE X W a f) (hb : DE X W b g) (hd : DE X W c k)
    (hw : swappedStores [.Tuple [.Name x px, .Name y py, .Name z pz] kt pt] (.Tuple [a, b, c] k2 pt2) X.env = pure (some [x, y, z]))
    (hs : swapsWithSole [.Tuple [.Name x px, .Name y py, .Name z pz] kt pt] (.Tuple [a, b, c] k2 pt2) pos.line X.env = pure false := by rfl)
    (he : starEach [a, b, c] X.env = (false, eval a X.env) :: starEach [b, c] X.env := by rfl) (he' : starEach [b, c] X.env = (false, eval b X.env) :: starEach [c] X.env := by rfl) (he3 : starEach [c] X.env = (false, eval c X.env) :: starEach [] X.env := by rfl) :
    DS X W (.Assign [.Tuple [.Name x px, .Name y py, .Name z pz] kt pt] (.Tuple [a, b, c] k2 pt2) pos) (sPar3 i j l f g k) :=
  (ps_par3 hc hN hi hj hl hij hil hjl hx hy hz (pa_cons ha (pa_cons hb (pa_cons hd pa_nil he3) he') he) hw hs).imp fun E σ H ⟨w, ρ, S, R, e, P⟩ =>
    stepES R e P fun v w1 H1 S1 d g1 R1 E1 V1 P1 => stepES R1 E1 P1 fun v2 w2 H2 S2 d2 g2 R2 E2 V2 P2 => stepES R2 E2 P2 fun v3 w3 H3 S3 d3 g3 R3 E3 V3 P3 =>
      ⟨v, v2, v3, rfl, P3 _ w3 H3 (Grow.refl _) R3 (((E3.set i ((V1.grow g2).grow g3)).set j (V2.grow g3)).set l V3)⟩
/-- xs[i], ys[j] = a pair -/
theorem setAt_inv {w : Wd} {H : Hp} {S S' : Store} {mg : Gm} {x y i : D} {vx vy vi : V} (R : Rep mg w H S) (Vx : RepV w vx x) (Vi : RepV w vi i) (Vy : RepV w vy y) (h : setAt x i y S = some S') {Q : Hp → Prop} (q : ∀ H', Rep mg w H' S' → Q H') : rSetL vx vi vy H Q := by
  unfold setAt at h
  split at h
  · rename_i a k
    cases Vi.cases_p
    obtain ⟨ad, ha, rfl⟩ := Vx
    cases q1 : lstAt S a with
    | none => rw [q1] at h; cases h
    | some ds =>
      rw [q1] at h
      dsimp only [Option.bind] at h
      cases q2 : ixN ds.length k with
      | none => rw [q2] at h; cases h
      | some j =>
        rw [q2] at h
        cases h
        obtain ⟨oo, ho, r⟩ := R.at_ ha (lstAt_some q1)
        obtain ⟨xs, rfl, r⟩ := r.lst_inv
        exact ⟨ad, xs, k, j, rfl, rfl, ho, by rw [r.length]; exact q2, q _ (R.setC (o := .lst (xs.set j vy)) ha (RepVs.set Vy j r))⟩
  · cases h
def sSwap (fv fo fi fo2 fi2 : Fe) : Fs := fun ρ S => bindS ρ (fv ρ S) fun d S1 => match d with
  | .p (.tuple [u, v]) => bindS ρ (fo ρ S1) fun x S2 => bindS ρ (fi ρ S2) fun i S3 => match setAt x i (.p u) S3 with
    | some S4 => bindS ρ (fo2 ρ S4) fun x2 S5 => bindS ρ (fi2 ρ S5) fun i2 S6 => nxO ρ (setAt x2 i2 (.p v) S6)
    | none => .bad
  | _ => .bad
theorem ds_swap {o i o2 i2 value : Expr} {fv fo fi fo2 fi2 : Fe} {k : Nat} {p1 p2 pt : Pos} (hc : X.calm = true) (hv : DE X W value fv) (ho : DE X W o fo) (hi : DE X W i fi) (ho2 : DE X W o2 fo2) (hi2 : DE X W i2 fi2)
    (ha : ∀ v, assign (.Subscript o i p1) X.env v = (do
      let ov ← holding [v] (eval o X.env)
      let iv ← holding [v, ov] (eval i X.env)
      standAt p1
      holding [v, ov, iv] (setItem ov iv v)
      release [v, ov, iv] []) := by intro _; rfl)
    (ha2 : ∀ v, assign (.Subscript o2 i2 p2) X.env v = (do
      let ov ← holding [v] (eval o2 X.env)
      let iv ← holding [v, ov] (eval i2 X.env)
      standAt p2
      holding [v, ov, iv] (setItem ov iv v)
      release [v, ov, iv] []) := by intro _; rfl)
    (h1 : (assignEach [.Subscript o i p1, .Subscript o2 i2 p2] X.env).map (·.2) = assign (.Subscript o i p1) X.env :: (assignEach [.Subscript o2 i2 p2] X.env).map (·.2) := by rfl)
    (h2 : (assignEach [.Subscript o2 i2 p2] X.env).map (·.2) = assign (.Subscript o2 i2 p2) X.env :: (assignEach [] X.env).map (·.2) := by rfl)
    (hn : (assignEach [.Subscript o i p1, .Subscript o2 i2 p2] X.env).length = 2 := by rfl) (hst : (assignEach [.Subscript o i p1, .Subscript o2 i2 p2] X.env).findIdx? (·.1) = none := by rfl)
    (hs : swapsWithSole [.Tuple [.Subscript o i p1, .Subscript o2 i2 p2] k pt] value pos.line X.env = pure false := by rfl) (hw : swappedStores [.Tuple [.Subscript o i p1, .Subscript o2 i2 p2] k pt] value X.env = pure none := by rfl)
    (h3 : (assignEach [.Tuple [.Subscript o i p1, .Subscript o2 i2 p2] k pt] X.env).map (·.2) = [assign (.Tuple [.Subscript o i p1, .Subscript o2 i2 p2] k pt) X.env] := by rfl) :
    DS X W (.Assign [.Tuple [.Subscript o i p1, .Subscript o2 i2 p2] k pt] value pos) (sSwap fv fo fi fo2 fi2) :=
  (ps_asg hv (pg_tup hc (pgs_cons (pg_sub ho hi set_list ha) (pgs_cons (pg_sub ho2 hi2 set_list ha2) pgs_nil h2) h1) hn hst) hs hw h3).imp fun En σ H ⟨w, ρ, S, R, E, P⟩ =>
    stepES R E P fun y w1 H1 S1 d g1 R1 E1 V1 P1 => by
      split at P1
      · rename_i u v
        have V1 := V1.cases_p
        cases V1 with | tup ht rt =>
        cases rt with | cons ru rt =>
        cases rt with | cons rv rt =>
        cases rt
        refine ⟨_, _, rfl, SqT.of (R1.same _ _ ht), rfl, _, _, rfl, ?_⟩
        refine stepES R1 E1 P1 fun x w2 H2 S2 d2 g2 R2 E2 V2 P2 => stepES R2 E2 P2 fun z w3 H3 S3 d3 g3 R3 E3 V3 P3 => ?_
        cases q : setAt d2 d3 (.p u) S3 with
        | none => rw [q] at P3; exact P3.elim
        | some S4 =>
          rw [q] at P3
          refine setAt_inv (y := .p u) R3 (V2.grow g3) V3 (RepP.mono (g2.trans g3).z _ _ ru) q fun H4 R4 => ?_
          refine ⟨_, _, rfl, ?_⟩
          refine stepES R4 E3 P3 fun x5 w5 H5 S5 d5 g5 R5 E5 V5 P5 => stepES R5 E5 P5 fun z6 w6 H6 S6 d6 g6 R6 E6 V6 P6 => ?_
          cases q6 : setAt d5 d6 (.p v) S6 with
          | none => rw [q6] at P6; exact P6.elim
          | some S7 =>
            rw [q6] at P6
            exact setAt_inv (y := .p v) R6 (V5.grow g6) V6 (RepP.mono (((g2.trans g3).trans g5).trans g6).z _ _ rv) q6 fun H7 R7 => ⟨rfl, P6 σ w6 H7 (Grow.refl _) R7 E6⟩
      · exact P1.elim
end
section
variable {P : Program} {w : World} {K : PySem.W.Frag} {mg : Str → Option Value} {base : Heap}
theorem def_none {x : Str} {st : Stmt} {ps : List Str} {k : Nat} (h : DefAt K mg x st ps) : DefOk P w K mg base x ps k (fun _ => M.bad) := by
  obtain ⟨fa, fd, h1, h2, h3⟩ := h.ex
  exact ⟨fa, fd, h1, h2.kp, h3, ⟨fun vs H Q E ⟨_, _, _, _, _, P⟩ => P.elim, fun _ _ _ _ _ _ _ _ _ _ _ _ _ ⟨_, _, _, _, _, P⟩ => P.elim⟩⟩
end
end DL
set_option Elab.async false
set_option linter.all false
set_option maxRecDepth 100000
set_option maxHeartbeats 4000000
/-! t[::-1] of a tuple -/
namespace DL
open PySem PySem.Spec L2 PyProof.Rows HT
theorem back_adjust (n : Nat) : Builtin.Slice.sliceAdjust none none (-1) (n : Int) = ((n : Int) - 1, -1) := rfl
theorem back_places (n : Nat) : Builtin.Slice.slicePlaces ((n : Int) - 1) (-1) (-1) = n := by
  unfold Builtin.Slice.slicePlaces
  have h1 : ¬ ((-1 : Int) > 0) := by decide
  rw [if_neg h1]
  have e : (-(-1) : Int) = 1 := by decide
  rw [e, Int.ediv_one]
  split <;> omega
theorem filterMap_same {α β : Type} {f g : α → Option β} : ∀ {l : List α}, (∀ a ∈ l, f a = g a) → l.filterMap f = l.filterMap g
  | [], _ => rfl
  | a :: l, h => by
    rw [List.filterMap_cons, List.filterMap_cons, h a List.mem_cons_self, filterMap_same fun b hb => h b (List.mem_cons_of_mem _ hb)]
theorem back_pick (xs : List Value) : ((List.range xs.length).filterMap fun (k : Nat) => xs.toArray[(((xs.length : Int) - 1) + (k : Int) * (-1)).toNat]?) = xs.reverse := by
  have h : ∀ k ∈ List.range xs.length, xs.toArray[(((xs.length : Int) - 1) + (k : Int) * (-1)).toNat]? = xs.reverse[k]? := by
    intro k hk
    have hk := List.mem_range.mp hk
    have e : (((xs.length : Int) - 1) + (k : Int) * (-1)).toNat = xs.length - 1 - k := by omega
    rw [e, List.getElem?_toArray, List.getElem?_reverse hk]
  have e1 : ((List.range xs.length).filterMap fun (k : Nat) => xs.toArray[(((xs.length : Int) - 1) + (k : Int) * (-1)).toNat]?) = (List.range xs.length).filterMap fun k => xs.reverse[k]? := filterMap_same h
  rw [e1]
  have key : ∀ (l : List Value), ((List.range l.length).filterMap fun k => l[k]?) = l := by
    intro l
    induction l with
    | nil => rfl
    | cons a l ih =>
      rw [List.length_cons, List.range_succ_eq_map, List.filterMap_cons, List.filterMap_map]
      show a :: (List.filterMap (fun k => l[k]?) (List.range l.length)) = a :: l
      rw [ih]
  have := key xs.reverse
  rw [List.length_reverse] at this
  exact this
/-- what tuple.__getitem__ gives of [::-1] -/
theorem back_meets {t sl : Addr} {items : List Value} {vs : Value} (ps : IsPart vs (some (-1))) (hz : items.length ≤ sizeLine) : Meets (Builtin.«tuple.__getitem__» ⟨[.ref t, .ref sl], []⟩)
    (fun _ R s => IsTup s.heap t items.toArray ∧ s.heap.IsSliceOf sl .none .none vs ∧ (R (.ok (.ret (.ref s.heap.objs.size))) { s with heap := s.heap.push { cls := .type "tuple", data := .seq items.reverse.toArray } })) :=
  .of_wp fun prog w A R s ⟨ht, hs, h⟩ => by
    obtain ⟨os, ho, hc, hd⟩ := id hs
    have ty : s.TypeIs (.ref sl) "slice" := ⟨os, ho, hc⟩
    have ok : sizeOk (.seq items.reverse.toArray) := by
      show items.reverse.toArray.size ≤ sizeLine
      simpa using hz
    change wpAny _ _ (Builtin.Tuple.tupleItemsOf (.ref t) >>= _) _ _ s
    apply wpAny_bind
    apply tupleItemsOf_ ht
    apply wpAny_bind
    apply wpAny_typeOf ty
    rw [if_pos (by decide)]
    have app : ∀ {Q : Int × Int × Nat → Shared → Prop} {E : Value → Shared → Prop}, Q ((items.length : Int) - 1, -1, items.length) s → wpAny (model prog w) A.in1 (Builtin.Slice.sliceApplied (.ref sl) (pure (items.toArray.size : Int))) Q E s := by
      intro Q E q
      unfold Builtin.Slice.sliceApplied Builtin.Slice.sliceFields
      apply wpAny_bind
      apply wpAny_bind
      refine wpAny_field ho hd (x := .none) rfl ?_
      apply wpAny_bind
      refine wpAny_field ho hd (x := .none) rfl ?_
      apply wpAny_bind
      refine wpAny_field ho hd (x := vs) rfl ?_
      apply wpAny_pure
      apply wpAny_bind
      refine slicePart_ ps ?_
      change wpAny _ _ (if ((-1 : Int) == 0) = true then _ else _) _ _ s
      rw [if_neg (by decide)]
      apply wpAny_bind
      apply slicePart_none
      apply wpAny_bind
      apply slicePart_none
      apply wpAny_bind
      apply wpAny_pure
      change wpAny _ _ (pure ((((items.toArray.size : Nat) : Int) - 1), (-1 : Int), Builtin.Slice.slicePlaces (((items.toArray.size : Nat) : Int) - 1) (-1) (-1))) _ _ s
      rw [back_places, List.size_toArray]
      exact wpAny_pure q
    apply wpAny_bind
    apply app
    have no : ¬ ((((items.length : Int) - 1) == 0 && (-1 : Int) == 1 && items.length == items.toArray.size) = true) := by simp
    change wpAny _ _ (if (((items.length : Int) - 1) == 0 && (-1 : Int) == 1 && items.length == items.toArray.size) = true then _ else _) _ _ s
    rw [if_neg no, back_pick]
    first
      | exact wpAny_bind (m := Builtin.Tuple.tupleExact _) (wpAny_newObj_type (wpAny_pure ⟨_, rfl, h⟩) ok)
      | exact wpAny_bind (m := Builtin.Tuple.tupleExact _) (wpAny_newObj_type (wpAny_bind (wpAny_pure (wpAny_pure ⟨_, rfl, h⟩))) ok)
      | exact wpAny_bind (wpAny_bind (m := Builtin.Tuple.tupleExact _) (wpAny_newObj_type (wpAny_pure (wpAny_pure ⟨_, rfl, h⟩)) ok))
section
variable {X : Cx} {W : WX} {e : Expr} {f : Fe}
def tRevT (K : PySem.W.Frag) (te : TE) : TE := fun σ H Q => te σ H fun x H1 => ∃ a xs, x = .ref a ∧ SqT K H1 a xs ∧ ∀ p, H1 p = none → Q (.ref p) (upd H1 p (.tup xs.reverse))
abbrev minus1 (k : Nat) (p q : Pos) : Expr := .UnaryOp .USub (.Constant (.int 1) k p) q
theorem pe_revT {te : TE} {k : Nat} {p1 p2 p3 pos : Pos} (he : PE X e te) : PE X (.Subscript e (.Slice none none (some (minus1 k p1 p2)) p3) pos) (tRevT X.K te) := by
  constructor
  intro pins s σ H Q I h
  have stp : PO X (some (minus1 k p1 p2)) (tPart (tUn (rU fun i => .int (-i)) (tC (.int 1)))) := po_some (pe_un un_neg pe_int)
  apply Subscript_
  refine thn (he.run pins s σ H _ I h) ?_
  rintro v s1 ⟨_, H1, I1, rv, a, xs, rfl, ha, q⟩
  cases rv
  apply wpAny_Slice
  refine thn (po_none.run pins s1 σ H1 (fun o G => o = none ∧ G = H1) I1 ⟨rfl, rfl⟩) ?_
  rintro lo s2 ⟨_, _, I2, plo, rfl, rfl⟩
  refine thn (po_none.run pins s2 σ _ (fun o G => o = none ∧ G = _) I2 ⟨rfl, rfl⟩) ?_
  rintro hi s3 ⟨_, _, I3, phi, rfl, rfl⟩
  refine thn (stp.run pins s3 σ _ (fun o G => o = some (-1) ∧ G = _) I3 ⟨1, rfl, -1, rfl, rfl, rfl⟩) ?_
  rintro st s4 ⟨_, _, I4, pst, rfl, rfl⟩
  cases plo
  cases phi
  have up : ∀ b ob, s4.heap.get? b = some ob → (s4.heap.push { cls := .type "slice", data := .fields #[.none, .none, st] }).get? b = some ob := fun b ob q => Heap.get?_push_of_some _ q
  have I5 := I4.kept (t' := s4.toks) up
  obtain ⟨its, r, ht, hz⟩ := I5.tuple ha
  change wpAny (model X.prog X.w) X.A (subscriptTail e (.Slice none none (some (minus1 k p1 p2)) p3) (.ref a) (.ref s4.heap.objs.size)) (EP X pins σ Q) X.xe { s4 with heap := s4.heap.push { cls := .type "slice", data := .fields #[.none, .none, st] } }
  refine tail_any (ops := [.ref a, .ref s4.heap.objs.size]) ht.typeIs (PyProof.Rows.slot_tuple_getitem.lookup) ?_ (by with_unfolding_all rfl)
  have hl : its.length ≤ sizeLine := by rw [← r.length]; exact hz
  refine getItem_meets ht.typeIs (by decide) PyProof.Rows.slot_tuple_getitem entry_tuple_getitem (args_tuple_getitem _ _) (back_meets pst hl) ?_
  refine ⟨ht, Heap.IsSliceOf.new _ _ _ _, ?_⟩
  refine ⟨.ref _, _, I5.laid (t' := s4.toks) (o := .tup xs.reverse) (fun b ob q => Heap.get?_push_of_some _ q) (Nat.le_refl _) ?_, rfl, q _ (I5.hok.fresh (Nat.le_refl _))⟩
  refine ⟨by rw [List.length_reverse]; exact hz, its.reverse, r.reverse, ?_⟩
  exact ⟨_, Heap.get?_push_size _ rfl, rfl, 0, rfl⟩
def fRev : D → M D
  | .p (.tuple ds) => M.pure (.p (.tuple ds.reverse))
  | _ => M.bad
theorem de_rev {k : Nat} {p1 p2 p3 pos : Pos} (he : DE X W e f) : DE X W (.Subscript e (.Slice none none (some (minus1 k p1 p2)) p3) pos) (eUn fRev f) := (pe_revT he).imp fun σ H Q ⟨w, ρ, S, R, E, P⟩ =>
  stepE R E P fun x w1 H1 S1 dx g1 R1 E1 V1 P1 => by
    unfold fRev at P1
    split at P1
    · have V1 := V1.cases_p
      cases V1 with | tup hx rx =>
      exact ⟨_, _, rfl, SqT.of (R1.same _ _ hx), fun p hp => Post.newTup R1 P1 rx.reverse hp⟩
    · exact P1.elim
end
end DL
set_option Elab.async false
set_option linter.all false
set_option maxRecDepth 100000
namespace DL
open PySem PySem.Spec L2
section
variable {X : Cx} {W : WX} {fsrc : Fsrc} {g : TG} {t : Tg} {tb : Fb} {el : Fe}
theorem de_lcI {elt tg iter : Expr} {ifs : List Expr} {scope : Scope} {own : List (Str × Nat)} {ix : List Nat} {pos : Pos} (hc : X.calm = true) (hN : X.N.Nodup) (hi : DI X W tg iter fsrc) (ok : BlkOk X.N X.env.scope scope own)
    (hT : TgC X.gm g t ix) (hg : ∀ (s : Shared) (H : Hp) (C : Addr) (cl : List (Str × Addr)) (fp : List Addr), PG (X.blk s H scope (compEnvC scope cl C X.env) fp) tg g) (ht : ∀ (s : Shared) (H : Hp) (C : Addr) (cl : List (Str × Addr)) (fp : List Addr), PTs (X.blk s H scope (compEnvC scope cl C X.env) fp) ifs (tDT X.gm Wno tb))
    (he : ∀ (s : Shared) (H : Hp) (C : Addr) (cl : List (Str × Addr)) (fp : List Addr), DE (X.blk s H scope (compEnvC scope cl C X.env) fp) Wno elt el) (hx : own.map (·.2) = ix := by rfl) (hs : ∀ x, foldedSetIterable iter X.env x = pure x := by intro _; rfl) :
    DE X W (.ListComp elt [⟨tg, iter, ifs, 0⟩] scope pos) (eLc fsrc ix t tb el) := by
  subst hx
  exact de_lc hc hN hi ok hT hg ht he hs
theorem ds_setLcI {i : Nat} {y : Str} {py : Pos} {elt tg iter : Expr} {ifs : List Expr} {scope : Scope} {own : List (Str × Nat)} {ix : List Nat} {pos spos : Pos} (hc : X.calm = true) (hN : X.N.Nodup) (hy : X.N[i]? = some y) (hyl : X.env.scope.names.lookup y = some .local)
    (hsw : swapsWith (.ListComp elt [⟨tg, iter, ifs, 0⟩] scope pos) (some (.Name y py)) spos.line X.env = pure true) (hi : DI X W tg iter fsrc) (ok : BlkOk X.N X.env.scope scope own)
    (hT : TgC X.gm g t ix) (hg : ∀ (s : Shared) (H : Hp) (C : Addr) (cl : List (Str × Addr)) (fp : List Addr), PG (X.blk s H scope (compEnvC scope cl C X.env) fp) tg g) (ht : ∀ (s : Shared) (H : Hp) (C : Addr) (cl : List (Str × Addr)) (fp : List Addr), PTs (X.blk s H scope (compEnvC scope cl C X.env) fp) ifs (tDT X.gm Wno tb))
    (he : ∀ (s : Shared) (H : Hp) (C : Addr) (cl : List (Str × Addr)) (fp : List Addr), DE (X.blk s H scope (compEnvC scope cl C X.env) fp) Wno elt el) (hx : own.map (·.2) = ix := by rfl) (hs : ∀ x, foldedSetIterable iter X.env x = pure x := by intro _; rfl) :
    DS X W (.Assign [.Name y py] (.ListComp elt [⟨tg, iter, ifs, 0⟩] scope pos) spos) (sSet i (eLc fsrc ix t tb el)) := by
  subst hx
  exact ds_setLc hc hN hy hyl hsw hi ok hT hg ht he hs
end
end DL
set_option Elab.async false
set_option linter.all false
set_option maxRecDepth 100000
namespace DL
open PySem PySem.Spec L2 RZ
def isTup : D → Bool
  | .p (.tuple _) => true
  | _ => false
theorem isTup_inv {d : D} (h : isTup d = true) : ∃ ds, d = .p (.tuple ds) := by
  cases d with
  | p d => cases d with
    | tuple ds => exact ⟨ds, rfl⟩
    | _ => cases h
  | _ => cases h
theorem notTup_items {d : D} (h : isTup d = false) (S : Store) : seqItems S d = items S d := by
  cases d with
  | o i => rfl
  | s ns => rfl
  | p d => cases d with
    | tuple ds => cases h
    | _ => rfl
theorem zipAt_some {xs ys : List D} {i : Nat} {d : D} (h : zipAt xs ys i = some (some d)) : ∃ a b, xs[i]? = some (.p a) ∧ ys[i]? = some (.p b) ∧ d = .p (.tuple [a, b]) := by
  unfold zipAt at h
  split at h
  · rename_i x y hx hy
    cases x <;> cases y <;> cases h
    exact ⟨_, _, hx, hy, rfl⟩
  · cases h
theorem zipAt_none {xs ys : List D} {i : Nat} (h : zipAt xs ys i = some none) : xs.length ≤ i ∨ ys.length ≤ i := by
  unfold zipAt at h
  split at h
  · rename_i x y hx hy
    cases x <;> cases y <;> cases h
  · rename_i hn
    cases hx : xs[i]? with
    | none => exact .inl (List.getElem?_eq_none_iff.mp hx)
    | some x =>
      cases hy : ys[i]? with
      | none => exact .inr (List.getElem?_eq_none_iff.mp hy)
      | some y => exact absurd hy (hn x y hx)
section
variable {mg : Gm} {w0 : Wd} {a b : Addr} {x y : D}
theorem src_zipL (Vx : RepV w0 (.ref a) x) (Vy : RepV w0 (.ref b) y) (hx : isTup x = false) (hy : isTup y = false) : Src mg (Itz mg.K a b) (.zip x y) w0 := by
  constructor
  · intro i w H S d g R h
    have h : (seqItems S x).bind (fun xs => (seqItems S y).bind fun ys => zipAt xs ys i) = some (some d) := h
    obtain ⟨xs, h1, h⟩ := Option.bind_eq_some_iff.mp h
    obtain ⟨ys, h2, h⟩ := Option.bind_eq_some_iff.mp h
    rw [notTup_items hx] at h1
    rw [notTup_items hy] at h2
    obtain ⟨a', us, e, hs, r⟩ := items_sq R (Vx.growD g) h1
    cases e
    obtain ⟨b', vs, e, ht, r'⟩ := items_sq R (Vy.growD g) h2
    cases e
    obtain ⟨p, q, e1, e2, rfl⟩ := zipAt_some h
    obtain ⟨u, f1, f2⟩ := r.get e1
    obtain ⟨v, f3, f4⟩ := r'.get e2
    refine ⟨⟨us, vs, u, v, hs, ht, f1, f3⟩, fun z H' ⟨T, u', v', ez, hT, eH, k1, k2⟩ => ?_⟩
    have k1 := k1 us hs
    have k2 := k2 vs ht
    rw [f1] at k1
    rw [f3] at k2
    cases k1
    cases k2
    subst ez eH
    obtain ⟨g', R'⟩ := R.newP (.tup [u, v]) hT
    exact ⟨_, g', R', .tup upd_same (.cons (RepP.mono g'.z _ _ f2) (.cons (RepP.mono g'.z _ _ f4) .nil))⟩
  · intro i w H S g R h
    have h : (seqItems S x).bind (fun xs => (seqItems S y).bind fun ys => zipAt xs ys i) = some none := h
    obtain ⟨xs, h1, h⟩ := Option.bind_eq_some_iff.mp h
    obtain ⟨ys, h2, h⟩ := Option.bind_eq_some_iff.mp h
    rw [notTup_items hx] at h1
    rw [notTup_items hy] at h2
    obtain ⟨a', us, e, hs, r⟩ := items_sq R (Vx.growD g) h1
    cases e
    obtain ⟨b', vs, e, ht, r'⟩ := items_sq R (Vy.growD g) h2
    cases e
    exact ⟨us, vs, hs, ht, by rw [r.length, r'.length]; exact zipAt_none h⟩
theorem src_zipT {K : PySem.W.Frag} {ds es : List PyData} (Vx : RepV w0 (.ref a) (.p (.tuple ds))) (Vy : RepV w0 (.ref b) (.p (.tuple es))) : Src mg (ItzT K a b) (.zip (.p (.tuple ds)) (.p (.tuple es))) w0 := by
  constructor
  · intro i w H S d g R h
    have h : zipAt (ds.map D.p) (es.map D.p) i = some (some d) := h
    have Vx := (Vx.growD g).cases_p
    have Vy := (Vy.growD g).cases_p
    cases Vx with | tup hx rx =>
    cases Vy with | tup hy ry =>
    rename_i us vs
    obtain ⟨p, q, e1, e2, rfl⟩ := zipAt_some h
    obtain ⟨u, f1, f2⟩ := (RepPs.toVs (w := w) rx).get e1
    obtain ⟨v, f3, f4⟩ := (RepPs.toVs (w := w) ry).get e2
    have hs : SqT K H a us := SqT.of (R.same _ _ hx)
    have ht : SqT K H b vs := SqT.of (R.same _ _ hy)
    refine ⟨⟨us, vs, u, v, hs, ht, f1, f3⟩, fun z H' ⟨T, u', v', ez, hT, eH, k1, k2⟩ => ?_⟩
    have k1 := k1 us hs
    have k2 := k2 vs ht
    rw [f1] at k1
    rw [f3] at k2
    cases k1
    cases k2
    subst ez eH
    obtain ⟨g', R'⟩ := R.newP (.tup [u, v]) hT
    exact ⟨_, g', R', .tup upd_same (.cons (RepP.mono g'.z _ _ f2) (.cons (RepP.mono g'.z _ _ f4) .nil))⟩
  · intro i w H S g R h
    have h : zipAt (ds.map D.p) (es.map D.p) i = some none := h
    have Vx := (Vx.growD g).cases_p
    have Vy := (Vy.growD g).cases_p
    cases Vx with | tup hx rx =>
    cases Vy with | tup hy ry =>
    have := zipAt_none h
    rw [List.length_map, List.length_map] at this
    exact ⟨_, _, SqT.of (R.same _ _ hx), SqT.of (R.same _ _ hy), by rw [rx.length, ry.length]; exact this⟩
end
def ofZip2 : List D → M SrcV
  | [x, y] => fun S => if isTup x = isTup y ∧ (seqItems S x).isSome = true ∧ (seqItems S y).isSome = true then .ok (.zip x y) S else .bad
  | _ => M.bad
def srcZip2 (f g : Fe) : Fsrc := fun ρ => M.bind (aCons f (aCons g aNil) ρ) ofZip2
section
variable {X : Cx} {W : WX} {a b : Expr} {f g : Fe} {pos : Pos}
theorem di_zip {p tpos : Pos} {elts : List Expr} {kk : Nat} (hg : Gl X "zip") (hm : X.mg "zip" = none) (ha : DE X W a f) (hb : DE X W b g) (hs : starEach [a, b] X.env = (false, eval a X.env) :: starEach [b] X.env := by rfl) (hs2 : starEach [b] X.env = (false, eval b X.env) :: starEach [] X.env := by rfl)
    (hpl : (backTo pos (starEach [b] X.env)).any (·.1) = false := by rfl) : DI X W (.Tuple elts kk tpos) (.Call (.Name "zip" p) [a, b] [] pos) (srcZip2 f g) :=
  ⟨fun pins s σ H T I ⟨w, ρ, S, R, E, P⟩ => (pi_zipA hg hm (da_cons ha (da_cons hb da_nil hs2) hs) hs hpl).run pins s σ H T I (by
    refine stepA R E P fun vs w1 H1 S1 ds g1 R1 E1 V1 P1 => ?_
    unfold ofZip2 at P1
    split at P1
    · rename_i dx dy
      obtain ⟨x, y, rfl, vx, vy⟩ := RepVs.two V1
      by_cases hc : isTup dx = isTup dy ∧ (seqItems S1 dx).isSome = true ∧ (seqItems S1 dy).isSome = true
      · rw [if_pos hc] at P1
        obtain ⟨he, h1, h2⟩ := hc
        cases ht : isTup dx with
        | true =>
          obtain ⟨ds, rfl⟩ := isTup_inv ht
          obtain ⟨es, rfl⟩ := isTup_inv (he.symm.trans ht)
          have vx' := vx.cases_p
          have vy' := vy.cases_p
          cases vx' with | tup hx rx =>
          cases vy' with | tup hy ry =>
          exact ⟨_, _, _, _, rfl, .inr ⟨SqT.of (R1.same _ _ hx), SqT.of (R1.same _ _ hy), P1 w1 H1 (Grow.refl _) R1 _ (src_zipT vx vy)⟩⟩
        | false =>
          have hy := he.symm.trans ht
          rw [notTup_items ht] at h1
          rw [notTup_items hy] at h2
          obtain ⟨xs, q1⟩ := Option.isSome_iff_exists.mp h1
          obtain ⟨ys, q2⟩ := Option.isSome_iff_exists.mp h2
          obtain ⟨a', us, rfl, k1, r1⟩ := items_sq R1 vx q1
          obtain ⟨b', vs', rfl, k2, r2⟩ := items_sq R1 vy q2
          exact ⟨_, _, _, _, rfl, .inl ⟨k1, k2, P1 w1 H1 (Grow.refl _) R1 _ (src_zipL vx vy ht hy)⟩⟩
      · rw [if_neg hc] at P1; exact P1.elim
    · exact P1.elim)⟩
end
end DL
set_option Elab.async false
set_option linter.all false
set_option maxRecDepth 100000
namespace DL
open PySem PySem.Spec L2 PySem.HandSPX
/-- a def at a known place is worth its reading -/
theorem law_fn {P : Program} {w : World} {K : PySem.W.Frag} {mg : Str → Option Value} {base : Heap} {x : Str} {st : Stmt} {f : Addr} {fd : FuncData} {N ps : List Str} {k : Nat} {g : Fs} (Fn : Fun K x x st f fd) (S : FnScope N ps (defScope st))
    (hbody : ∀ (cdv : Value) (A : Around) (outer : List Env) (s : Shared) (H : Hp) (E : XK), Room k (A.deeper (PyProof.Rows.envOfC x (defScope st) s.heap.objs.size f cdv)) →
      DSs (cxOf (L2.CX P w) P w K mg base N x (defScope st) f cdv A outer s H E) (WF E) (defBody st) g) : FnOk P w K mg base (L2.CX P w) (k + 1) f fd ps (spD ⟨mg, K⟩ (bodyF ps.length N.length g)) :=
  fnd_of Fn S hbody fun ds S' nb => by
    unfold bodyF at nb ⊢
    by_cases e : ds.length = ps.length
    · rw [if_pos e]; exact ⟨e, rfl⟩
    · rw [if_neg e] at nb; exact absurd rfl nb
/-- the text of an error's __init__ -/
def ErrText (st : Stmt) (a : Str) : Prop := ∃ (m : Str) (p1 p2 q1 q2 q3 q4 q5 q6 r1 r2 r3 r4 : Pos) (j : Nat), defArgs st = xA a p1 p2 ∧ defBody st = xB a m q1 q2 q3 q4 q5 q6 r1 r2 r3 r4 j ∧ defScope st = xS a ∧ (q3.endLine == q5.line) = true
/-- whether an error of one class is caught by the name of another -/
theorem exm_two {K : PySem.W.Frag} {C Y : Addr} {b : Bool} (h1 : PySem.W.subIn K (.ref C) (.type "BaseException") = some true) (h2 : PySem.W.isClsIn K C = true) (h3 : PySem.W.typeIn K (.ref C) = some (.type "type")) (h4 : PySem.W.subIn K (.ref Y) (.ref C) = some b) :
    PySem.W.exmOne K (.ref Y) (.ref C) = some b := by
  have h2 : (PySem.W.clsIn K C).isSome = true := h2
  unfold PySem.W.exmOne PySem.W.kitCls
  simp only [h1, h3, beq_self_eq_true, if_true, h2, Bool.and_self]
  exact h4
theorem kit_self {K : PySem.W.Frag} {C : Addr} : PySem.W.kitOne K (.ref C) (.ref C) = some true := by
  unfold PySem.W.kitOne
  rw [if_pos (by simp)]
theorem kit_own {K : PySem.W.Frag} {C : Addr} {T : String} {b : Bool} (h2 : PySem.W.isClsIn K C = true) (h3 : PySem.W.typeIn K (.ref C) = some (.type "type")) (h4 : PySem.W.subIn K (.type T) (.ref C) = some b) : PySem.W.kitOne K (.type T) (.ref C) = some b := by
  have h2 : (PySem.W.clsIn K C).isSome = true := h2
  have ne : ¬ ((Value.type T == Value.ref C) = true) := by simp
  unfold PySem.W.kitOne PySem.W.kitCls
  simp only [if_neg ne, h3, beq_self_eq_true, if_true, h2, Bool.and_self]
  exact h4
end DL
set_option Elab.async false
set_option linter.all false
set_option maxRecDepth 100000
set_option maxHeartbeats 4000000
/-! errors as values -/
namespace DL
open PySem PySem.Spec L2 PyProof.Rows
section
variable {X : Cx} {W : WX} {c a : Str} {f : Fe} {pos : Pos}
/-- an exception object that is known whole -/
def Exo (oe : Obj) : HO := .frz oe (.ext fun _ => True)
/-- c(e) -/
def tErrV (C : Addr) (a : Str) (ta : TA) : TE := fun σ H Q => ta σ H fun vs H1 => ∃ v, vs = [v] ∧ ∀ x d oe fv, H1 d = none → H1 x = none → x ≠ d → oe.cls = .ref C → oe.dict = some d → oe.data = .fields fv → Q (.ref x) (upd (upd H1 d (.xd [(a, v)])) x (Exo oe))
theorem pe_errV {e : Expr} {ta : TA} {p pos : Pos} {k : Nat} {C fI : Addr} (T : ErrC X.prog X.K X.mg a C fI) (hc : X.mg c = some (.ref C)) (PA' : PlainA a) (hd : (c == ("__debug__" : Str)) = false) (hr : Room k X.A) (ha : PA X [e] ta) (hg : Gl X c)
    (he : starEach (e :: []) X.env = (false, eval e X.env) :: starEach [] X.env := by rfl) (hpl : (backTo pos (starEach [] X.env)).any (·.1) = false := by rfl) :
    PE X (.Call (.Name c p) [e] [] pos) (tErrV C a ta) := by
  refine ⟨fun pins s σ H Q I h => ?_⟩
  refine wpAny_Call_Name_kw (ld_glob I hg hc ?_ hd)
  refine PySem.W.callWith_K (h₀ := X.base) I.ok.mod.kin T.kC (thn (ha.run pos pins s σ H _ I h) fun us s1 hh => ?_) he hpl
  obtain ⟨vs, H1, I1, r1, v, ev, q1⟩ := hh
  subst ev
  refine ⟨I1.kIn, ?_⟩
  cases r1 with
  | cons rv rn =>
    rename_i v' us'
    cases rn
    show wpAny _ _ (call (.ref C) [v']) _ _ _
    have hlim := I1.nolimit
    obtain ⟨mb, hb1, hb2⟩ := I1.mod.blt
    have hgl := I1.mod.glob.keeps I1.bk
    have hbl := hb1.keeps I1.bk
    have hbs : mb "super" = some (.type "super") := (hb2 _ (by decide +kernel)).trans (by first | boot_by_name | rfl | kernel_rfl)
    obtain ⟨hp, g, dr, tk, os⟩ := s1
    refine wpAny_call (err_made T PA' I1.kIn hgl hbl hbs hlim (by have := hr.dp; omega) fun h' tk' x d M => ?_)
    obtain ⟨oe, fv, hoe, hcl, hd', hdat, h1⟩ := M.obj
    have hns := M.ns
    obtain ⟨G', g1, g2⟩ := restrict h' fun b => decide (b ≠ x)
    have gk : ∀ b, b ≠ x → G'.get? b = h'.get? b := fun b hb => g1 b (decide_eq_true hb)
    have ge : G'.get? x = none := g2 x (by simp)
    have up : ∀ b o, G'.get? b = some o → h'.get? b = some o := fun b o q => by
      by_cases hb : b = x
      · rw [hb, ge] at q; cases q
      · exact (gk b hb).symm.trans q
    have old : ∀ b o, hp.get? b = some o → G'.get? b = some o := fun b o q => (gk b (Nat.ne_of_lt (Nat.lt_of_lt_of_le (Heap.lt_size q) M.new))).trans (M.keep b o q)
    have ob : ObjOk X.prog X.w (upd H1 d (.xd [(a, v)])) G' d (.xd [(a, v)]) :=
      ⟨_, hns.at (fun o q => (gk d M.dne).trans q), fun f => relO_err rv f⟩
    have J : Inv X pins σ (upd H1 d (.xd [(a, v)])) ⟨G', g, dr, tk', os⟩ := I1.laid (t' := tk') old M.dbig ob
    have nx : H1 x = none := I1.hok.fresh M.new
    have nx' : (upd H1 d (.xd [(a, v)])) x = none := by rw [upd_ne (Ne.symm M.dne)]; exact nx
    have J2 : Inv X pins σ (upd (upd H1 d (.xd [(a, v)])) x (Exo oe)) ⟨h', g, dr, tk', os⟩ := J.laidN (t' := tk') up ge nx' ⟨hoe, True.intro, ⟨oe, hoe⟩, fun _ _ _ _ => True.intro⟩
    exact ⟨.ref x, _, J2, rfl, q1 x d oe fv (I1.hok.fresh M.dbig) nx (Ne.symm M.dne) hcl hd' hdat⟩
def kErr (c a : Str) : D → M D
  | .p d => fun S => .ok (.o S.length) (S ++ [.exn c a d])
  | _ => M.bad
def eErr (c a : Str) (f : Fe) : Fe := fun ρ => M.bind (f ρ) (kErr c a)
theorem de_err {e : Expr} {p : Pos} {k : Nat} (T : ErrTxt X.prog X.K X.mg c a) (hr : Room k X.A) (he : DE X W e f) (hg : Gl X c := by rfl)
    (hs : starEach (e :: []) X.env = (false, eval e X.env) :: starEach [] X.env := by rfl) (hpl : (backTo pos (starEach [] X.env)).any (·.1) = false := by rfl) : DE X W (.Call (.Name c p) [e] [] pos) (eErr c a f) := by
  obtain ⟨C, fI, hc, T'⟩ := T.at_
  refine (pe_errV T' hc T.pl T.nd hr (pa_cons he pa_nil hs) hg hs hpl).imp fun σ H Q ⟨w, ρ, S, R, E, P⟩ => ?_
  refine stepE R E P fun v w1 H1 S1 d g1 R1 E1 V1 P1 => ?_
  refine ⟨v, rfl, fun x dx oe fv hdx hx ne h1 h2 h3 => ?_⟩
  cases d with
  | p d =>
    obtain ⟨g2, R2⟩ := R1.newP (.xd [(a, v)]) hdx
    have hx2 : (upd H1 dx (.xd [(a, v)])) x = none := by rw [upd_ne ne]; exact hx
    obtain ⟨g3, R3⟩ := R2.newC (o := Exo oe) (c := .exn c a d) hx2 ⟨C, dx, v, fv, hc, h1, h2, h3, upd_same, RepP.mono g2.z _ _ V1⟩
    exact P1 _ _ (g2.trans g3) R3 _ ⟨x, by show (w1.m ++ [x])[S1.length]? = some x; rw [← R1.len]; simp, rfl⟩
  | o i => exact P1.elim
  | s ns => exact P1.elim
/-- x.m of an error -/
def tErrAtV (X : Cx) (m : Str) (te : TE) : TE := fun σ H Q => te σ H fun x H1 => ∃ (a C fI dd : Addr) (v : V) (oe : Obj) (ex : HO) (vs : Array Value), x = .ref a ∧ H1 a = some (.frz oe ex) ∧ oe.cls = .ref C ∧ oe.dict = some dd ∧ oe.data = .fields vs ∧ H1 dd = some (.xd [(m, v)]) ∧ ErrC X.prog X.K X.mg m C fI ∧ Q v H1
theorem pe_errAtV {m : Str} {e : Expr} {te : TE} (he : PE X e te) (hb : attributeBase e m X.env (eval e X.env) = eval e X.env := by rfl) : PE X (.Attribute e m pos) (tErrAtV X m te) := by
  refine ⟨fun pins s σ H Q I h => ?_⟩
  refine attr_of hb (thn (he.run pins s σ H _ I h) fun u s1 hh => ?_)
  obtain ⟨x, H1, I1, rx, a, C, fI, dd, v, oe, eh, vs, ex, ha, ec, ed, hd, ea, T, q⟩ := hh
  subst ex
  obtain rfl : u = Value.ref a := rx
  have ha : s1.heap.get? a = some oe := (show ObjOk X.prog X.w H1 s1.heap a (.frz oe eh) from I1.hok a _ ha).1
  have hx : ObjOk X.prog X.w H1 s1.heap dd (.xd [(m, v)]) := I1.hok dd _ ea
  obtain ⟨mA, hns, hr⟩ := hx
  obtain ⟨od, ho, hl⟩ := lookIn_ns hns
  have l : List.lookup m [(m, v)] = some v := by simp [List.lookup]
  obtain ⟨u, hu, ru⟩ := RelO.some_of (v := v) (o := mA m) (by rw [← l]; exact hr m)
  have J : PySem.W.InstAt s1.heap a oe C (some od) := ⟨ha, ec, by unfold PySem.W.notCls; rw [hd] <;> rfl, by rw [ed]; exact ho⟩
  exact HandSPX.exc_get I1.kIn J T.ga T.gg T.exC (PySem.W.findObj_own T.hdC T.noN rfl (by rw [hl, hu])) (handed_of ru) ⟨v, H1, I1.tok _, ru, q⟩
def exnAt (S : Store) : D → Option (Str × Str × PyData)
  | .o i => match S[i]? with
    | some (.exn c a d) => some (c, a, d)
    | _ => none
  | _ => none
theorem RepC.exn_inv {mg : Gm} {w : Wd} {o : HO} {c a : Str} {d : PyData} (h : RepC mg w o (.exn c a d)) : ∃ oe ex C dx v vs, o = .frz oe ex ∧ mg.mg c = some (.ref C) ∧ oe.cls = .ref C ∧ oe.dict = some dx ∧ oe.data = .fields vs ∧ w.Z dx = some (.xd [(a, v)]) ∧ RepP w.Z v d := by
  cases o with
  | frz ob u =>
    cases u with
    | ext φ => exact ⟨ob, _, let ⟨C, dx, v, vs, h1, h2, h3, h4, h5, h6⟩ := h; ⟨C, dx, v, vs, rfl, h1, h2, h3, h4, h5, h6⟩⟩
    | _ => exact False.elim h
  | _ => exact False.elim h
theorem exnAt_inv {mg : Gm} {w : Wd} {H : Hp} {S : Store} {x : V} {d : D} {c a : Str} {p : PyData} (R : Rep mg w H S) (V1 : RepV w x d) (h : exnAt S d = some (c, a, p)) :
    ∃ (x' C dx : Addr) (v : V) (oe : Obj) (ex : HO) (vs : Array Value), x = .ref x' ∧ H x' = some (.frz oe ex) ∧ mg.mg c = some (.ref C) ∧ oe.cls = .ref C ∧ oe.dict = some dx ∧ oe.data = .fields vs ∧ w.Z dx = some (.xd [(a, v)]) ∧ RepP w.Z v p := by
  cases d with
  | p d => cases h
  | s ns => cases h
  | o i =>
    obtain ⟨y, hy, rfl⟩ := V1
    replace h : (match S[i]? with
      | some (.exn c a d) => some (c, a, d)
      | _ => none) = some (c, a, p) := h
    split at h
    · rename_i c' a' d' e
      cases h
      obtain ⟨o, ho, r⟩ := R.at_ hy e
      obtain ⟨oe, ex, C, dx, v, vs, rfl, h1, h2, h3, h4, h5, h6⟩ := r.exn_inv
      exact ⟨y, C, dx, v, oe, ex, vs, rfl, ho, h1, h2, h3, h4, h5, h6⟩
    · cases h
def fEat (ECs : List Str) (m : Str) : D → M D := fun x S => match exnAt S x with
  | some (c, a, d) => if a = m ∧ ECs.contains c = true then .ok (.p d) S else .bad
  | none => .bad
theorem de_eat {ECs : List Str} {m : Str} {e : Expr} (TS : ∀ c, ECs.contains c = true → ErrTxt X.prog X.K X.mg c m) (he : DE X W e f) (hb : attributeBase e m X.env (eval e X.env) = eval e X.env := by rfl) : DE X W (.Attribute e m pos) (eUn (fEat ECs m) f) :=
  (pe_errAtV he hb).imp fun σ H Q ⟨w, ρ, S, R, E, P⟩ => by
    refine stepE R E P fun v w1 H1 S1 d g1 R1 E1 V1 P1 => ?_
    unfold fEat at P1
    cases q : exnAt S1 d with
    | none => rw [q] at P1; exact P1.elim
    | some t =>
      obtain ⟨c, a, p⟩ := t
      rw [q] at P1
      dsimp only at P1
      by_cases hc : a = m ∧ ECs.contains c = true
      · rw [if_pos hc] at P1
        obtain ⟨rfl, hc⟩ := hc
        obtain ⟨x', C, dx, v', oe, ex, vs, e1, e2, e3, e4, e5, e6, e7, e8⟩ := exnAt_inv R1 V1 q
        obtain ⟨C', fI, h1, h2⟩ := (TS c hc).at_
        have h3 : some (Value.ref C') = some (Value.ref C) := h1.symm.trans e3
        cases h3
        exact ⟨x', C, fI, dx, v', oe, ex, vs, e1, e2, e4, e5, e6, R1.same _ _ e7, h2, Post.here R1 P1 e8⟩
      · rw [if_neg hc] at P1; exact P1.elim
/-! isinstance of an error -/
structure IsE (K : PySem.W.Frag) (C : Addr) : Prop where
  hcl : PySem.W.isClsIn K C = true
  ga : PySem.W.findIn K (.ref C) "__getattribute__" = some (some (.builtin "BaseException.__getattribute__"))
  gg : PySem.W.findIn K (.ref C) "__getattr__" = some none
  sub : PySem.W.subIn K (.ref C) (.type "BaseException") = some true
  ca : PySem.W.findIn K (.ref C) "__class__" = some (some (.builtin "object.__class__"))
  hn : PySem.W.specialIn K (.builtin "object.__class__") "__get__" = some (some (.builtin "getset_descriptor.__get__"))
  htk : PySem.W.takesIn K (.builtin "object.__class__") = some true
  hm : PySem.W.mroIn K C (.type "object") = some true
def rIsiE (K : PySem.W.Frag) : List V → Hp → VK → Prop := fun xs H Q => ∃ (x C dx : Addr) (c : V) (u : Value) (oe : Obj) (ex : HO) (vs : Array Value) (fs : List (Str × V)) (b : Bool), xs = [.ref x, c] ∧ ClsV c u ∧ H x = some (.frz oe ex) ∧ oe.cls = .ref C ∧ oe.dict = some dx ∧ oe.data = .fields vs ∧ H dx = some (.xd fs) ∧ IsE K C ∧ PySem.W.kitOne K (.ref C) u = some b ∧ Q (.bl b) H
theorem call_isiE : CallR X (.builtin "isinstance") (rIsiE X.K) := by
  intro pins s σ H xs us Q I r h
  obtain ⟨x, C, dx, c, u, oe, ex, vs, fs, b, rfl, k, ha, ec, ed, hd, ea, T, e, q⟩ := h
  obtain ⟨u1, u2, rfl, r1, r2⟩ := vals2 r
  have e2 := k.eq r2
  subst e2
  cases (show u1 = Value.ref x from r1)
  have ha : s.heap.get? x = some oe := (show ObjOk X.prog X.w H s.heap x (.frz oe ex) from I.hok x _ ha).1
  have hx : ObjOk X.prog X.w H s.heap dx (.xd fs) := I.hok dx _ ea
  obtain ⟨mA, hns, hr⟩ := hx
  obtain ⟨od, ho, hl⟩ := lookIn_ns hns
  have J : PySem.W.InstAt s.heap x oe C (some od) := ⟨ha, ec, by unfold PySem.W.notCls; rw [hd] <;> rfl, by rw [ed]; exact ho⟩
  exact PySem.W.kia_one (PySem.W.kitx_exc (x := x) (ox := oe) (od := some od) T.hcl T.ga T.gg T.sub T.ca T.hn T.htk T.hm) I.kIn J e (fun z => nomatch z) fun tk => ⟨.bl b, H, I.tok tk, rfl, q⟩
structure IsEs (K : PySem.W.Frag) (mg : Str → Option Value) (ECs : List Str) (u : Value) (sub : Str → Bool) : Prop where
  at_ : ∀ y, ECs.contains y = true → ∀ C, mg y = some (.ref C) → IsE K C ∧ PySem.W.kitOne K (.ref C) u = some (sub y)
def fIsiE (ECs : List Str) (sub : Str → Bool) : D → M D := fun x S => match exnAt S x with
  | some (c, _, _) => if ECs.contains c = true then .ok (.p (.bool (sub c))) S else .bad
  | none => .bad
theorem ok_isiE {ECs : List Str} {sub : Str → Bool} {c : V} {u : Value} (k : ClsV c u) (T : IsEs X.K X.mg ECs u sub) {σ : L2.St} {w1 : Wd} {H1 : Hp} {S1 : Store} {x : V} {d : D} {Q : VK} (R1 : Rep X.gm w1 H1 S1) (V1 : RepV w1 x d) (P1 : Post X.gm W σ w1 Q (fIsiE ECs sub d S1)) : rIsiE X.K [x, c] H1 Q := by
  unfold fIsiE at P1
  cases q : exnAt S1 d with
  | none => rw [q] at P1; exact P1.elim
  | some t =>
    obtain ⟨y, a, p⟩ := t
    rw [q] at P1
    dsimp only at P1
    by_cases hc : ECs.contains y = true
    · rw [if_pos hc] at P1
      obtain ⟨x', C, dx, v', oe, ex, vs, rfl, e2, e3, e4, e5, e6, e7, e8⟩ := exnAt_inv R1 V1 q
      obtain ⟨h1, h2⟩ := T.at_ y hc C e3
      exact ⟨x', C, dx, c, u, oe, ex, vs, _, sub y, rfl, k, e2, e4, e5, e6, R1.same _ _ e7, h1, h2, Post.here R1 P1 (.bl _)⟩
    · rw [if_neg hc] at P1; exact P1.elim
theorem de_isiE {ECs : List Str} {sub : Str → Bool} {C : Addr} {c : Str} {e : Expr} {p p2 : Pos} (hg : Gl X "isinstance") (hm : X.mg "isinstance" = none) (hgc : Gl X c) (hmc : X.mg c = some (.ref C)) (T : IsEs X.K X.mg ECs (.ref C) sub) (ha : DE X W e f)
    (hdT : (c == ("__debug__" : Str)) = false := by decide)
    (he : starEach [e, .Name c p2] X.env = (false, eval e X.env) :: starEach [.Name c p2] X.env := by rfl) (he' : starEach [.Name c p2] X.env = (false, eval (.Name c p2) X.env) :: starEach [] X.env := by rfl) (hpl : (backTo pos (starEach [.Name c p2] X.env)).any (·.1) = false := by rfl) :
    DE X W (.Call (.Name "isinstance" p) [e, .Name c p2] [] pos) (eUn (fIsiE ECs sub) f) :=
  (pe_callB call_isiE hg hm PyProof.Rows.boot_isinstance (pa_cons ha (pa_cons (pe_glob (v := .ref C) hgc hmc rfl hdT) pa_nil he') he) (by decide) (by decide) he hpl).imp fun σ H Q ⟨w, ρ, S, R, E, P⟩ =>
    stepE R E P fun x w1 H1 S1 d g1 R1 E1 V1 P1 => ok_isiE (.own C) T R1 V1 P1
theorem de_isiET {ECs : List Str} {sub : Str → Bool} {t : Str} {T : String} {e : Expr} {p p2 : Pos} (hg : Gl X "isinstance") (hm : X.mg "isinstance" = none) (hgt : Gl X t) (hmt : X.mg t = none) (hv : bootBuiltins t = some (.type T)) (IE : IsEs X.K X.mg ECs (.type T) sub) (ha : DE X W e f)
    (hn : t ≠ "__name__" := by decide) (hdT : (t == ("__debug__" : Str)) = false := by decide)
    (he : starEach [e, .Name t p2] X.env = (false, eval e X.env) :: starEach [.Name t p2] X.env := by rfl) (he' : starEach [.Name t p2] X.env = (false, eval (.Name t p2) X.env) :: starEach [] X.env := by rfl) (hpl : (backTo pos (starEach [.Name t p2] X.env)).any (·.1) = false := by rfl) :
    DE X W (.Call (.Name "isinstance" p) [e, .Name t p2] [] pos) (eUn (fIsiE ECs sub) f) :=
  (pe_callB call_isiE hg hm PyProof.Rows.boot_isinstance (pa_cons ha (pa_cons (pe_bltn (v := .ty T) hgt hmt hv rfl hn hdT) pa_nil he') he) (by decide) (by decide) he hpl).imp fun σ H Q ⟨w, ρ, S, R, E, P⟩ =>
    stepE R E P fun x w1 H1 S1 d g1 R1 E1 V1 P1 => ok_isiE (.ty T) IE R1 V1 P1
end
end DL
set_option Elab.async false
set_option linter.all false
set_option maxRecDepth 100000
set_option maxHeartbeats 4000000
/-! lists of errors; except T as e: return isinstance(e, C) and e.a == .. -/
namespace DL
open PySem PySem.Spec L2 PyProof.Rows
section
variable {X : Cx} {W : WX} {f g : Fe} {a b : Expr} {pos : Pos}
/-- two lists that may hold anything, one behind the other -/
def fCat2 : D → D → M D
  | .o i, .o j => fun S => match lstAt S i, lstAt S j with
    | some xs, some ys => if xs.length + ys.length ≤ sizeLine then .ok (.o S.length) (S ++ [.lst (xs ++ ys)]) else .bad
    | _, _ => .bad
  | _, _ => M.bad
theorem RepVs.cat {w : Wd} {vs us : List V} {ds es : List D} (h : RepVs w vs ds) (k : RepVs w us es) : RepVs w (vs ++ us) (ds ++ es) := by
  induction h with
  | nil => exact k
  | cons h1 _ ih => exact .cons h1 ih
theorem ok_cat2 : R2ok X rCat fCat2 := by
  intro w H S x y dx dy W σ Q R vx vy P
  unfold fCat2 at P
  split at P
  · rename_i i j
    obtain ⟨x', hx, rfl⟩ := vx
    obtain ⟨y', hy, rfl⟩ := vy
    cases q1 : lstAt S i with
    | none => simp only [q1] at P; exact P.elim
    | some xs =>
      cases q2 : lstAt S j with
      | none => simp only [q1, q2] at P; exact P.elim
      | some ys =>
        simp only [q1, q2] at P
        by_cases hl : xs.length + ys.length ≤ sizeLine
        · rw [if_pos hl] at P
          obtain ⟨o1, h1, r1⟩ := R.at_ hx (lstAt_some q1)
          obtain ⟨us, rfl, r1⟩ := r1.lst_inv
          obtain ⟨o2, h2, r2⟩ := R.at_ hy (lstAt_some q2)
          obtain ⟨vs, rfl, r2⟩ := r2.lst_inv
          refine ⟨_, _, _, _, rfl, rfl, h1, h2, by rw [r1.length, r2.length]; exact hl, fun p hp => ?_⟩
          obtain ⟨g', R'⟩ := R.newC (o := .lst (us ++ vs)) (c := .lst (xs ++ ys)) hp (RepVs.grow (w := w) (w' := w.addM p) ⟨rfl, rfl, Same.refl _, [p], rfl⟩ (RepVs.cat r1 r2))
          exact P _ _ g' R' _ ⟨p, by show (w.m ++ [p])[S.length]? = some p; rw [← R.len]; simp, rfl⟩
        · rw [if_neg hl] at P; exact P.elim
  · exact P.elim
theorem de_add2 (ha : DE X W a f) (hb : DE X W b g) : DE X W (.BinOp a .Add b pos) (eBin fCat2 f g) := de_bin op_cat ok_cat2 ha hb
/-! the clause -/
def rIsiPin (K : PySem.W.Frag) (e : Addr) (cls : Value) (d : Option Addr) : List V → Hp → VK → Prop := fun xs H Q => ∃ (C dx : Addr) (c : V) (u : Value) (fs : List (Str × V)) (b : Bool), cls = .ref C ∧ d = some dx ∧ IsE K C ∧ xs = [.ref e, c] ∧ ClsV c u ∧ H dx = some (.xd fs) ∧ PySem.W.kitOne K (.ref C) u = some b ∧ Q (.bl b) H
theorem call_isiPin {e : Addr} {oe : Obj} {cls : Value} {d : Option Addr} {pn : List (Addr × Obj)} (hz : Zc cls d oe) (hf : ∃ vs, oe.data = .fields vs) : CallR (X.suite e ((e, oe) :: pn)) (.builtin "isinstance") (rIsiPin X.K e cls d) := by
  intro pins s σ H xs us Q I r h
  obtain ⟨C, dx, c, u, fs, b, ec, ed, T, rfl, k, ea, e1, q⟩ := h
  subst ec ed
  obtain ⟨u1, u2, rfl, r1, r2⟩ := vals2 r
  have e2 := k.eq r2
  subst e2
  cases (show u1 = Value.ref e from r1)
  obtain ⟨ha, _⟩ := I.pin (e, oe) (List.mem_append_left _ List.mem_cons_self)
  obtain ⟨vs, hd⟩ := hf
  have hx : ObjOk X.prog X.w H s.heap dx (.xd fs) := I.hok dx _ ea
  obtain ⟨mA, hns, hr⟩ := hx
  obtain ⟨od, ho, hl⟩ := lookIn_ns hns
  have J : PySem.W.InstAt s.heap e oe C (some od) := ⟨ha, hz.1, by unfold PySem.W.notCls; rw [hd] <;> rfl, by rw [hz.2]; exact ho⟩
  exact PySem.W.kia_one (PySem.W.kitx_exc (x := e) (ox := oe) (od := some od) T.hcl T.ga T.gg T.sub T.ca T.hn T.htk T.hm) I.kIn J e1 (fun z => nomatch z) fun tk => ⟨.bl b, H, I.tok tk, rfl, q⟩
def tErrAtE (X : Cx) (m : Str) (e : Addr) (cls : Value) (d : Option Addr) (te : TE) : TE := fun σ H Q => te σ H fun x H1 => ∃ (C fI dd : Addr) (v : V), ErrC X.prog X.K X.mg m C fI ∧ x = .ref e ∧ cls = .ref C ∧ d = some dd ∧ H1 dd = some (.xd [(m, v)]) ∧ Q v H1
theorem pe_errAtE {m : Str} {e : Addr} {oe : Obj} {cls : Value} {d : Option Addr} {pn : List (Addr × Obj)} {ex : Expr} {te : TE} (hz : Zc cls d oe) (hf : ∃ vs, oe.data = .fields vs) (he : PE (X.suite e ((e, oe) :: pn)) ex te)
    (hb : attributeBase ex m X.env (eval ex X.env) = eval ex X.env := by rfl) : PE (X.suite e ((e, oe) :: pn)) (.Attribute ex m pos) (tErrAtE X m e cls d te) := by
  refine ⟨fun pins s σ H Q I h => ?_⟩
  have h : te σ H fun x H1 => ∃ (C fI dd : Addr) (v : V), ErrC X.prog X.K X.mg m C fI ∧ x = .ref e ∧ cls = .ref C ∧ d = some dd ∧ H1 dd = some (.xd [(m, v)]) ∧ Q v H1 := h
  refine attr_of hb (thn (he.run pins s σ H _ I h) fun u s1 hh => ?_)
  obtain ⟨x, H1, I1, rx, C, fI, dd, v, T, e1, ec, ed, ea, q⟩ := hh
  subst e1 ec ed
  obtain rfl : u = Value.ref e := rx
  obtain ⟨ha, _⟩ := I1.pin (e, oe) (List.mem_append_left _ List.mem_cons_self)
  obtain ⟨vs, hd⟩ := hf
  have hx : ObjOk X.prog X.w H1 s1.heap dd (.xd [(m, v)]) := I1.hok dd _ ea
  obtain ⟨mA, hns, hr⟩ := hx
  obtain ⟨od, ho, hl⟩ := lookIn_ns hns
  have l : List.lookup m [(m, v)] = some v := by simp [List.lookup]
  obtain ⟨u, hu, ru⟩ := RelO.some_of (v := v) (o := mA m) (by rw [← l]; exact hr m)
  have J : PySem.W.InstAt s1.heap e oe C (some od) := ⟨ha, hz.1, by unfold PySem.W.notCls; rw [hd] <;> rfl, by rw [hz.2]; exact ho⟩
  exact HandSPX.exc_get I1.kIn J T.ga T.gg T.exC (PySem.W.findObj_own T.hdC T.noN rfl (by rw [hl, hu])) (handed_of ru) ⟨v, H1, I1.tok _, ru, q⟩
/-- what the clause 'except T as e: return isinstance(e, C) and e.m == k' returns -/
def tRun (EN : List Str) (m : Str) (i : Nat) (sub : Str → Bool) (k : PyData) (x : Exn) (ρ : Sl) (S : Store) : RS := match x.fs with
  | [(a, .p d)] => if EN.contains x.cls = true ∧ i < ρ.length ∧ a = m ∧ (SeqAt.shaped d && SeqAt.shaped k) = true then .rt (.p (.bool (if sub x.cls = true then PyData.eqv d k else false))) S else .bad
  | _ => .bad
def sTryT (EN : List Str) (g : Fs) (m : Str) (i : Nat) (sub : Str → Bool) (k : PyData) : Fs := fun ρ S => match g ρ S with
  | .exc x ρ' S' => tRun EN m i sub k x ρ' S'
  | r => r
def tSuiteT (X : Cx) (m : Str) (i : Nat) (C1 : Addr) (k : Int) : SuiteT := fun e cls dx => fun E σ H => σ[i]? = some (some (.ref e)) ∧ ∃ (C fI dd : Addr) (v : V) (d : PyData) (b : Bool), cls = .ref C ∧ dx = some dd ∧ IsE X.K C ∧ ErrC X.prog X.K X.mg m C fI ∧ H dd = some (.xd [(m, v)]) ∧
  PySem.W.kitOne X.K (.ref C) (.ref C1) = some b ∧ Dp X.K H v d ∧ SeqAt.shaped d = true ∧ SeqAt.shaped (.int k) = true ∧ E.rt (.bl (if b = true then PyData.eqv d (.int k) else false)) H
theorem suite_t {i : Nat} {m n c1 : Str} {C1 : Addr} {k : Int} {j p p1 p2 p3 p4 p5 p6 p7 p8 p9} (hu : X.A.units + 64 < cLine) (hN : X.N[i]? = some n) (hv : Vis X.env.scope n) (hdn : (n == ("__debug__" : Str)) = false) (hcd : (n == ("__classdict__" : Str)) = false)
    (hg : Gl X "isinstance") (hm : X.mg "isinstance" = none) (hgc : Gl X c1) (hmc : X.mg c1 = some (.ref C1)) (hdc : (c1 == ("__debug__" : Str)) = false)
    (hb : attributeBase (.Name n p4) m X.env (eval (.Name n p4) X.env) = eval (.Name n p4) X.env)
    (he : starEach [.Name n p1, .Name c1 p2] X.env = (false, eval (.Name n p1) X.env) :: starEach [.Name c1 p2] X.env) (he' : starEach [.Name c1 p2] X.env = (false, eval (.Name c1 p2) X.env) :: starEach [] X.env) (hpl : (backTo p3 (starEach [.Name c1 p2] X.env)).any (·.1) = false) :
    ∀ (e : Addr) (oe : Obj) (cls : Value) (dx : Option Addr) (pn : List (Addr × Obj)), Zc cls dx oe → (∃ vs, oe.data = .fields vs) →
      PSs (X.suite e ((e, oe) :: pn)) [.Return (some (.BoolOp .And [.Call (.Name "isinstance" p) [.Name n p1, .Name c1 p2] [] p3, .Compare (.Attribute (.Name n p4) m p5) [.Eq] [.Constant (.int k) j p6] p7] p8)) p9] (tSuiteT X m i C1 k e cls dx) := by
  intro e oe cls dx pn hz hf
  have var : ∀ {q : Pos}, PE (X.suite e ((e, oe) :: pn)) (.Name n q) (tVar i) := fun {q} => pe_var (X := X.suite e ((e, oe) :: pn)) (i := i) hN hv hdn hcd
  have hu' : (X.suite e ((e, oe) :: pn)).A.units + 64 < cLine := hu
  refine (pss_one (ps_ret (pe_and (pe_callB (call_isiPin hz hf) hg hm PyProof.Rows.boot_isinstance (pa_cons var (pa_cons (pe_glob (X := X.suite e ((e, oe) :: pn)) (v := .ref C1) hgc hmc rfl hdc) pa_nil he') he) (by decide) (by decide) he hpl)
    (pe_one (pe_cmpR (op_eqD hu') (pe_errAtE hz hf var hb) pe_int (nomark _)))))).imp fun E σ H hh => ?_
  obtain ⟨h1, C, fI, dd, v, d, b, ec, ed, T, TE, ea, kb, hd, sd, sk, q⟩ := hh
  refine ⟨_, h1, C, dd, _, _, _, b, ec, ed, T, rfl, .own C1, ea, kb, b, rfl, ?_⟩
  cases b with
  | false => rw [if_neg Bool.false_ne_true] at q ⊢; exact q
  | true =>
    rw [if_pos rfl] at q ⊢
    exact ⟨_, h1, C, fI, dd, v, TE, rfl, ec, ed, ea, d, .int k, hd, .int k, sd, sk, q⟩
/-- what the class of the clause must be to the errors -/
structure CatchAll (K : PySem.W.Frag) (mg : Str → Option Value) (EN : List Str) (c : Str) : Prop where
  at_ : ∃ C, mg c = some (.ref C) ∧ ∀ y, EN.contains y = true → ∀ Cy, mg y = some (.ref Cy) → PySem.W.exmOne K (.ref Cy) (.ref C) = some true
theorem ds_tryT {EN : List Str} {body : List Stmt} {g : Fs} {m n c c1 : Str} {C1 : Addr} {k : Int} {sub : Str → Bool} (i : Nat) {j p p1 p2 p3 p4 p5 p6 p7 p8 p9 p10 p11} {pos : Pos} (st : X.stack = X.env :: X.outer) (hf : X.env.frame = some X.env.locals) (hNd : X.N.Nodup) (tk : Takes X W)
    (hb : ∀ (W' : WX) (pn : List (Addr × Obj)) (xe : Value → Shared → Prop), Takes (X.tr pn xe) W' → PassesOwn (model X.prog X.w) X.A X.env xe → DSs (X.tr pn xe) W' body g)
    (TC : CatchAll X.K X.mg EN c) (TS : ∀ y, EN.contains y = true → ErrTxt X.prog X.K X.mg y m) (TI : IsEs X.K X.mg EN (.ref C1) sub) (hmc : X.mg c1 = some (.ref C1)) (hm : X.mg "isinstance" = none) (hu : X.A.units + 64 < cLine) (hdcc : (c == ("__debug__" : Str)) = false := by decide)
    (hN : X.N[i]? = some n := by rfl) (hk : X.env.kindOf n = some .local := by rfl) (hv : Vis X.env.scope n := by first | exact Or.inl rfl | exact Or.inr (Or.inl rfl) | exact Or.inr (Or.inr rfl)) (hdn : (n == ("__debug__" : Str)) = false := by decide) (hcd : (n == ("__classdict__" : Str)) = false := by decide)
    (hgT : Gl X c := by rfl) (hg : Gl X "isinstance" := by rfl) (hgc : Gl X c1 := by rfl) (hdc : (c1 == ("__debug__" : Str)) = false := by decide)
    (hat : attributeBase (.Name n p4) m X.env (eval (.Name n p4) X.env) = eval (.Name n p4) X.env := by rfl)
    (he : starEach [.Name n p1, .Name c1 p2] X.env = (false, eval (.Name n p1) X.env) :: starEach [.Name c1 p2] X.env := by rfl) (he' : starEach [.Name c1 p2] X.env = (false, eval (.Name c1 p2) X.env) :: starEach [] X.env := by rfl) (hpl : (backTo p3 (starEach [.Name c1 p2] X.env)).any (·.1) = false := by rfl) :
    DS X W (.Try body [.ExceptHandler (some (.Name c p10)) (some n) [.Return (some (.BoolOp .And [.Call (.Name "isinstance" p) [.Name n p1, .Name c1 p2] [] p3, .Compare (.Attribute (.Name n p4) m p5) [.Eq] [.Constant (.int k) j p6] p7] p8)) p9] p11] [] [] pos) (sTryT EN g m i sub (.int k)) := by
  obtain ⟨C, hC, hcatch⟩ := TC.at_
  refine (ps_try_asMany (Wo := W) st hf hNd tk (tb := fun W' => tDS X.gm W' g) (fun W' pn xe t p => hb W' pn xe t p) (.cons (i := i) ⟨hgT, hdcc, .inl hC⟩ hN hk (suite_t hu hN hv hdn hcd hg hm hgc hmc hdc hat he he' hpl) .nil)).imp fun D σ H ⟨w, ρ, S, R, E, P⟩ => ?_
  refine ⟨w, ρ, S, R, E, ?_⟩
  unfold sTryT at P
  split at P
  · rename_i x ρ' S' e
    rw [e]
    intro σ' cls dx w' H' g' R' E' V'
    replace P := P.grow g'
    revert P
    generalize hP : tRun EN m i sub (.int k) x ρ' S' = rr
    intro P
    revert hP
    intro hP
    have P2 := P
    rw [← hP] at P2
    clear hP P
    obtain ⟨xc, xfs⟩ := x
    obtain ⟨Cx, fs, hx, rfl, hz, hfs⟩ := V'
    unfold tRun at P2
    split at P2
    · rename_i a' d he'
      dsimp only at he'
      subst he'
      dsimp only at hfs hx P2
      by_cases cc : EN.contains xc = true ∧ i < ρ'.length ∧ a' = m ∧ (SeqAt.shaped d && SeqAt.shaped (.int k)) = true
      · rw [if_pos cc] at P2
        obtain ⟨c1', c2, rfl, c4⟩ := cc
        rw [Bool.and_eq_true] at c4
        cases hfs with
        | cons h1 h2 =>
          rename_i p ps
          cases h2
          obtain ⟨pa, pv⟩ := p
          obtain ⟨hpa, hpv⟩ := h1
          dsimp only at hpa hpv
          subst hpa
          have hx : X.mg xc = some (.ref Cx) := hx
          refine ⟨true, hcatch xc c1' Cx hx, .inl ⟨rfl, fun ad ha => ?_⟩⟩
          obtain ⟨Cy, fI, hy, hE⟩ := (TS xc c1').at_
          have e3 : some (Value.ref Cy) = some (Value.ref Cx) := hy.symm.trans hx
          cases e3
          obtain ⟨i1, i2⟩ := TI.at_ xc c1' Cx hx
          refine ⟨by rw [List.getElem?_set_self (by rw [E'.len]; exact c2)], Cx, fI, dx, pv, d, sub xc, rfl, rfl, i1, hE, R'.same _ _ hz, i2, RepP.dpH R' hpv, c4.1, c4.2, ?_⟩
          exact P2 _ _ _ (Grow.refl w') R' (.bl _)
      · rw [if_neg cc] at P2; exact P2.elim
    · exact P2.elim
  · rename_i r hr
    cases e : g ρ S with
    | exc x ρ' S' => exact absurd e (hr x ρ' S')
    | nx _ _ => rw [e] at P; exact P
    | rt _ _ => rw [e] at P; exact P
    | bk _ _ => rw [e] at P; exact P
    | ct _ _ => rw [e] at P; exact P
    | bad => rw [e] at P; exact P
end
end DL
set_option Elab.async false
set_option linter.all false
set_option maxRecDepth 100000
namespace DL
open PySem PySem.Spec L2 PySem.HandSPX
theorem kit_ref {K : PySem.W.Frag} {C Y : Addr} {b : Bool} (h2 : PySem.W.isClsIn K C = true) (h3 : PySem.W.typeIn K (.ref C) = some (.type "type")) (h4 : PySem.W.subIn K (.ref Y) (.ref C) = some b) (ne : (Y == C) = false) : PySem.W.kitOne K (.ref Y) (.ref C) = some b := by
  have h2 : (PySem.W.clsIn K C).isSome = true := h2
  have ne' : ¬ ((Value.ref Y == Value.ref C) = true) := by
    intro q
    have : Y = C := Value.ref.inj (beq_iff_eq.mp q)
    simp [this] at ne
  unfold PySem.W.kitOne PySem.W.kitCls
  simp only [if_neg ne', h3, beq_self_eq_true, if_true, h2, Bool.and_self]
  exact h4
theorem kit_vt {K : PySem.W.Frag} {Y : Addr} {T : String} {b : Bool} (h4 : PySem.W.subIn K (.ref Y) (.type T) = some b) (m : PySem.W.kitMeta T = true) : PySem.W.kitOne K (.ref Y) (.type T) = some b := by
  have ne' : ¬ ((Value.ref Y == Value.type T) = true) := by simp
  unfold PySem.W.kitOne PySem.W.kitCls
  simp only [if_neg ne', m, if_true]
  exact h4
end DL
set_option Elab.async false
set_option linter.all false
set_option maxRecDepth 100000
set_option maxHeartbeats 400000
/-! xs[i] += v of a list of ints -/
namespace DL
open PySem PySem.Spec L2 PyProof.Rows
section
variable {X : Cx} {W : WX} {o i e : Expr} {fo fi fv : Fe} {pos : Pos}
def rGetL (K : PySem.W.Frag) : R2 := fun x y H Q => ∃ p xs k v, x = .ref p ∧ y = .int k ∧ 0 ≤ k ∧ SqL K H p xs ∧ xs[k.toNat]? = some v ∧ Q v H
theorem pget_list : PGet X (rGetL X.K) := by
  intro pins s σ H o i ov iv Q I ro ri h
  obtain ⟨p, xs, k, z, rfl, rfl, h0, hq, he, q⟩ := h
  cases ro
  obtain ⟨t, rfl⟩ := ri
  obtain ⟨its, r, pl, hz⟩ := I.list hq
  obtain ⟨u, eu, ru⟩ := r.get he
  have hk : k.toNat < xs.length := (List.getElem?_eq_some_iff.mp he).1
  have hn := line63
  exact getItem_listL pl.isList h0 (by omega) eu ⟨z, H, I, ru, q⟩
/-- xs[i] += v, of ints -/
def sAugI (fo fi fv : Fe) : Fs := fun ρ S => bindS ρ (fo ρ S) fun x S1 => bindS ρ (fi ρ S1) fun i S2 => match i with
  | .p (.int k) => if 0 ≤ k then (match (items S2 x).bind fun ds => ds[k.toNat]? with
    | some (.p (.int a)) => bindS ρ (fv ρ S2) fun v S3 => match v with
      | .p (.int b) => nxO ρ (setAt x i (.p (.int (a + b))) S3)
      | _ => .bad
    | _ => .bad) else .bad
  | _ => .bad
theorem ds_augI {tpos : Pos} (ho : DE X W o fo) (hi : DE X W i fi) (he : DE X W e fv)
    (ha : ∀ ov iv new, augStore i ov iv new = (do holding [new, ov, iv] (setItem ov iv new); release [new, ov, iv] []; pure .next) := by intros; rfl) : DS X W (.AugAssign (.Subscript o i tpos) .Add e pos) (sAugI fo fi fv) :=
  (ps_augS ho hi pget_list he ip_add set_list ha).imp fun En σ H ⟨w, ρ, S, R, E, P⟩ =>
    stepES R E P fun x w1 H1 S1 dx g1 R1 E1 V1 P1 => stepES R1 E1 P1 fun y w2 H2 S2 dy g2 R2 E2 V2 P2 => by
      split at P2
      · rename_i k
        cases V2.cases_p
        by_cases h0 : 0 ≤ k
        · rw [if_pos h0] at P2
          split at P2
          · rename_i a hq
            obtain ⟨ds, q1, q2⟩ := Option.bind_eq_some_iff.mp hq
            obtain ⟨p, xs, rfl, hs, r⟩ := items_sq R2 (V1.grow g2) q1
            obtain ⟨u, e1, e2⟩ := r.get q2
            cases e2.cases_p
            refine ⟨p, xs, k, _, rfl, rfl, h0, hs, e1, ?_⟩
            refine stepES R2 E2 P2 fun z w3 H3 S3 dz g3 R3 E3 V3 P3 => ?_
            split at P3
            · rename_i b
              cases V3.cases_p
              refine ⟨a, b, rfl, rfl, ?_⟩
              cases q3 : setAt dx (.p (.int k)) (.p (.int (a + b))) S3 with
              | none => rw [q3] at P3; exact P3.elim
              | some S4 =>
                rw [q3] at P3
                exact setAt_inv (y := .p (.int (a + b))) R3 ((V1.grow g2).grow g3) (i := .p (.int k)) (vi := .int k) (.int k) (.int (a + b)) q3 fun H4 R4 => P3 σ w3 H4 (Grow.refl _) R4 E3
            · exact P3.elim
          · exact P2.elim
        · rw [if_neg h0] at P2; exact P2.elim
      · exact P2.elim
end
end DL
set_option Elab.async false
set_option linter.all false
set_option maxRecDepth 100000
namespace DL
open PySem PySem.Spec PyProof.Rows L2
/-! ### a list against the empty list: told by its length -/
def rEqNil (K : PySem.W.Frag) : R2 := fun x y H Q => ∃ a b xs, x = .ref a ∧ y = .ref b ∧ SqL K H a xs ∧ SqL K H b [] ∧ Q (.bl (xs.length == 0)) H
theorem op_eqNil {X : Cx} (hu : X.A.units + 64 < cLine) : OpR X (compareOp .Eq) (rEqNil X.K) := by
  intro pins s σ H x y v u Q I rx ry h
  obtain ⟨a, b, xs, rfl, rfl, h1, h2, q⟩ := h
  cases rx
  cases ry
  obtain ⟨its, r1, ⟨o1, n1, e1, c1, _, d1⟩, _⟩ := I.list h1
  obtain ⟨its2, r2, ⟨o2, n2, e2, c2, _, d2⟩, _⟩ := I.list h2
  cases r2
  have l1 : s.heap.IsList a its.toArray := ⟨o1, e1, c1, n1, d1⟩
  have l2 : s.heap.IsList b ([] : List Value).toArray := ⟨o2, e2, c2, n2, d2⟩
  have hu' : X.A.units < cLine := by omega
  have hl := r1.length
  cases its with
  | nil =>
    have hx : xs = [] := by cases r1; rfl
    subst hx
    exact SeqAt.RcAt.lists (e := fun _ => true) l1 l2 rfl hu' (fun j h1 _ => by simp at h1) _ _ _ _ ⟨.bl _, H, I, rfl, q⟩
  | cons i its =>
    have hx : (xs.length == 0) = false := by rw [hl]; rfl
    rw [hx] at q
    exact SeqAt.RcAt.lists_lengths l1 l2 (by simp) hu' _ _ _ _ ⟨.bl _, H, I, rfl, q⟩
def fEqNil : D → D → M D := fun x y S => match y with
  | .p (.list []) => ofO S ((items S x).map fun ds => .p (.bool (ds.length == 0)))
  | _ => .bad
section
variable {X : Cx} {W : WX} {a b : Expr} {f g : Fe} {pos : Pos}
theorem ok_eqNil : R2ok X (rEqNil X.K) fEqNil := by
  intro w H S x y dx dy W σ Q R vx vy P
  unfold fEqNil at P
  split at P
  · cases q : items S dx with
    | none => rw [q] at P; exact P.elim
    | some ds =>
      rw [q] at P
      obtain ⟨p, xs, rfl, hs, r⟩ := items_sq R vx q
      have v := vy.cases_p
      cases v with | lst hx rx =>
      cases rx
      refine ⟨_, _, xs, rfl, rfl, hs, SqL.of (R.same _ _ hx), ?_⟩
      have e : xs.length = ds.length := r.length
      rw [e]
      have P : Post X.gm W σ w Q (.ok (.p (.bool (ds.length == 0))) S) := P
      exact Post.here R P (.bl _)
  · exact P.elim
theorem de_eqNil (hu : X.A.units + 64 < cLine) (ha : DE X W a f) (hb : DE X W b g) : DE X W (.Compare a [.Eq] [b] pos) (eBin fEqNil f g) := de_cmp (op_eqNil hu) ok_eqNil ha hb (nomark _)
theorem dt_eqNil (hu : X.A.units + 64 < cLine) (ha : DE X W a f) (hb : DE X W b g) : DT X W (.Compare a [.Eq] [b] pos) (eT (eBin fEqNil f g)) := dt_cmp (op_eqNil hu) ok_eqNil ha hb (nomark _)
end
end DL
set_option Elab.async false
set_option linter.all false
set_option maxRecDepth 100000
namespace DL
open PySem PySem.Spec PyProof.Rows L2
/-! ### < of integers or of tuples of integers -/
def asIP : List PyData → Option (List Int)
  | [] => some []
  | .int i :: r => (asIP r).map (i :: ·)
  | _ :: _ => none
def lexLt : List Int → List Int → Bool
  | [], [] => false
  | [], _ :: _ => true
  | _ :: _, [] => false
  | a :: as, b :: bs => if a = b then lexLt as bs else decide (a < b)
def fLtD : D → D → M D
  | .p (.int i), .p (.int j) => M.pure (.p (.bool (decide (i < j))))
  | .p (.tuple xs), .p (.tuple ys) => fun S => match asIP xs, asIP ys with
    | some a, some b => .ok (.p (.bool (lexLt a b))) S
    | _, _ => .bad
  | _, _ => M.bad
theorem lexAt_eq : ∀ (xs ys : List Int) (e r : Nat → Bool) (i : Nat), (∀ j (h1 : j < xs.length) (h2 : j < ys.length), e (i + j) = decide (xs[j] = ys[j])) → (∀ j (h1 : j < xs.length) (h2 : j < ys.length), r (i + j) = decide (xs[j] < ys[j])) →
    Ob.lexAt e r (decide (xs.length < ys.length)) i (min xs.length ys.length) = lexLt xs ys
  | [], [], _, _, _, _, _ => by simp [Ob.lexAt, lexLt]
  | [], _ :: _, _, _, _, _, _ => by simp [Ob.lexAt, lexLt]
  | _ :: _, [], _, _, _, _, _ => by simp [Ob.lexAt, lexLt]
  | a :: as, b :: bs, e, r, i, he, hr => by
    have h0 := he 0 (by simp) (by simp)
    have h1 := hr 0 (by simp) (by simp)
    simp only [Nat.add_zero, List.getElem_cons_zero] at h0 h1
    have em : min (a :: as).length (b :: bs).length = min as.length bs.length + 1 := by simp
    have el : decide ((a :: as).length < (b :: bs).length) = decide (as.length < bs.length) := by simp
    rw [em, el, Ob.lexAt, h0]
    have ih := lexAt_eq as bs e r (i + 1) (fun j h1 h2 => by
      have := he (j + 1) (by simp; omega) (by simp; omega)
      simpa [Nat.add_assoc, Nat.add_comm 1] using this) (fun j h1 h2 => by
      have := hr (j + 1) (by simp; omega) (by simp; omega)
      simpa [Nat.add_assoc, Nat.add_comm 1] using this)
    by_cases hab : a = b
    · rw [if_pos (by simp [hab]), ih]; simp [lexLt, hab]
    · rw [if_neg (by simp [hab]), h1]; simp [lexLt, hab]
theorem Vals.ints : ∀ {xs : List Int} {us : List Value}, Vals (xs.map V.int) us → us.length = xs.length ∧ ∀ j (h : j < xs.length) (h2 : j < us.length), ∃ t, us[j] = .int xs[j] t
  | [], _, .nil => ⟨rfl, fun j h => by simp at h⟩
  | x :: xs, _, .cons r t => by
    obtain ⟨h1, h2⟩ := Vals.ints t
    refine ⟨by simp [h1], fun j h h3 => ?_⟩
    cases j with
    | zero => exact r
    | succ j => simpa using h2 j (by simpa using h) (by simpa using h3)
def rTupLt (K : PySem.W.Frag) : R2 := fun x y H Q => ∃ a b xs ys, x = .ref a ∧ y = .ref b ∧ SqT K H a (List.map V.int xs) ∧ SqT K H b (List.map V.int ys) ∧ Q (.bl (lexLt xs ys)) H
theorem op_tupLt {X : Cx} (hu : X.A.units + 64 < cLine) : OpR X (compareOp .Lt) (rTupLt X.K) := by
  intro pins s σ H x y v u Q I rx ry h
  obtain ⟨a, b, xs, ys, rfl, rfl, h1, h2, q⟩ := h
  cases rx
  cases ry
  obtain ⟨its, r1, ⟨o1, e1, c1, n1, d1⟩, _⟩ := I.tuple h1
  obtain ⟨its2, r2, ⟨o2, e2, c2, n2, d2⟩, _⟩ := I.tuple h2
  obtain ⟨l1, v1⟩ := Vals.ints r1
  obtain ⟨l2, v2⟩ := Vals.ints r2
  have t1 : s.heap.IsTuple a its.toArray := ⟨o1, e1, c1, n1, d1⟩
  have t2 : s.heap.IsTuple b its2.toArray := ⟨o2, e2, c2, n2, d2⟩
  have hu' : X.A.units < cLine := by omega
  have he : ∀ j (h1 : j < its.toArray.size) (h2 : j < its2.toArray.size), SeqAt.EqAt X.A.in1 s its.toArray[j] its2.toArray[j] ((fun j => decide (xs.getD j 0 = ys.getD j 0)) j) := fun j h1 h2 => by
    simp only [List.size_toArray] at h1 h2
    obtain ⟨t, e1⟩ := v1 j (by omega) h1
    obtain ⟨t', e2⟩ := v2 j (by omega) h2
    simp only [List.getElem_toArray, e1, e2]
    have a1 : xs.getD j 0 = xs[j]'(by omega) := by simp [show j < xs.length by omega]
    have a2 : ys.getD j 0 = ys[j]'(by omega) := by simp [show j < ys.length by omega]
    rw [a1, a2]
    have e : decide (xs[j]'(by omega) = ys[j]'(by omega)) = (xs[j]'(by omega) == ys[j]'(by omega)) := by
      by_cases h : xs[j]'(by omega) = ys[j]'(by omega) <;> simp [h]
    rw [e]
    exact SeqAt.EqAt.int_int _ _ _ _
  have hr : ∀ j (h1 : j < its.toArray.size) (h2 : j < its2.toArray.size), (fun j => decide (xs.getD j 0 = ys.getD j 0)) j = false → Ob.RcOp .Lt X.A.in1 s its.toArray[j] its2.toArray[j] ((fun j => decide (xs.getD j 0 < ys.getD j 0)) j) := fun j h1 h2 _ => by
    simp only [List.size_toArray] at h1 h2
    obtain ⟨t, e1⟩ := v1 j (by omega) h1
    obtain ⟨t', e2⟩ := v2 j (by omega) h2
    simp only [List.getElem_toArray, e1, e2]
    have a1 : xs.getD j 0 = xs[j]'(by omega) := by simp [show j < xs.length by omega]
    have a2 : ys.getD j 0 = ys[j]'(by omega) := by simp [show j < ys.length by omega]
    rw [a1, a2]
    exact Ob.RcOp.lt_int _ _ _ _
  have R := Ob.RcOp.tuples_lt t1 t2 hu' he hr
  have ex : Ob.lexAt (fun j => decide (xs.getD j 0 = ys.getD j 0)) (fun j => decide (xs.getD j 0 < ys.getD j 0)) (decide (its.toArray.size < its2.toArray.size)) 0 (min its.toArray.size its2.toArray.size) = lexLt xs ys := by
    simp only [List.size_toArray]
    rw [l1, l2]
    refine lexAt_eq xs ys _ _ 0 (fun j h1 h2 => ?_) (fun j h1 h2 => ?_)
    · simp [h1, h2]
    · simp [h1, h2]
  rw [ex] at R
  exact R _ _ _ _ ⟨.bl _, H, I, rfl, q⟩
theorem asIP_rep {Z : Hp} : ∀ {ds : List PyData} {ns : List Int} {vs : List V}, asIP ds = some ns → RepPs Z vs ds → vs = ns.map V.int
  | [], ns, vs, h, r => by cases h; cases r; rfl
  | d :: ds, ns, vs, h, r => by
    cases d with
    | int i =>
      obtain ⟨ms, q, e⟩ := Option.map_eq_some_iff.mp (show (asIP ds).map (i :: ·) = some ns from h)
      subst e
      cases r with
      | cons r1 r2 =>
        cases r1
        rw [asIP_rep q r2]; rfl
    | _ => cases h
def rLtD (K : PySem.W.Frag) : R2 := fun x y H Q => (rI0 fun i j => .bl (decide (i < j))) x y H Q ∨ rTupLt K x y H Q
section
variable {X : Cx} {W : WX} {a b : Expr} {f g : Fe} {pos : Pos}
theorem op_ltD (hu : X.A.units + 64 < cLine) : OpR X (compareOp .Lt) (rLtD X.K) := op_lt.or (op_tupLt hu)
theorem ok_ltD : R2ok X (rLtD X.K) fLtD := by
  intro w H S x y dx dy W σ Q R vx vy P
  unfold fLtD at P
  split at P
  · cases vx.cases_p; cases vy.cases_p
    exact .inl ⟨_, _, rfl, rfl, Post.here R P (.bl _)⟩
  · rename_i ds es
    cases ha : asIP ds with
    | none => rw [ha] at P; exact P.elim
    | some ns =>
      cases hb : asIP es with
      | none => rw [ha, hb] at P; exact P.elim
      | some ms =>
        rw [ha, hb] at P
        have vx := vx.cases_p
        have vy := vy.cases_p
        cases vx with | tup hx rx =>
        cases vy with | tup hy ry =>
        have e1 := asIP_rep ha rx
        have e2 := asIP_rep hb ry
        subst e1 e2
        have P : Post X.gm W σ w Q (.ok (.p (.bool (lexLt ns ms))) S) := P
        exact .inr ⟨_, _, ns, ms, rfl, rfl, SqT.of (R.same _ _ hx), SqT.of (R.same _ _ hy), Post.here R P (.bl _)⟩
  · exact P.elim
theorem de_ltD (hu : X.A.units + 64 < cLine) (ha : DE X W a f) (hb : DE X W b g) : DE X W (.Compare a [.Lt] [b] pos) (eBin fLtD f g) := de_cmp (op_ltD hu) ok_ltD ha hb (nomark _)
theorem dt_ltD (hu : X.A.units + 64 < cLine) (ha : DE X W a f) (hb : DE X W b g) : DT X W (.Compare a [.Lt] [b] pos) (eT (eBin fLtD f g)) := dt_cmp (op_ltD hu) ok_ltD ha hb (nomark _)
end
end DL
set_option Elab.async false
set_option linter.all false
set_option maxRecDepth 100000
set_option maxHeartbeats 400000
namespace LK
open PySem
/-! runs and their events, as data -/
abbrev Es := List (Int × Int)
def inE (g : Int) : PyData := .tuple [.str "in", .int g]
def outE (g : Int) : PyData := .tuple [.str "out", .int g]
/-- parts that may stand in a run of f -/
def gp (E : Es) : Int → List PyData → Bool
  | _, [] => true
  | f, .int i :: ps => decide (1 ≤ i) && decide (i ≤ 999999) && gp E f ps
  | f, .tuple [.int g, .tuple qs] :: ps => decide ((f, g) ∈ E) && gp E g qs && gp E f ps
  | _, _ :: _ => false
termination_by _ ps => sizeOf ps
/-- the events of parts -/
def evP : List PyData → List PyData
  | [] => []
  | .tuple [.int g, .tuple qs] :: ps => inE g :: (evP qs ++ outE g :: evP ps)
  | p :: ps => p :: evP ps
termination_by ps => sizeOf ps
/-- parts that are integers and pairs of an integer and such parts -/
def sp : List PyData → Bool
  | [] => true
  | .int _ :: ps => sp ps
  | .tuple [.int _, .tuple qs] :: ps => sp qs && sp ps
  | _ :: _ => false
termination_by ps => sizeOf ps
theorem gp_nil {E : Es} {f : Int} : gp E f [] = true := by unfold gp; rfl
theorem gp_int {E : Es} {f i : Int} {ps : List PyData} : gp E f (.int i :: ps) = (decide (1 ≤ i) && decide (i ≤ 999999) && gp E f ps) := by rw [gp]
theorem gp_run {E : Es} {f g : Int} {qs ps : List PyData} : gp E f (.tuple [.int g, .tuple qs] :: ps) = (decide ((f, g) ∈ E) && gp E g qs && gp E f ps) := by rw [gp]
theorem evP_nil : evP [] = [] := by rw [evP]
theorem evP_int {i : Int} {ps : List PyData} : evP (.int i :: ps) = .int i :: evP ps := by rw [evP]; simp
theorem evP_run {g : Int} {qs ps : List PyData} : evP (.tuple [.int g, .tuple qs] :: ps) = inE g :: (evP qs ++ outE g :: evP ps) := by rw [evP]
theorem sp_nil : sp [] = true := by rw [sp]
theorem sp_int {i : Int} {ps : List PyData} : sp (.int i :: ps) = sp ps := by rw [sp]
theorem sp_run {g : Int} {qs ps : List PyData} : sp (.tuple [.int g, .tuple qs] :: ps) = (sp qs && sp ps) := by rw [sp]
/-- how parts are looked at -/
inductive PK : PyData → Prop
  | int (i : Int) : PK (.int i)
  | run (g : Int) (qs : List PyData) : PK (.tuple [.int g, .tuple qs])
theorem sp_pk {p : PyData} {ps : List PyData} (h : sp (p :: ps) = true) : PK p := by
  unfold sp at h
  split at h
  · rename_i e; cases e
  · rename_i e; cases e; exact .int _
  · rename_i e; cases e; exact .run _ _
  · cases h
theorem gp_sp {E : Es} : ∀ (f : Int) (ps : List PyData), gp E f ps = true → sp ps = true
  | f, [], _ => sp_nil
  | f, p :: ps, h => by
    unfold gp at h
    split at h
    · rename_i e; cases e
    · rename_i i ps' e
      cases e
      rw [sp_int]
      simp only [Bool.and_eq_true] at h
      exact gp_sp _ ps h.2
    · rename_i g qs ps' e
      cases e
      rw [sp_run]
      simp only [Bool.and_eq_true] at h ⊢
      exact ⟨gp_sp g qs h.1.2, gp_sp _ ps h.2⟩
    · cases h
termination_by _ ps => sizeOf ps
theorem sp_append : ∀ (ps qs : List PyData), sp (ps ++ qs) = (sp ps && sp qs)
  | [], qs => by rw [sp_nil]; simp
  | p :: ps, qs => by
    by_cases hk : PK p
    · cases hk with
      | int i => rw [List.cons_append, sp_int, sp_int, sp_append ps qs]
      | run g rs => rw [List.cons_append, sp_run, sp_run, sp_append ps qs, Bool.and_assoc]
    · have h1 : sp (p :: (ps ++ qs)) = false := by
        cases h : sp (p :: (ps ++ qs)) with
        | false => rfl
        | true => exact absurd (sp_pk h) hk
      have h2 : sp (p :: ps) = false := by
        cases h : sp (p :: ps) with
        | false => rfl
        | true => exact absurd (sp_pk h) hk
      rw [List.cons_append, h1, h2]; rfl
theorem gp_append {E : Es} {f : Int} : ∀ (ps qs : List PyData), gp E f (ps ++ qs) = (gp E f ps && gp E f qs)
  | [], qs => by rw [gp_nil]; simp
  | p :: ps, qs => by
    by_cases hk : PK p
    · cases hk with
      | int i => rw [List.cons_append, gp_int, gp_int, gp_append ps qs]; simp only [Bool.and_assoc]
      | run g rs => rw [List.cons_append, gp_run, gp_run, gp_append ps qs]; simp only [Bool.and_assoc]
    · have h1 : gp E f (p :: (ps ++ qs)) = false := by
        cases h : gp E f (p :: (ps ++ qs)) with
        | false => rfl
        | true => exact absurd (sp_pk (gp_sp _ _ h)) hk
      have h2 : gp E f (p :: ps) = false := by
        cases h : gp E f (p :: ps) with
        | false => rfl
        | true => exact absurd (sp_pk (gp_sp _ _ h)) hk
      rw [List.cons_append, h1, h2]; rfl
theorem evP_other {p : PyData} {ps : List PyData} (h : ∀ g qs, p ≠ .tuple [.int g, .tuple qs]) : evP (p :: ps) = p :: evP ps := by
  rw [evP]
  intro g qs e
  exact h g qs e
theorem evP_append : ∀ (ps qs : List PyData), evP (ps ++ qs) = evP ps ++ evP qs
  | [], qs => by rw [evP_nil]; simp
  | p :: ps, qs => by
    by_cases hk : ∃ g rs, p = .tuple [.int g, .tuple rs]
    · obtain ⟨g, rs, rfl⟩ := hk
      rw [List.cons_append, evP_run, evP_run, evP_append ps qs]; simp
    · have hk' : ∀ g rs, p ≠ .tuple [.int g, .tuple rs] := fun g rs e => hk ⟨g, rs, e⟩
      rw [List.cons_append, evP_other hk', evP_other hk', evP_append ps qs]; simp
/-! a run -/
def trE (f : Int) (ps : List PyData) : List PyData := inE f :: (evP ps ++ [outE f])
def isIn : PyData → Bool
  | .tuple [.str s, _] => s == "in"
  | _ => false
def isInt : PyData → Bool
  | .int _ => true
  | _ => false
def intOf : PyData → Option Int
  | .int i => some i
  | _ => none
def few (es : List PyData) : Bool :=
  decide (((es.filter isIn).length : Int) ≤ 200) && decide (((es.filter isInt).length : Int) + ((es.filter isIn).length : Int) - 1 ≤ 400) && decide ((es.filterMap intOf).sum ≤ 999999)
theorem isIn_inE {g : Int} : isIn (inE g) = true := by
  show (("in" : Str) == "in") = true
  decide +kernel
theorem isIn_outE {g : Int} : isIn (outE g) = false := by
  show (("out" : Str) == "in") = false
  decide +kernel
theorem isInt_inE {g : Int} : isInt (inE g) = false := rfl
theorem isInt_outE {g : Int} : isInt (outE g) = false := rfl
theorem intOf_inE {g : Int} : intOf (inE g) = none := rfl
theorem intOf_outE {g : Int} : intOf (outE g) = none := rfl
/-- the counts of parts: runs, integers, their sum -/
def cR (ps : List PyData) : Nat := ((evP ps).filter isIn).length
def cI (ps : List PyData) : Nat := ((evP ps).filter isInt).length
def cT (ps : List PyData) : Int := ((evP ps).filterMap intOf).sum
theorem cR_nil : cR [] = 0 := by simp [cR, evP_nil]
theorem cI_nil : cI [] = 0 := by simp [cI, evP_nil]
theorem cT_nil : cT [] = 0 := by simp [cT, evP_nil]
theorem cR_int {i : Int} {ps : List PyData} : cR (.int i :: ps) = cR ps := by simp [cR, evP_int, isIn]
theorem cI_int {i : Int} {ps : List PyData} : cI (.int i :: ps) = cI ps + 1 := by
  unfold cI
  rw [evP_int, List.filter_cons_of_pos (by rfl)]; rfl
theorem cT_int {i : Int} {ps : List PyData} : cT (.int i :: ps) = i + cT ps := by simp [cT, evP_int, intOf]
theorem cR_run {g : Int} {qs ps : List PyData} : cR (.tuple [.int g, .tuple qs] :: ps) = 1 + cR qs + cR ps := by
  simp [cR, evP_run, isIn_inE, isIn_outE, List.filter_append]; omega
theorem cI_run {g : Int} {qs ps : List PyData} : cI (.tuple [.int g, .tuple qs] :: ps) = cI qs + cI ps := by
  simp [cI, evP_run, isInt_inE, isInt_outE, List.filter_append]
theorem cT_run {g : Int} {qs ps : List PyData} : cT (.tuple [.int g, .tuple qs] :: ps) = cT qs + cT ps := by
  simp [cT, evP_run, List.filterMap_cons, intOf_inE, intOf_outE, List.filterMap_append]
theorem cR_append (ps qs : List PyData) : cR (ps ++ qs) = cR ps + cR qs := by simp [cR, evP_append]
theorem cI_append (ps qs : List PyData) : cI (ps ++ qs) = cI ps + cI qs := by simp [cI, evP_append]
theorem cT_append (ps qs : List PyData) : cT (ps ++ qs) = cT ps + cT qs := by simp [cT, evP_append]
theorem few_trE (f : Int) (ps : List PyData) : few (trE f ps) = (decide (cR ps + 1 ≤ 200) && decide (cI ps + cR ps ≤ 400) && decide (cT ps ≤ 999999)) := by
  have a : ((trE f ps).filter isIn).length = cR ps + 1 := by simp [trE, cR, isIn_inE, isIn_outE]
  have b : ((trE f ps).filter isInt).length = cI ps := by simp [trE, cI, isInt_inE, isInt_outE]
  have c : ((trE f ps).filterMap intOf).sum = cT ps := by simp [trE, cT, List.filterMap_cons, intOf_inE, intOf_outE]
  unfold few
  rw [a, b, c]
  congr 2
  · simp; constructor <;> (intro h; omega)
  · simp; constructor <;> (intro h; omega)
theorem len_evP : ∀ (ps : List PyData), sp ps = true → (evP ps).length = cI ps + 2 * cR ps
  | [], _ => by simp [evP_nil, cI_nil, cR_nil]
  | p :: ps, h => by
    cases sp_pk h with
    | int i =>
      rw [sp_int] at h
      rw [evP_int, cI_int, cR_int, List.length_cons, len_evP ps h]; omega
    | run g qs =>
      rw [sp_run, Bool.and_eq_true] at h
      rw [evP_run, cI_run, cR_run]
      simp [len_evP ps h.2, len_evP qs h.1]; omega
termination_by ps => sizeOf ps
theorem few_len {f : Int} {ps : List PyData} (hs : sp ps = true) (h : few (trE f ps) = true) : (trE f ps).length ≤ 601 := by
  rw [few_trE] at h
  simp only [Bool.and_eq_true, decide_eq_true_eq] at h
  have := len_evP ps hs
  simp [trE]; omega
end LK
set_option Elab.async false
set_option linter.all false
set_option maxRecDepth 100000
set_option maxHeartbeats 400000
namespace LK
open PySem
def inRange (lo hi : Int) : PyData → Bool
  | .int i => decide (lo ≤ i) && decide (i ≤ hi)
  | _ => false
/-- a pair of an integer and a tuple -/
def runLike : PyData → Bool
  | .tuple [.int _, .tuple _] => true
  | _ => false
/-- a walk that goes on (inl) or returns (inr) -/
def walkF {α β γ : Type} (f : α → γ → α ⊕ β) : α → List γ → α ⊕ β
  | a, [] => .inl a
  | a, p :: ps => match f a p with
    | .inl a' => walkF f a' ps
    | .inr b => .inr b
theorem walkF_inl {α β γ : Type} {f : α → γ → α ⊕ β} {a a' : α} {p : γ} {ps : List γ} (h : f a p = .inl a') : walkF f a (p :: ps) = walkF f a' ps := by
  rw [walkF, h]
theorem walkF_inr {α β γ : Type} {f : α → γ → α ⊕ β} {a : α} {b : β} {p : γ} {ps : List γ} (h : f a p = .inr b) : walkF f a (p :: ps) = .inr b := by
  rw [walkF, h]
def headInt : PyData → Int
  | .tuple (.int g :: _) => g
  | _ => 0
/-! what the program adds of a run's events -/
def addStep (E : Es) (rec : PyData → List PyData → Bool × List PyData) (f : Int) (evs : List PyData) (p : PyData) : List PyData ⊕ List PyData :=
  if 601 < evs.length then .inr evs
  else if inRange 1 999999 p = true then .inl (evs ++ [p])
  else if runLike p = true ∧ (f, headInt p) ∈ E then (match rec p evs with
    | (true, evs') => .inl evs'
    | (false, evs') => .inr evs')
  else .inr evs
def addF (E : Es) : Nat → PyData → List PyData → Bool × List PyData
  | n + 1, .tuple [.int f, .tuple ps], evs => match walkF (addStep E (addF E n) f) (evs ++ [inE f]) ps with
    | .inl evs' => (true, evs' ++ [outE f])
    | .inr evs' => (false, evs')
  | _, _, evs => (false, evs)
/-- the edges of calls: upward, of at most five functions -/
def EOk (E : Es) : Prop := ∀ g f, (g, f) ∈ E → 0 ≤ g ∧ g < f ∧ f ≤ 4
theorem runLike_inv {p : PyData} (h : runLike p = true) : ∃ g qs, p = .tuple [.int g, .tuple qs] := by
  unfold runLike at h
  split at h
  · exact ⟨_, _, rfl⟩
  · cases h
theorem inRange_inv {p : PyData} (h : inRange 1 999999 p = true) : ∃ i, p = .int i ∧ 1 ≤ i ∧ i ≤ 999999 := by
  unfold inRange at h
  split at h
  · rename_i i
    simp only [Bool.and_eq_true, decide_eq_true_eq] at h
    exact ⟨i, rfl, h.1, h.2⟩
  · cases h
theorem trE_len {f : Int} {ps : List PyData} : (trE f ps).length = (evP ps).length + 2 := by simp [trE]
mutual
theorem walk_add {E : Es} (hE : EOk E) (n : Nat) (f : Int) : ∀ (ps : List PyData) (evs : List PyData), 0 ≤ f → 5 ≤ f + n + 1 →
    match walkF (addStep E (addF E n) f) evs ps with
    | .inl r => r = evs ++ evP ps ∧ gp E f ps = true
    | .inr _ => gp E f ps = true → 601 < evs.length + (evP ps).length
  | [], evs, _, _ => by
    show evs = evs ++ evP [] ∧ gp E f [] = true
    rw [evP_nil, gp_nil]; simp
  | p :: ps, evs, h0, hf => by
    unfold walkF
    by_cases h1 : 601 < evs.length
    · have : addStep E (addF E n) f evs p = .inr evs := by unfold addStep; rw [if_pos h1]
      rw [this]
      intro _
      omega
    · by_cases h2 : inRange 1 999999 p = true
      · have : addStep E (addF E n) f evs p = .inl (evs ++ [p]) := by unfold addStep; rw [if_neg h1, if_pos h2]
        rw [this]
        obtain ⟨i, rfl, hi1, hi2⟩ := inRange_inv h2
        have ih := walk_add hE n f ps (evs ++ [.int i]) h0 hf
        show match walkF (addStep E (addF E n) f) (evs ++ [.int i]) ps with | .inl r => _ | .inr _ => _
        revert ih
        cases walkF (addStep E (addF E n) f) (evs ++ [.int i]) ps with
        | inl r =>
          rintro ⟨e, hg⟩
          refine ⟨?_, ?_⟩
          · rw [e, evP_int]; simp
          · rw [gp_int, hg]; simp [hi1, hi2]
        | inr r =>
          intro ih hg
          rw [gp_int] at hg
          simp only [Bool.and_eq_true] at hg
          have := ih hg.2
          rw [evP_int]
          simp at this ⊢; omega
      · by_cases h3 : runLike p = true ∧ (f, headInt p) ∈ E
        · obtain ⟨g, qs, rfl⟩ := runLike_inv h3.1
          have he : (f, g) ∈ E := h3.2
          have hb := hE f g he
          have h3' : runLike (.tuple [.int g, .tuple qs]) = true ∧ (f, headInt (.tuple [.int g, .tuple qs])) ∈ E := h3
          have e0 : addStep E (addF E n) f evs (.tuple [.int g, .tuple qs]) = match addF E n (.tuple [.int g, .tuple qs]) evs with
              | (true, evs') => .inl evs'
              | (false, evs') => .inr evs' := by unfold addStep; rw [if_neg h1, if_neg h2, if_pos h3']
          rw [e0]
          have ia := run_add hE n g qs evs (by omega) hb.2.2 (by omega)
          revert ia
          generalize addF E n (.tuple [.int g, .tuple qs]) evs = r
          obtain ⟨b, evs'⟩ := r
          cases b with
          | true =>
            rintro ⟨e, hg⟩
            show match walkF (addStep E (addF E n) f) evs' ps with | .inl r => _ | .inr _ => _
            have ih := walk_add hE n f ps evs' h0 hf
            revert ih
            have e : evs' = evs ++ trE g qs := e
            have hg : gp E g qs = true := hg
            cases walkF (addStep E (addF E n) f) evs' ps with
            | inl r =>
              rintro ⟨e2, hg2⟩
              refine ⟨?_, ?_⟩
              · rw [e2, e, evP_run]; simp [trE]
              · rw [gp_run, hg, hg2]; simp [he]
            | inr r =>
              intro ih hg2
              rw [gp_run] at hg2
              simp only [Bool.and_eq_true] at hg2
              have := ih hg2.2
              rw [evP_run]
              rw [e, List.length_append, trE_len] at this
              simp at this ⊢; omega
          | false =>
            intro ia hg
            rw [gp_run] at hg
            simp only [Bool.and_eq_true] at hg
            have := ia hg.1.2
            rw [trE_len] at this
            rw [evP_run]
            simp; omega
        · have : addStep E (addF E n) f evs p = .inr evs := by unfold addStep; rw [if_neg h1, if_neg h2, if_neg h3]
          rw [this]
          intro hg
          exfalso
          cases sp_pk (gp_sp _ _ hg) with
          | int i =>
            rw [gp_int] at hg
            simp only [Bool.and_eq_true] at hg
            exact h2 (by simp [inRange]; simpa using hg.1)
          | run g qs =>
            rw [gp_run] at hg
            simp only [Bool.and_eq_true, decide_eq_true_eq] at hg
            exact h3 ⟨rfl, hg.1.1⟩
termination_by ps => (n, ps.length)
theorem run_add {E : Es} (hE : EOk E) (n : Nat) (g : Int) (qs evs : List PyData) (h0 : 0 ≤ g) (h4 : g ≤ 4) (hf : 5 ≤ g + n) :
    match addF E n (.tuple [.int g, .tuple qs]) evs with
    | (true, evs') => evs' = evs ++ trE g qs ∧ gp E g qs = true
    | (false, _) => gp E g qs = true → 601 < evs.length + (trE g qs).length := by
  cases n with
  | zero =>
    show gp E g qs = true → _
    intro h
    exfalso
    omega
  | succ n =>
    have ih := walk_add hE n g qs (evs ++ [inE g]) h0 (by omega)
    show match (match walkF (addStep E (addF E n) g) (evs ++ [inE g]) qs with
      | .inl evs' => (true, evs' ++ [outE g])
      | .inr evs' => (false, evs')) with | (true, evs') => _ | (false, _) => _
    revert ih
    cases walkF (addStep E (addF E n) g) (evs ++ [inE g]) qs with
    | inl r =>
      rintro ⟨e, hg⟩
      exact ⟨by rw [e]; simp [trE], hg⟩
    | inr r =>
      intro ih hg
      have := ih hg
      rw [trE_len]
      simp at this; omega
termination_by (n, 0)
end
end LK
set_option Elab.async false
set_option linter.all false
set_option maxRecDepth 100000
set_option maxHeartbeats 400000
namespace LK
open PySem
/-! the law's look at a run -/
abbrev Td := List (PyData × Int)
def scanF (E : Es) (w : Int) : Td × Int → PyData → (Td × Int) ⊕ Unit
  | (todo, t), .tuple (.int g :: rest) => if (w, g) ∈ E then .inl (todo ++ [(.tuple (.int g :: rest), g)], t) else .inr ()
  | (todo, t), .int i => if 1 ≤ i ∧ i ≤ 999999 then .inl (todo, t + i) else .inr ()
  | _, _ => .inr ()
def popF (todo : Td) : Option (Int × List PyData) := match todo.getLast? with
  | some (.tuple [.int g, .tuple qs], w) => if g = w then some (w, qs) else none
  | _ => none
def isRunL (E : Es) : Nat → Td → Int → Int → Int → Bool
  | 0, _, _, _, _ => false
  | k + 1, todo, num, t, p => if todo = [] then decide (t ≤ 999999) && decide (p ≤ 400) else
    if 200 < num + 1 then false else
    match popF todo with
    | none => false
    | some (w, qs) => match walkF (scanF E w) (todo.dropLast, t) qs with
      | .inl (todo', t') => isRunL E k todo' (num + 1) t' (p + qs.length)
      | .inr _ => false
def okT (E : Es) (x : PyData × Int) : Bool := match x with
  | (.tuple [.int g, .tuple qs], w) => decide (g = w) && gp E w qs
  | _ => false
abbrev fs (l : Td) : List PyData := l.map (·.1)
theorem okT_inv {E : Es} {x : PyData × Int} (h : okT E x = true) : ∃ qs, x = (.tuple [.int x.2, .tuple qs], x.2) ∧ gp E x.2 qs = true := by
  obtain ⟨d, w⟩ := x
  unfold okT at h
  split at h
  · rename_i g qs w' e
    cases e
    simp only [Bool.and_eq_true, decide_eq_true_eq] at h
    obtain ⟨rfl, h⟩ := h
    exact ⟨qs, rfl, h⟩
  · cases h
theorem scan_ok {E : Es} {w : Int} : ∀ (qs : List PyData) (todo : Td) (t : Int), match walkF (scanF E w) (todo, t) qs with
    | .inl (todo2, t2) => ∃ new, todo2 = todo ++ new ∧ gp E w qs = new.all (okT E) ∧ (gp E w qs = true → cR qs = cR (fs new) ∧ t + cT qs = t2 + cT (fs new) ∧ cI qs + cR qs + new.length = qs.length + cI (fs new) + cR (fs new))
    | .inr _ => gp E w qs = false
  | [], todo, t => by
    show ∃ new, todo = todo ++ new ∧ _
    exact ⟨[], by simp, by rw [gp_nil]; rfl, fun _ => ⟨rfl, by simp [cT_nil], by simp [cI_nil, cR_nil]⟩⟩
  | p :: qs, todo, t => by
    by_cases hk : ∃ i, p = .int i
    · obtain ⟨i, rfl⟩ := hk
      by_cases hi : 1 ≤ i ∧ i ≤ 999999
      · have e : scanF E w (todo, t) (.int i) = .inl (todo, t + i) := by
          show (if 1 ≤ i ∧ i ≤ 999999 then _ else _) = _
          rw [if_pos hi]
        rw [walkF_inl e]
        have ih := scan_ok (E := E) (w := w) qs todo (t + i)
        revert ih
        cases hw : walkF (scanF E w) (todo, t + i) qs with
        | inl r =>
          obtain ⟨todo2, t2⟩ := r
          rintro ⟨new, e1, e2, e3⟩
          refine ⟨new, e1, by rw [gp_int, e2]; simp [hi.1, hi.2], fun hg => ?_⟩
          rw [gp_int] at hg
          simp only [Bool.and_eq_true] at hg
          obtain ⟨h1, h2, h3⟩ := e3 hg.2
          rw [cR_int, cT_int, cI_int]
          refine ⟨h1, by omega, by simp; omega⟩
        | inr r =>
          intro ih
          show gp E w (.int i :: qs) = false
          have ih : gp E w qs = false := ih
          rw [gp_int, ih]; simp
      · have e : scanF E w (todo, t) (.int i) = .inr () := by
          show (if 1 ≤ i ∧ i ≤ 999999 then _ else _) = _
          rw [if_neg hi]
        rw [walkF_inr e]
        show gp E w (.int i :: qs) = false
        rw [gp_int]
        cases h : (decide (1 ≤ i) && decide (i ≤ 999999)) with
        | false => rfl
        | true => exact absurd (by simpa using h) hi
    · by_cases ht : ∃ g rest, p = .tuple (.int g :: rest)
      · obtain ⟨g, rest, rfl⟩ := ht
        by_cases he : (w, g) ∈ E
        · have e : scanF E w (todo, t) (.tuple (.int g :: rest)) = .inl (todo ++ [(.tuple (.int g :: rest), g)], t) := by
            show (if (w, g) ∈ E then _ else _) = _
            rw [if_pos he]
          rw [walkF_inl e]
          have ih := scan_ok (E := E) (w := w) qs (todo ++ [(.tuple (.int g :: rest), g)]) t
          revert ih
          have hp : gp E w (.tuple (.int g :: rest) :: qs) = (okT E (.tuple (.int g :: rest), g) && gp E w qs) := by
            by_cases hr : ∃ rs, rest = [.tuple rs]
            · obtain ⟨rs, rfl⟩ := hr
              rw [gp_run]
              simp [okT, he]
            · have h1 : okT E (.tuple (.int g :: rest), g) = false := by
                cases h : okT E (.tuple (.int g :: rest), g) with
                | false => rfl
                | true =>
                  obtain ⟨qs', e, _⟩ := okT_inv h
                  simp at e
                  exact absurd ⟨qs', e⟩ hr
              rw [h1]
              cases h : gp E w (.tuple (.int g :: rest) :: qs) with
              | false => rfl
              | true =>
                have := sp_pk (gp_sp _ _ h)
                cases this with
                | run g' rs => exact absurd ⟨rs, rfl⟩ hr
          cases hw : walkF (scanF E w) (todo ++ [(.tuple (.int g :: rest), g)], t) qs with
          | inl r =>
            obtain ⟨todo2, t2⟩ := r
            rintro ⟨new, e1, e2, e3⟩
            refine ⟨(.tuple (.int g :: rest), g) :: new, by rw [e1]; simp, by rw [hp, e2]; rfl, fun hg => ?_⟩
            rw [hp] at hg
            simp only [Bool.and_eq_true] at hg
            obtain ⟨h1, h2, h3⟩ := e3 hg.2
            obtain ⟨rs, er, hgr⟩ := okT_inv hg.1
            simp at er
            subst er
            rw [cR_run, cT_run, cI_run]
            show _ = cR (.tuple [.int g, .tuple rs] :: fs new) ∧ _ = t2 + cT (.tuple [.int g, .tuple rs] :: fs new) ∧ _ = _ + cI (.tuple [.int g, .tuple rs] :: fs new) + cR (.tuple [.int g, .tuple rs] :: fs new)
            rw [cR_run, cT_run, cI_run]
            refine ⟨by omega, by omega, by simp; omega⟩
          | inr r =>
            intro ih
            show gp E w (.tuple (.int g :: rest) :: qs) = false
            have ih : gp E w qs = false := ih
            rw [hp, ih]; simp
        · have e : scanF E w (todo, t) (.tuple (.int g :: rest)) = .inr () := by
            show (if (w, g) ∈ E then _ else _) = _
            rw [if_neg he]
          rw [walkF_inr e]
          show gp E w (.tuple (.int g :: rest) :: qs) = false
          cases h : gp E w (.tuple (.int g :: rest) :: qs) with
          | false => rfl
          | true =>
            have := sp_pk (gp_sp _ _ h)
            cases this with
            | run g' rs =>
              rw [gp_run] at h
              simp only [Bool.and_eq_true, decide_eq_true_eq] at h
              exact absurd h.1.1 he
      · have e : scanF E w (todo, t) p = .inr () := by
          unfold scanF
          split
          · exact absurd ⟨_, _, rfl⟩ ht
          · exact absurd ⟨_, rfl⟩ hk
          · rfl
        rw [walkF_inr e]
        show gp E w (p :: qs) = false
        cases h : gp E w (p :: qs) with
        | false => rfl
        | true =>
          have := sp_pk (gp_sp _ _ h)
          cases this with
          | int i => exact absurd ⟨_, rfl⟩ hk
          | run g' rs => exact absurd ⟨_, _, rfl⟩ ht
theorem snoc_of {α : Type} {l : List α} (h : l ≠ []) : ∃ i x, l = i ++ [x] := ⟨l.dropLast, l.getLast h, (List.dropLast_concat_getLast h).symm⟩
theorem popF_snoc {i : Td} {x : PyData × Int} {E : Es} : match popF (i ++ [x]) with
    | some (w, qs) => x = (.tuple [.int w, .tuple qs], w) ∧ okT E x = gp E w qs
    | none => okT E x = false := by
  unfold popF
  rw [List.getLast?_concat]
  obtain ⟨d, w⟩ := x
  split
  · rename_i e
    split at e
    · rename_i e2
      cases e2
      split at e
      · rename_i hgw
        cases e
        subst hgw
        exact ⟨rfl, by simp [okT]⟩
      · cases e
    · cases e
  · rename_i e
    cases h : okT E (d, w) with
    | false => rfl
    | true =>
      obtain ⟨qs, e2, _⟩ := okT_inv h
      simp at e2
      subst e2
      simp at e
theorem isRunL_bad {E : Es} : ∀ (k : Nat) (todo : Td) (num t p : Int), todo.all (okT E) = false → isRunL E k todo num t p = false
  | 0, _, _, _, _, _ => rfl
  | k + 1, todo, num, t, p, h => by
    have hn : todo ≠ [] := by rintro rfl; cases h
    obtain ⟨i, x, rfl⟩ := snoc_of hn
    unfold isRunL
    rw [if_neg hn]
    split
    · rfl
    have hpop := popF_snoc (i := i) (x := x) (E := E)
    revert hpop
    cases popF (i ++ [x]) with
    | none => intro _; rfl
    | some r =>
      obtain ⟨w, qs⟩ := r
      rintro ⟨hx, ho⟩
      rw [List.dropLast_concat]
      have hs := scan_ok (E := E) (w := w) qs i t
      revert hs
      show (match walkF (scanF E w) (i, t) qs with | .inl (todo2, t2) => _ | .inr _ => _) → (match walkF (scanF E w) (i, t) qs with | .inl (todo', t') => isRunL E k todo' (num + 1) t' (p + qs.length) | .inr _ => false) = false
      cases walkF (scanF E w) (i, t) qs with
      | inr _ => intro _; rfl
      | inl r =>
        obtain ⟨todo2, t2⟩ := r
        rintro ⟨new, e1, e2, _⟩
        refine isRunL_bad k todo2 _ _ _ ?_
        rw [e1, List.all_append, ← e2, ← ho]
        rw [List.all_append] at h
        simpa [Bool.and_comm] using h
theorem fs_snoc {i : Td} {x : PyData × Int} : fs (i ++ [x]) = fs i ++ [x.1] := by simp
theorem isRunL_good {E : Es} : ∀ (k : Nat) (todo : Td) (num t p : Int), todo.all (okT E) = true → num + k = 201 →
    isRunL E k todo num t p = decide (num + cR (fs todo) ≤ 200 ∧ t + cT (fs todo) ≤ 999999 ∧ p + cI (fs todo) + cR (fs todo) - todo.length ≤ 400)
  | 0, todo, num, t, p, _, hn => by
    have : ¬ (num + cR (fs todo) ≤ 200 ∧ t + cT (fs todo) ≤ 999999 ∧ p + cI (fs todo) + cR (fs todo) - todo.length ≤ 400) := by
      intro h; omega
    rw [decide_eq_false this]; rfl
  | k + 1, todo, num, t, p, h, hn => by
    unfold isRunL
    by_cases he : todo = []
    · subst he
      rw [if_pos rfl]
      have hz : num ≤ 200 := by omega
      simp [cR_nil, cT_nil, cI_nil, hz]
    · rw [if_neg he]
      obtain ⟨i, x, rfl⟩ := snoc_of he
      rw [List.all_append] at h
      simp only [Bool.and_eq_true, List.all_cons, List.all_nil, Bool.and_true] at h
      have hpop := popF_snoc (i := i) (x := x) (E := E)
      revert hpop
      cases popF (i ++ [x]) with
      | none => intro ho; have ho : okT E x = false := ho; rw [ho] at h; cases h.2
      | some r =>
        obtain ⟨w, qs⟩ := r
        rintro ⟨hx, ho⟩
        have hg : gp E w qs = true := by
          have ho : okT E x = gp E w qs := ho
          rw [← ho]; exact h.2
        have hx1 : x.1 = .tuple [.int w, .tuple qs] := by rw [hx]
        have c1 : cR (fs (i ++ [x])) = cR (fs i) + 1 + cR qs := by rw [fs_snoc, cR_append, hx1, cR_run, cR_nil]; omega
        have c2 : cI (fs (i ++ [x])) = cI (fs i) + cI qs := by rw [fs_snoc, cI_append, hx1, cI_run, cI_nil]; omega
        have c3 : cT (fs (i ++ [x])) = cT (fs i) + cT qs := by rw [fs_snoc, cT_append, hx1, cT_run, cT_nil]; omega
        rw [c1, c2, c3]
        by_cases hz : 200 < num + 1
        · rw [if_pos hz]
          symm
          apply decide_eq_false
          intro hh
          omega
        · rw [if_neg hz, List.dropLast_concat]
          have hs := scan_ok (E := E) (w := w) qs i t
          revert hs
          show (match walkF (scanF E w) (i, t) qs with | .inl (todo2, t2) => _ | .inr _ => _) → (match walkF (scanF E w) (i, t) qs with | .inl (todo', t') => isRunL E k todo' (num + 1) t' (p + qs.length) | .inr _ => false) = _
          cases walkF (scanF E w) (i, t) qs with
          | inr _ => intro hf; have hf : gp E w qs = false := hf; rw [hg] at hf; cases hf
          | inl r =>
            obtain ⟨todo2, t2⟩ := r
            rintro ⟨new, e1, e2, e3⟩
            obtain ⟨d1, d2, d3⟩ := e3 hg
            have hall : todo2.all (okT E) = true := by rw [e1, List.all_append, ← e2, hg, h.1]; rfl
            show isRunL E k todo2 (num + 1) t2 (p + qs.length) = _
            rw [isRunL_good k todo2 _ _ _ hall (by omega), e1]
            have f1 : cR (fs (i ++ new)) = cR (fs i) + cR (fs new) := by show cR (List.map _ _) = _; rw [List.map_append, cR_append]
            have f2 : cI (fs (i ++ new)) = cI (fs i) + cI (fs new) := by show cI (List.map _ _) = _; rw [List.map_append, cI_append]
            have f3 : cT (fs (i ++ new)) = cT (fs i) + cT (fs new) := by show cT (List.map _ _) = _; rw [List.map_append, cT_append]
            rw [f1, f2, f3]
            simp only [List.length_append, List.length_cons, List.length_nil]
            congr 1
            apply propext
            constructor <;> (rintro ⟨a1, a2, a3⟩; refine ⟨by omega, by omega, by omega⟩)
/-- a run, as the document tells it -/
def goodRun (E : Es) : PyData → Bool
  | .tuple [.int f, .tuple ps] => decide (f = 0) && gp E 0 ps && few (trE 0 ps)
  | _ => false
theorem isRunL_eq {E : Es} (v : PyData) : isRunL E 201 [(v, 0)] 0 0 0 = goodRun E v := by
  cases h : okT E (v, 0) with
  | false =>
    rw [isRunL_bad 201 [(v, 0)] 0 0 0 (by simp [h])]
    unfold goodRun
    split
    · rename_i f ps
      unfold okT at h
      simp only at h
      by_cases hf : f = 0
      · simp [hf] at h; simp [h]
      · simp [hf]
    · rfl
  | true =>
    obtain ⟨qs, e, hg⟩ := okT_inv h
    simp at e hg
    subst e
    rw [isRunL_good 201 _ 0 0 0 (by simp [h]) (by omega)]
    simp only [goodRun, hg, few_trE]
    show decide (0 + ((cR [PyData.tuple [.int 0, .tuple qs]] : Nat) : Int) ≤ 200 ∧ 0 + cT [PyData.tuple [.int 0, .tuple qs]] ≤ 999999 ∧ 0 + ((cI [PyData.tuple [.int 0, .tuple qs]] : Nat) : Int) + ((cR [PyData.tuple [.int 0, .tuple qs]] : Nat) : Int) - ((1 : Nat) : Int) ≤ 400) = _
    rw [cR_run, cT_run, cI_run, cR_nil, cT_nil, cI_nil]
    simp only [decide_true, Bool.true_and]
    rw [← Bool.decide_and, ← Bool.decide_and]
    congr 1
    apply propext
    constructor <;> (intro hh; omega)
/-- what the program's reading of a run tells -/
theorem add_good {E : Es} (hE : EOk E) (n : Nat) (hn : 5 ≤ n) (f : Int) (ps : List PyData) : (match addF E n (.tuple [.int f, .tuple ps]) [] with
    | (true, evs) => if f = 0 ∧ few evs = true then some evs else none
    | (false, _) => none) = if goodRun E (.tuple [.int f, .tuple ps]) = true then some (trE f ps) else none := by
  by_cases hf : f = 0
  · subst hf
    have h := run_add hE n 0 ps [] (by omega) (by omega) (by omega)
    revert h
    generalize addF E n (.tuple [.int 0, .tuple ps]) [] = r
    obtain ⟨b, evs⟩ := r
    cases b with
    | true =>
      rintro ⟨e, hg⟩
      have e : evs = [] ++ trE 0 ps := e
      have hg : gp E 0 ps = true := hg
      rw [e, List.nil_append]
      simp [goodRun, hg]
    | false =>
      intro h
      have h : gp E 0 ps = true → 601 < ([] : List PyData).length + (trE 0 ps).length := h
      rw [if_neg]
      intro hh
      simp only [goodRun, Bool.and_eq_true] at hh
      have h1 := h hh.1.2
      have h2 := few_len (gp_sp _ _ hh.1.2) hh.2
      simp at h1; omega
  · have : goodRun E (.tuple [.int f, .tuple ps]) = false := by simp [goodRun, hf]
    rw [this]
    split
    · simp [hf]
    · simp
end LK
set_option Elab.async false
set_option linter.all false
set_option maxRecDepth 100000
set_option maxHeartbeats 400000
namespace LK
open PySem
/-! reading events: the law's way and the program's -/
abbrev Sk := List (Int × List PyData)
def runD (f : Int) (ps : List PyData) : PyData := .tuple [.int f, .tuple ps]
theorem evP_runD {f : Int} {qs : List PyData} : evP [runD f qs] = trE f qs := by
  unfold runD; rw [evP_run, evP_nil]; rfl
def readF (s : Sk × Option PyData) (ev : PyData) : (Sk × Option PyData) ⊕ Unit :=
  match s with
  | (_, some _) => .inr ()
  | (st, none) => match ev with
    | .tuple [.str x, .int g] =>
      if (x == "in") = true then .inl ((g, []) :: st, none) else
      if (x == "out") = true then (match st with
        | [] => .inr ()
        | [(f, ps)] => if f = g then .inl ([], some (runD f ps)) else .inr ()
        | (f, ps) :: (f2, qs) :: r => if f = g then .inl ((f2, qs ++ [runD f ps]) :: r, none) else .inr ())
      else .inr ()
    | .int i => (match st with
        | [] => .inr ()
        | (f, ps) :: r => .inl ((f, ps ++ [.int i]) :: r, none))
    | _ => .inr ()
def readR (E : Es) (evs : List PyData) : Option PyData := match walkF readF ([], none) evs with
  | .inl (_, some r) => if goodRun E r = true then some r else none
  | _ => none
def fl : Sk → List PyData
  | [] => []
  | (f, ps) :: r => fl r ++ inE f :: evP ps
theorem str_eq {x y : Str} (h : (x == y) = true) : x = y := eq_of_beq h
theorem in_ne_out : (("out" : Str) == "in") = false := by decide +kernel
theorem read_step {st : Sk} {ev : PyData} {s : Sk × Option PyData} (h : readF (st, none) ev = .inl s) :
    (s.2 = none ∧ fl s.1 = fl st ++ [ev]) ∨ ∃ f ps, s.2 = some (runD f ps) ∧ s.1 = [] ∧ trE f ps = fl st ++ [ev] := by
  unfold readF at h
  dsimp only at h
  split at h
  · rename_i x g
    by_cases h1 : (x == "in") = true
    · rw [if_pos h1] at h
      cases h
      have := str_eq h1
      subst this
      exact .inl ⟨rfl, by simp [fl, evP_nil, inE]⟩
    · rw [if_neg h1] at h
      by_cases h2 : (x == "out") = true
      · rw [if_pos h2] at h
        have := str_eq h2
        subst this
        split at h
        · cases h
        · rename_i f ps
          by_cases hf : f = g
          · rw [if_pos hf] at h
            cases h
            subst hf
            exact .inr ⟨f, ps, rfl, rfl, by simp [fl, trE, outE]⟩
          · rw [if_neg hf] at h; cases h
        · rename_i f ps f2 qs r
          by_cases hf : f = g
          · rw [if_pos hf] at h
            cases h
            subst hf
            refine .inl ⟨rfl, ?_⟩
            simp [fl, evP_append, evP_runD, trE, outE]
          · rw [if_neg hf] at h; cases h
      · rw [if_neg h2] at h; cases h
  · rename_i i
    split at h
    · cases h
    · rename_i f ps r
      cases h
      exact .inl ⟨rfl, by simp [fl, evP_append, evP_int, evP_nil]⟩
  · cases h
theorem read_sound : ∀ (evs : List PyData) (st : Sk) (s : Sk × Option PyData), walkF readF (st, none) evs = .inl s →
    ∀ r, s.2 = some r → ∃ f ps, r = runD f ps ∧ fl st ++ evs = trE f ps
  | [], st, s, h, r, hr => by
    cases h; cases hr
  | ev :: evs, st, s, h, r, hr => by
    cases q : readF (st, none) ev with
    | inr _ => rw [walkF_inr q] at h; cases h
    | inl s1 =>
      rw [walkF_inl q] at h
      obtain ⟨st1, d1⟩ := s1
      rcases read_step q with ⟨e1, e2⟩ | ⟨f, ps, e1, e2, e3⟩
      · dsimp only at e1 e2
        subst e1
        obtain ⟨f, ps, h1, h2⟩ := read_sound evs st1 s h r hr
        exact ⟨f, ps, h1, by rw [← h2, e2]; simp⟩
      · dsimp only at e1 e2
        subst e1 e2
        cases evs with
        | nil =>
          cases h
          cases hr
          exact ⟨f, ps, rfl, by rw [e3]⟩
        | cons ev2 evs =>
          rw [walkF_inr (b := ()) (by rfl)] at h; cases h
theorem read_in {st : Sk} {g : Int} : readF (st, none) (inE g) = .inl ((g, []) :: st, none) := by
  unfold readF inE
  dsimp only
  rw [if_pos (by decide +kernel)]
theorem out_ne_in : ¬ (("out" : Str) == "in") = true := by decide +kernel
theorem read_out {r : Sk} {f f2 : Int} {ps qs : List PyData} : readF ((f, ps) :: (f2, qs) :: r, none) (outE f) = .inl ((f2, qs ++ [runD f ps]) :: r, none) := by
  unfold readF outE
  dsimp only
  rw [if_neg out_ne_in, if_pos (by decide +kernel), if_pos rfl]
theorem read_out1 {f : Int} {ps : List PyData} : readF ([(f, ps)], none) (outE f) = .inl ([], some (runD f ps)) := by
  unfold readF outE
  dsimp only
  rw [if_neg out_ne_in, if_pos (by decide +kernel), if_pos rfl]
theorem read_complete : ∀ (ps es : List PyData) (f : Int) (q : List PyData) (r : Sk), sp ps = true →
    walkF readF ((f, q) :: r, none) (evP ps ++ es) = walkF readF ((f, q ++ ps) :: r, none) es
  | [], es, f, q, r, _ => by rw [evP_nil]; simp
  | p :: ps, es, f, q, r, h => by
    cases sp_pk h with
    | int i =>
      rw [sp_int] at h
      rw [evP_int, List.cons_append, walkF_inl (a' := ((f, q ++ [.int i]) :: r, none)) rfl, read_complete ps es f _ r h]
      simp
    | run g qs =>
      rw [sp_run, Bool.and_eq_true] at h
      rw [evP_run, List.cons_append, walkF_inl read_in, List.append_assoc, read_complete qs _ g [] _ h.1, List.nil_append, List.cons_append, walkF_inl read_out, read_complete ps es f _ r h.2]
      simp [runD]
termination_by ps => sizeOf ps
theorem read_tr {E : Es} {f : Int} {ps : List PyData} (h : sp ps = true) : readR E (trE f ps) = if goodRun E (runD f ps) = true then some (runD f ps) else none := by
  have : walkF readF ([], none) (trE f ps) = .inl ([], some (runD f ps)) := by
    unfold trE
    rw [walkF_inl read_in, read_complete ps _ f [] [] h, List.nil_append, walkF_inl read_out1]
    rfl
  unfold readR
  rw [this]
theorem readR_iff {E : Es} {evs : List PyData} {r : PyData} : readR E evs = some r ↔ ∃ ps, r = runD 0 ps ∧ gp E 0 ps = true ∧ few (trE 0 ps) = true ∧ evs = trE 0 ps := by
  constructor
  · intro h
    unfold readR at h
    split at h
    · rename_i st r' e
      obtain ⟨f, ps, e1, e2⟩ := read_sound evs [] _ e r' rfl
      by_cases hg : goodRun E r' = true
      · rw [if_pos hg] at h
        cases h
        subst e1
        have hg2 := hg
        simp only [goodRun, runD, Bool.and_eq_true, decide_eq_true_eq] at hg2
        obtain ⟨⟨rfl, h2⟩, h3⟩ := hg2
        exact ⟨ps, rfl, h2, h3, by simpa [fl] using e2⟩
      · rw [if_neg hg] at h; cases h
    · cases h
  · rintro ⟨ps, rfl, h1, h2, rfl⟩
    rw [read_tr (gp_sp _ _ h1)]
    have : goodRun E (runD 0 ps) = true := by simp [goodRun, runD, h1, h2]
    rw [if_pos this]
/-! the program's way -/
def joinF (E : Es) (st : Sk) (ev : PyData) : Sk ⊕ Unit :=
  match st, ev with
  | (f, ps) :: r, .int i => .inl ((f, ps ++ [.int i]) :: r)
  | (f, ps) :: r, .tuple [.str x, .int g] =>
    if (x == "in") = true then (if (f, g) ∈ E then .inl ((g, []) :: (f, ps) :: r) else .inr ()) else
    (match r with
      | [] => .inr ()
      | (f2, qs) :: r2 => if f = g then .inl ((f2, qs ++ [runD f ps]) :: r2) else .inr ())
  | _, _ => .inr ()
/-- what the program takes for an event -/
def isEvB (k : Int) : PyData → Bool
  | .int i => inRange 1 999999 (.int i)
  | .tuple [.str x, .int g] => ((x == "in") || (x == "out")) && decide (0 ≤ g) && decide (g ≤ k - 1)
  | _ => false
def okS (E : Es) : Sk → Prop
  | [] => False
  | [(f, ps)] => f = 0 ∧ gp E f ps = true
  | (f, ps) :: (f2, qs) :: r => gp E f ps = true ∧ (f2, f) ∈ E ∧ okS E ((f2, qs) :: r)
theorem okS_head {E : Es} {f : Int} {ps ps' : List PyData} {r : Sk} (h : okS E ((f, ps) :: r)) (hp : gp E f ps = true → gp E f ps' = true) : okS E ((f, ps') :: r) := by
  cases r with
  | nil => exact ⟨h.1, hp h.2⟩
  | cons x r => obtain ⟨f2, qs⟩ := x; exact ⟨hp h.1, h.2⟩
theorem join_step {E : Es} {k : Int} {st st' : Sk} {ev : PyData} (ho : okS E st) (he : isEvB k ev = true) (h : joinF E st ev = .inl st') : okS E st' ∧ fl st' = fl st ++ [ev] := by
  unfold joinF at h
  split at h
  · rename_i f ps r i
    cases h
    refine ⟨okS_head ho fun hg => ?_, by simp [fl, evP_append, evP_int, evP_nil]⟩
    rw [gp_append, hg, gp_int, gp_nil]
    simpa [isEvB, inRange] using he
  · rename_i f ps r x g
    by_cases h1 : (x == "in") = true
    · rw [if_pos h1] at h
      have := str_eq h1
      subst this
      by_cases h2 : (f, g) ∈ E
      · rw [if_pos h2] at h
        cases h
        exact ⟨⟨gp_nil, h2, ho⟩, by simp [fl, evP_nil, inE]⟩
      · rw [if_neg h2] at h; cases h
    · rw [if_neg h1] at h
      have hx : x = "out" := by
        simp only [isEvB, Bool.and_eq_true, Bool.or_eq_true] at he
        rcases he.1.1 with e | e
        · exact absurd e h1
        · exact str_eq e
      subst hx
      split at h
      · cases h
      · rename_i f2 qs r2
        by_cases hf : f = g
        · rw [if_pos hf] at h
          cases h
          subst hf
          refine ⟨okS_head ho.2.2 fun hg => ?_, by simp [fl, evP_append, evP_runD, trE, outE]⟩
          rw [gp_append, hg]
          unfold runD
          rw [gp_run, gp_nil, ho.1]
          simp [ho.2.1]
        · rw [if_neg hf] at h; cases h
  · cases h
theorem join_sound {E : Es} {k : Int} : ∀ (evs : List PyData) (st st' : Sk), okS E st → (∀ e ∈ evs, isEvB k e = true) → walkF (joinF E) st evs = .inl st' → okS E st' ∧ fl st' = fl st ++ evs
  | [], st, st', ho, _, h => by cases h; exact ⟨ho, by simp⟩
  | ev :: evs, st, st', ho, he, h => by
    cases q : joinF E st ev with
    | inr _ => rw [walkF_inr q] at h; cases h
    | inl s1 =>
      rw [walkF_inl q] at h
      obtain ⟨h1, h2⟩ := join_step ho (he ev (by simp)) q
      obtain ⟨h3, h4⟩ := join_sound evs s1 st' h1 (fun e hx => he e (by simp [hx])) h
      exact ⟨h3, by rw [h4, h2]; simp⟩
theorem join_in {E : Es} {r : Sk} {f g : Int} {ps : List PyData} (h : (f, g) ∈ E) : joinF E ((f, ps) :: r) (inE g) = .inl ((g, []) :: (f, ps) :: r) := by
  unfold joinF inE
  dsimp only
  rw [if_pos (by decide +kernel), if_pos h]
theorem join_out {E : Es} {r : Sk} {f f2 : Int} {ps qs : List PyData} : joinF E ((f, ps) :: (f2, qs) :: r) (outE f) = .inl ((f2, qs ++ [runD f ps]) :: r) := by
  unfold joinF outE
  dsimp only
  rw [if_neg out_ne_in, if_pos rfl]
theorem join_complete {E : Es} : ∀ (ps es : List PyData) (f : Int) (q : List PyData) (r : Sk), gp E f ps = true →
    walkF (joinF E) ((f, q) :: r) (evP ps ++ es) = walkF (joinF E) ((f, q ++ ps) :: r) es
  | [], es, f, q, r, _ => by rw [evP_nil]; simp
  | p :: ps, es, f, q, r, h => by
    cases sp_pk (gp_sp _ _ h) with
    | int i =>
      rw [gp_int] at h
      simp only [Bool.and_eq_true] at h
      rw [evP_int, List.cons_append, walkF_inl (a' := (f, q ++ [.int i]) :: r) rfl, join_complete ps es f _ r h.2]
      simp
    | run g qs =>
      rw [gp_run] at h
      simp only [Bool.and_eq_true, decide_eq_true_eq] at h
      rw [evP_run, List.cons_append, walkF_inl (join_in h.1.1), List.append_assoc, join_complete qs _ g [] _ h.1.2, List.nil_append, List.cons_append, walkF_inl join_out, join_complete ps es f _ r h.2]
      simp [runD]
termination_by ps => sizeOf ps
/-- the whole of the program's reading, once the events are events and few -/
def is0 (w : Str) : PyData → Bool
  | .tuple [.str x, .int g] => (x == w) && decide (g = 0)
  | _ => false
def one0 (w : Str) : List PyData → Bool
  | [e] => is0 w e
  | _ => false
theorem one0_inv {w : Str} {l : List PyData} (h : one0 w l = true) : l = [.tuple [.str w, .int 0]] := by
  unfold one0 at h
  split at h
  · unfold is0 at h
    split at h
    · simp only [Bool.and_eq_true, decide_eq_true_eq] at h
      rw [str_eq h.1, h.2]
    · cases h
  · cases h
def joinR (E : Es) (evs : List PyData) : Option PyData :=
  if (one0 "in" (evs.take 1) && one0 "out" (evs.drop (evs.length - 1))) = true then (match walkF (joinF E) [(0, [])] ((evs.drop 1).take (evs.length - 2)) with
    | .inl [(_, ps)] => some (runD 0 ps)
    | _ => none) else none
def progR (E : Es) (k : Int) (evs : List PyData) : Option PyData := if evs.all (isEvB k) = true ∧ few evs = true then joinR E evs else none
/-- the edges are of so many functions -/
def EIn (E : Es) (k : Int) : Prop := 1 ≤ k ∧ ∀ g f, (g, f) ∈ E → 0 ≤ f ∧ f ≤ k - 1
theorem evB_gp {E : Es} {k : Int} (hk : EIn E k) : ∀ (f : Int) (ps : List PyData), gp E f ps = true → (evP ps).all (isEvB k) = true
  | f, [], _ => by rw [evP_nil]; rfl
  | f, p :: ps, h => by
    cases sp_pk (gp_sp _ _ h) with
    | int i =>
      rw [gp_int] at h
      simp only [Bool.and_eq_true] at h
      rw [evP_int, List.all_cons, evB_gp hk f ps h.2]
      simpa [isEvB, inRange] using h.1
    | run g qs =>
      rw [gp_run] at h
      simp only [Bool.and_eq_true, decide_eq_true_eq] at h
      have hg := hk.2 f g h.1.1
      have e1 : isEvB k (inE g) = true := by
        show (((("in" : Str) == "in") || (("in" : Str) == "out")) && decide (0 ≤ g) && decide (g ≤ k - 1)) = true
        have : (("in" : Str) == "in") = true := by decide +kernel
        rw [this]; simp; omega
      have e2 : isEvB k (outE g) = true := by
        show (((("out" : Str) == "in") || (("out" : Str) == "out")) && decide (0 ≤ g) && decide (g ≤ k - 1)) = true
        have : (("out" : Str) == "out") = true := by decide +kernel
        rw [this]; simp; omega
      rw [evP_run, List.all_cons, List.all_append, List.all_cons, e1, e2, evB_gp hk g qs h.1.2, evB_gp hk f ps h.2]
      rfl
termination_by _ ps => sizeOf ps
theorem evB_tr {E : Es} {k : Int} (hk : EIn E k) {ps : List PyData} (h : gp E 0 ps = true) : (trE 0 ps).all (isEvB k) = true := by
  have e1 : isEvB k (inE 0) = true := by
    show (((("in" : Str) == "in") || (("in" : Str) == "out")) && decide ((0 : Int) ≤ 0) && decide ((0 : Int) ≤ k - 1)) = true
    have : (("in" : Str) == "in") = true := by decide +kernel
    have := hk.1
    rw [‹(("in" : Str) == "in") = true›]; simp; omega
  have e2 : isEvB k (outE 0) = true := by
    show (((("out" : Str) == "in") || (("out" : Str) == "out")) && decide ((0 : Int) ≤ 0) && decide ((0 : Int) ≤ k - 1)) = true
    have : (("out" : Str) == "out") = true := by decide +kernel
    have := hk.1
    rw [‹(("out" : Str) == "out") = true›]; simp; omega
  unfold trE
  rw [List.all_cons, List.all_append, List.all_cons, e1, e2, evB_gp hk 0 ps h]
  rfl
theorem okS_one {E : Es} {f : Int} {ps : List PyData} (h : okS E [(f, ps)]) : f = 0 ∧ gp E 0 ps = true := by
  have h : f = 0 ∧ gp E f ps = true := h
  obtain ⟨rfl, h2⟩ := h
  exact ⟨rfl, h2⟩
theorem progR_iff {E : Es} {k : Int} (hk : EIn E k) {evs : List PyData} {r : PyData} : progR E k evs = some r ↔ ∃ ps, r = runD 0 ps ∧ gp E 0 ps = true ∧ few (trE 0 ps) = true ∧ evs = trE 0 ps := by
  constructor
  · intro h
    unfold progR at h
    by_cases h1 : evs.all (isEvB k) = true ∧ few evs = true
    · rw [if_pos h1] at h
      unfold joinR at h
      by_cases h2' : (one0 "in" (evs.take 1) && one0 "out" (evs.drop (evs.length - 1))) = true
      · rw [if_pos h2'] at h
        have h2 : evs.take 1 = [inE 0] ∧ evs.drop (evs.length - 1) = [outE 0] := by
          simp only [Bool.and_eq_true] at h2'
          exact ⟨one0_inv h2'.1, one0_inv h2'.2⟩
        split at h
        · rename_i f ps e
          cases h
          have hm : ∀ e ∈ (evs.drop 1).take (evs.length - 2), isEvB k e = true := fun e he => by
            have := List.mem_of_mem_drop (List.mem_of_mem_take he)
            exact List.all_eq_true.mp h1.1 e this
          obtain ⟨h3, h4⟩ := join_sound _ _ _ (show okS E [(0, [])] from ⟨rfl, gp_nil⟩) hm e
          obtain ⟨rfl, h5⟩ := okS_one h3
          have h6 : inE 0 :: evP ps = inE 0 :: (evs.drop 1).take (evs.length - 2) := by
            simpa [fl, evP_nil] using h4
          have h7 : evP ps = (evs.drop 1).take (evs.length - 2) := by simpa using h6
          have hev : evs = trE 0 ps := by
            have hl : 2 ≤ evs.length := by
              rcases Nat.lt_or_ge evs.length 2 with hlt | hge
              · exfalso
                match evs, h2, hlt with
                | [], h2, _ => simp at h2
                | [a], h2, _ =>
                  simp at h2
                  have := h2.1.symm.trans h2.2
                  simp only [inE, outE, PyData.tuple.injEq, List.cons.injEq, PyData.str.injEq] at this
                  have e := this.1
                  have hn := in_ne_out
                  rw [← e] at hn
                  have : (("in" : Str) == "in") = true := by decide +kernel
                  rw [this] at hn; cases hn
                | _ :: _ :: _, _, h => simp at h; omega
              · exact hge
            have s1 : evs = evs.take 1 ++ evs.drop 1 := (List.take_append_drop 1 evs).symm
            have s2 : evs.drop 1 = (evs.drop 1).take (evs.length - 2) ++ (evs.drop 1).drop (evs.length - 2) := (List.take_append_drop _ _).symm
            have s3 : (evs.drop 1).drop (evs.length - 2) = evs.drop (evs.length - 1) := by
              rw [List.drop_drop]; congr 1; omega
            rw [s1, s2, s3, h2.1, h2.2, ← h7]
            rfl
          exact ⟨ps, rfl, h5, hev ▸ h1.2, hev⟩
        · cases h
      · rw [if_neg h2'] at h; cases h
    · rw [if_neg h1] at h; cases h
  · rintro ⟨ps, rfl, h1, h2, rfl⟩
    unfold progR
    rw [if_pos ⟨evB_tr hk h1, h2⟩]
    unfold joinR
    have hl : (trE 0 ps).length = (evP ps).length + 2 := trE_len
    have t1 : (trE 0 ps).take 1 = [inE 0] := by simp [trE]
    have t2 : (trE 0 ps).drop ((trE 0 ps).length - 1) = [outE 0] := by
      rw [hl]
      simp [trE]
    have t3 : ((trE 0 ps).drop 1).take ((trE 0 ps).length - 2) = evP ps := by
      rw [hl]
      simp [trE]
    have c1 : one0 "in" [inE 0] = true := by decide +kernel
    have c2 : one0 "out" [outE 0] = true := by decide +kernel
    rw [t1, t2, c1, c2, if_pos (by rfl), t3]
    have := join_complete (E := E) ps [] 0 [] [] h1
    rw [List.append_nil] at this
    rw [this]
    rfl
theorem progR_eq {E : Es} {k : Int} (hk : EIn E k) (evs : List PyData) : progR E k evs = readR E evs := by
  apply Option.ext
  intro r
  rw [progR_iff hk, readR_iff]
end LK
set_option Elab.async false
set_option linter.all false
set_option maxRecDepth 100000
namespace LK
open PySem PySem.Spec L2 DL
def top (i : Nat) : Stmt := PySem.Challenge.pw_sureticks_k10_whole_traces.main.body.getD i (.Pass ⟨0, 0, 0, 0⟩)
abbrev ENs : List Str := ["InvalidEdges", "InvalidNumber", "InvalidRun", "InvalidTrace", "TickError"]
structure Txt (P : Program) (K : PySem.W.Frag) (mg : Str → Option Value) (C_Calls : Addr) : Prop where
  b_abs : mg "abs" = none
  b_all : mg "all" = none
  b_bool : mg "bool" = none
  b_int : mg "int" = none
  b_isinstance : mg "isinstance" = none
  b_len : mg "len" = none
  b_list : mg "list" = none
  b_range : mg "range" = none
  b_str : mg "str" = none
  b_sum : mg "sum" = none
  b_tuple : mg "tuple" = none
  b_zip : mg "zip" = none
  c_MOST_EVENTS : ∃ t, mg "MOST_EVENTS" = some (.int 601 t)
  c_MOST_FUNCTIONS : ∃ t, mg "MOST_FUNCTIONS" = some (.int 5 t)
  c_MOST_PARTS : ∃ t, mg "MOST_PARTS" = some (.int 400 t)
  c_MOST_RUNS : ∃ t, mg "MOST_RUNS" = some (.int 200 t)
  c_MOST_TICKS : ∃ t, mg "MOST_TICKS" = some (.int 999999 t)
  g_Calls : mg "Calls" = some (.ref C_Calls)
  cl_Calls : Cls K C_Calls
  mk_Calls : MkC K C_Calls
  is_Calls : IsC K C_Calls
  n_Calls_edges : NoAttr K C_Calls "edges"
  n_Calls_functions : NoAttr K C_Calls "functions"
  x_InvalidEdges : ErrTxt P K mg "InvalidEdges" "value"
  x_InvalidNumber : ErrTxt P K mg "InvalidNumber" "value"
  x_InvalidRun : ErrTxt P K mg "InvalidRun" "value"
  x_InvalidTrace : ErrTxt P K mg "InvalidTrace" "value"
  h_InvalidRun : HdTxt K mg ENs "InvalidRun"
  h_InvalidTrace : HdTxt K mg ENs "InvalidTrace"
section
variable {P : Program} {w : World} {K : PySem.W.Frag} {mg : Str → Option Value} {base : Heap} {C_Calls : Addr}
abbrev s__law_box : Stmt := (top 33)
abbrev N__law_box : List Str := ["script", "k", "cell", "great"]
theorem sc__law_box : FnScope N__law_box ["script", "k"] (defScope s__law_box) := ⟨rfl, rfl, rfl, by decide +kernel, rfl, by decide +kernel, by decide +kernel⟩
def g__law_box : Fs := (sSeq (sSet 2 (eBin fAdd (eBin fMul (eC (.int 7919)) (eVar 1)) (eC (.int 101)))) (sSeq (sIf (eT (eBin fLt (eVar 1) (eCB (on1 fLen) (aCons (eVar 0) aNil)))) (sSet 2 (eCB (on1 fAbs) (aCons (eBin fIx (eVar 0) (eVar 1)) aNil))) (sIf (eT (eBin fGt (eCB (on1 fLen) (aCons (eVar 0) aNil)) (eC (.int 0)))) (sSet 2 (eBin fAdd (eBin fMul (eBin fMod (eCB (on1 fInt) (aCons (eCB (on1 fAbs) (aCons (eBin fIx (eVar 0) (eBin fMod (eCB (on1 fInt) (aCons (eVar 1) aNil)) (eCB (on1 fLen) (aCons (eVar 0) aNil)))) aNil)) aNil)) (eC (.int 1000000007))) (eC (.int 31))) (eBin fMul (eC (.int 7919)) (eVar 1)))) sNil)) (sSeq (sSet 3 (eBin fIx (eLst (aCons (eC (.int 0)) (aCons (eVar 2) aNil))) (eCB (on1 fInt) (aCons (eBin fGe (eVar 2) (eBin fPow (eC (.int 10)) (eC (.int 18)))) aNil)))) (sRet (eCell (aCons (eVar 3) (aCons (eBin fAdd (eBin fMod (eCB (on1 fInt) (aCons (eBin fAdd (eBin fMul (eBin fMod (eCB (on1 fInt) (aCons (eVar 2) aNil)) (eC (.int 1000000007))) (eC (.int 48271))) (eBin fMul (eC (.int 613)) (eVar 1))) aNil)) (eC (.int 2147483647))) (eC (.int 1))) aNil)))))))
def F__law_box : List D → M D := bodyF 2 4 g__law_box
set_option maxHeartbeats 2000000 in
theorem d__law_box (T : Txt P K mg C_Calls) (At : DefAt K mg "_law_box" s__law_box ["script", "k"]) : DefOk P w K mg base "_law_box" ["script", "k"] 1 F__law_box :=
  def_ok At sc__law_box fun f cdv A outer s H E hr => (dss_cons (ds_set (i := 2) sc__law_box.nd rfl (by first | exact Or.inl rfl | exact Or.inr rfl) (de_add (de_mul de_int (de_var 1)) de_int)) (dss_cons (ds_if (dt_lt (de_var 1) (de_len rfl T.b_len (de_var 0))) (dss_one (ds_set (i := 2) sc__law_box.nd rfl (by first | exact Or.inl rfl | exact Or.inr rfl) (de_abs rfl T.b_abs (de_item (de_var 0) (de_var 1))))) (dss_one (ds_if (dt_gt (de_len rfl T.b_len (de_var 0)) de_int) (dss_one (ds_set (i := 2) sc__law_box.nd rfl (by first | exact Or.inl rfl | exact Or.inr rfl) (de_add (de_mul (de_mod (de_toInt rfl T.b_int (de_abs rfl T.b_abs (de_item (de_var 0) (de_mod (de_toInt rfl T.b_int (de_var 1)) (de_len rfl T.b_len (de_var 0)))))) de_int) de_int) (de_mul de_int (de_var 1))))) dss_nil))) (dss_cons (ds_set (i := 3) sc__law_box.nd rfl (by first | exact Or.inl rfl | exact Or.inr rfl) (de_item (de_lst (da_cons de_int (da_cons (de_var 2) da_nil))) (de_toInt rfl T.b_int (de_ge (de_var 2) (de_pow de_int de_int))))) (dss_one (ds_ret (de_cell (da_cons (de_var 3) (da_cons (de_add (de_mod (de_toInt rfl T.b_int (de_add (de_mul (de_mod (de_toInt rfl T.b_int (de_var 2)) de_int) de_int) (de_mul de_int (de_var 1)))) de_int) de_int) da_nil))))))))
abbrev s__law_take : Stmt := (top 34)
abbrev N__law_take : List Str := ["box", "many", "got"]
theorem sc__law_take : FnScope N__law_take ["box", "many"] (defScope s__law_take) := ⟨rfl, rfl, rfl, by decide +kernel, rfl, by decide +kernel, by decide +kernel⟩
def g__law_take : Fs := (sSeq (sIf (eT (eBin fGt (eBin fIx (eVar 0) (eC (.int 0))) (eC (.int 0)))) (sSeq (sSet 2 (eBin fMod (eCB (on1 fInt) (aCons (eBin fIx (eVar 0) (eC (.int 0))) aNil)) (eVar 1))) (sSeq (sItem (eVar 0) (eC (.int 0)) (eBin fDivW (eBin fIx (eVar 0) (eC (.int 0))) (eVar 1))) (sRet (eVar 2)))) sNil) (sSeq (sItem (eVar 0) (eC (.int 1)) (eBin fMod (eCB (on1 fInt) (aCons (eBin fAdd (eBin fMul (eBin fIx (eVar 0) (eC (.int 1))) (eC (.int 39373))) (eC (.int 69621))) aNil)) (eC (.int 2147483647)))) (sRet (eBin fMod (eCB (on1 fInt) (aCons (eBin fDiv (eBin fIx (eVar 0) (eC (.int 1))) (eC (.int 8191))) aNil)) (eVar 1)))))
def F__law_take : List D → M D := bodyF 2 3 g__law_take
set_option maxHeartbeats 2000000 in
theorem d__law_take (T : Txt P K mg C_Calls) (At : DefAt K mg "_law_take" s__law_take ["box", "many"]) : DefOk P w K mg base "_law_take" ["box", "many"] 1 F__law_take :=
  def_ok At sc__law_take fun f cdv A outer s H E hr => (dss_cons (ds_if (dt_gt (de_item (de_var 0) de_int) de_int) (dss_cons (ds_set (i := 2) sc__law_take.nd rfl (by first | exact Or.inl rfl | exact Or.inr rfl) (de_mod (de_toInt rfl T.b_int (de_item (de_var 0) de_int)) (de_var 1))) (dss_cons (ds_item (de_var 0) de_int (de_fdivW (de_item (de_var 0) de_int) (de_var 1))) (dss_one (ds_ret (de_var 2))))) dss_nil) (dss_cons (ds_item (de_var 0) de_int (de_mod (de_toInt rfl T.b_int (de_add (de_mul (de_item (de_var 0) de_int) de_int) de_int)) de_int)) (dss_one (ds_ret (de_mod (de_toInt rfl T.b_int (de_fdiv (de_item (de_var 0) de_int) de_int)) (de_var 1))))))
abbrev s__law_pick : Stmt := (top 35)
abbrev N__law_pick : List Str := ["box", "some"]
theorem sc__law_pick : FnScope N__law_pick ["box", "some"] (defScope s__law_pick) := ⟨rfl, rfl, rfl, by decide +kernel, rfl, by decide +kernel, by decide +kernel⟩
def g__law_pick : Fs := (sRet (eBin fIx (eVar 1) (eCB F__law_take (aCons (eVar 0) (aCons (eCB (on1 fLen) (aCons (eVar 1) aNil)) aNil)))))
def F__law_pick : List D → M D := bodyF 2 2 g__law_pick
set_option maxHeartbeats 2000000 in
theorem d__law_pick (T : Txt P K mg C_Calls) (At : DefAt K mg "_law_pick" s__law_pick ["box", "some"]) (D__law_take : DefOk P w K mg base "_law_take" ["box", "many"] 1 F__law_take) : DefOk P w K mg base "_law_pick" ["box", "some"] 2 F__law_pick :=
  def_ok At sc__law_pick fun f cdv A outer s H E hr => (dss_one (ds_ret (de_item (de_var 1) (de_callD D__law_take (hr.mono (by first | decide | omega | (simp only [Nat.add_eq]; omega))) rfl (takes_of rfl rfl rfl rfl) (da_cons (de_var 0) (da_cons (de_len rfl T.b_len (de_var 1)) da_nil))))))
abbrev s__law_all_edges : Stmt := (top 38)
abbrev N__law_all_edges : List Str := ["n", "found", "g", "f"]
theorem sc__law_all_edges : FnScope N__law_all_edges ["n"] (defScope s__law_all_edges) := ⟨rfl, rfl, rfl, by decide +kernel, rfl, by decide +kernel, by decide +kernel⟩
def g__law_all_edges : Fs := (sSeq (sSet 1 (eLst aNil)) (sSeq (sFor (srcRng1 (eVar 0)) (tName 2) (sSet 1 (eBin fAdd (eVar 1) (eLc (srcRng2 (eBin fAdd (eVar 2) (eC (.int 1))) (eVar 0)) [3] (tName 3) (fun _ => M.pure true) (eTup (aCons (eVar 2) (aCons (eVar 3) aNil))))))) (sRet (eVar 1))))
def F__law_all_edges : List D → M D := bodyF 1 4 g__law_all_edges
set_option maxHeartbeats 2000000 in
theorem d__law_all_edges (T : Txt P K mg C_Calls) (At : DefAt K mg "_law_all_edges" s__law_all_edges ["n"]) : DefOk P w K mg base "_law_all_edges" ["n"] 1 F__law_all_edges :=
  def_ok At sc__law_all_edges fun f cdv A outer s H E hr => (dss_cons (ds_set (i := 1) sc__law_all_edges.nd rfl (by first | exact Or.inl rfl | exact Or.inr rfl) (de_lst da_nil)) (dss_cons (ds_for (passes_of rfl) rfl (di_rng1 rfl T.b_range (de_var 0)) (dg_name (i := 2) sc__law_all_edges.nd rfl (by first | exact Or.inl rfl | exact Or.inr rfl)) (dss_one (ds_set (i := 1) sc__law_all_edges.nd rfl (by first | exact Or.inl rfl | exact Or.inr rfl) (de_add (de_var 1) (de_lcI rfl sc__law_all_edges.nd (di_rng2 rfl T.b_range (de_add (de_var 2) de_int) (de_var 0)) (blkOk_by (own := [("f", 3)]) (N := N__law_all_edges) (sc := defScope s__law_all_edges) (by decide +kernel)) tgc_one (fun _ _ _ _ _ => pg_name (i := 3) sc__law_all_edges.nd rfl (by first | exact Or.inl rfl | exact Or.inr rfl)) (fun _ _ _ _ _ => dts_nil) (fun _ _ _ _ _ => (de_tup (da_cons (de_var 2) (da_cons (de_var 3) da_nil))))))))) (dss_one (ds_ret (de_var 1)))))
abbrev s__law_calls : Stmt := (top 39)
abbrev N__law_calls : List Str := ["script", "box", "n", "most", "edge"]
theorem sc__law_calls : FnScope N__law_calls ["script"] (defScope s__law_calls) := ⟨rfl, rfl, rfl, by decide +kernel, rfl, by decide +kernel, by decide +kernel⟩
def g__law_calls : Fs := (sSeq (sSet 1 (eCB F__law_box (aCons (eVar 0) (aCons (eC (.int 0)) aNil)))) (sSeq (sSet 2 (eCB F__law_pick (aCons (eVar 1) (aCons (eLst (aCons (eC (.int 1)) (aCons (eC (.int 2)) (aCons (eC (.int 3)) (aCons (eC (.int 4)) (aCons (eC (.int 4)) (aCons (eC (.int 5)) (aCons (eC (.int 5)) (aCons (eC (.int 5)) aNil))))))))) aNil)))) (sSeq (sSet 3 (eCB F__law_pick (aCons (eVar 1) (aCons (eLst (aCons (eC (.int 1)) (aCons (eC (.int 2)) (aCons (eC (.int 4)) (aCons (eC (.int 9)) aNil))))) aNil)))) (sRet (eTup (aCons (eVar 2) (aCons (eCB (on1 fTuple) (aCons (eLc (srcSeq (eCB F__law_all_edges (aCons (eVar 2) aNil))) [4] (tName 4) (eT (eBin fGt (eCB F__law_take (aCons (eVar 1) (aCons (eBin fAdd (eVar 3) (eC (.int 1))) aNil))) (eC (.int 0)))) (eVar 4)) aNil)) aNil)))))))
def F__law_calls : List D → M D := bodyF 1 5 g__law_calls
set_option maxHeartbeats 2000000 in
theorem d__law_calls (T : Txt P K mg C_Calls) (At : DefAt K mg "_law_calls" s__law_calls ["script"]) (D__law_take : DefOk P w K mg base "_law_take" ["box", "many"] 1 F__law_take) (D__law_all_edges : DefOk P w K mg base "_law_all_edges" ["n"] 1 F__law_all_edges) (D__law_pick : DefOk P w K mg base "_law_pick" ["box", "some"] 2 F__law_pick) (D__law_box : DefOk P w K mg base "_law_box" ["script", "k"] 1 F__law_box) : DefOk P w K mg base "_law_calls" ["script"] 3 F__law_calls :=
  def_ok At sc__law_calls fun f cdv A outer s H E hr => (dss_cons (ds_set (i := 1) sc__law_calls.nd rfl (by first | exact Or.inl rfl | exact Or.inr rfl) (de_callD D__law_box (hr.mono (by first | decide | omega | (simp only [Nat.add_eq]; omega))) rfl (takes_of rfl rfl rfl rfl) (da_cons (de_var 0) (da_cons de_int da_nil)))) (dss_cons (ds_set (i := 2) sc__law_calls.nd rfl (by first | exact Or.inl rfl | exact Or.inr rfl) (de_callD D__law_pick (hr.mono (by first | decide | omega | (simp only [Nat.add_eq]; omega))) rfl (takes_of rfl rfl rfl rfl) (da_cons (de_var 1) (da_cons (de_lst (da_cons de_int (da_cons de_int (da_cons de_int (da_cons de_int (da_cons de_int (da_cons de_int (da_cons de_int (da_cons de_int da_nil))))))))) da_nil)))) (dss_cons (ds_set (i := 3) sc__law_calls.nd rfl (by first | exact Or.inl rfl | exact Or.inr rfl) (de_callD D__law_pick (hr.mono (by first | decide | omega | (simp only [Nat.add_eq]; omega))) rfl (takes_of rfl rfl rfl rfl) (da_cons (de_var 1) (da_cons (de_lst (da_cons de_int (da_cons de_int (da_cons de_int (da_cons de_int da_nil))))) da_nil)))) (dss_one (ds_ret (de_tup (da_cons (de_var 2) (da_cons (de_tuple rfl T.b_tuple (de_lcI rfl sc__law_calls.nd (di_seq (de_callD D__law_all_edges (hr.mono (by first | decide | omega | (simp only [Nat.add_eq]; omega))) rfl (takes_of rfl rfl rfl rfl) (da_cons (de_var 2) da_nil))) (blkOk_by (own := [("edge", 4)]) (N := N__law_calls) (sc := defScope s__law_calls) (by decide +kernel)) tgc_one (fun _ _ _ _ _ => pg_name (i := 4) sc__law_calls.nd rfl (by first | exact Or.inl rfl | exact Or.inr rfl)) (fun _ _ _ _ _ => dts_one (dt_gt (de_callD D__law_take (hr.mono (by first | decide | omega | (simp only [Nat.add_eq]; omega))) rfl takes0 (da_cons (de_var 1) (da_cons (de_add (de_var 3) de_int) da_nil))) de_int)) (fun _ _ _ _ _ => (de_var 4)))) da_nil))))))))
abbrev s_is_integer : Stmt := (top 8)
abbrev N_is_integer : List Str := ["value"]
theorem sc_is_integer : FnScope N_is_integer ["value"] (defScope s_is_integer) := ⟨rfl, rfl, rfl, by decide +kernel, rfl, by decide +kernel, by decide +kernel⟩
def g_is_integer : Fs := (sRet (eAnd (eUn (fIsi "int") (eVar 0)) (eNot (eUn (fIsi "bool") (eVar 0)))))
def F_is_integer : List D → M D := bodyF 1 1 g_is_integer
set_option maxHeartbeats 2000000 in
theorem d_is_integer (T : Txt P K mg C_Calls) (At : DefAt K mg "is_integer" s_is_integer ["value"]) : DefOk P w K mg base "is_integer" ["value"] 1 F_is_integer :=
  def_ok At sc_is_integer fun f cdv A outer s H E hr => (dss_one (ds_ret (de_and (de_isi rfl T.b_isinstance rfl T.b_int PyProof.Rows.boot_int (de_var 0)) (de_one (de_not (de_isi rfl T.b_isinstance rfl T.b_bool PyProof.Rows.boot_bool (de_var 0)))))))
abbrev s_is_integer_in : Stmt := (top 9)
abbrev N_is_integer_in : List Str := ["value", "low", "high"]
theorem sc_is_integer_in : FnScope N_is_integer_in ["value", "low", "high"] (defScope s_is_integer_in) := ⟨rfl, rfl, rfl, by decide +kernel, rfl, by decide +kernel, by decide +kernel⟩
def g_is_integer_in : Fs := (sRet (eAnd (eCB F_is_integer (aCons (eVar 0) aNil)) (eChain fLe fLe (eVar 1) (eVar 0) (eVar 2))))
def F_is_integer_in : List D → M D := bodyF 3 3 g_is_integer_in
set_option maxHeartbeats 2000000 in
theorem d_is_integer_in (T : Txt P K mg C_Calls) (At : DefAt K mg "is_integer_in" s_is_integer_in ["value", "low", "high"]) (D_is_integer : DefOk P w K mg base "is_integer" ["value"] 1 F_is_integer) : DefOk P w K mg base "is_integer_in" ["value", "low", "high"] 2 F_is_integer_in :=
  def_ok At sc_is_integer_in fun f cdv A outer s H E hr => (dss_one (ds_ret (de_and (de_callD D_is_integer (hr.mono (by first | decide | omega | (simp only [Nat.add_eq]; omega))) rfl (takes_of rfl rfl rfl rfl) (da_cons (de_var 0) da_nil)) (de_one (de_chain op_le op_le (ok_int0 fun _ _ _ => .bl _) (ok_int0 fun _ _ _ => .bl _) (de_var 1) (de_var 0) (de_var 2))))))
abbrev s_is_ascending : Stmt := (top 13)
abbrev N_is_ascending : List Str := ["members", "one", "other"]
theorem sc_is_ascending : FnScope N_is_ascending ["members"] (defScope s_is_ascending) := ⟨rfl, rfl, rfl, by decide +kernel, rfl, by decide +kernel, by decide +kernel⟩
def g_is_ascending : Fs := (sRet (eCB (on1 fAll) (aCons (eLc (srcZip2 (eVar 0) (eSl (eVar 0) (oSome (eC (.int 1))) oNone)) [1, 2] (tTupT 2 (tsCons (tName 1) (tsCons (tName 2) tsNil))) (fun _ => M.pure true) (eBin fLtD (eVar 1) (eVar 2))) aNil)))
def F_is_ascending : List D → M D := bodyF 1 3 g_is_ascending
set_option maxHeartbeats 2000000 in
theorem d_is_ascending (T : Txt P K mg C_Calls) (At : DefAt K mg "is_ascending" s_is_ascending ["members"]) : DefOk P w K mg base "is_ascending" ["members"] 1 F_is_ascending :=
  def_ok At sc_is_ascending fun f cdv A outer s H E hr => (dss_one (ds_ret (de_all rfl T.b_all rfl (de_lcI rfl sc_is_ascending.nd (di_zip rfl T.b_zip (de_var 0) (de_slice (de_var 0) (do_some de_int) do_none)) (blkOk_by (own := [("one", 1), ("other", 2)]) (N := N_is_ascending) (sc := defScope s_is_ascending) (by decide +kernel)) tgc_two (fun _ _ _ _ _ => pg_tup rfl (pgs_cons (pg_name (i := 1) sc_is_ascending.nd rfl (by first | exact Or.inl rfl | exact Or.inr rfl)) (pgs_cons (pg_name (i := 2) sc_is_ascending.nd rfl (by first | exact Or.inl rfl | exact Or.inr rfl)) pgs_nil))) (fun _ _ _ _ _ => dts_nil) (fun _ _ _ _ _ => (de_ltD hr.units (de_var 1) (de_var 2)))))))
abbrev s_is_pair : Stmt := (top 10)
abbrev N_is_pair : List Str := ["value"]
theorem sc_is_pair : FnScope N_is_pair ["value"] (defScope s_is_pair) := ⟨rfl, rfl, rfl, by decide +kernel, rfl, by decide +kernel, by decide +kernel⟩
def g_is_pair : Fs := (sRet (eAnd (eUn (fIsi "tuple") (eVar 0)) (eBin (fEq false) (eCB (on1 fLen) (aCons (eVar 0) aNil)) (eC (.int 2)))))
def F_is_pair : List D → M D := bodyF 1 1 g_is_pair
set_option maxHeartbeats 2000000 in
theorem d_is_pair (T : Txt P K mg C_Calls) (At : DefAt K mg "is_pair" s_is_pair ["value"]) : DefOk P w K mg base "is_pair" ["value"] 1 F_is_pair :=
  def_ok At sc_is_pair fun f cdv A outer s H E hr => (dss_one (ds_ret (de_and (de_isi rfl T.b_isinstance rfl T.b_tuple PyProof.Rows.boot_tuple (de_var 0)) (de_one (de_eq hr.units (de_len rfl T.b_len (de_var 0)) de_int)))))
abbrev s_is_upward_pair : Stmt := (top 11)
abbrev N_is_upward_pair : List Str := ["many", "value"]
theorem sc_is_upward_pair : FnScope N_is_upward_pair ["many", "value"] (defScope s_is_upward_pair) := ⟨rfl, rfl, rfl, by decide +kernel, rfl, by decide +kernel, by decide +kernel⟩
def g_is_upward_pair : Fs := (sRet (eAnd (eCB F_is_pair (aCons (eVar 1) aNil)) (eAnd (eCB F_is_integer_in (aCons (eBin fIx (eVar 1) (eC (.int 0))) (aCons (eC (.int 0)) (aCons (eBin fSub (eVar 0) (eC (.int 1))) aNil)))) (eAnd (eCB F_is_integer_in (aCons (eBin fIx (eVar 1) (eC (.int 1))) (aCons (eC (.int 0)) (aCons (eBin fSub (eVar 0) (eC (.int 1))) aNil)))) (eBin fLt (eBin fIx (eVar 1) (eC (.int 0))) (eBin fIx (eVar 1) (eC (.int 1))))))))
def F_is_upward_pair : List D → M D := bodyF 2 2 g_is_upward_pair
set_option maxHeartbeats 2000000 in
theorem d_is_upward_pair (T : Txt P K mg C_Calls) (At : DefAt K mg "is_upward_pair" s_is_upward_pair ["many", "value"]) (D_is_integer_in : DefOk P w K mg base "is_integer_in" ["value", "low", "high"] 2 F_is_integer_in) (D_is_pair : DefOk P w K mg base "is_pair" ["value"] 1 F_is_pair) : DefOk P w K mg base "is_upward_pair" ["many", "value"] 3 F_is_upward_pair :=
  def_ok At sc_is_upward_pair fun f cdv A outer s H E hr => (dss_one (ds_ret (de_and (de_callD D_is_pair (hr.mono (by first | decide | omega | (simp only [Nat.add_eq]; omega))) rfl (takes_of rfl rfl rfl rfl) (da_cons (de_var 1) da_nil)) (de_and (de_callD D_is_integer_in (hr.mono (by first | decide | omega | (simp only [Nat.add_eq]; omega))) rfl (takes_of rfl rfl rfl rfl) (da_cons (de_item (de_var 1) de_int) (da_cons de_int (da_cons (de_sub (de_var 0) de_int) da_nil)))) (de_and (de_callD D_is_integer_in (hr.mono (by first | decide | omega | (simp only [Nat.add_eq]; omega))) rfl (takes_of rfl rfl rfl rfl) (da_cons (de_item (de_var 1) de_int) (da_cons de_int (da_cons (de_sub (de_var 0) de_int) da_nil)))) (de_one (de_lt (de_item (de_var 1) de_int) (de_item (de_var 1) de_int))))))))
abbrev s_are_upward_pairs : Stmt := (top 12)
abbrev N_are_upward_pairs : List Str := ["many", "value", "pair"]
theorem sc_are_upward_pairs : FnScope N_are_upward_pairs ["many", "value"] (defScope s_are_upward_pairs) := ⟨rfl, rfl, rfl, by decide +kernel, rfl, by decide +kernel, by decide +kernel⟩
def g_are_upward_pairs : Fs := (sRet (eAnd (eUn (fIsi "tuple") (eVar 1)) (eAnd (eCB (on1 fAll) (aCons (eLc (srcSeq (eVar 1)) [2] (tName 2) (fun _ => M.pure true) (eCB F_is_upward_pair (aCons (eVar 0) (aCons (eVar 2) aNil)))) aNil)) (eCB F_is_ascending (aCons (eVar 1) aNil)))))
def F_are_upward_pairs : List D → M D := bodyF 2 3 g_are_upward_pairs
set_option maxHeartbeats 2000000 in
theorem d_are_upward_pairs (T : Txt P K mg C_Calls) (At : DefAt K mg "are_upward_pairs" s_are_upward_pairs ["many", "value"]) (D_is_ascending : DefOk P w K mg base "is_ascending" ["members"] 1 F_is_ascending) (D_is_upward_pair : DefOk P w K mg base "is_upward_pair" ["many", "value"] 3 F_is_upward_pair) : DefOk P w K mg base "are_upward_pairs" ["many", "value"] 4 F_are_upward_pairs :=
  def_ok At sc_are_upward_pairs fun f cdv A outer s H E hr => (dss_one (ds_ret (de_and (de_isi rfl T.b_isinstance rfl T.b_tuple PyProof.Rows.boot_tuple (de_var 1)) (de_and (de_all rfl T.b_all rfl (de_lcI rfl sc_are_upward_pairs.nd (di_seq (de_var 1)) (blkOk_by (own := [("pair", 2)]) (N := N_are_upward_pairs) (sc := defScope s_are_upward_pairs) (by decide +kernel)) tgc_one (fun _ _ _ _ _ => pg_name (i := 2) sc_are_upward_pairs.nd rfl (by first | exact Or.inl rfl | exact Or.inr rfl)) (fun _ _ _ _ _ => dts_nil) (fun _ _ _ _ _ => (de_callD D_is_upward_pair (hr.mono (by first | decide | omega | (simp only [Nat.add_eq]; omega))) rfl takes0 (da_cons (de_var 0) (da_cons (de_var 2) da_nil)))))) (de_one (de_callD D_is_ascending (hr.mono (by first | decide | omega | (simp only [Nat.add_eq]; omega))) rfl (takes_of rfl rfl rfl rfl) (da_cons (de_var 1) da_nil)))))))
abbrev s_m_Callsdd_initdd : Stmt := (inClass (top 16) 0)
abbrev N_m_Callsdd_initdd : List Str := ["self", "functions", "edges", "g", "f"]
theorem sc_m_Callsdd_initdd : FnScope N_m_Callsdd_initdd ["self", "functions", "edges"] (defScope s_m_Callsdd_initdd) := ⟨rfl, rfl, rfl, by decide +kernel, rfl, by decide +kernel, by decide +kernel⟩
def g_m_Callsdd_initdd : Fs := (sSeq (sIf (bNot (eT (eCB F_is_integer_in (aCons (eVar 1) (aCons (eC (.int 1)) (aCons (eC (.int 5)) aNil)))))) (sRaise "InvalidNumber" "value" (eVar 1)) sNil) (sSeq (sIf (bNot (eT (eCB F_are_upward_pairs (aCons (eVar 1) (aCons (eVar 2) aNil))))) (sRaise "InvalidEdges" "value" (eVar 2)) sNil) (sSeq (sFld "Calls" "functions" (eVar 0) (eCB (on1 fInt) (aCons (eVar 1) aNil))) (sFld "Calls" "edges" (eVar 0) (eCB (on1 fTuple) (aCons (eLc (srcSeq (eVar 2)) [3, 4] (tTupT 2 (tsCons (tName 3) (tsCons (tName 4) tsNil))) (fun _ => M.pure true) (eTup (aCons (eCB (on1 fInt) (aCons (eVar 3) aNil)) (aCons (eCB (on1 fInt) (aCons (eVar 4) aNil)) aNil)))) aNil))))))
def F_m_Callsdd_initdd : List D → M D := bodyF 3 5 g_m_Callsdd_initdd
set_option maxHeartbeats 2000000 in
theorem d_m_Callsdd_initdd (T : Txt P K mg C_Calls) (At : MethAt K C_Calls "__init__" "Calls.__init__" s_m_Callsdd_initdd ["self", "functions", "edges"]) (D_are_upward_pairs : DefOk P w K mg base "are_upward_pairs" ["many", "value"] 4 F_are_upward_pairs) (D_is_integer_in : DefOk P w K mg base "is_integer_in" ["value", "low", "high"] 2 F_is_integer_in) : MethOk P w K mg base C_Calls "__init__" ["self", "functions", "edges"] 5 F_m_Callsdd_initdd :=
  meth_ok At sc_m_Callsdd_initdd fun f cdv A outer s H E hr => (dss_cons (ds_if (dt_not (dt_val (de_callD D_is_integer_in (hr.mono (by first | decide | omega | (simp only [Nat.add_eq]; omega))) rfl (takes_of rfl rfl rfl rfl) (da_cons (de_var 1) (da_cons de_int (da_cons (de_globE rfl T.c_MOST_FUNCTIONS) da_nil)))))) (dss_one (ds_raise rfl T.x_InvalidNumber hr (takes_of rfl rfl rfl rfl) (de_var 1))) dss_nil) (dss_cons (ds_if (dt_not (dt_val (de_callD D_are_upward_pairs (hr.mono (by first | decide | omega | (simp only [Nat.add_eq]; omega))) rfl (takes_of rfl rfl rfl rfl) (da_cons (de_var 1) (da_cons (de_var 2) da_nil))))) (dss_one (ds_raise rfl T.x_InvalidEdges hr (takes_of rfl rfl rfl rfl) (de_var 2))) dss_nil) (dss_cons (ds_fld T.g_Calls T.cl_Calls T.n_Calls_functions (de_var 0) (de_toInt rfl T.b_int (de_var 1))) (dss_one (ds_fld T.g_Calls T.cl_Calls T.n_Calls_edges (de_var 0) (de_tuple rfl T.b_tuple (de_lcI rfl sc_m_Callsdd_initdd.nd (di_seq (de_var 2)) (blkOk_by (own := [("g", 3), ("f", 4)]) (N := N_m_Callsdd_initdd) (sc := defScope s_m_Callsdd_initdd) (by decide +kernel)) tgc_two (fun _ _ _ _ _ => pg_tup rfl (pgs_cons (pg_name (i := 3) sc_m_Callsdd_initdd.nd rfl (by first | exact Or.inl rfl | exact Or.inr rfl)) (pgs_cons (pg_name (i := 4) sc_m_Callsdd_initdd.nd rfl (by first | exact Or.inl rfl | exact Or.inr rfl)) pgs_nil))) (fun _ _ _ _ _ => dts_nil) (fun _ _ _ _ _ => (de_tup (da_cons (de_toInt rfl T.b_int (de_var 3)) (da_cons (de_toInt rfl T.b_int (de_var 4)) da_nil)))))))))))
abbrev s__law_made : Stmt := (top 43)
abbrev N__law_made : List Str := ["calls"]
theorem sc__law_made : FnScope N__law_made ["calls"] (defScope s__law_made) := ⟨rfl, rfl, rfl, by decide +kernel, rfl, by decide +kernel, by decide +kernel⟩
def g__law_made : Fs := (sRet (eCB (kMake "Calls" F_m_Callsdd_initdd) (aCons (eBin fIx (eVar 0) (eC (.int 0))) (aCons (eBin fIx (eVar 0) (eC (.int 1))) aNil))))
def F__law_made : List D → M D := bodyF 1 1 g__law_made
set_option maxHeartbeats 2000000 in
theorem d__law_made (T : Txt P K mg C_Calls) (At : DefAt K mg "_law_made" s__law_made ["calls"]) (D_m_Callsdd_initdd : MethOk P w K mg base C_Calls "__init__" ["self", "functions", "edges"] 5 F_m_Callsdd_initdd) : DefOk P w K mg base "_law_made" ["calls"] 7 F__law_made :=
  def_ok At sc__law_made fun f cdv A outer s H E hr => (dss_one (ds_ret (de_makeD T.g_Calls T.mk_Calls D_m_Callsdd_initdd (hr.mono (by first | decide | omega | (simp only [Nat.add_eq]; omega))) rfl (takes_of rfl rfl rfl rfl) (da_cons (de_item (de_var 0) de_int) (da_cons (de_item (de_var 0) de_int) da_nil)))))
abbrev s__law_run_values : Stmt := (top 45)
abbrev N__law_run_values : List Str := ["calls", "values"]
theorem sc__law_run_values : FnScope N__law_run_values ["calls"] (defScope s__law_run_values) := ⟨rfl, rfl, rfl, by decide +kernel, rfl, by decide +kernel, by decide +kernel⟩
def g__law_run_values : Fs := (sSeq (sSet 1 (eLst (aCons (eTup aNil) (aCons (eTup (aCons (eC (.int 0)) aNil)) (aCons (eTup (aCons (eC (.int 0)) (aCons (eTup aNil) aNil))) (aCons (eTup (aCons (eC (.int 0)) (aCons (eTup (aCons (eC (.int 1)) aNil)) aNil))) (aCons (eTup (aCons (eC (.int 0)) (aCons (eTup (aCons (eC (.int 0)) aNil)) aNil))) (aCons (eTup (aCons (eC (.int 0)) (aCons (eTup (aCons (eUn fNeg (eC (.int 1))) aNil)) aNil))) (aCons (eTup (aCons (eC (.int 0)) (aCons (eTup (aCons (eC (.bool true)) aNil)) aNil))) (aCons (eTup (aCons (eC (.int 0)) (aCons (eTup (aCons (eC .none) aNil)) aNil))) (aCons (eLst (aCons (eC (.int 0)) (aCons (eTup aNil) aNil))) (aCons (eTup (aCons (eC (.int 0)) (aCons (eLst (aCons (eC (.int 1)) aNil)) aNil))) (aCons (eTup (aCons (eC (.int 1)) (aCons (eTup aNil) aNil))) (aCons (eC .none) (aCons (eC (.int 0)) aNil))))))))))))))) (sSeq (sSet 1 (eBin fAdd (eVar 1) (eLst (aCons (eTup (aCons (eC (.int 0)) (aCons (eTup (aCons (eTup (aCons (eC (.int 0)) (aCons (eTup aNil) aNil))) aNil)) aNil))) (aCons (eTup (aCons (eC (.int 0)) (aCons (eTup (aCons (eTup (aCons (eBin fIx (eVar 0) (eC (.int 0))) (aCons (eTup aNil) aNil))) aNil)) aNil))) (aCons (eTup (aCons (eC (.bool true)) (aCons (eTup aNil) aNil))) (aCons (eTup (aCons (eC (.int 0)) (aCons (eTup (aCons (eTup aNil) aNil)) aNil))) (aCons (eTup (aCons (eC (.int 0)) (aCons (eTup (aCons (eC (.str "1")) aNil)) aNil))) (aCons (eTup (aCons (eC (.int 0)) (aCons (eBin fRepT (eTup (aCons (eC (.int 1)) aNil)) (eC (.int 400))) aNil))) (aCons (eTup (aCons (eC (.int 0)) (aCons (eBin fRepT (eTup (aCons (eC (.int 1)) aNil)) (eC (.int 401))) aNil))) aNil)))))))))) (sSeq (sSet 1 (eBin fAdd (eVar 1) (eLst (aCons (eTup (aCons (eC (.int 0)) (aCons (eTup (aCons (eC (.int 999999)) aNil)) aNil))) (aCons (eTup (aCons (eC (.int 0)) (aCons (eTup (aCons (eC (.int 1000000)) aNil)) aNil))) (aCons (eTup (aCons (eC (.int 0)) (aCons (eTup (aCons (eC (.int 999998)) (aCons (eC (.int 1)) aNil))) aNil))) (aCons (eTup (aCons (eC (.int 0)) (aCons (eTup (aCons (eC (.int 999999)) (aCons (eC (.int 1)) aNil))) aNil))) (aCons (eTup (aCons (eC (.int 0)) (aCons (eTup (aCons (eC (.int 500000)) (aCons (eC (.int 500000)) aNil))) aNil))) aNil)))))))) (sSeq (sIf (eT (eBin (fIn false) (eTup (aCons (eC (.int 0)) (aCons (eC (.int 1)) aNil))) (eBin fIx (eVar 0) (eC (.int 1))))) (sSeq (sSet 1 (eBin fAdd (eVar 1) (eLst (aCons (eTup (aCons (eC (.int 0)) (aCons (eBin fRepT (eTup (aCons (eTup (aCons (eC (.int 1)) (aCons (eTup aNil) aNil))) aNil)) (eC (.int 199))) aNil))) (aCons (eTup (aCons (eC (.int 0)) (aCons (eBin fRepT (eTup (aCons (eTup (aCons (eC (.int 1)) (aCons (eTup aNil) aNil))) aNil)) (eC (.int 200))) aNil))) (aCons (eTup (aCons (eC (.int 0)) (aCons (eBin fAdd (eBin fRepT (eTup (aCons (eTup (aCons (eC (.int 1)) (aCons (eTup (aCons (eC (.int 5000)) aNil)) aNil))) aNil)) (eC (.int 199))) (eTup (aCons (eC (.int 4999)) aNil))) aNil))) (aCons (eTup (aCons (eC (.int 0)) (aCons (eBin fAdd (eBin fRepT (eTup (aCons (eTup (aCons (eC (.int 1)) (aCons (eTup (aCons (eC (.int 5000)) aNil)) aNil))) aNil)) (eC (.int 199))) (eTup (aCons (eC (.int 5000)) aNil))) aNil))) aNil))))))) (sSet 1 (eBin fAdd (eVar 1) (eLst (aCons (eTup (aCons (eC (.int 0)) (aCons (eTup (aCons (eTup (aCons (eC (.int 1)) (aCons (eTup (aCons (eC (.int 500000)) aNil)) aNil))) (aCons (eTup (aCons (eC (.int 1)) (aCons (eTup (aCons (eC (.int 499999)) aNil)) aNil))) aNil))) aNil))) (aCons (eTup (aCons (eC (.int 0)) (aCons (eTup (aCons (eTup (aCons (eC (.int 1)) (aCons (eTup (aCons (eC (.int 500000)) aNil)) aNil))) (aCons (eTup (aCons (eC (.int 1)) (aCons (eTup (aCons (eC (.int 500000)) aNil)) aNil))) aNil))) aNil))) aNil)))))) sNil) (sSeq (sIf (bAnd (eT (eBin (fIn false) (eTup (aCons (eC (.int 0)) (aCons (eC (.int 1)) aNil))) (eBin fIx (eVar 0) (eC (.int 1))))) (eT (eBin (fIn false) (eTup (aCons (eC (.int 1)) (aCons (eC (.int 2)) aNil))) (eBin fIx (eVar 0) (eC (.int 1)))))) (sSet 1 (eBin fAdd (eVar 1) (eLst (aCons (eTup (aCons (eC (.int 0)) (aCons (eTup (aCons (eTup (aCons (eC (.int 1)) (aCons (eBin fRepT (eTup (aCons (eTup (aCons (eC (.int 2)) (aCons (eTup aNil) aNil))) aNil)) (eC (.int 198))) aNil))) aNil)) aNil))) (aCons (eTup (aCons (eC (.int 0)) (aCons (eTup (aCons (eTup (aCons (eC (.int 1)) (aCons (eBin fRepT (eTup (aCons (eTup (aCons (eC (.int 2)) (aCons (eTup aNil) aNil))) aNil)) (eC (.int 199))) aNil))) aNil)) aNil))) (aCons (eTup (aCons (eC (.int 0)) (aCons (eTup (aCons (eTup (aCons (eC (.int 1)) (aCons (eTup (aCons (eTup (aCons (eC (.int 2)) (aCons (eTup (aCons (eC (.int 900000)) aNil)) aNil))) (aCons (eC (.int 99999)) aNil))) aNil))) aNil)) aNil))) (aCons (eTup (aCons (eC (.int 0)) (aCons (eTup (aCons (eTup (aCons (eC (.int 1)) (aCons (eTup (aCons (eTup (aCons (eC (.int 2)) (aCons (eTup (aCons (eC (.int 900000)) aNil)) aNil))) (aCons (eC (.int 100000)) aNil))) aNil))) aNil)) aNil))) aNil))))))) sNil) (sRet (eVar 1)))))))
def F__law_run_values : List D → M D := bodyF 1 2 g__law_run_values
set_option maxHeartbeats 2000000 in
theorem d__law_run_values (T : Txt P K mg C_Calls) (At : DefAt K mg "_law_run_values" s__law_run_values ["calls"]) : DefOk P w K mg base "_law_run_values" ["calls"] 1 F__law_run_values :=
  def_ok At sc__law_run_values fun f cdv A outer s H E hr => (dss_cons (ds_set (i := 1) sc__law_run_values.nd rfl (by first | exact Or.inl rfl | exact Or.inr rfl) (de_lst (da_cons (de_tup da_nil) (da_cons (de_tup (da_cons de_int da_nil)) (da_cons (de_tup (da_cons de_int (da_cons (de_tup da_nil) da_nil))) (da_cons (de_tup (da_cons de_int (da_cons (de_tup (da_cons de_int da_nil)) da_nil))) (da_cons (de_tup (da_cons de_int (da_cons (de_tup (da_cons de_int da_nil)) da_nil))) (da_cons (de_tup (da_cons de_int (da_cons (de_tup (da_cons (de_neg de_int) da_nil)) da_nil))) (da_cons (de_tup (da_cons de_int (da_cons (de_tup (da_cons de_bl da_nil)) da_nil))) (da_cons (de_tup (da_cons de_int (da_cons (de_tup (da_cons de_non da_nil)) da_nil))) (da_cons (de_lst (da_cons de_int (da_cons (de_tup da_nil) da_nil))) (da_cons (de_tup (da_cons de_int (da_cons (de_lst (da_cons de_int da_nil)) da_nil))) (da_cons (de_tup (da_cons de_int (da_cons (de_tup da_nil) da_nil))) (da_cons de_non (da_cons de_int da_nil))))))))))))))) (dss_cons (ds_set (i := 1) sc__law_run_values.nd rfl (by first | exact Or.inl rfl | exact Or.inr rfl) (de_add (de_var 1) (de_lst (da_cons (de_tup (da_cons de_int (da_cons (de_tup (da_cons (de_tup (da_cons de_int (da_cons (de_tup da_nil) da_nil))) da_nil)) da_nil))) (da_cons (de_tup (da_cons de_int (da_cons (de_tup (da_cons (de_tup (da_cons (de_item (de_var 0) de_int) (da_cons (de_tup da_nil) da_nil))) da_nil)) da_nil))) (da_cons (de_tup (da_cons de_bl (da_cons (de_tup da_nil) da_nil))) (da_cons (de_tup (da_cons de_int (da_cons (de_tup (da_cons (de_tup da_nil) da_nil)) da_nil))) (da_cons (de_tup (da_cons de_int (da_cons (de_tup (da_cons de_str da_nil)) da_nil))) (da_cons (de_tup (da_cons de_int (da_cons (de_repT (de_tup (da_cons de_int da_nil)) de_int) da_nil))) (da_cons (de_tup (da_cons de_int (da_cons (de_repT (de_tup (da_cons de_int da_nil)) de_int) da_nil))) da_nil)))))))))) (dss_cons (ds_set (i := 1) sc__law_run_values.nd rfl (by first | exact Or.inl rfl | exact Or.inr rfl) (de_add (de_var 1) (de_lst (da_cons (de_tup (da_cons de_int (da_cons (de_tup (da_cons de_int da_nil)) da_nil))) (da_cons (de_tup (da_cons de_int (da_cons (de_tup (da_cons de_int da_nil)) da_nil))) (da_cons (de_tup (da_cons de_int (da_cons (de_tup (da_cons de_int (da_cons de_int da_nil))) da_nil))) (da_cons (de_tup (da_cons de_int (da_cons (de_tup (da_cons de_int (da_cons de_int da_nil))) da_nil))) (da_cons (de_tup (da_cons de_int (da_cons (de_tup (da_cons de_int (da_cons de_int da_nil))) da_nil))) da_nil)))))))) (dss_cons (ds_if (dt_in (hu65 hr) (de_tup (da_cons de_int (da_cons de_int da_nil))) (de_item (de_var 0) de_int)) (dss_cons (ds_set (i := 1) sc__law_run_values.nd rfl (by first | exact Or.inl rfl | exact Or.inr rfl) (de_add (de_var 1) (de_lst (da_cons (de_tup (da_cons de_int (da_cons (de_repT (de_tup (da_cons (de_tup (da_cons de_int (da_cons (de_tup da_nil) da_nil))) da_nil)) de_int) da_nil))) (da_cons (de_tup (da_cons de_int (da_cons (de_repT (de_tup (da_cons (de_tup (da_cons de_int (da_cons (de_tup da_nil) da_nil))) da_nil)) de_int) da_nil))) (da_cons (de_tup (da_cons de_int (da_cons (de_add (de_repT (de_tup (da_cons (de_tup (da_cons de_int (da_cons (de_tup (da_cons de_int da_nil)) da_nil))) da_nil)) de_int) (de_tup (da_cons de_int da_nil))) da_nil))) (da_cons (de_tup (da_cons de_int (da_cons (de_add (de_repT (de_tup (da_cons (de_tup (da_cons de_int (da_cons (de_tup (da_cons de_int da_nil)) da_nil))) da_nil)) de_int) (de_tup (da_cons de_int da_nil))) da_nil))) da_nil))))))) (dss_one (ds_set (i := 1) sc__law_run_values.nd rfl (by first | exact Or.inl rfl | exact Or.inr rfl) (de_add (de_var 1) (de_lst (da_cons (de_tup (da_cons de_int (da_cons (de_tup (da_cons (de_tup (da_cons de_int (da_cons (de_tup (da_cons de_int da_nil)) da_nil))) (da_cons (de_tup (da_cons de_int (da_cons (de_tup (da_cons de_int da_nil)) da_nil))) da_nil))) da_nil))) (da_cons (de_tup (da_cons de_int (da_cons (de_tup (da_cons (de_tup (da_cons de_int (da_cons (de_tup (da_cons de_int da_nil)) da_nil))) (da_cons (de_tup (da_cons de_int (da_cons (de_tup (da_cons de_int da_nil)) da_nil))) da_nil))) da_nil))) da_nil))))))) dss_nil) (dss_cons (ds_if (DW.dt (dw_and (dt_in (hu65 hr) (de_tup (da_cons de_int (da_cons de_int da_nil))) (de_item (de_var 0) de_int)) (dw_and1 (dt_in (hu65 hr) (de_tup (da_cons de_int (da_cons de_int da_nil))) (de_item (de_var 0) de_int))))) (dss_one (ds_set (i := 1) sc__law_run_values.nd rfl (by first | exact Or.inl rfl | exact Or.inr rfl) (de_add (de_var 1) (de_lst (da_cons (de_tup (da_cons de_int (da_cons (de_tup (da_cons (de_tup (da_cons de_int (da_cons (de_repT (de_tup (da_cons (de_tup (da_cons de_int (da_cons (de_tup da_nil) da_nil))) da_nil)) de_int) da_nil))) da_nil)) da_nil))) (da_cons (de_tup (da_cons de_int (da_cons (de_tup (da_cons (de_tup (da_cons de_int (da_cons (de_repT (de_tup (da_cons (de_tup (da_cons de_int (da_cons (de_tup da_nil) da_nil))) da_nil)) de_int) da_nil))) da_nil)) da_nil))) (da_cons (de_tup (da_cons de_int (da_cons (de_tup (da_cons (de_tup (da_cons de_int (da_cons (de_tup (da_cons (de_tup (da_cons de_int (da_cons (de_tup (da_cons de_int da_nil)) da_nil))) (da_cons de_int da_nil))) da_nil))) da_nil)) da_nil))) (da_cons (de_tup (da_cons de_int (da_cons (de_tup (da_cons (de_tup (da_cons de_int (da_cons (de_tup (da_cons (de_tup (da_cons de_int (da_cons (de_tup (da_cons de_int da_nil)) da_nil))) (da_cons de_int da_nil))) da_nil))) da_nil)) da_nil))) da_nil)))))))) dss_nil) (dss_one (ds_ret (de_var 1))))))))
abbrev s__law_runs_in : Stmt := (top 41)
abbrev N__law_runs_in : List Str := ["run", "part"]
theorem sc__law_runs_in : FnScope N__law_runs_in ["run"] (defScope s__law_runs_in) := ⟨rfl, rfl, rfl, by decide +kernel, rfl, by decide +kernel, by decide +kernel⟩
def g__law_runs_in (Fself : List D → M D) : Fs := (sRet (eBin fAdd (eC (.int 1)) (eCB (on1 fSum) (aCons (eLc (srcSeq (eBin fIx (eVar 0) (eC (.int 1)))) [1] (tName 1) (eT (eUn (fIsi "tuple") (eVar 1))) (eCB Fself (aCons (eVar 1) aNil))) aNil))))
def F__law_runs_in : Nat → List D → M D
  | 0 => fun _ => M.bad
  | n + 1 => bodyF 1 2 (g__law_runs_in (F__law_runs_in n))
-- recursive: _law_runs_in
set_option maxHeartbeats 2000000 in
theorem d__law_runs_in (T : Txt P K mg C_Calls) (At : DefAt K mg "_law_runs_in" s__law_runs_in ["run"]) : ∀ n : Nat, DefOk P w K mg base "_law_runs_in" ["run"] (1 + n) (F__law_runs_in n)
  | 0 => def_none At
  | n + 1 => by
    have ih := d__law_runs_in T At n
    exact def_ok At sc__law_runs_in fun f cdv A outer s H E hr => (dss_one (ds_ret (de_add de_int (de_sum rfl T.b_sum rfl (de_lcI rfl sc__law_runs_in.nd (di_seq (de_item (de_var 0) de_int)) (blkOk_by (own := [("part", 1)]) (N := N__law_runs_in) (sc := defScope s__law_runs_in) (by decide +kernel)) tgc_one (fun _ _ _ _ _ => pg_name (i := 1) sc__law_runs_in.nd rfl (by first | exact Or.inl rfl | exact Or.inr rfl)) (fun _ _ _ _ _ => dts_one (dt_val (de_isi rfl T.b_isinstance rfl T.b_tuple PyProof.Rows.boot_tuple (de_var 1)))) (fun _ _ _ _ _ => (de_callD ih (hr.mono (by first | decide | omega | (simp only [Nat.add_eq]; omega))) rfl takes0 (da_cons (de_var 1) da_nil))))))))
abbrev s__law_drawn_run : Stmt := (top 40)
abbrev N__law_drawn_run : List Str := ["box", "calls", "function", "room", "wide", "parts", "left", "some", "k", "one", "g", "f"]
theorem sc__law_drawn_run : FnScope N__law_drawn_run ["box", "calls", "function", "room", "wide"] (defScope s__law_drawn_run) := ⟨rfl, rfl, rfl, by decide +kernel, rfl, by decide +kernel, by decide +kernel⟩
def g__law_drawn_run (Fself : List D → M D) : Fs := (sSeq (sSet 5 (eTup aNil)) (sSeq (sSet 6 (eBin fSub (eVar 3) (eC (.int 1)))) (sSeq (sSet 7 (eLc (srcSeq (eBin fIx (eVar 1) (eC (.int 1)))) [10, 11] (tTupT 2 (tsCons (tName 10) (tsCons (tName 11) tsNil))) (eT (eBin (fEq false) (eVar 10) (eVar 2))) (eVar 11))) (sSeq (sFor (srcRng1 (eCB F__law_take (aCons (eVar 0) (aCons (eC (.int 5)) aNil)))) (tName 8) (sIf (bAnd (eT (eBin (fEq true) (eVar 7) (eLst aNil))) (bAnd (eT (eBin fGt (eVar 6) (eC (.int 0)))) (eT (eBin fGt (eCB F__law_take (aCons (eVar 0) (aCons (eC (.int 3)) aNil))) (eC (.int 0)))))) (sSeq (sSet 9 (eCB Fself (aCons (eVar 0) (aCons (eVar 1) (aCons (eCB F__law_pick (aCons (eVar 0) (aCons (eVar 7) aNil))) (aCons (eBin fAdd (eC (.int 1)) (eCB F__law_take (aCons (eVar 0) (aCons (eVar 6) aNil)))) (aCons (eVar 4) aNil))))))) (sSeq (sSet 6 (eBin fSub (eVar 6) (eCB (F__law_runs_in 20) (aCons (eVar 9) aNil)))) (sSet 5 (eBin fAdd (eVar 5) (eTup (aCons (eVar 9) aNil)))))) (sSet 5 (eBin fAdd (eVar 5) (eTup (aCons (eBin fAdd (eC (.int 1)) (eCB F__law_take (aCons (eVar 0) (aCons (eVar 4) aNil)))) aNil)))))) (sRet (eTup (aCons (eVar 2) (aCons (eVar 5) aNil))))))))
def F__law_drawn_run : Nat → List D → M D
  | 0 => fun _ => M.bad
  | n + 1 => bodyF 5 12 (g__law_drawn_run (F__law_drawn_run n))
-- recursive: _law_drawn_run
set_option maxHeartbeats 2000000 in
theorem d__law_drawn_run (T : Txt P K mg C_Calls) (At : DefAt K mg "_law_drawn_run" s__law_drawn_run ["box", "calls", "function", "room", "wide"]) (D__law_take : DefOk P w K mg base "_law_take" ["box", "many"] 1 F__law_take) (D__law_runs_in : DefOk P w K mg base "_law_runs_in" ["run"] 21 (F__law_runs_in 20)) (D__law_pick : DefOk P w K mg base "_law_pick" ["box", "some"] 2 F__law_pick) : ∀ n : Nat, DefOk P w K mg base "_law_drawn_run" ["box", "calls", "function", "room", "wide"] (22 + n) (F__law_drawn_run n)
  | 0 => def_none At
  | n + 1 => by
    have ih := d__law_drawn_run T At D__law_take D__law_runs_in D__law_pick n
    exact def_ok At sc__law_drawn_run fun f cdv A outer s H E hr => (dss_cons (ds_set (i := 5) sc__law_drawn_run.nd rfl (by first | exact Or.inl rfl | exact Or.inr rfl) (de_tup da_nil)) (dss_cons (ds_set (i := 6) sc__law_drawn_run.nd rfl (by first | exact Or.inl rfl | exact Or.inr rfl) (de_sub (de_var 3) de_int)) (dss_cons (ds_setLcI (i := 7) rfl sc__law_drawn_run.nd rfl rfl (sw_true rfl rfl rfl (by decide +kernel)) (di_seq (de_item (de_var 1) de_int)) (blkOk_by (own := [("g", 10), ("f", 11)]) (N := N__law_drawn_run) (sc := defScope s__law_drawn_run) (by decide +kernel)) tgc_two (fun _ _ _ _ _ => pg_tup rfl (pgs_cons (pg_name (i := 10) sc__law_drawn_run.nd rfl (by first | exact Or.inl rfl | exact Or.inr rfl)) (pgs_cons (pg_name (i := 11) sc__law_drawn_run.nd rfl (by first | exact Or.inl rfl | exact Or.inr rfl)) pgs_nil))) (fun _ _ _ _ _ => dts_one (dt_eq hr.units (de_var 10) (de_var 2))) (fun _ _ _ _ _ => (de_var 11))) (dss_cons (ds_for (passes_of rfl) rfl (di_rng1 rfl T.b_range (de_callD D__law_take (hr.mono (by first | decide | omega | (simp only [Nat.add_eq]; omega))) rfl (takes_of rfl rfl rfl rfl) (da_cons (de_var 0) (da_cons de_int da_nil)))) (dg_name (i := 8) sc__law_drawn_run.nd rfl (by first | exact Or.inl rfl | exact Or.inr rfl)) (dss_one (ds_if (DW.dt (dw_and (dt_ne hr.units (de_var 7) (de_lst da_nil)) (dw_and (dt_gt (de_var 6) de_int) (dw_and1 (dt_gt (de_callD D__law_take (hr.mono (by first | decide | omega | (simp only [Nat.add_eq]; omega))) rfl (takes_of rfl rfl rfl rfl) (da_cons (de_var 0) (da_cons de_int da_nil))) de_int))))) (dss_cons (ds_set (i := 9) sc__law_drawn_run.nd rfl (by first | exact Or.inl rfl | exact Or.inr rfl) (de_callD ih (hr.mono (by first | decide | omega | (simp only [Nat.add_eq]; omega))) rfl (takes_of rfl rfl rfl rfl) (da_cons (de_var 0) (da_cons (de_var 1) (da_cons (de_callD D__law_pick (hr.mono (by first | decide | omega | (simp only [Nat.add_eq]; omega))) rfl (takes_of rfl rfl rfl rfl) (da_cons (de_var 0) (da_cons (de_var 7) da_nil))) (da_cons (de_add de_int (de_callD D__law_take (hr.mono (by first | decide | omega | (simp only [Nat.add_eq]; omega))) rfl (takes_of rfl rfl rfl rfl) (da_cons (de_var 0) (da_cons (de_var 6) da_nil)))) (da_cons (de_var 4) da_nil))))))) (dss_cons (ds_set (i := 6) sc__law_drawn_run.nd rfl (by first | exact Or.inl rfl | exact Or.inr rfl) (de_sub (de_var 6) (de_callD D__law_runs_in (hr.mono (by first | decide | omega | (simp only [Nat.add_eq]; omega))) rfl (takes_of rfl rfl rfl rfl) (da_cons (de_var 9) da_nil)))) (dss_one (ds_set (i := 5) sc__law_drawn_run.nd rfl (by first | exact Or.inl rfl | exact Or.inr rfl) (de_add (de_var 5) (de_tup (da_cons (de_var 9) da_nil))))))) (dss_one (ds_set (i := 5) sc__law_drawn_run.nd rfl (by first | exact Or.inl rfl | exact Or.inr rfl) (de_add (de_var 5) (de_tup (da_cons (de_add de_int (de_callD D__law_take (hr.mono (by first | decide | omega | (simp only [Nat.add_eq]; omega))) rfl (takes_of rfl rfl rfl rfl) (da_cons (de_var 0) (da_cons (de_var 4) da_nil)))) da_nil)))))))) (dss_one (ds_ret (de_tup (da_cons (de_var 2) (da_cons (de_var 5) da_nil)))))))))
abbrev s__law_trace : Stmt := (top 44)
abbrev N__law_trace : List Str := ["run", "found", "part"]
theorem sc__law_trace : FnScope N__law_trace ["run"] (defScope s__law_trace) := ⟨rfl, rfl, rfl, by decide +kernel, rfl, by decide +kernel, by decide +kernel⟩
def g__law_trace (Fself : List D → M D) : Fs := (sSeq (sSet 1 (eTup (aCons (eTup (aCons (eC (.str "in")) (aCons (eBin fIx (eVar 0) (eC (.int 0))) aNil))) aNil))) (sSeq (sFor (srcSeq (eBin fIx (eVar 0) (eC (.int 1)))) (tName 2) (sSet 1 (eBin fAdd (eVar 1) (eIf (eT (eUn (fIsi "tuple") (eVar 2))) (eCB Fself (aCons (eVar 2) aNil)) (eTup (aCons (eVar 2) aNil)))))) (sRet (eBin fAdd (eVar 1) (eTup (aCons (eTup (aCons (eC (.str "out")) (aCons (eBin fIx (eVar 0) (eC (.int 0))) aNil))) aNil))))))
def F__law_trace : Nat → List D → M D
  | 0 => fun _ => M.bad
  | n + 1 => bodyF 1 3 (g__law_trace (F__law_trace n))
-- recursive: _law_trace
set_option maxHeartbeats 2000000 in
theorem d__law_trace (T : Txt P K mg C_Calls) (At : DefAt K mg "_law_trace" s__law_trace ["run"]) : ∀ n : Nat, DefOk P w K mg base "_law_trace" ["run"] (1 + n) (F__law_trace n)
  | 0 => def_none At
  | n + 1 => by
    have ih := d__law_trace T At n
    exact def_ok At sc__law_trace fun f cdv A outer s H E hr => (dss_cons (ds_set (i := 1) sc__law_trace.nd rfl (by first | exact Or.inl rfl | exact Or.inr rfl) (de_tup (da_cons (de_tup (da_cons de_str (da_cons (de_item (de_var 0) de_int) da_nil))) da_nil))) (dss_cons (ds_for (passes_of rfl) rfl (di_seq (de_item (de_var 0) de_int)) (dg_name (i := 2) sc__law_trace.nd rfl (by first | exact Or.inl rfl | exact Or.inr rfl)) (dss_one (ds_set (i := 1) sc__law_trace.nd rfl (by first | exact Or.inl rfl | exact Or.inr rfl) (de_add (de_var 1) (de_if (dt_val (de_isi rfl T.b_isinstance rfl T.b_tuple PyProof.Rows.boot_tuple (de_var 2))) (de_callD ih (hr.mono (by first | decide | omega | (simp only [Nat.add_eq]; omega))) rfl (takes_of rfl rfl rfl rfl) (da_cons (de_var 2) da_nil)) (de_tup (da_cons (de_var 2) da_nil))))))) (dss_one (ds_ret (de_add (de_var 1) (de_tup (da_cons (de_tup (da_cons de_str (da_cons (de_item (de_var 0) de_int) da_nil))) da_nil)))))))
abbrev s__law_whole : Stmt := (top 36)
abbrev N__law_whole : List Str := ["value"]
theorem sc__law_whole : FnScope N__law_whole ["value"] (defScope s__law_whole) := ⟨rfl, rfl, rfl, by decide +kernel, rfl, by decide +kernel, by decide +kernel⟩
def g__law_whole : Fs := (sRet (eAnd (eUn (fIsi "int") (eVar 0)) (eNot (eUn (fIsi "bool") (eVar 0)))))
def F__law_whole : List D → M D := bodyF 1 1 g__law_whole
set_option maxHeartbeats 2000000 in
theorem d__law_whole (T : Txt P K mg C_Calls) (At : DefAt K mg "_law_whole" s__law_whole ["value"]) : DefOk P w K mg base "_law_whole" ["value"] 1 F__law_whole :=
  def_ok At sc__law_whole fun f cdv A outer s H E hr => (dss_one (ds_ret (de_and (de_isi rfl T.b_isinstance rfl T.b_int PyProof.Rows.boot_int (de_var 0)) (de_one (de_not (de_isi rfl T.b_isinstance rfl T.b_bool PyProof.Rows.boot_bool (de_var 0)))))))
abbrev s__law_is_run : Stmt := (top 42)
abbrev N__law_is_run : List Str := ["calls", "value", "todo", "number", "ticks", "parts", "turn", "one", "want", "part"]
theorem sc__law_is_run : FnScope N__law_is_run ["calls", "value"] (defScope s__law_is_run) := ⟨rfl, rfl, rfl, by decide +kernel, rfl, by decide +kernel, by decide +kernel⟩
def g__law_is_run : Fs := (sSeq (sSet 2 (eCell (aCons (eTup (aCons (eVar 1) (aCons (eC (.int 0)) aNil))) aNil))) (sSeq (sAsg (eTup (aCons (eC (.int 0)) (aCons (eC (.int 0)) (aCons (eC (.int 0)) aNil)))) (tTupT 3 (tsCons (tName 3) (tsCons (tName 4) (tsCons (tName 5) tsNil))))) (sSeq (sFor (srcRng1 (eC (.int 201))) (tName 6) (sSeq (sIf (eT (eBin fEqNil (eVar 2) (eLst aNil))) (sRet (eAnd (eBin fLe (eVar 4) (eC (.int 999999))) (eBin fLe (eVar 5) (eC (.int 400))))) sNil) (sSeq (sAsg (ePop (eVar 2)) (tTupT 2 (tsCons (tName 7) (tsCons (tName 8) tsNil)))) (sSeq (sSet 3 (eBin fAdd (eVar 3) (eC (.int 1)))) (sSeq (sIf (bOr (eT (eBin fGt (eVar 3) (eC (.int 200)))) (bOr (bNot (eT (eUn (fIsi "tuple") (eVar 7)))) (bOr (eT (eBin (fEq true) (eCB (on1 fLen) (aCons (eVar 7) aNil)) (eC (.int 2)))) (bOr (bNot (eT (eCB F__law_whole (aCons (eBin fIx (eVar 7) (eC (.int 0))) aNil)))) (bOr (eT (eBin (fEq true) (eBin fIx (eVar 7) (eC (.int 0))) (eVar 8))) (bNot (eT (eUn (fIsi "tuple") (eBin fIx (eVar 7) (eC (.int 1))))))))))) (sRet (eC (.bool false))) sNil) (sSeq (sSet 5 (eBin fAdd (eVar 5) (eCB (on1 fLen) (aCons (eBin fIx (eVar 7) (eC (.int 1))) aNil)))) (sFor (srcSeq (eBin fIx (eVar 7) (eC (.int 1)))) (tName 9) (sIf (eT (eUn (fIsi "tuple") (eVar 9))) (sSeq (sIf (bOr (eT (eBin (fEq false) (eVar 9) (eTup aNil))) (bOr (bNot (eT (eCB F__law_whole (aCons (eBin fIx (eVar 9) (eC (.int 0))) aNil)))) (eT (eBin (fIn true) (eTup (aCons (eVar 8) (aCons (eBin fIx (eVar 9) (eC (.int 0))) aNil))) (eBin fIx (eVar 0) (eC (.int 1))))))) (sRet (eC (.bool false))) sNil) (sExpr (eApp (eVar 2) (eTup (aCons (eVar 9) (aCons (eBin fIx (eVar 9) (eC (.int 0))) aNil)))))) (sIf (bOr (bNot (eT (eCB F__law_whole (aCons (eVar 9) aNil)))) (bOr (eT (eBin fLt (eVar 9) (eC (.int 1)))) (eT (eBin fGt (eVar 9) (eC (.int 999999)))))) (sRet (eC (.bool false))) (sSet 4 (eBin fAdd (eVar 4) (eVar 9)))))))))))) (sRet (eC (.bool false))))))
def F__law_is_run : List D → M D := bodyF 2 10 g__law_is_run
set_option maxHeartbeats 2000000 in
theorem d__law_is_run (T : Txt P K mg C_Calls) (At : DefAt K mg "_law_is_run" s__law_is_run ["calls", "value"]) (D__law_whole : DefOk P w K mg base "_law_whole" ["value"] 1 F__law_whole) : DefOk P w K mg base "_law_is_run" ["calls", "value"] 2 F__law_is_run :=
  def_ok At sc__law_is_run fun f cdv A outer s H E hr => (dss_cons (ds_set (i := 2) sc__law_is_run.nd rfl (by first | exact Or.inl rfl | exact Or.inr rfl) (de_cell (da_cons (de_tup (da_cons (de_var 1) (da_cons de_int da_nil))) da_nil))) (dss_cons (ds_asg (de_tup (da_cons de_int (da_cons de_int (da_cons de_int da_nil)))) (dg_tup rfl (dgs_cons (dg_name (i := 3) sc__law_is_run.nd rfl (by first | exact Or.inl rfl | exact Or.inr rfl)) (dgs_cons (dg_name (i := 4) sc__law_is_run.nd rfl (by first | exact Or.inl rfl | exact Or.inr rfl)) (dgs_cons (dg_name (i := 5) sc__law_is_run.nd rfl (by first | exact Or.inl rfl | exact Or.inr rfl)) dgs_nil))))) (dss_cons (ds_for (passes_of rfl) rfl (di_rng1 rfl T.b_range de_int) (dg_name (i := 6) sc__law_is_run.nd rfl (by first | exact Or.inl rfl | exact Or.inr rfl)) (dss_cons (ds_if (dt_eqNil hr.units (de_var 2) (de_lst da_nil)) (dss_one (ds_ret (de_and (de_le (de_var 4) de_int) (de_one (de_le (de_var 5) de_int))))) dss_nil) (dss_cons (ds_asg (de_pop (de_var 2)) (dg_tup rfl (dgs_cons (dg_name (i := 7) sc__law_is_run.nd rfl (by first | exact Or.inl rfl | exact Or.inr rfl)) (dgs_cons (dg_name (i := 8) sc__law_is_run.nd rfl (by first | exact Or.inl rfl | exact Or.inr rfl)) dgs_nil)))) (dss_cons (ds_set (i := 3) sc__law_is_run.nd rfl (by first | exact Or.inl rfl | exact Or.inr rfl) (de_add (de_var 3) de_int)) (dss_cons (ds_if (DW.dt (dw_or (dt_gt (de_var 3) de_int) (dw_or (dt_not (dt_val (de_isi rfl T.b_isinstance rfl T.b_tuple PyProof.Rows.boot_tuple (de_var 7)))) (dw_or (dt_ne hr.units (de_len rfl T.b_len (de_var 7)) de_int) (dw_or (dt_not (dt_val (de_callD D__law_whole (hr.mono (by first | decide | omega | (simp only [Nat.add_eq]; omega))) rfl (takes_of rfl rfl rfl rfl) (da_cons (de_item (de_var 7) de_int) da_nil)))) (dw_or (dt_ne hr.units (de_item (de_var 7) de_int) (de_var 8)) (dw_or1 (dt_not (dt_val (de_isi rfl T.b_isinstance rfl T.b_tuple PyProof.Rows.boot_tuple (de_item (de_var 7) de_int))))))))))) (dss_one (ds_ret de_bl)) dss_nil) (dss_cons (ds_set (i := 5) sc__law_is_run.nd rfl (by first | exact Or.inl rfl | exact Or.inr rfl) (de_add (de_var 5) (de_len rfl T.b_len (de_item (de_var 7) de_int)))) (dss_one (ds_for (passes_of rfl) rfl (di_seq (de_item (de_var 7) de_int)) (dg_name (i := 9) sc__law_is_run.nd rfl (by first | exact Or.inl rfl | exact Or.inr rfl)) (dss_one (ds_if (dt_val (de_isi rfl T.b_isinstance rfl T.b_tuple PyProof.Rows.boot_tuple (de_var 9))) (dss_cons (ds_if (DW.dt (dw_or (dt_eq hr.units (de_var 9) (de_tup da_nil)) (dw_or (dt_not (dt_val (de_callD D__law_whole (hr.mono (by first | decide | omega | (simp only [Nat.add_eq]; omega))) rfl (takes_of rfl rfl rfl rfl) (da_cons (de_item (de_var 9) de_int) da_nil)))) (dw_or1 (dt_notIn (hu65 hr) (de_tup (da_cons (de_var 8) (da_cons (de_item (de_var 9) de_int) da_nil))) (de_item (de_var 0) de_int)))))) (dss_one (ds_ret de_bl)) dss_nil) (dss_one (ds_expr (de_app (de_var 2) (de_tup (da_cons (de_var 9) (da_cons (de_item (de_var 9) de_int) da_nil))))))) (dss_one (ds_if (DW.dt (dw_or (dt_not (dt_val (de_callD D__law_whole (hr.mono (by first | decide | omega | (simp only [Nat.add_eq]; omega))) rfl (takes_of rfl rfl rfl rfl) (da_cons (de_var 9) da_nil)))) (dw_or (dt_lt (de_var 9) de_int) (dw_or1 (dt_gt (de_var 9) de_int))))) (dss_one (ds_ret de_bl)) (dss_one (ds_set (i := 4) sc__law_is_run.nd rfl (by first | exact Or.inl rfl | exact Or.inr rfl) (de_add (de_var 4) (de_var 9)))))))))))))))) (dss_one (ds_ret de_bl)))))
abbrev s__law_read : Stmt := (top 47)
abbrev N__law_read : List Str := ["calls", "value", "open_runs", "done", "event", "last"]
theorem sc__law_read : FnScope N__law_read ["calls", "value"] (defScope s__law_read) := ⟨rfl, rfl, rfl, by decide +kernel, rfl, by decide +kernel, by decide +kernel⟩
def g__law_read : Fs := (sSeq (sIf (bOr (bNot (eT (eUn (fIsi "tuple") (eVar 1)))) (eT (eBin (fEq false) (eVar 1) (eTup aNil)))) (sRet (eC .none)) sNil) (sSeq (sSet 2 (eCell aNil)) (sSeq (sSet 3 (eC .none)) (sSeq (sFor (srcSeq (eVar 1)) (tName 4) (sSeq (sIf (eT (eBin (fIs true) (eVar 3) (eC .none))) (sRet (eC .none)) sNil) (sIf (eT (eUn (fIsi "tuple") (eVar 4))) (sSeq (sIf (bOr (eT (eBin (fEq true) (eCB (on1 fLen) (aCons (eVar 4) aNil)) (eC (.int 2)))) (bOr (bNot (eT (eUn (fIsi "str") (eBin fIx (eVar 4) (eC (.int 0)))))) (bNot (eT (eCB F__law_whole (aCons (eBin fIx (eVar 4) (eC (.int 1))) aNil)))))) (sRet (eC .none)) sNil) (sIf (eT (eBin (fEq false) (eBin fIx (eVar 4) (eC (.int 0))) (eC (.str "in")))) (sExpr (eApp (eVar 2) (eCell (aCons (eBin fIx (eVar 4) (eC (.int 1))) (aCons (eTup aNil) aNil))))) (sIf (bOr (eT (eBin (fEq true) (eBin fIx (eVar 4) (eC (.int 0))) (eC (.str "out")))) (bOr (eT (eBin fEqNil (eVar 2) (eLst aNil))) (eT (eBin (fEq true) (eBin fIx (eBin fIx (eVar 2) (eUn fNeg (eC (.int 1)))) (eC (.int 0))) (eBin fIx (eVar 4) (eC (.int 1))))))) (sRet (eC .none)) (sSeq (sSet 5 (ePop (eVar 2))) (sIf (eT (eBin fEqNil (eVar 2) (eLst aNil))) (sSet 3 (eTup (aCons (eBin fIx (eVar 5) (eC (.int 0))) (aCons (eBin fIx (eVar 5) (eC (.int 1))) aNil)))) (sItem (eBin fIx (eVar 2) (eUn fNeg (eC (.int 1)))) (eC (.int 1)) (eBin fAdd (eBin fIx (eBin fIx (eVar 2) (eUn fNeg (eC (.int 1)))) (eC (.int 1))) (eTup (aCons (eTup (aCons (eBin fIx (eVar 5) (eC (.int 0))) (aCons (eBin fIx (eVar 5) (eC (.int 1))) aNil))) aNil))))))))) (sIf (bOr (eT (eBin fEqNil (eVar 2) (eLst aNil))) (bNot (eT (eCB F__law_whole (aCons (eVar 4) aNil))))) (sRet (eC .none)) (sItem (eBin fIx (eVar 2) (eUn fNeg (eC (.int 1)))) (eC (.int 1)) (eBin fAdd (eBin fIx (eBin fIx (eVar 2) (eUn fNeg (eC (.int 1)))) (eC (.int 1))) (eTup (aCons (eVar 4) aNil)))))))) (sRet (eIf (bAnd (eT (eBin (fIs true) (eVar 3) (eC .none))) (eT (eCB F__law_is_run (aCons (eVar 0) (aCons (eVar 3) aNil))))) (eVar 3) (eC .none)))))))
def F__law_read : List D → M D := bodyF 2 6 g__law_read
set_option maxHeartbeats 2000000 in
theorem d__law_read (T : Txt P K mg C_Calls) (At : DefAt K mg "_law_read" s__law_read ["calls", "value"]) (D__law_is_run : DefOk P w K mg base "_law_is_run" ["calls", "value"] 2 F__law_is_run) (D__law_whole : DefOk P w K mg base "_law_whole" ["value"] 1 F__law_whole) : DefOk P w K mg base "_law_read" ["calls", "value"] 3 F__law_read :=
  def_ok At sc__law_read fun f cdv A outer s H E hr => (dss_cons (ds_if (DW.dt (dw_or (dt_not (dt_val (de_isi rfl T.b_isinstance rfl T.b_tuple PyProof.Rows.boot_tuple (de_var 1)))) (dw_or1 (dt_eq hr.units (de_var 1) (de_tup da_nil))))) (dss_one (ds_ret de_non)) dss_nil) (dss_cons (ds_set (i := 2) sc__law_read.nd rfl (by first | exact Or.inl rfl | exact Or.inr rfl) (de_cell da_nil)) (dss_cons (ds_set (i := 3) sc__law_read.nd rfl (by first | exact Or.inl rfl | exact Or.inr rfl) de_non) (dss_cons (ds_for (passes_of rfl) rfl (di_seq (de_var 1)) (dg_name (i := 4) sc__law_read.nd rfl (by first | exact Or.inl rfl | exact Or.inr rfl)) (dss_cons (ds_if (dt_isNot (de_var 3) de_non) (dss_one (ds_ret de_non)) dss_nil) (dss_one (ds_if (dt_val (de_isi rfl T.b_isinstance rfl T.b_tuple PyProof.Rows.boot_tuple (de_var 4))) (dss_cons (ds_if (DW.dt (dw_or (dt_ne hr.units (de_len rfl T.b_len (de_var 4)) de_int) (dw_or (dt_not (dt_val (de_isi rfl T.b_isinstance rfl T.b_str PyProof.Rows.boot_str (de_item (de_var 4) de_int)))) (dw_or1 (dt_not (dt_val (de_callD D__law_whole (hr.mono (by first | decide | omega | (simp only [Nat.add_eq]; omega))) rfl (takes_of rfl rfl rfl rfl) (da_cons (de_item (de_var 4) de_int) da_nil)))))))) (dss_one (ds_ret de_non)) dss_nil) (dss_one (ds_if (dt_eq hr.units (de_item (de_var 4) de_int) de_str) (dss_one (ds_expr (de_app (de_var 2) (de_cell (da_cons (de_item (de_var 4) de_int) (da_cons (de_tup da_nil) da_nil)))))) (dss_one (ds_if (DW.dt (dw_or (dt_ne hr.units (de_item (de_var 4) de_int) de_str) (dw_or (dt_eqNil hr.units (de_var 2) (de_lst da_nil)) (dw_or1 (dt_ne hr.units (de_item (de_item (de_var 2) (de_neg de_int)) de_int) (de_item (de_var 4) de_int)))))) (dss_one (ds_ret de_non)) (dss_cons (ds_set (i := 5) sc__law_read.nd rfl (by first | exact Or.inl rfl | exact Or.inr rfl) (de_pop (de_var 2))) (dss_one (ds_if (dt_eqNil hr.units (de_var 2) (de_lst da_nil)) (dss_one (ds_set (i := 3) sc__law_read.nd rfl (by first | exact Or.inl rfl | exact Or.inr rfl) (de_tup (da_cons (de_item (de_var 5) de_int) (da_cons (de_item (de_var 5) de_int) da_nil))))) (dss_one (ds_item (de_item (de_var 2) (de_neg de_int)) de_int (de_add (de_item (de_item (de_var 2) (de_neg de_int)) de_int) (de_tup (da_cons (de_tup (da_cons (de_item (de_var 5) de_int) (da_cons (de_item (de_var 5) de_int) da_nil))) da_nil))))))))))))) (dss_one (ds_if (DW.dt (dw_or (dt_eqNil hr.units (de_var 2) (de_lst da_nil)) (dw_or1 (dt_not (dt_val (de_callD D__law_whole (hr.mono (by first | decide | omega | (simp only [Nat.add_eq]; omega))) rfl (takes_of rfl rfl rfl rfl) (da_cons (de_var 4) da_nil))))))) (dss_one (ds_ret de_non)) (dss_one (ds_item (de_item (de_var 2) (de_neg de_int)) de_int (de_add (de_item (de_item (de_var 2) (de_neg de_int)) de_int) (de_tup (da_cons (de_var 4) da_nil))))))))))) (dss_one (ds_ret (de_if (DW.dt (dw_and (dt_isNot (de_var 3) de_non) (dw_and1 (dt_val (de_callD D__law_is_run (hr.mono (by first | decide | omega | (simp only [Nat.add_eq]; omega))) rfl (takes_of rfl rfl rfl rfl) (da_cons (de_var 0) (da_cons (de_var 3) da_nil))))))) (de_var 3) de_non)))))))
abbrev s__looks_like_run : Stmt := (top 25)
abbrev N__looks_like_run : List Str := ["value"]
theorem sc__looks_like_run : FnScope N__looks_like_run ["value"] (defScope s__looks_like_run) := ⟨rfl, rfl, rfl, by decide +kernel, rfl, by decide +kernel, by decide +kernel⟩
def g__looks_like_run : Fs := (sRet (eAnd (eCB F_is_pair (aCons (eVar 0) aNil)) (eAnd (eCB F_is_integer (aCons (eBin fIx (eVar 0) (eC (.int 0))) aNil)) (eUn (fIsi "tuple") (eBin fIx (eVar 0) (eC (.int 1)))))))
def F__looks_like_run : List D → M D := bodyF 1 1 g__looks_like_run
set_option maxHeartbeats 2000000 in
theorem d__looks_like_run (T : Txt P K mg C_Calls) (At : DefAt K mg "_looks_like_run" s__looks_like_run ["value"]) (D_is_integer : DefOk P w K mg base "is_integer" ["value"] 1 F_is_integer) (D_is_pair : DefOk P w K mg base "is_pair" ["value"] 1 F_is_pair) : DefOk P w K mg base "_looks_like_run" ["value"] 2 F__looks_like_run :=
  def_ok At sc__looks_like_run fun f cdv A outer s H E hr => (dss_one (ds_ret (de_and (de_callD D_is_pair (hr.mono (by first | decide | omega | (simp only [Nat.add_eq]; omega))) rfl (takes_of rfl rfl rfl rfl) (da_cons (de_var 0) da_nil)) (de_and (de_callD D_is_integer (hr.mono (by first | decide | omega | (simp only [Nat.add_eq]; omega))) rfl (takes_of rfl rfl rfl rfl) (da_cons (de_item (de_var 0) de_int) da_nil)) (de_one (de_isi rfl T.b_isinstance rfl T.b_tuple PyProof.Rows.boot_tuple (de_item (de_var 0) de_int)))))))
abbrev s__is_ticks : Stmt := (top 26)
abbrev N__is_ticks : List Str := ["value"]
theorem sc__is_ticks : FnScope N__is_ticks ["value"] (defScope s__is_ticks) := ⟨rfl, rfl, rfl, by decide +kernel, rfl, by decide +kernel, by decide +kernel⟩
def g__is_ticks : Fs := (sRet (eCB F_is_integer_in (aCons (eVar 0) (aCons (eC (.int 1)) (aCons (eC (.int 999999)) aNil)))))
def F__is_ticks : List D → M D := bodyF 1 1 g__is_ticks
set_option maxHeartbeats 2000000 in
theorem d__is_ticks (T : Txt P K mg C_Calls) (At : DefAt K mg "_is_ticks" s__is_ticks ["value"]) (D_is_integer_in : DefOk P w K mg base "is_integer_in" ["value", "low", "high"] 2 F_is_integer_in) : DefOk P w K mg base "_is_ticks" ["value"] 3 F__is_ticks :=
  def_ok At sc__is_ticks fun f cdv A outer s H E hr => (dss_one (ds_ret (de_callD D_is_integer_in (hr.mono (by first | decide | omega | (simp only [Nat.add_eq]; omega))) rfl (takes_of rfl rfl rfl rfl) (da_cons (de_var 0) (da_cons de_int (da_cons (de_globE rfl T.c_MOST_TICKS) da_nil))))))
abbrev s__add_events : Stmt := (top 27)
abbrev N__add_events : List Str := ["calls", "run", "events", "function", "part"]
theorem sc__add_events : FnScope N__add_events ["calls", "run", "events"] (defScope s__add_events) := ⟨rfl, rfl, rfl, by decide +kernel, rfl, by decide +kernel, by decide +kernel⟩
def g__add_events (Fself : List D → M D) : Fs := (sSeq (sSet 3 (eCB (on1 fInt) (aCons (eBin fIx (eVar 1) (eC (.int 0))) aNil))) (sSeq (sExpr (eApp (eVar 2) (eTup (aCons (eC (.str "in")) (aCons (eVar 3) aNil))))) (sSeq (sFor (srcSeq (eBin fIx (eVar 1) (eC (.int 1)))) (tName 4) (sSeq (sIf (eT (eBin fGt (eCB (on1 fLen) (aCons (eVar 2) aNil)) (eC (.int 601)))) (sRet (eC (.bool false))) sNil) (sIf (eT (eCB F__is_ticks (aCons (eVar 4) aNil))) (sExpr (eApp (eVar 2) (eCB (on1 fInt) (aCons (eVar 4) aNil)))) (sIf (bOr (bNot (eT (eCB F__looks_like_run (aCons (eVar 4) aNil)))) (eT (eBin (fIn true) (eTup (aCons (eVar 3) (aCons (eBin fIx (eVar 4) (eC (.int 0))) aNil))) (eUn (fFld "Calls" "edges") (eVar 0))))) (sRet (eC (.bool false))) (sIf (bNot (eT (eCB Fself (aCons (eVar 0) (aCons (eVar 4) (aCons (eVar 2) aNil)))))) (sRet (eC (.bool false))) sNil))))) (sSeq (sExpr (eApp (eVar 2) (eTup (aCons (eC (.str "out")) (aCons (eVar 3) aNil))))) (sRet (eC (.bool true)))))))
def F__add_events : Nat → List D → M D
  | 0 => fun _ => M.bad
  | n + 1 => bodyF 3 5 (g__add_events (F__add_events n))
-- recursive: _add_events
set_option maxHeartbeats 2000000 in
theorem d__add_events (T : Txt P K mg C_Calls) (At : DefAt K mg "_add_events" s__add_events ["calls", "run", "events"]) (D__is_ticks : DefOk P w K mg base "_is_ticks" ["value"] 3 F__is_ticks) (D__looks_like_run : DefOk P w K mg base "_looks_like_run" ["value"] 2 F__looks_like_run) : ∀ n : Nat, DefOk P w K mg base "_add_events" ["calls", "run", "events"] (4 + n) (F__add_events n)
  | 0 => def_none At
  | n + 1 => by
    have ih := d__add_events T At D__is_ticks D__looks_like_run n
    exact def_ok At sc__add_events fun f cdv A outer s H E hr => (dss_cons (ds_set (i := 3) sc__add_events.nd rfl (by first | exact Or.inl rfl | exact Or.inr rfl) (de_toInt rfl T.b_int (de_item (de_var 1) de_int))) (dss_cons (ds_expr (de_app (de_var 2) (de_tup (da_cons de_str (da_cons (de_var 3) da_nil))))) (dss_cons (ds_for (passes_of rfl) rfl (di_seq (de_item (de_var 1) de_int)) (dg_name (i := 4) sc__add_events.nd rfl (by first | exact Or.inl rfl | exact Or.inr rfl)) (dss_cons (ds_if (dt_gt (de_len rfl T.b_len (de_var 2)) (de_globE rfl T.c_MOST_EVENTS)) (dss_one (ds_ret de_bl)) dss_nil) (dss_one (ds_if (dt_val (de_callD D__is_ticks (hr.mono (by first | decide | omega | (simp only [Nat.add_eq]; omega))) rfl (takes_of rfl rfl rfl rfl) (da_cons (de_var 4) da_nil))) (dss_one (ds_expr (de_app (de_var 2) (de_toInt rfl T.b_int (de_var 4))))) (dss_one (ds_if (DW.dt (dw_or (dt_not (dt_val (de_callD D__looks_like_run (hr.mono (by first | decide | omega | (simp only [Nat.add_eq]; omega))) rfl (takes_of rfl rfl rfl rfl) (da_cons (de_var 4) da_nil)))) (dw_or1 (dt_notIn (hu65 hr) (de_tup (da_cons (de_var 3) (da_cons (de_item (de_var 4) de_int) da_nil))) (de_fld T.g_Calls T.cl_Calls T.n_Calls_edges (de_var 0)))))) (dss_one (ds_ret de_bl)) (dss_one (ds_if (dt_not (dt_val (de_callD ih (hr.mono (by first | decide | omega | (simp only [Nat.add_eq]; omega))) rfl (takes_of rfl rfl rfl rfl) (da_cons (de_var 0) (da_cons (de_var 4) (da_cons (de_var 2) da_nil)))))) (dss_one (ds_ret de_bl)) dss_nil)))))))) (dss_cons (ds_expr (de_app (de_var 2) (de_tup (da_cons de_str (da_cons (de_var 3) da_nil))))) (dss_one (ds_ret de_bl))))))
abbrev s__are_few : Stmt := (top 28)
abbrev N__are_few : List Str := ["events", "ticks", "runs", "parts", "event"]
theorem sc__are_few : FnScope N__are_few ["events"] (defScope s__are_few) := ⟨rfl, rfl, rfl, by decide +kernel, rfl, by decide +kernel, by decide +kernel⟩
def g__are_few : Fs := (sSeq (sSet 1 (eLc (srcSeq (eVar 0)) [4] (tName 4) (eT (eCB F_is_integer (aCons (eVar 4) aNil))) (eVar 4))) (sSeq (sSet 2 (eCB (on1 fLen) (aCons (eLc (srcSeq (eVar 0)) [4] (tName 4) (bAnd (bNot (eT (eCB F_is_integer (aCons (eVar 4) aNil)))) (eT (eBin (fEq false) (eBin fIx (eVar 4) (eC (.int 0))) (eC (.str "in"))))) (eVar 4)) aNil))) (sSeq (sSet 3 (eBin fSub (eBin fAdd (eCB (on1 fLen) (aCons (eVar 1) aNil)) (eVar 2)) (eC (.int 1)))) (sRet (eAnd (eBin fLe (eVar 2) (eC (.int 200))) (eAnd (eBin fLe (eVar 3) (eC (.int 400))) (eBin fLe (eCB (on1 fSum) (aCons (eVar 1) aNil)) (eC (.int 999999)))))))))
def F__are_few : List D → M D := bodyF 1 5 g__are_few
set_option maxHeartbeats 2000000 in
theorem d__are_few (T : Txt P K mg C_Calls) (At : DefAt K mg "_are_few" s__are_few ["events"]) (D_is_integer : DefOk P w K mg base "is_integer" ["value"] 1 F_is_integer) : DefOk P w K mg base "_are_few" ["events"] 2 F__are_few :=
  def_ok At sc__are_few fun f cdv A outer s H E hr => (dss_cons (ds_setLcI (i := 1) rfl sc__are_few.nd rfl rfl (sw_true rfl rfl rfl (by decide +kernel)) (di_seq (de_var 0)) (blkOk_by (own := [("event", 4)]) (N := N__are_few) (sc := defScope s__are_few) (by decide +kernel)) tgc_one (fun _ _ _ _ _ => pg_name (i := 4) sc__are_few.nd rfl (by first | exact Or.inl rfl | exact Or.inr rfl)) (fun _ _ _ _ _ => dts_one (dt_val (de_callD D_is_integer (hr.mono (by first | decide | omega | (simp only [Nat.add_eq]; omega))) rfl takes0 (da_cons (de_var 4) da_nil)))) (fun _ _ _ _ _ => (de_var 4))) (dss_cons (ds_set (i := 2) sc__are_few.nd rfl (by first | exact Or.inl rfl | exact Or.inr rfl) (de_len rfl T.b_len (de_lcI rfl sc__are_few.nd (di_seq (de_var 0)) (blkOk_by (own := [("event", 4)]) (N := N__are_few) (sc := defScope s__are_few) (by decide +kernel)) tgc_one (fun _ _ _ _ _ => pg_name (i := 4) sc__are_few.nd rfl (by first | exact Or.inl rfl | exact Or.inr rfl)) (fun _ _ _ _ _ => dts_one (DW.dt (dw_and (dt_not (dt_val (de_callD D_is_integer (hr.mono (by first | decide | omega | (simp only [Nat.add_eq]; omega))) rfl takes0 (da_cons (de_var 4) da_nil)))) (dw_and1 (dt_eq hr.units (de_item (de_var 4) de_int) de_str))))) (fun _ _ _ _ _ => (de_var 4))))) (dss_cons (ds_set (i := 3) sc__are_few.nd rfl (by first | exact Or.inl rfl | exact Or.inr rfl) (de_sub (de_add (de_len rfl T.b_len (de_var 1)) (de_var 2)) de_int)) (dss_one (ds_ret (de_and (de_le (de_var 2) (de_globE rfl T.c_MOST_RUNS)) (de_and (de_le (de_var 3) (de_globE rfl T.c_MOST_PARTS)) (de_one (de_le (de_sum rfl T.b_sum rfl (de_var 1)) (de_globE rfl T.c_MOST_TICKS))))))))))
abbrev s_events_of : Stmt := (top 24)
abbrev N_events_of : List Str := ["calls", "value", "events"]
theorem sc_events_of : FnScope N_events_of ["calls", "value"] (defScope s_events_of) := ⟨rfl, rfl, rfl, by decide +kernel, rfl, by decide +kernel, by decide +kernel⟩
def g_events_of : Fs := (sSeq (sIf (bOr (bNot (eT (eCB F__looks_like_run (aCons (eVar 1) aNil)))) (eT (eBin (fEq true) (eBin fIx (eVar 1) (eC (.int 0))) (eC (.int 0))))) (sRet (eC .none)) sNil) (sSeq (sSet 2 (eCell aNil)) (sSeq (sIf (bOr (bNot (eT (eCB (F__add_events 20) (aCons (eVar 0) (aCons (eVar 1) (aCons (eVar 2) aNil)))))) (bNot (eT (eCB F__are_few (aCons (eVar 2) aNil))))) (sRet (eC .none)) sNil) (sRet (eCB (on1 fTuple) (aCons (eVar 2) aNil))))))
def F_events_of : List D → M D := bodyF 2 3 g_events_of
set_option maxHeartbeats 2000000 in
theorem d_events_of (T : Txt P K mg C_Calls) (At : DefAt K mg "events_of" s_events_of ["calls", "value"]) (D__are_few : DefOk P w K mg base "_are_few" ["events"] 2 F__are_few) (D__add_events : DefOk P w K mg base "_add_events" ["calls", "run", "events"] 24 (F__add_events 20)) (D__looks_like_run : DefOk P w K mg base "_looks_like_run" ["value"] 2 F__looks_like_run) : DefOk P w K mg base "events_of" ["calls", "value"] 25 F_events_of :=
  def_ok At sc_events_of fun f cdv A outer s H E hr => (dss_cons (ds_if (DW.dt (dw_or (dt_not (dt_val (de_callD D__looks_like_run (hr.mono (by first | decide | omega | (simp only [Nat.add_eq]; omega))) rfl (takes_of rfl rfl rfl rfl) (da_cons (de_var 1) da_nil)))) (dw_or1 (dt_ne hr.units (de_item (de_var 1) de_int) de_int)))) (dss_one (ds_ret de_non)) dss_nil) (dss_cons (ds_set (i := 2) sc_events_of.nd rfl (by first | exact Or.inl rfl | exact Or.inr rfl) (de_cell da_nil)) (dss_cons (ds_if (DW.dt (dw_or (dt_not (dt_val (de_callD D__add_events (hr.mono (by first | decide | omega | (simp only [Nat.add_eq]; omega))) rfl (takes_of rfl rfl rfl rfl) (da_cons (de_var 0) (da_cons (de_var 1) (da_cons (de_var 2) da_nil)))))) (dw_or1 (dt_not (dt_val (de_callD D__are_few (hr.mono (by first | decide | omega | (simp only [Nat.add_eq]; omega))) rfl (takes_of rfl rfl rfl rfl) (da_cons (de_var 2) da_nil))))))) (dss_one (ds_ret de_non)) dss_nil) (dss_one (ds_ret (de_tuple rfl T.b_tuple (de_var 2)))))))
abbrev s_trace_of : Stmt := (top 22)
abbrev N_trace_of : List Str := ["calls", "run", "events"]
theorem sc_trace_of : FnScope N_trace_of ["calls", "run"] (defScope s_trace_of) := ⟨rfl, rfl, rfl, by decide +kernel, rfl, by decide +kernel, by decide +kernel⟩
def g_trace_of : Fs := (sSeq (sSet 2 (eCB F_events_of (aCons (eVar 0) (aCons (eVar 1) aNil)))) (sSeq (sIf (eT (eBin (fIs false) (eVar 2) (eC .none))) (sRaise "InvalidRun" "value" (eVar 1)) sNil) (sRet (eVar 2))))
def F_trace_of : List D → M D := bodyF 2 3 g_trace_of
set_option maxHeartbeats 2000000 in
theorem d_trace_of (T : Txt P K mg C_Calls) (At : DefAt K mg "trace_of" s_trace_of ["calls", "run"]) (D_events_of : DefOk P w K mg base "events_of" ["calls", "value"] 25 F_events_of) : DefOk P w K mg base "trace_of" ["calls", "run"] 26 F_trace_of :=
  def_ok At sc_trace_of fun f cdv A outer s H E hr => (dss_cons (ds_set (i := 2) sc_trace_of.nd rfl (by first | exact Or.inl rfl | exact Or.inr rfl) (de_callD D_events_of (hr.mono (by first | decide | omega | (simp only [Nat.add_eq]; omega))) rfl (takes_of rfl rfl rfl rfl) (da_cons (de_var 0) (da_cons (de_var 1) da_nil)))) (dss_cons (ds_if (dt_is (de_var 2) de_non) (dss_one (ds_raise rfl T.x_InvalidRun hr (takes_of rfl rfl rfl rfl) (de_var 1))) dss_nil) (dss_one (ds_ret (de_var 2)))))
abbrev s__joined : Stmt := (top 31)
abbrev N__joined : List Str := ["calls", "events", "functions", "parts", "event", "ended"]
theorem sc__joined : FnScope N__joined ["calls", "events"] (defScope s__joined) := ⟨rfl, rfl, rfl, by decide +kernel, rfl, by decide +kernel, by decide +kernel⟩
def g__joined : Fs := (sSeq (sIf (bOr (eT (eBin (fEq true) (eSl (eVar 1) oNone (oSome (eC (.int 1)))) (eTup (aCons (eTup (aCons (eC (.str "in")) (aCons (eC (.int 0)) aNil))) aNil)))) (eT (eBin (fEq true) (eSl (eVar 1) (oSome (eUn fNeg (eC (.int 1)))) oNone) (eTup (aCons (eTup (aCons (eC (.str "out")) (aCons (eC (.int 0)) aNil))) aNil))))) (sRet (eC .none)) sNil) (sSeq (sSet 2 (eCell (aCons (eC (.int 0)) aNil))) (sSeq (sSet 3 (eCell (aCons (eCell aNil) aNil))) (sSeq (sFor (srcSeq (eSl (eVar 1) (oSome (eC (.int 1))) (oSome (eUn fNeg (eC (.int 1)))))) (tName 4) (sIf (eT (eCB F_is_integer (aCons (eVar 4) aNil))) (sExpr (eApp (eBin fIx (eVar 3) (eUn fNeg (eC (.int 1)))) (eCB (on1 fInt) (aCons (eVar 4) aNil)))) (sIf (eT (eBin (fEq false) (eBin fIx (eVar 4) (eC (.int 0))) (eC (.str "in")))) (sSeq (sIf (eT (eBin (fIn true) (eTup (aCons (eBin fIx (eVar 2) (eUn fNeg (eC (.int 1)))) (aCons (eBin fIx (eVar 4) (eC (.int 1))) aNil))) (eUn (fFld "Calls" "edges") (eVar 0)))) (sRet (eC .none)) sNil) (sSeq (sExpr (eApp (eVar 2) (eCB (on1 fInt) (aCons (eBin fIx (eVar 4) (eC (.int 1))) aNil)))) (sExpr (eApp (eVar 3) (eCell aNil))))) (sSeq (sIf (bOr (eT (eBin (fEq false) (eCB (on1 fLen) (aCons (eVar 2) aNil)) (eC (.int 1)))) (eT (eBin (fEq true) (eBin fIx (eVar 2) (eUn fNeg (eC (.int 1)))) (eBin fIx (eVar 4) (eC (.int 1)))))) (sRet (eC .none)) sNil) (sSeq (sSet 5 (eTup (aCons (ePop (eVar 2)) (aCons (eCB (on1 fTuple) (aCons (ePop (eVar 3)) aNil)) aNil)))) (sExpr (eApp (eBin fIx (eVar 3) (eUn fNeg (eC (.int 1)))) (eVar 5)))))))) (sRet (eIf (eT (eBin (fEq false) (eCB (on1 fLen) (aCons (eVar 2) aNil)) (eC (.int 1)))) (eTup (aCons (eC (.int 0)) (aCons (eCB (on1 fTuple) (aCons (eBin fIx (eVar 3) (eC (.int 0))) aNil)) aNil))) (eC .none)))))))
def F__joined : List D → M D := bodyF 2 6 g__joined
set_option maxHeartbeats 2000000 in
theorem d__joined (T : Txt P K mg C_Calls) (At : DefAt K mg "_joined" s__joined ["calls", "events"]) (D_is_integer : DefOk P w K mg base "is_integer" ["value"] 1 F_is_integer) : DefOk P w K mg base "_joined" ["calls", "events"] 2 F__joined :=
  def_ok At sc__joined fun f cdv A outer s H E hr => (dss_cons (ds_if (DW.dt (dw_or (dt_ne hr.units (de_slice (de_var 1) do_none (do_some de_int)) (de_tup (da_cons (de_tup (da_cons de_str (da_cons de_int da_nil))) da_nil))) (dw_or1 (dt_ne hr.units (de_slice (de_var 1) (do_some (de_neg de_int)) do_none) (de_tup (da_cons (de_tup (da_cons de_str (da_cons de_int da_nil))) da_nil)))))) (dss_one (ds_ret de_non)) dss_nil) (dss_cons (ds_set (i := 2) sc__joined.nd rfl (by first | exact Or.inl rfl | exact Or.inr rfl) (de_cell (da_cons de_int da_nil))) (dss_cons (ds_set (i := 3) sc__joined.nd rfl (by first | exact Or.inl rfl | exact Or.inr rfl) (de_cell (da_cons (de_cell da_nil) da_nil))) (dss_cons (ds_for (passes_of rfl) rfl (di_seq (de_slice (de_var 1) (do_some de_int) (do_some (de_neg de_int)))) (dg_name (i := 4) sc__joined.nd rfl (by first | exact Or.inl rfl | exact Or.inr rfl)) (dss_one (ds_if (dt_val (de_callD D_is_integer (hr.mono (by first | decide | omega | (simp only [Nat.add_eq]; omega))) rfl (takes_of rfl rfl rfl rfl) (da_cons (de_var 4) da_nil))) (dss_one (ds_expr (de_app (de_item (de_var 3) (de_neg de_int)) (de_toInt rfl T.b_int (de_var 4))))) (dss_one (ds_if (dt_eq hr.units (de_item (de_var 4) de_int) de_str) (dss_cons (ds_if (dt_notIn (hu65 hr) (de_tup (da_cons (de_item (de_var 2) (de_neg de_int)) (da_cons (de_item (de_var 4) de_int) da_nil))) (de_fld T.g_Calls T.cl_Calls T.n_Calls_edges (de_var 0))) (dss_one (ds_ret de_non)) dss_nil) (dss_cons (ds_expr (de_app (de_var 2) (de_toInt rfl T.b_int (de_item (de_var 4) de_int)))) (dss_one (ds_expr (de_app (de_var 3) (de_cell da_nil)))))) (dss_cons (ds_if (DW.dt (dw_or (dt_eq hr.units (de_len rfl T.b_len (de_var 2)) de_int) (dw_or1 (dt_ne hr.units (de_item (de_var 2) (de_neg de_int)) (de_item (de_var 4) de_int))))) (dss_one (ds_ret de_non)) dss_nil) (dss_cons (ds_set (i := 5) sc__joined.nd rfl (by first | exact Or.inl rfl | exact Or.inr rfl) (de_tup (da_cons (de_pop (de_var 2)) (da_cons (de_tuple rfl T.b_tuple (de_pop (de_var 3))) da_nil)))) (dss_one (ds_expr (de_app (de_item (de_var 3) (de_neg de_int)) (de_var 5))))))))))) (dss_one (ds_ret (de_if (dt_eq hr.units (de_len rfl T.b_len (de_var 2)) de_int) (de_tup (da_cons de_int (da_cons (de_tuple rfl T.b_tuple (de_item (de_var 3) de_int)) da_nil))) de_non)))))))
abbrev s_is_function : Stmt := (top 17)
abbrev N_is_function : List Str := ["functions", "value"]
theorem sc_is_function : FnScope N_is_function ["functions", "value"] (defScope s_is_function) := ⟨rfl, rfl, rfl, by decide +kernel, rfl, by decide +kernel, by decide +kernel⟩
def g_is_function : Fs := (sRet (eCB F_is_integer_in (aCons (eVar 1) (aCons (eC (.int 0)) (aCons (eBin fSub (eVar 0) (eC (.int 1))) aNil)))))
def F_is_function : List D → M D := bodyF 2 2 g_is_function
set_option maxHeartbeats 2000000 in
theorem d_is_function (T : Txt P K mg C_Calls) (At : DefAt K mg "is_function" s_is_function ["functions", "value"]) (D_is_integer_in : DefOk P w K mg base "is_integer_in" ["value", "low", "high"] 2 F_is_integer_in) : DefOk P w K mg base "is_function" ["functions", "value"] 3 F_is_function :=
  def_ok At sc_is_function fun f cdv A outer s H E hr => (dss_one (ds_ret (de_callD D_is_integer_in (hr.mono (by first | decide | omega | (simp only [Nat.add_eq]; omega))) rfl (takes_of rfl rfl rfl rfl) (da_cons (de_var 1) (da_cons de_int (da_cons (de_sub (de_var 0) de_int) da_nil))))))
abbrev s__is_event : Stmt := (top 29)
abbrev N__is_event : List Str := ["calls", "value"]
theorem sc__is_event : FnScope N__is_event ["calls", "value"] (defScope s__is_event) := ⟨rfl, rfl, rfl, by decide +kernel, rfl, by decide +kernel, by decide +kernel⟩
def g__is_event : Fs := (sSeq (sIf (eT (eCB F__is_ticks (aCons (eVar 1) aNil))) (sRet (eC (.bool true))) sNil) (sRet (eAnd (eCB F_is_pair (aCons (eVar 1) aNil)) (eAnd (eBin (fIn false) (eBin fIx (eVar 1) (eC (.int 0))) (eTup (aCons (eC (.str "in")) (aCons (eC (.str "out")) aNil)))) (eCB F_is_function (aCons (eUn (fFld "Calls" "functions") (eVar 0)) (aCons (eBin fIx (eVar 1) (eC (.int 1))) aNil)))))))
def F__is_event : List D → M D := bodyF 2 2 g__is_event
set_option maxHeartbeats 2000000 in
theorem d__is_event (T : Txt P K mg C_Calls) (At : DefAt K mg "_is_event" s__is_event ["calls", "value"]) (D_is_function : DefOk P w K mg base "is_function" ["functions", "value"] 3 F_is_function) (D_is_pair : DefOk P w K mg base "is_pair" ["value"] 1 F_is_pair) (D__is_ticks : DefOk P w K mg base "_is_ticks" ["value"] 3 F__is_ticks) : DefOk P w K mg base "_is_event" ["calls", "value"] 4 F__is_event :=
  def_ok At sc__is_event fun f cdv A outer s H E hr => (dss_cons (ds_if (dt_val (de_callD D__is_ticks (hr.mono (by first | decide | omega | (simp only [Nat.add_eq]; omega))) rfl (takes_of rfl rfl rfl rfl) (da_cons (de_var 1) da_nil))) (dss_one (ds_ret de_bl)) dss_nil) (dss_one (ds_ret (de_and (de_callD D_is_pair (hr.mono (by first | decide | omega | (simp only [Nat.add_eq]; omega))) rfl (takes_of rfl rfl rfl rfl) (da_cons (de_var 1) da_nil)) (de_and (de_in (hu65 hr) (de_item (de_var 1) de_int) (de_tup (da_cons de_str (da_cons de_str da_nil)))) (de_one (de_callD D_is_function (hr.mono (by first | decide | omega | (simp only [Nat.add_eq]; omega))) rfl (takes_of rfl rfl rfl rfl) (da_cons (de_fld T.g_Calls T.cl_Calls T.n_Calls_functions (de_var 0)) (da_cons (de_item (de_var 1) de_int) da_nil)))))))))
abbrev s__are_events : Stmt := (top 30)
abbrev N__are_events : List Str := ["calls", "value", "event"]
theorem sc__are_events : FnScope N__are_events ["calls", "value"] (defScope s__are_events) := ⟨rfl, rfl, rfl, by decide +kernel, rfl, by decide +kernel, by decide +kernel⟩
def g__are_events : Fs := (sRet (eAnd (eUn (fIsi "tuple") (eVar 1)) (eAnd (eCB (on1 fAll) (aCons (eLc (srcSeq (eVar 1)) [2] (tName 2) (fun _ => M.pure true) (eCB F__is_event (aCons (eVar 0) (aCons (eVar 2) aNil)))) aNil)) (eCB F__are_few (aCons (eVar 1) aNil)))))
def F__are_events : List D → M D := bodyF 2 3 g__are_events
set_option maxHeartbeats 2000000 in
theorem d__are_events (T : Txt P K mg C_Calls) (At : DefAt K mg "_are_events" s__are_events ["calls", "value"]) (D__are_few : DefOk P w K mg base "_are_few" ["events"] 2 F__are_few) (D__is_event : DefOk P w K mg base "_is_event" ["calls", "value"] 4 F__is_event) : DefOk P w K mg base "_are_events" ["calls", "value"] 5 F__are_events :=
  def_ok At sc__are_events fun f cdv A outer s H E hr => (dss_one (ds_ret (de_and (de_isi rfl T.b_isinstance rfl T.b_tuple PyProof.Rows.boot_tuple (de_var 1)) (de_and (de_all rfl T.b_all rfl (de_lcI rfl sc__are_events.nd (di_seq (de_var 1)) (blkOk_by (own := [("event", 2)]) (N := N__are_events) (sc := defScope s__are_events) (by decide +kernel)) tgc_one (fun _ _ _ _ _ => pg_name (i := 2) sc__are_events.nd rfl (by first | exact Or.inl rfl | exact Or.inr rfl)) (fun _ _ _ _ _ => dts_nil) (fun _ _ _ _ _ => (de_callD D__is_event (hr.mono (by first | decide | omega | (simp only [Nat.add_eq]; omega))) rfl takes0 (da_cons (de_var 0) (da_cons (de_var 2) da_nil)))))) (de_one (de_callD D__are_few (hr.mono (by first | decide | omega | (simp only [Nat.add_eq]; omega))) rfl (takes_of rfl rfl rfl rfl) (da_cons (de_var 1) da_nil)))))))
abbrev s_run_of : Stmt := (top 23)
abbrev N_run_of : List Str := ["calls", "trace", "run"]
theorem sc_run_of : FnScope N_run_of ["calls", "trace"] (defScope s_run_of) := ⟨rfl, rfl, rfl, by decide +kernel, rfl, by decide +kernel, by decide +kernel⟩
def g_run_of : Fs := (sSeq (sIf (bNot (eT (eCB F__are_events (aCons (eVar 0) (aCons (eVar 1) aNil))))) (sRaise "InvalidTrace" "value" (eVar 1)) sNil) (sSeq (sSet 2 (eCB F__joined (aCons (eVar 0) (aCons (eVar 1) aNil)))) (sSeq (sIf (eT (eBin (fIs false) (eVar 2) (eC .none))) (sRaise "InvalidTrace" "value" (eVar 1)) sNil) (sRet (eVar 2)))))
def F_run_of : List D → M D := bodyF 2 3 g_run_of
set_option maxHeartbeats 2000000 in
theorem d_run_of (T : Txt P K mg C_Calls) (At : DefAt K mg "run_of" s_run_of ["calls", "trace"]) (D__joined : DefOk P w K mg base "_joined" ["calls", "events"] 2 F__joined) (D__are_events : DefOk P w K mg base "_are_events" ["calls", "value"] 5 F__are_events) : DefOk P w K mg base "run_of" ["calls", "trace"] 6 F_run_of :=
  def_ok At sc_run_of fun f cdv A outer s H E hr => (dss_cons (ds_if (dt_not (dt_val (de_callD D__are_events (hr.mono (by first | decide | omega | (simp only [Nat.add_eq]; omega))) rfl (takes_of rfl rfl rfl rfl) (da_cons (de_var 0) (da_cons (de_var 1) da_nil))))) (dss_one (ds_raise rfl T.x_InvalidTrace hr (takes_of rfl rfl rfl rfl) (de_var 1))) dss_nil) (dss_cons (ds_set (i := 2) sc_run_of.nd rfl (by first | exact Or.inl rfl | exact Or.inr rfl) (de_callD D__joined (hr.mono (by first | decide | omega | (simp only [Nat.add_eq]; omega))) rfl (takes_of rfl rfl rfl rfl) (da_cons (de_var 0) (da_cons (de_var 1) da_nil)))) (dss_cons (ds_if (dt_is (de_var 2) de_non) (dss_one (ds_raise rfl T.x_InvalidTrace hr (takes_of rfl rfl rfl rfl) (de_var 1))) dss_nil) (dss_one (ds_ret (de_var 2))))))
abbrev s__law_told : Stmt := (top 46)
abbrev N__law_told : List Str := ["kind", "made", "value", "e"]
theorem sc__law_told : FnScope N__law_told ["kind", "made", "value"] (defScope s__law_told) := ⟨rfl, rfl, rfl, by decide +kernel, rfl, by decide +kernel, by decide +kernel⟩
def g__law_told : Fs := (sTry ENs (sRet (eTup (aCons (eC (.str "told")) (aCons (eIf (eT (eBin (fEq false) (eVar 0) (eC (.int 0)))) (eCB F_trace_of (aCons (eVar 1) (aCons (eVar 2) aNil))) (eCB F_run_of (aCons (eVar 1) (aCons (eVar 2) aNil)))) aNil)))) [⟨"InvalidRun", 3, (some "run"), "value"⟩, ⟨"InvalidTrace", 3, (some "trace"), "value"⟩])
def F__law_told : List D → M D := bodyF 3 4 g__law_told
set_option maxHeartbeats 2000000 in
theorem d__law_told (T : Txt P K mg C_Calls) (At : DefAt K mg "_law_told" s__law_told ["kind", "made", "value"]) (D_trace_of : DefOk P w K mg base "trace_of" ["calls", "run"] 26 F_trace_of) (D_run_of : DefOk P w K mg base "run_of" ["calls", "trace"] 6 F_run_of) : DefOk P w K mg base "_law_told" ["kind", "made", "value"] 27 F__law_told :=
  def_ok At sc__law_told fun f cdv A outer s H E hr => (dss_one (ds_tryD rfl rfl sc__law_told.nd (takes_of rfl rfl rfl rfl) (fun W' pn xe tk' hp' => (dss_one (ds_ret (de_tup (da_cons de_str (da_cons (de_if (dt_eq hr.units (de_var 0) de_int) (de_callD D_trace_of (hr.mono (by first | decide | omega | (simp only [Nat.add_eq]; omega))) rfl tk' (da_cons (de_var 1) (da_cons (de_var 2) da_nil))) (de_callD D_run_of (hr.mono (by first | decide | omega | (simp only [Nat.add_eq]; omega))) rfl tk' (da_cons (de_var 1) (da_cons (de_var 2) da_nil)))) da_nil)))))) (dh_tup (EN := ENs) 3 T.x_InvalidRun T.h_InvalidRun (dh_tup (EN := ENs) 3 T.x_InvalidTrace T.h_InvalidTrace dh_nil))))
abbrev s__law_spoilt : Stmt := (top 37)
abbrev N__law_spoilt : List Str := ["box", "value", "deep", "at", "how"]
theorem sc__law_spoilt : FnScope N__law_spoilt ["box", "value", "deep"] (defScope s__law_spoilt) := ⟨rfl, rfl, rfl, by decide +kernel, rfl, by decide +kernel, by decide +kernel⟩
def g__law_spoilt (Fself : List D → M D) : Fs := (sSeq (sIf (eT (eUn (fIsi "tuple") (eVar 1))) (sSeq (sSet 3 (eCB F__law_take (aCons (eVar 0) (aCons (eBin fAdd (eCB (on1 fLen) (aCons (eVar 1) aNil)) (eC (.int 1))) aNil)))) (sSeq (sIf (bAnd (eT (eBin (fEq true) (eVar 1) (eTup aNil))) (bAnd (eT (eBin fGt (eVar 2) (eC (.int 0)))) (eT (eBin fGt (eCB F__law_take (aCons (eVar 0) (aCons (eC (.int 5)) aNil))) (eC (.int 0)))))) (sSeq (sSet 3 (eBin fMod (eCB (on1 fInt) (aCons (eVar 3) aNil)) (eCB (on1 fLen) (aCons (eVar 1) aNil)))) (sRet (eBin fAdd (eBin fAdd (eSl (eVar 1) oNone (oSome (eVar 3))) (eTup (aCons (eCB Fself (aCons (eVar 0) (aCons (eBin fIx (eVar 1) (eVar 3)) (aCons (eBin fSub (eVar 2) (eC (.int 1))) aNil)))) aNil))) (eSl (eVar 1) (oSome (eBin fAdd (eVar 3) (eC (.int 1)))) oNone)))) sNil) (sSeq (sSet 4 (eCB F__law_take (aCons (eVar 0) (aCons (eC (.int 8)) aNil)))) (sSeq (sIf (eT (eBin (fEq false) (eVar 4) (eC (.int 0)))) (sRet (eCB (on1 fList) (aCons (eVar 1) aNil))) sNil) (sSeq (sIf (eT (eBin (fEq false) (eVar 4) (eC (.int 1)))) (sRet (eBin fAdd (eSl (eVar 1) oNone (oSome (eVar 3))) (eSl (eVar 1) (oSome (eBin fAdd (eVar 3) (eC (.int 1)))) oNone))) sNil) (sSeq (sIf (eT (eBin (fEq false) (eVar 4) (eC (.int 2)))) (sRet (eBin fAdd (eBin fAdd (eSl (eVar 1) oNone (oSome (eVar 3))) (eSl (eVar 1) (oSome (eVar 3)) (oSome (eBin fAdd (eVar 3) (eC (.int 1)))))) (eSl (eVar 1) (oSome (eVar 3)) oNone))) sNil) (sSeq (sIf (eT (eBin (fEq false) (eVar 4) (eC (.int 3)))) (sRet (eBin fAdd (eSl (eVar 1) (oSome (eVar 3)) oNone) (eSl (eVar 1) oNone (oSome (eVar 3))))) sNil) (sSeq (sIf (eT (eBin (fEq false) (eVar 4) (eC (.int 4)))) (sRet (eBin fAdd (eVar 1) (eTup (aCons (eTup aNil) aNil)))) sNil) (sSeq (sIf (eT (eBin (fEq false) (eVar 4) (eC (.int 5)))) (sRet (eBin fAdd (eBin fAdd (eSl (eVar 1) oNone (oSome (eVar 3))) (eTup (aCons (eC (.int 0)) aNil))) (eSl (eVar 1) (oSome (eVar 3)) oNone))) sNil) (sSeq (sIf (eT (eBin (fEq false) (eVar 4) (eC (.int 6)))) (sRet (eBin fAdd (eSl (eVar 1) oNone (oSome (eUn fNeg (eC (.int 1))))) (eSl (eVar 1) oNone (oSome (eC (.int 1)))))) sNil) (sRet (eC .none)))))))))))) sNil) (sSeq (sIf (eT (eUn (fIsi "str") (eVar 1))) (sRet (eCB F__law_pick (aCons (eVar 0) (aCons (eLst (aCons (eBin fAdd (eVar 1) (eC (.str "b"))) (aCons (eC (.str "")) (aCons (eSl (eVar 1) (oSome (eC (.int 1))) oNone) (aCons (eBin fAdd (eC (.str "a")) (eVar 1)) (aCons (eC (.int 0)) aNil)))))) aNil)))) sNil) (sSeq (sIf (eT (eCB F__law_whole (aCons (eVar 1) aNil))) (sRet (eCB F__law_pick (aCons (eVar 0) (aCons (eLst (aCons (eBin fAdd (eVar 1) (eC (.int 1))) (aCons (eBin fSub (eVar 1) (eC (.int 1))) (aCons (eBin fGt (eVar 1) (eC (.int 0))) (aCons (eBin fSub (eUn fNeg (eC (.int 1))) (eVar 1)) (aCons (eTup (aCons (eVar 1) aNil)) (aCons (eC .none) (aCons (eCB (on1 fStr) (aCons (eVar 1) aNil)) (aCons (eBin fAdd (eVar 1) (eC (.int 16))) aNil))))))))) aNil)))) sNil) (sRet (eCB F__law_pick (aCons (eVar 0) (aCons (eLst (aCons (eC (.int 0)) (aCons (eTup aNil) (aCons (eC (.str "none")) aNil)))) aNil)))))))
def F__law_spoilt : Nat → List D → M D
  | 0 => fun _ => M.bad
  | n + 1 => bodyF 3 5 (g__law_spoilt (F__law_spoilt n))
-- recursive: _law_spoilt
set_option maxHeartbeats 2000000 in
theorem d__law_spoilt (T : Txt P K mg C_Calls) (At : DefAt K mg "_law_spoilt" s__law_spoilt ["box", "value", "deep"]) (D__law_pick : DefOk P w K mg base "_law_pick" ["box", "some"] 2 F__law_pick) (D__law_whole : DefOk P w K mg base "_law_whole" ["value"] 1 F__law_whole) (D__law_take : DefOk P w K mg base "_law_take" ["box", "many"] 1 F__law_take) : ∀ n : Nat, DefOk P w K mg base "_law_spoilt" ["box", "value", "deep"] (3 + n) (F__law_spoilt n)
  | 0 => def_none At
  | n + 1 => by
    have ih := d__law_spoilt T At D__law_pick D__law_whole D__law_take n
    exact def_ok At sc__law_spoilt fun f cdv A outer s H E hr => (dss_cons (ds_if (dt_val (de_isi rfl T.b_isinstance rfl T.b_tuple PyProof.Rows.boot_tuple (de_var 1))) (dss_cons (ds_set (i := 3) sc__law_spoilt.nd rfl (by first | exact Or.inl rfl | exact Or.inr rfl) (de_callD D__law_take (hr.mono (by first | decide | omega | (simp only [Nat.add_eq]; omega))) rfl (takes_of rfl rfl rfl rfl) (da_cons (de_var 0) (da_cons (de_add (de_len rfl T.b_len (de_var 1)) de_int) da_nil)))) (dss_cons (ds_if (DW.dt (dw_and (dt_ne hr.units (de_var 1) (de_tup da_nil)) (dw_and (dt_gt (de_var 2) de_int) (dw_and1 (dt_gt (de_callD D__law_take (hr.mono (by first | decide | omega | (simp only [Nat.add_eq]; omega))) rfl (takes_of rfl rfl rfl rfl) (da_cons (de_var 0) (da_cons de_int da_nil))) de_int))))) (dss_cons (ds_set (i := 3) sc__law_spoilt.nd rfl (by first | exact Or.inl rfl | exact Or.inr rfl) (de_mod (de_toInt rfl T.b_int (de_var 3)) (de_len rfl T.b_len (de_var 1)))) (dss_one (ds_ret (de_add (de_add (de_slice (de_var 1) do_none (do_some (de_var 3))) (de_tup (da_cons (de_callD ih (hr.mono (by first | decide | omega | (simp only [Nat.add_eq]; omega))) rfl (takes_of rfl rfl rfl rfl) (da_cons (de_var 0) (da_cons (de_item (de_var 1) (de_var 3)) (da_cons (de_sub (de_var 2) de_int) da_nil)))) da_nil))) (de_slice (de_var 1) (do_some (de_add (de_var 3) de_int)) do_none))))) dss_nil) (dss_cons (ds_set (i := 4) sc__law_spoilt.nd rfl (by first | exact Or.inl rfl | exact Or.inr rfl) (de_callD D__law_take (hr.mono (by first | decide | omega | (simp only [Nat.add_eq]; omega))) rfl (takes_of rfl rfl rfl rfl) (da_cons (de_var 0) (da_cons de_int da_nil)))) (dss_cons (ds_if (dt_eq hr.units (de_var 4) de_int) (dss_one (ds_ret (de_list rfl T.b_list (de_var 1)))) dss_nil) (dss_cons (ds_if (dt_eq hr.units (de_var 4) de_int) (dss_one (ds_ret (de_add (de_slice (de_var 1) do_none (do_some (de_var 3))) (de_slice (de_var 1) (do_some (de_add (de_var 3) de_int)) do_none)))) dss_nil) (dss_cons (ds_if (dt_eq hr.units (de_var 4) de_int) (dss_one (ds_ret (de_add (de_add (de_slice (de_var 1) do_none (do_some (de_var 3))) (de_slice (de_var 1) (do_some (de_var 3)) (do_some (de_add (de_var 3) de_int)))) (de_slice (de_var 1) (do_some (de_var 3)) do_none)))) dss_nil) (dss_cons (ds_if (dt_eq hr.units (de_var 4) de_int) (dss_one (ds_ret (de_add (de_slice (de_var 1) (do_some (de_var 3)) do_none) (de_slice (de_var 1) do_none (do_some (de_var 3)))))) dss_nil) (dss_cons (ds_if (dt_eq hr.units (de_var 4) de_int) (dss_one (ds_ret (de_add (de_var 1) (de_tup (da_cons (de_tup da_nil) da_nil))))) dss_nil) (dss_cons (ds_if (dt_eq hr.units (de_var 4) de_int) (dss_one (ds_ret (de_add (de_add (de_slice (de_var 1) do_none (do_some (de_var 3))) (de_tup (da_cons de_int da_nil))) (de_slice (de_var 1) (do_some (de_var 3)) do_none)))) dss_nil) (dss_cons (ds_if (dt_eq hr.units (de_var 4) de_int) (dss_one (ds_ret (de_add (de_slice (de_var 1) do_none (do_some (de_neg de_int))) (de_slice (de_var 1) do_none (do_some de_int))))) dss_nil) (dss_one (ds_ret de_non)))))))))))) dss_nil) (dss_cons (ds_if (dt_val (de_isi rfl T.b_isinstance rfl T.b_str PyProof.Rows.boot_str (de_var 1))) (dss_one (ds_ret (de_callD D__law_pick (hr.mono (by first | decide | omega | (simp only [Nat.add_eq]; omega))) rfl (takes_of rfl rfl rfl rfl) (da_cons (de_var 0) (da_cons (de_lst (da_cons (de_add (de_var 1) de_str) (da_cons de_str (da_cons (de_slice (de_var 1) (do_some de_int) do_none) (da_cons (de_add de_str (de_var 1)) (da_cons de_int da_nil)))))) da_nil))))) dss_nil) (dss_cons (ds_if (dt_val (de_callD D__law_whole (hr.mono (by first | decide | omega | (simp only [Nat.add_eq]; omega))) rfl (takes_of rfl rfl rfl rfl) (da_cons (de_var 1) da_nil))) (dss_one (ds_ret (de_callD D__law_pick (hr.mono (by first | decide | omega | (simp only [Nat.add_eq]; omega))) rfl (takes_of rfl rfl rfl rfl) (da_cons (de_var 0) (da_cons (de_lst (da_cons (de_add (de_var 1) de_int) (da_cons (de_sub (de_var 1) de_int) (da_cons (de_gt (de_var 1) de_int) (da_cons (de_sub (de_neg de_int) (de_var 1)) (da_cons (de_tup (da_cons (de_var 1) da_nil)) (da_cons de_non (da_cons (de_toStr rfl T.b_str (de_var 1)) (da_cons (de_add (de_var 1) de_int) da_nil))))))))) da_nil))))) dss_nil) (dss_one (ds_ret (de_callD D__law_pick (hr.mono (by first | decide | omega | (simp only [Nat.add_eq]; omega))) rfl (takes_of rfl rfl rfl rfl) (da_cons (de_var 0) (da_cons (de_lst (da_cons de_int (da_cons (de_tup da_nil) (da_cons de_str da_nil)))) da_nil))))))))
abbrev s__law_is_shaped : Stmt := (top 48)
abbrev N__law_is_shaped : List Str := ["value", "part"]
theorem sc__law_is_shaped : FnScope N__law_is_shaped ["value"] (defScope s__law_is_shaped) := ⟨rfl, rfl, rfl, by decide +kernel, rfl, by decide +kernel, by decide +kernel⟩
def g__law_is_shaped (Fself : List D → M D) : Fs := (sSeq (sIf (bOr (bNot (eT (eUn (fIsi "tuple") (eVar 0)))) (bOr (eT (eBin (fEq true) (eCB (on1 fLen) (aCons (eVar 0) aNil)) (eC (.int 2)))) (bNot (eT (eUn (fIsi "tuple") (eBin fIx (eVar 0) (eC (.int 1)))))))) (sRet (eC (.bool false))) sNil) (sRet (eBin (fEq false) (eLc (srcSeq (eBin fIx (eVar 0) (eC (.int 1)))) [1] (tName 1) (bAnd (eT (eUn (fIsi "tuple") (eVar 1))) (bNot (eT (eCB Fself (aCons (eVar 1) aNil))))) (eVar 1)) (eLst aNil))))
def F__law_is_shaped : Nat → List D → M D
  | 0 => fun _ => M.bad
  | n + 1 => bodyF 1 2 (g__law_is_shaped (F__law_is_shaped n))
-- recursive: _law_is_shaped
set_option maxHeartbeats 2000000 in
theorem d__law_is_shaped (T : Txt P K mg C_Calls) (At : DefAt K mg "_law_is_shaped" s__law_is_shaped ["value"]) : ∀ n : Nat, DefOk P w K mg base "_law_is_shaped" ["value"] (1 + n) (F__law_is_shaped n)
  | 0 => def_none At
  | n + 1 => by
    have ih := d__law_is_shaped T At n
    exact def_ok At sc__law_is_shaped fun f cdv A outer s H E hr => (dss_cons (ds_if (DW.dt (dw_or (dt_not (dt_val (de_isi rfl T.b_isinstance rfl T.b_tuple PyProof.Rows.boot_tuple (de_var 0)))) (dw_or (dt_ne hr.units (de_len rfl T.b_len (de_var 0)) de_int) (dw_or1 (dt_not (dt_val (de_isi rfl T.b_isinstance rfl T.b_tuple PyProof.Rows.boot_tuple (de_item (de_var 0) de_int)))))))) (dss_one (ds_ret de_bl)) dss_nil) (dss_one (ds_ret (de_eq hr.units (de_lcI rfl sc__law_is_shaped.nd (di_seq (de_item (de_var 0) de_int)) (blkOk_by (own := [("part", 1)]) (N := N__law_is_shaped) (sc := defScope s__law_is_shaped) (by decide +kernel)) tgc_one (fun _ _ _ _ _ => pg_name (i := 1) sc__law_is_shaped.nd rfl (by first | exact Or.inl rfl | exact Or.inr rfl)) (fun _ _ _ _ _ => dts_one (DW.dt (dw_and (dt_val (de_isi rfl T.b_isinstance rfl T.b_tuple PyProof.Rows.boot_tuple (de_var 1))) (dw_and1 (dt_not (dt_val (de_callD ih (hr.mono (by first | decide | omega | (simp only [Nat.add_eq]; omega))) rfl takes0 (da_cons (de_var 1) da_nil)))))))) (fun _ _ _ _ _ => (de_var 1))) (de_lst da_nil)))))
abbrev s_law : Stmt := (top 49)
abbrev N_law : List Str := ["script", "calls", "box", "made", "values", "k", "run", "due", "at", "spot", "swapped", "value", "good", "events"]
theorem sc_law : FnScope N_law ["script"] (defScope s_law) := ⟨rfl, rfl, rfl, by decide +kernel, rfl, by decide +kernel, by decide +kernel⟩
def g_law : Fs := (sSeq (sSet 1 (eCB F__law_calls (aCons (eVar 0) aNil))) (sSeq (sSet 2 (eCB F__law_box (aCons (eVar 0) (aCons (eC (.int 4)) aNil)))) (sSeq (sSet 3 (eCB F__law_made (aCons (eVar 1) aNil))) (sSeq (sSet 4 (eLst (aCons (eTup aNil) (aCons (eC .none) (aCons (eC (.int 0)) (aCons (eTup (aCons (eTup (aCons (eC (.str "in")) (aCons (eC (.int 0)) aNil))) aNil)) (aCons (eTup (aCons (eTup (aCons (eC (.str "in")) (aCons (eC (.int 0)) aNil))) (aCons (eTup (aCons (eC (.str "out")) (aCons (eC (.int 0)) aNil))) aNil))) (aCons (eTup (aCons (eTup (aCons (eC (.str "in")) (aCons (eC (.int 0)) aNil))) (aCons (eC (.int 0)) (aCons (eTup (aCons (eC (.str "out")) (aCons (eC (.int 0)) aNil))) aNil)))) (aCons (eTup (aCons (eTup (aCons (eC (.str "in")) (aCons (eC (.int 0)) aNil))) (aCons (eC (.int 1)) (aCons (eTup (aCons (eC (.str "out")) (aCons (eC (.int 0)) aNil))) aNil)))) aNil))))))))) (sSeq (sSet 4 (eBin fAdd (eVar 4) (eLst (aCons (eTup (aCons (eTup (aCons (eC (.str "in")) (aCons (eC (.int 0)) aNil))) (aCons (eTup (aCons (eC (.str "out")) (aCons (eC (.int 1)) aNil))) aNil))) (aCons (eTup (aCons (eTup (aCons (eC (.str "out")) (aCons (eC (.int 0)) aNil))) (aCons (eTup (aCons (eC (.str "in")) (aCons (eC (.int 0)) aNil))) aNil))) (aCons (eTup (aCons (eC (.int 1)) aNil)) (aCons (eTup (aCons (eTup (aCons (eC (.str "in")) (aCons (eC (.int 1)) aNil))) (aCons (eTup (aCons (eC (.str "out")) (aCons (eC (.int 1)) aNil))) aNil))) aNil))))))) (sSeq (sSet 4 (eBin fAdd (eVar 4) (eLst (aCons (eTup (aCons (eTup (aCons (eC (.str "in")) (aCons (eC (.bool true)) aNil))) (aCons (eTup (aCons (eC (.str "out")) (aCons (eC (.bool true)) aNil))) aNil))) (aCons (eTup (aCons (eTup (aCons (eC (.str "in")) (aCons (eC (.int 0)) aNil))) (aCons (eTup (aCons (eC (.str "out")) (aCons (eC (.int 0)) aNil))) (aCons (eC (.int 1)) aNil)))) (aCons (eBin fRepT (eTup (aCons (eTup (aCons (eC (.str "in")) (aCons (eC (.int 0)) aNil))) (aCons (eTup (aCons (eC (.str "out")) (aCons (eC (.int 0)) aNil))) aNil))) (eC (.int 2))) (aCons (eLst (aCons (eTup (aCons (eC (.str "in")) (aCons (eC (.int 0)) aNil))) (aCons (eTup (aCons (eC (.str "out")) (aCons (eC (.int 0)) aNil))) aNil))) aNil))))))) (sSeq (sSet 4 (eBin fAdd (eVar 4) (eLst (aCons (eTup (aCons (eLst (aCons (eC (.str "in")) (aCons (eC (.int 0)) aNil))) (aCons (eTup (aCons (eC (.str "out")) (aCons (eC (.int 0)) aNil))) aNil))) (aCons (eTup (aCons (eTup (aCons (eC (.str "in")) (aCons (eC (.int 0)) aNil))) (aCons (eTup (aCons (eC (.str "in")) (aCons (eC (.int 0)) aNil))) (aCons (eTup (aCons (eC (.str "out")) (aCons (eC (.int 0)) aNil))) (aCons (eTup (aCons (eC (.str "out")) (aCons (eC (.int 0)) aNil))) aNil))))) (aCons (eTup (aCons (eTup (aCons (eC (.str "in")) (aCons (eC (.int 0)) (aCons (eC (.int 0)) aNil)))) (aCons (eTup (aCons (eC (.str "out")) (aCons (eC (.int 0)) aNil))) aNil))) aNil)))))) (sSeq (sFor (srcRng1 (eC (.int 4))) (tName 5) (sSeq (sSet 6 (eCB (F__law_drawn_run 20) (aCons (eVar 2) (aCons (eVar 1) (aCons (eC (.int 0)) (aCons (eC (.int 12)) (aCons (eCB F__law_pick (aCons (eVar 2) (aCons (eLst (aCons (eC (.int 3)) (aCons (eC (.int 90)) aNil))) aNil))) aNil))))))) (sSeq (sSet 7 (eCB (F__law_trace 20) (aCons (eVar 6) aNil))) (sSeq (sIf (bOr (eT (eBin (fEq true) (eCB F__law_told (aCons (eC (.int 0)) (aCons (eVar 3) (aCons (eVar 6) aNil)))) (eTup (aCons (eC (.str "told")) (aCons (eVar 7) aNil))))) (eT (eBin (fEq true) (eCB F__law_told (aCons (eC (.int 1)) (aCons (eVar 3) (aCons (eVar 7) aNil)))) (eTup (aCons (eC (.str "told")) (aCons (eVar 6) aNil)))))) (sRet (eC (.bool false))) sNil) (sSeq (sPar 8 9 (eCB F__law_take (aCons (eVar 2) (aCons (eCB (on1 fLen) (aCons (eVar 7) aNil)) aNil))) (eCB F__law_take (aCons (eVar 2) (aCons (eCB (on1 fLen) (aCons (eVar 7) aNil)) aNil)))) (sSeq (sSet 10 (eCB (on1 fListC) (aCons (eVar 7) aNil))) (sSeq (sSwap (eTup (aCons (eBin fIx (eVar 7) (eVar 9)) (aCons (eBin fIx (eVar 7) (eVar 8)) aNil))) (eVar 10) (eVar 8) (eVar 10) (eVar 9)) (sSeq (sSet 4 (eBin fAdd (eVar 4) (eLst (aCons (eBin fAdd (eSl (eVar 7) oNone (oSome (eVar 8))) (eSl (eVar 7) (oSome (eBin fAdd (eVar 8) (eC (.int 1)))) oNone)) (aCons (eBin fAdd (eBin fAdd (eSl (eVar 7) oNone (oSome (eVar 8))) (eSl (eVar 7) (oSome (eVar 8)) (oSome (eBin fAdd (eVar 8) (eC (.int 1)))))) (eSl (eVar 7) (oSome (eVar 8)) oNone)) (aCons (eCB (on1 fTuple) (aCons (eVar 10) aNil)) (aCons (eSl (eVar 7) oNone (oSome (eUn fNeg (eC (.int 1))))) (aCons (eBin fAdd (eVar 7) (eVar 7)) (aCons (eUn fRev (eVar 7)) aNil))))))))) (sSet 4 (eBin fAdd (eVar 4) (eLst (aCons (eCB (F__law_spoilt 20) (aCons (eVar 2) (aCons (eVar 7) (aCons (eC (.int 2)) aNil)))) (aCons (eBin fAdd (eBin fAdd (eSl (eVar 7) oNone (oSome (eVar 8))) (eTup (aCons (eC (.int 1)) aNil))) (eSl (eVar 7) (oSome (eVar 8)) oNone)) aNil))))))))))))) (sSeq (sFor (srcSeq (eVar 4)) (tName 11) (sSeq (sSet 6 (eCB F__law_read (aCons (eVar 1) (aCons (eVar 11) aNil)))) (sIf (eT (eBin (fEq true) (eCB F__law_told (aCons (eC (.int 1)) (aCons (eVar 3) (aCons (eVar 11) aNil)))) (eIf (eT (eBin (fIs false) (eVar 6) (eC .none))) (eTup (aCons (eC (.str "trace")) (aCons (eVar 11) aNil))) (eTup (aCons (eC (.str "told")) (aCons (eVar 6) aNil)))))) (sRet (eC (.bool false))) sNil))) (sSeq (sFor (srcSeq (eCB F__law_run_values (aCons (eVar 1) aNil))) (tName 11) (sSeq (sSet 12 (eCB F__law_is_run (aCons (eVar 1) (aCons (eVar 11) aNil)))) (sSeq (sIf (eT (eBin (fEq true) (eCB F__law_told (aCons (eC (.int 0)) (aCons (eVar 3) (aCons (eVar 11) aNil)))) (eIf (eT (eVar 12)) (eTup (aCons (eC (.str "told")) (aCons (eCB (F__law_trace 20) (aCons (eVar 11) aNil)) aNil))) (eTup (aCons (eC (.str "run")) (aCons (eVar 11) aNil)))))) (sRet (eC (.bool false))) sNil) (sIf (bAnd (eT (eUn (fIsi "tuple") (eVar 11))) (bAnd (eT (eBin (fEq false) (eCB (on1 fLen) (aCons (eVar 11) aNil)) (eC (.int 2)))) (eT (eUn (fIsi "tuple") (eBin fIx (eVar 11) (eC (.int 1))))))) (sSeq (sSet 13 (eIf (bOr (eT (eVar 12)) (eT (eCB (F__law_is_shaped 20) (aCons (eVar 11) aNil)))) (eCB (F__law_trace 20) (aCons (eVar 11) aNil)) (eTup aNil))) (sIf (eT (eBin (fEq true) (eCB F__law_told (aCons (eC (.int 1)) (aCons (eVar 3) (aCons (eVar 13) aNil)))) (eIf (eT (eVar 12)) (eTup (aCons (eC (.str "told")) (aCons (eVar 11) aNil))) (eTup (aCons (eC (.str "trace")) (aCons (eVar 13) aNil)))))) (sRet (eC (.bool false))) sNil)) sNil)))) (sRet (eC (.bool true)))))))))))))
def F_law : List D → M D := bodyF 1 14 g_law
set_option maxHeartbeats 2000000 in
theorem d_law (T : Txt P K mg C_Calls) (At : DefAt K mg "law" s_law ["script"]) (D__law_run_values : DefOk P w K mg base "_law_run_values" ["calls"] 1 F__law_run_values) (D__law_told : DefOk P w K mg base "_law_told" ["kind", "made", "value"] 27 F__law_told) (D__law_is_shaped : DefOk P w K mg base "_law_is_shaped" ["value"] 21 (F__law_is_shaped 20)) (D__law_trace : DefOk P w K mg base "_law_trace" ["run"] 21 (F__law_trace 20)) (D__law_is_run : DefOk P w K mg base "_law_is_run" ["calls", "value"] 2 F__law_is_run) (D__law_read : DefOk P w K mg base "_law_read" ["calls", "value"] 3 F__law_read) (D__law_spoilt : DefOk P w K mg base "_law_spoilt" ["box", "value", "deep"] 23 (F__law_spoilt 20)) (D__law_take : DefOk P w K mg base "_law_take" ["box", "many"] 1 F__law_take) (D__law_drawn_run : DefOk P w K mg base "_law_drawn_run" ["box", "calls", "function", "room", "wide"] 42 (F__law_drawn_run 20)) (D__law_pick : DefOk P w K mg base "_law_pick" ["box", "some"] 2 F__law_pick) (D__law_made : DefOk P w K mg base "_law_made" ["calls"] 7 F__law_made) (D__law_box : DefOk P w K mg base "_law_box" ["script", "k"] 1 F__law_box) (D__law_calls : DefOk P w K mg base "_law_calls" ["script"] 3 F__law_calls) : DefOk P w K mg base "law" ["script"] 43 F_law :=
  def_ok At sc_law fun f cdv A outer s H E hr => (dss_cons (ds_set (i := 1) sc_law.nd rfl (by first | exact Or.inl rfl | exact Or.inr rfl) (de_callD D__law_calls (hr.mono (by first | decide | omega | (simp only [Nat.add_eq]; omega))) rfl (takes_of rfl rfl rfl rfl) (da_cons (de_var 0) da_nil))) (dss_cons (ds_set (i := 2) sc_law.nd rfl (by first | exact Or.inl rfl | exact Or.inr rfl) (de_callD D__law_box (hr.mono (by first | decide | omega | (simp only [Nat.add_eq]; omega))) rfl (takes_of rfl rfl rfl rfl) (da_cons (de_var 0) (da_cons de_int da_nil)))) (dss_cons (ds_set (i := 3) sc_law.nd rfl (by first | exact Or.inl rfl | exact Or.inr rfl) (de_callD D__law_made (hr.mono (by first | decide | omega | (simp only [Nat.add_eq]; omega))) rfl (takes_of rfl rfl rfl rfl) (da_cons (de_var 1) da_nil))) (dss_cons (ds_set (i := 4) sc_law.nd rfl (by first | exact Or.inl rfl | exact Or.inr rfl) (de_lst (da_cons (de_tup da_nil) (da_cons de_non (da_cons de_int (da_cons (de_tup (da_cons (de_tup (da_cons de_str (da_cons de_int da_nil))) da_nil)) (da_cons (de_tup (da_cons (de_tup (da_cons de_str (da_cons de_int da_nil))) (da_cons (de_tup (da_cons de_str (da_cons de_int da_nil))) da_nil))) (da_cons (de_tup (da_cons (de_tup (da_cons de_str (da_cons de_int da_nil))) (da_cons de_int (da_cons (de_tup (da_cons de_str (da_cons de_int da_nil))) da_nil)))) (da_cons (de_tup (da_cons (de_tup (da_cons de_str (da_cons de_int da_nil))) (da_cons de_int (da_cons (de_tup (da_cons de_str (da_cons de_int da_nil))) da_nil)))) da_nil))))))))) (dss_cons (ds_set (i := 4) sc_law.nd rfl (by first | exact Or.inl rfl | exact Or.inr rfl) (de_add (de_var 4) (de_lst (da_cons (de_tup (da_cons (de_tup (da_cons de_str (da_cons de_int da_nil))) (da_cons (de_tup (da_cons de_str (da_cons de_int da_nil))) da_nil))) (da_cons (de_tup (da_cons (de_tup (da_cons de_str (da_cons de_int da_nil))) (da_cons (de_tup (da_cons de_str (da_cons de_int da_nil))) da_nil))) (da_cons (de_tup (da_cons de_int da_nil)) (da_cons (de_tup (da_cons (de_tup (da_cons de_str (da_cons de_int da_nil))) (da_cons (de_tup (da_cons de_str (da_cons de_int da_nil))) da_nil))) da_nil))))))) (dss_cons (ds_set (i := 4) sc_law.nd rfl (by first | exact Or.inl rfl | exact Or.inr rfl) (de_add (de_var 4) (de_lst (da_cons (de_tup (da_cons (de_tup (da_cons de_str (da_cons de_bl da_nil))) (da_cons (de_tup (da_cons de_str (da_cons de_bl da_nil))) da_nil))) (da_cons (de_tup (da_cons (de_tup (da_cons de_str (da_cons de_int da_nil))) (da_cons (de_tup (da_cons de_str (da_cons de_int da_nil))) (da_cons de_int da_nil)))) (da_cons (de_repT (de_tup (da_cons (de_tup (da_cons de_str (da_cons de_int da_nil))) (da_cons (de_tup (da_cons de_str (da_cons de_int da_nil))) da_nil))) de_int) (da_cons (de_lst (da_cons (de_tup (da_cons de_str (da_cons de_int da_nil))) (da_cons (de_tup (da_cons de_str (da_cons de_int da_nil))) da_nil))) da_nil))))))) (dss_cons (ds_set (i := 4) sc_law.nd rfl (by first | exact Or.inl rfl | exact Or.inr rfl) (de_add (de_var 4) (de_lst (da_cons (de_tup (da_cons (de_lst (da_cons de_str (da_cons de_int da_nil))) (da_cons (de_tup (da_cons de_str (da_cons de_int da_nil))) da_nil))) (da_cons (de_tup (da_cons (de_tup (da_cons de_str (da_cons de_int da_nil))) (da_cons (de_tup (da_cons de_str (da_cons de_int da_nil))) (da_cons (de_tup (da_cons de_str (da_cons de_int da_nil))) (da_cons (de_tup (da_cons de_str (da_cons de_int da_nil))) da_nil))))) (da_cons (de_tup (da_cons (de_tup (da_cons de_str (da_cons de_int (da_cons de_int da_nil)))) (da_cons (de_tup (da_cons de_str (da_cons de_int da_nil))) da_nil))) da_nil)))))) (dss_cons (ds_for (passes_of rfl) rfl (di_rng1 rfl T.b_range de_int) (dg_name (i := 5) sc_law.nd rfl (by first | exact Or.inl rfl | exact Or.inr rfl)) (dss_cons (ds_set (i := 6) sc_law.nd rfl (by first | exact Or.inl rfl | exact Or.inr rfl) (de_callD D__law_drawn_run (hr.mono (by first | decide | omega | (simp only [Nat.add_eq]; omega))) rfl (takes_of rfl rfl rfl rfl) (da_cons (de_var 2) (da_cons (de_var 1) (da_cons de_int (da_cons de_int (da_cons (de_callD D__law_pick (hr.mono (by first | decide | omega | (simp only [Nat.add_eq]; omega))) rfl (takes_of rfl rfl rfl rfl) (da_cons (de_var 2) (da_cons (de_lst (da_cons de_int (da_cons de_int da_nil))) da_nil))) da_nil))))))) (dss_cons (ds_set (i := 7) sc_law.nd rfl (by first | exact Or.inl rfl | exact Or.inr rfl) (de_callD D__law_trace (hr.mono (by first | decide | omega | (simp only [Nat.add_eq]; omega))) rfl (takes_of rfl rfl rfl rfl) (da_cons (de_var 6) da_nil))) (dss_cons (ds_if (DW.dt (dw_or (dt_ne hr.units (de_callD D__law_told (hr.mono (by first | decide | omega | (simp only [Nat.add_eq]; omega))) rfl (takes_of rfl rfl rfl rfl) (da_cons de_int (da_cons (de_var 3) (da_cons (de_var 6) da_nil)))) (de_tup (da_cons de_str (da_cons (de_var 7) da_nil)))) (dw_or1 (dt_ne hr.units (de_callD D__law_told (hr.mono (by first | decide | omega | (simp only [Nat.add_eq]; omega))) rfl (takes_of rfl rfl rfl rfl) (da_cons de_int (da_cons (de_var 3) (da_cons (de_var 7) da_nil)))) (de_tup (da_cons de_str (da_cons (de_var 6) da_nil))))))) (dss_one (ds_ret de_bl)) dss_nil) (dss_cons (ds_par (i := 8) (j := 9) rfl sc_law.nd rfl rfl (by decide) rfl rfl (de_callD D__law_take (hr.mono (by first | decide | omega | (simp only [Nat.add_eq]; omega))) rfl (takes_of rfl rfl rfl rfl) (da_cons (de_var 2) (da_cons (de_len rfl T.b_len (de_var 7)) da_nil))) (de_callD D__law_take (hr.mono (by first | decide | omega | (simp only [Nat.add_eq]; omega))) rfl (takes_of rfl rfl rfl rfl) (da_cons (de_var 2) (da_cons (de_len rfl T.b_len (de_var 7)) da_nil))) (by rfl)) (dss_cons (ds_set (i := 10) sc_law.nd rfl (by first | exact Or.inl rfl | exact Or.inr rfl) (de_listC rfl T.b_list (de_var 7))) (dss_cons (ds_swap rfl (de_tup (da_cons (de_item (de_var 7) (de_var 9)) (da_cons (de_item (de_var 7) (de_var 8)) da_nil))) (de_var 10) (de_var 8) (de_var 10) (de_var 9)) (dss_cons (ds_set (i := 4) sc_law.nd rfl (by first | exact Or.inl rfl | exact Or.inr rfl) (de_add (de_var 4) (de_lst (da_cons (de_add (de_slice (de_var 7) do_none (do_some (de_var 8))) (de_slice (de_var 7) (do_some (de_add (de_var 8) de_int)) do_none)) (da_cons (de_add (de_add (de_slice (de_var 7) do_none (do_some (de_var 8))) (de_slice (de_var 7) (do_some (de_var 8)) (do_some (de_add (de_var 8) de_int)))) (de_slice (de_var 7) (do_some (de_var 8)) do_none)) (da_cons (de_tuple rfl T.b_tuple (de_var 10)) (da_cons (de_slice (de_var 7) do_none (do_some (de_neg de_int))) (da_cons (de_add (de_var 7) (de_var 7)) (da_cons (de_rev (de_var 7)) da_nil))))))))) (dss_one (ds_set (i := 4) sc_law.nd rfl (by first | exact Or.inl rfl | exact Or.inr rfl) (de_add (de_var 4) (de_lst (da_cons (de_callD D__law_spoilt (hr.mono (by first | decide | omega | (simp only [Nat.add_eq]; omega))) rfl (takes_of rfl rfl rfl rfl) (da_cons (de_var 2) (da_cons (de_var 7) (da_cons de_int da_nil)))) (da_cons (de_add (de_add (de_slice (de_var 7) do_none (do_some (de_var 8))) (de_tup (da_cons de_int da_nil))) (de_slice (de_var 7) (do_some (de_var 8)) do_none)) da_nil)))))))))))))) (dss_cons (ds_for (passes_of rfl) rfl (di_seq (de_var 4)) (dg_name (i := 11) sc_law.nd rfl (by first | exact Or.inl rfl | exact Or.inr rfl)) (dss_cons (ds_set (i := 6) sc_law.nd rfl (by first | exact Or.inl rfl | exact Or.inr rfl) (de_callD D__law_read (hr.mono (by first | decide | omega | (simp only [Nat.add_eq]; omega))) rfl (takes_of rfl rfl rfl rfl) (da_cons (de_var 1) (da_cons (de_var 11) da_nil)))) (dss_one (ds_if (dt_ne hr.units (de_callD D__law_told (hr.mono (by first | decide | omega | (simp only [Nat.add_eq]; omega))) rfl (takes_of rfl rfl rfl rfl) (da_cons de_int (da_cons (de_var 3) (da_cons (de_var 11) da_nil)))) (de_if (dt_is (de_var 6) de_non) (de_tup (da_cons de_str (da_cons (de_var 11) da_nil))) (de_tup (da_cons de_str (da_cons (de_var 6) da_nil))))) (dss_one (ds_ret de_bl)) dss_nil)))) (dss_cons (ds_for (passes_of rfl) rfl (di_seq (de_callD D__law_run_values (hr.mono (by first | decide | omega | (simp only [Nat.add_eq]; omega))) rfl (takes_of rfl rfl rfl rfl) (da_cons (de_var 1) da_nil))) (dg_name (i := 11) sc_law.nd rfl (by first | exact Or.inl rfl | exact Or.inr rfl)) (dss_cons (ds_set (i := 12) sc_law.nd rfl (by first | exact Or.inl rfl | exact Or.inr rfl) (de_callD D__law_is_run (hr.mono (by first | decide | omega | (simp only [Nat.add_eq]; omega))) rfl (takes_of rfl rfl rfl rfl) (da_cons (de_var 1) (da_cons (de_var 11) da_nil)))) (dss_cons (ds_if (dt_ne hr.units (de_callD D__law_told (hr.mono (by first | decide | omega | (simp only [Nat.add_eq]; omega))) rfl (takes_of rfl rfl rfl rfl) (da_cons de_int (da_cons (de_var 3) (da_cons (de_var 11) da_nil)))) (de_if (dt_val (de_var 12)) (de_tup (da_cons de_str (da_cons (de_callD D__law_trace (hr.mono (by first | decide | omega | (simp only [Nat.add_eq]; omega))) rfl (takes_of rfl rfl rfl rfl) (da_cons (de_var 11) da_nil)) da_nil))) (de_tup (da_cons de_str (da_cons (de_var 11) da_nil))))) (dss_one (ds_ret de_bl)) dss_nil) (dss_one (ds_if (DW.dt (dw_and (dt_val (de_isi rfl T.b_isinstance rfl T.b_tuple PyProof.Rows.boot_tuple (de_var 11))) (dw_and (dt_eq hr.units (de_len rfl T.b_len (de_var 11)) de_int) (dw_and1 (dt_val (de_isi rfl T.b_isinstance rfl T.b_tuple PyProof.Rows.boot_tuple (de_item (de_var 11) de_int))))))) (dss_cons (ds_set (i := 13) sc_law.nd rfl (by first | exact Or.inl rfl | exact Or.inr rfl) (de_if (DW.dt (dw_or (dt_val (de_var 12)) (dw_or1 (dt_val (de_callD D__law_is_shaped (hr.mono (by first | decide | omega | (simp only [Nat.add_eq]; omega))) rfl (takes_of rfl rfl rfl rfl) (da_cons (de_var 11) da_nil)))))) (de_callD D__law_trace (hr.mono (by first | decide | omega | (simp only [Nat.add_eq]; omega))) rfl (takes_of rfl rfl rfl rfl) (da_cons (de_var 11) da_nil)) (de_tup da_nil))) (dss_one (ds_if (dt_ne hr.units (de_callD D__law_told (hr.mono (by first | decide | omega | (simp only [Nat.add_eq]; omega))) rfl (takes_of rfl rfl rfl rfl) (da_cons de_int (da_cons (de_var 3) (da_cons (de_var 13) da_nil)))) (de_if (dt_val (de_var 12)) (de_tup (da_cons de_str (da_cons (de_var 11) da_nil))) (de_tup (da_cons de_str (da_cons (de_var 13) da_nil))))) (dss_one (ds_ret de_bl)) dss_nil))) dss_nil))))) (dss_one (ds_ret de_bl))))))))))))
set_option maxHeartbeats 2000000 in
theorem fn_law (T : Txt P K mg C_Calls) {fa : Addr} {fd : FuncData} (Fn : Fun K "law" "law" s_law fa fd) (D__law_run_values : DefOk P w K mg base "_law_run_values" ["calls"] 1 F__law_run_values) (D__law_told : DefOk P w K mg base "_law_told" ["kind", "made", "value"] 27 F__law_told) (D__law_is_shaped : DefOk P w K mg base "_law_is_shaped" ["value"] 21 (F__law_is_shaped 20)) (D__law_trace : DefOk P w K mg base "_law_trace" ["run"] 21 (F__law_trace 20)) (D__law_is_run : DefOk P w K mg base "_law_is_run" ["calls", "value"] 2 F__law_is_run) (D__law_read : DefOk P w K mg base "_law_read" ["calls", "value"] 3 F__law_read) (D__law_spoilt : DefOk P w K mg base "_law_spoilt" ["box", "value", "deep"] 23 (F__law_spoilt 20)) (D__law_take : DefOk P w K mg base "_law_take" ["box", "many"] 1 F__law_take) (D__law_drawn_run : DefOk P w K mg base "_law_drawn_run" ["box", "calls", "function", "room", "wide"] 42 (F__law_drawn_run 20)) (D__law_pick : DefOk P w K mg base "_law_pick" ["box", "some"] 2 F__law_pick) (D__law_made : DefOk P w K mg base "_law_made" ["calls"] 7 F__law_made) (D__law_box : DefOk P w K mg base "_law_box" ["script", "k"] 1 F__law_box) (D__law_calls : DefOk P w K mg base "_law_calls" ["script"] 3 F__law_calls) : FnOk P w K mg base (L2.CX P w) 43 fa fd ["script"] (spD ⟨mg, K⟩ F_law) :=
  law_fn Fn sc_law fun cdv A outer s H E hr => (dss_cons (ds_set (i := 1) sc_law.nd rfl (by first | exact Or.inl rfl | exact Or.inr rfl) (de_callD D__law_calls (hr.mono (by first | decide | omega | (simp only [Nat.add_eq]; omega))) rfl (takes_of rfl rfl rfl rfl) (da_cons (de_var 0) da_nil))) (dss_cons (ds_set (i := 2) sc_law.nd rfl (by first | exact Or.inl rfl | exact Or.inr rfl) (de_callD D__law_box (hr.mono (by first | decide | omega | (simp only [Nat.add_eq]; omega))) rfl (takes_of rfl rfl rfl rfl) (da_cons (de_var 0) (da_cons de_int da_nil)))) (dss_cons (ds_set (i := 3) sc_law.nd rfl (by first | exact Or.inl rfl | exact Or.inr rfl) (de_callD D__law_made (hr.mono (by first | decide | omega | (simp only [Nat.add_eq]; omega))) rfl (takes_of rfl rfl rfl rfl) (da_cons (de_var 1) da_nil))) (dss_cons (ds_set (i := 4) sc_law.nd rfl (by first | exact Or.inl rfl | exact Or.inr rfl) (de_lst (da_cons (de_tup da_nil) (da_cons de_non (da_cons de_int (da_cons (de_tup (da_cons (de_tup (da_cons de_str (da_cons de_int da_nil))) da_nil)) (da_cons (de_tup (da_cons (de_tup (da_cons de_str (da_cons de_int da_nil))) (da_cons (de_tup (da_cons de_str (da_cons de_int da_nil))) da_nil))) (da_cons (de_tup (da_cons (de_tup (da_cons de_str (da_cons de_int da_nil))) (da_cons de_int (da_cons (de_tup (da_cons de_str (da_cons de_int da_nil))) da_nil)))) (da_cons (de_tup (da_cons (de_tup (da_cons de_str (da_cons de_int da_nil))) (da_cons de_int (da_cons (de_tup (da_cons de_str (da_cons de_int da_nil))) da_nil)))) da_nil))))))))) (dss_cons (ds_set (i := 4) sc_law.nd rfl (by first | exact Or.inl rfl | exact Or.inr rfl) (de_add (de_var 4) (de_lst (da_cons (de_tup (da_cons (de_tup (da_cons de_str (da_cons de_int da_nil))) (da_cons (de_tup (da_cons de_str (da_cons de_int da_nil))) da_nil))) (da_cons (de_tup (da_cons (de_tup (da_cons de_str (da_cons de_int da_nil))) (da_cons (de_tup (da_cons de_str (da_cons de_int da_nil))) da_nil))) (da_cons (de_tup (da_cons de_int da_nil)) (da_cons (de_tup (da_cons (de_tup (da_cons de_str (da_cons de_int da_nil))) (da_cons (de_tup (da_cons de_str (da_cons de_int da_nil))) da_nil))) da_nil))))))) (dss_cons (ds_set (i := 4) sc_law.nd rfl (by first | exact Or.inl rfl | exact Or.inr rfl) (de_add (de_var 4) (de_lst (da_cons (de_tup (da_cons (de_tup (da_cons de_str (da_cons de_bl da_nil))) (da_cons (de_tup (da_cons de_str (da_cons de_bl da_nil))) da_nil))) (da_cons (de_tup (da_cons (de_tup (da_cons de_str (da_cons de_int da_nil))) (da_cons (de_tup (da_cons de_str (da_cons de_int da_nil))) (da_cons de_int da_nil)))) (da_cons (de_repT (de_tup (da_cons (de_tup (da_cons de_str (da_cons de_int da_nil))) (da_cons (de_tup (da_cons de_str (da_cons de_int da_nil))) da_nil))) de_int) (da_cons (de_lst (da_cons (de_tup (da_cons de_str (da_cons de_int da_nil))) (da_cons (de_tup (da_cons de_str (da_cons de_int da_nil))) da_nil))) da_nil))))))) (dss_cons (ds_set (i := 4) sc_law.nd rfl (by first | exact Or.inl rfl | exact Or.inr rfl) (de_add (de_var 4) (de_lst (da_cons (de_tup (da_cons (de_lst (da_cons de_str (da_cons de_int da_nil))) (da_cons (de_tup (da_cons de_str (da_cons de_int da_nil))) da_nil))) (da_cons (de_tup (da_cons (de_tup (da_cons de_str (da_cons de_int da_nil))) (da_cons (de_tup (da_cons de_str (da_cons de_int da_nil))) (da_cons (de_tup (da_cons de_str (da_cons de_int da_nil))) (da_cons (de_tup (da_cons de_str (da_cons de_int da_nil))) da_nil))))) (da_cons (de_tup (da_cons (de_tup (da_cons de_str (da_cons de_int (da_cons de_int da_nil)))) (da_cons (de_tup (da_cons de_str (da_cons de_int da_nil))) da_nil))) da_nil)))))) (dss_cons (ds_for (passes_of rfl) rfl (di_rng1 rfl T.b_range de_int) (dg_name (i := 5) sc_law.nd rfl (by first | exact Or.inl rfl | exact Or.inr rfl)) (dss_cons (ds_set (i := 6) sc_law.nd rfl (by first | exact Or.inl rfl | exact Or.inr rfl) (de_callD D__law_drawn_run (hr.mono (by first | decide | omega | (simp only [Nat.add_eq]; omega))) rfl (takes_of rfl rfl rfl rfl) (da_cons (de_var 2) (da_cons (de_var 1) (da_cons de_int (da_cons de_int (da_cons (de_callD D__law_pick (hr.mono (by first | decide | omega | (simp only [Nat.add_eq]; omega))) rfl (takes_of rfl rfl rfl rfl) (da_cons (de_var 2) (da_cons (de_lst (da_cons de_int (da_cons de_int da_nil))) da_nil))) da_nil))))))) (dss_cons (ds_set (i := 7) sc_law.nd rfl (by first | exact Or.inl rfl | exact Or.inr rfl) (de_callD D__law_trace (hr.mono (by first | decide | omega | (simp only [Nat.add_eq]; omega))) rfl (takes_of rfl rfl rfl rfl) (da_cons (de_var 6) da_nil))) (dss_cons (ds_if (DW.dt (dw_or (dt_ne hr.units (de_callD D__law_told (hr.mono (by first | decide | omega | (simp only [Nat.add_eq]; omega))) rfl (takes_of rfl rfl rfl rfl) (da_cons de_int (da_cons (de_var 3) (da_cons (de_var 6) da_nil)))) (de_tup (da_cons de_str (da_cons (de_var 7) da_nil)))) (dw_or1 (dt_ne hr.units (de_callD D__law_told (hr.mono (by first | decide | omega | (simp only [Nat.add_eq]; omega))) rfl (takes_of rfl rfl rfl rfl) (da_cons de_int (da_cons (de_var 3) (da_cons (de_var 7) da_nil)))) (de_tup (da_cons de_str (da_cons (de_var 6) da_nil))))))) (dss_one (ds_ret de_bl)) dss_nil) (dss_cons (ds_par (i := 8) (j := 9) rfl sc_law.nd rfl rfl (by decide) rfl rfl (de_callD D__law_take (hr.mono (by first | decide | omega | (simp only [Nat.add_eq]; omega))) rfl (takes_of rfl rfl rfl rfl) (da_cons (de_var 2) (da_cons (de_len rfl T.b_len (de_var 7)) da_nil))) (de_callD D__law_take (hr.mono (by first | decide | omega | (simp only [Nat.add_eq]; omega))) rfl (takes_of rfl rfl rfl rfl) (da_cons (de_var 2) (da_cons (de_len rfl T.b_len (de_var 7)) da_nil))) (by rfl)) (dss_cons (ds_set (i := 10) sc_law.nd rfl (by first | exact Or.inl rfl | exact Or.inr rfl) (de_listC rfl T.b_list (de_var 7))) (dss_cons (ds_swap rfl (de_tup (da_cons (de_item (de_var 7) (de_var 9)) (da_cons (de_item (de_var 7) (de_var 8)) da_nil))) (de_var 10) (de_var 8) (de_var 10) (de_var 9)) (dss_cons (ds_set (i := 4) sc_law.nd rfl (by first | exact Or.inl rfl | exact Or.inr rfl) (de_add (de_var 4) (de_lst (da_cons (de_add (de_slice (de_var 7) do_none (do_some (de_var 8))) (de_slice (de_var 7) (do_some (de_add (de_var 8) de_int)) do_none)) (da_cons (de_add (de_add (de_slice (de_var 7) do_none (do_some (de_var 8))) (de_slice (de_var 7) (do_some (de_var 8)) (do_some (de_add (de_var 8) de_int)))) (de_slice (de_var 7) (do_some (de_var 8)) do_none)) (da_cons (de_tuple rfl T.b_tuple (de_var 10)) (da_cons (de_slice (de_var 7) do_none (do_some (de_neg de_int))) (da_cons (de_add (de_var 7) (de_var 7)) (da_cons (de_rev (de_var 7)) da_nil))))))))) (dss_one (ds_set (i := 4) sc_law.nd rfl (by first | exact Or.inl rfl | exact Or.inr rfl) (de_add (de_var 4) (de_lst (da_cons (de_callD D__law_spoilt (hr.mono (by first | decide | omega | (simp only [Nat.add_eq]; omega))) rfl (takes_of rfl rfl rfl rfl) (da_cons (de_var 2) (da_cons (de_var 7) (da_cons de_int da_nil)))) (da_cons (de_add (de_add (de_slice (de_var 7) do_none (do_some (de_var 8))) (de_tup (da_cons de_int da_nil))) (de_slice (de_var 7) (do_some (de_var 8)) do_none)) da_nil)))))))))))))) (dss_cons (ds_for (passes_of rfl) rfl (di_seq (de_var 4)) (dg_name (i := 11) sc_law.nd rfl (by first | exact Or.inl rfl | exact Or.inr rfl)) (dss_cons (ds_set (i := 6) sc_law.nd rfl (by first | exact Or.inl rfl | exact Or.inr rfl) (de_callD D__law_read (hr.mono (by first | decide | omega | (simp only [Nat.add_eq]; omega))) rfl (takes_of rfl rfl rfl rfl) (da_cons (de_var 1) (da_cons (de_var 11) da_nil)))) (dss_one (ds_if (dt_ne hr.units (de_callD D__law_told (hr.mono (by first | decide | omega | (simp only [Nat.add_eq]; omega))) rfl (takes_of rfl rfl rfl rfl) (da_cons de_int (da_cons (de_var 3) (da_cons (de_var 11) da_nil)))) (de_if (dt_is (de_var 6) de_non) (de_tup (da_cons de_str (da_cons (de_var 11) da_nil))) (de_tup (da_cons de_str (da_cons (de_var 6) da_nil))))) (dss_one (ds_ret de_bl)) dss_nil)))) (dss_cons (ds_for (passes_of rfl) rfl (di_seq (de_callD D__law_run_values (hr.mono (by first | decide | omega | (simp only [Nat.add_eq]; omega))) rfl (takes_of rfl rfl rfl rfl) (da_cons (de_var 1) da_nil))) (dg_name (i := 11) sc_law.nd rfl (by first | exact Or.inl rfl | exact Or.inr rfl)) (dss_cons (ds_set (i := 12) sc_law.nd rfl (by first | exact Or.inl rfl | exact Or.inr rfl) (de_callD D__law_is_run (hr.mono (by first | decide | omega | (simp only [Nat.add_eq]; omega))) rfl (takes_of rfl rfl rfl rfl) (da_cons (de_var 1) (da_cons (de_var 11) da_nil)))) (dss_cons (ds_if (dt_ne hr.units (de_callD D__law_told (hr.mono (by first | decide | omega | (simp only [Nat.add_eq]; omega))) rfl (takes_of rfl rfl rfl rfl) (da_cons de_int (da_cons (de_var 3) (da_cons (de_var 11) da_nil)))) (de_if (dt_val (de_var 12)) (de_tup (da_cons de_str (da_cons (de_callD D__law_trace (hr.mono (by first | decide | omega | (simp only [Nat.add_eq]; omega))) rfl (takes_of rfl rfl rfl rfl) (da_cons (de_var 11) da_nil)) da_nil))) (de_tup (da_cons de_str (da_cons (de_var 11) da_nil))))) (dss_one (ds_ret de_bl)) dss_nil) (dss_one (ds_if (DW.dt (dw_and (dt_val (de_isi rfl T.b_isinstance rfl T.b_tuple PyProof.Rows.boot_tuple (de_var 11))) (dw_and (dt_eq hr.units (de_len rfl T.b_len (de_var 11)) de_int) (dw_and1 (dt_val (de_isi rfl T.b_isinstance rfl T.b_tuple PyProof.Rows.boot_tuple (de_item (de_var 11) de_int))))))) (dss_cons (ds_set (i := 13) sc_law.nd rfl (by first | exact Or.inl rfl | exact Or.inr rfl) (de_if (DW.dt (dw_or (dt_val (de_var 12)) (dw_or1 (dt_val (de_callD D__law_is_shaped (hr.mono (by first | decide | omega | (simp only [Nat.add_eq]; omega))) rfl (takes_of rfl rfl rfl rfl) (da_cons (de_var 11) da_nil)))))) (de_callD D__law_trace (hr.mono (by first | decide | omega | (simp only [Nat.add_eq]; omega))) rfl (takes_of rfl rfl rfl rfl) (da_cons (de_var 11) da_nil)) (de_tup da_nil))) (dss_one (ds_if (dt_ne hr.units (de_callD D__law_told (hr.mono (by first | decide | omega | (simp only [Nat.add_eq]; omega))) rfl (takes_of rfl rfl rfl rfl) (da_cons de_int (da_cons (de_var 3) (da_cons (de_var 13) da_nil)))) (de_if (dt_val (de_var 12)) (de_tup (da_cons de_str (da_cons (de_var 11) da_nil))) (de_tup (da_cons de_str (da_cons (de_var 13) da_nil))))) (dss_one (ds_ret de_bl)) dss_nil))) dss_nil))))) (dss_one (ds_ret de_bl))))))))))))
end
end LK
set_option Elab.async false
set_option linter.all false
set_option maxRecDepth 100000
namespace LK
open PySem PySem.Spec L2 DL
/-- a loop that leaves the store as it is -/
theorem loop_inv {sv : SrcV} {t : Tg} {u : Fs} {S : Store} (ds : List D) (hn : ∀ i, sv.nxt i S = some ds[i]?) (Pv : Nat → Sl → Prop)
    (step : ∀ (i : Nat) (d : D) (ρ : Sl), ds[i]? = some d → Pv i ρ → ∃ ρ1 ρ2, t d ρ = some ρ1 ∧ u ρ1 S = .nx ρ2 S ∧ Pv (i + 1) ρ2) :
    ∀ (m i : Nat) (ρ : Sl), i + m = ds.length → Pv i ρ → ∃ ρ', loopS sv t u m i ρ S = .nx ρ' S ∧ Pv ds.length ρ'
  | 0, i, ρ, h, p => by
    have e : i = ds.length := by omega
    subst e
    refine ⟨ρ, ?_, p⟩
    unfold loopS
    rw [hn, List.getElem?_eq_none (Nat.le_refl _)]
  | m + 1, i, ρ, h, p => by
    have hi : i < ds.length := by omega
    obtain ⟨ρ1, ρ2, e1, e2, p2⟩ := step i ds[i] ρ (List.getElem?_eq_getElem hi) p
    obtain ⟨ρ', e3, p3⟩ := loop_inv ds hn Pv step m (i + 1) ρ2 (by omega) p2
    refine ⟨ρ', ?_, p3⟩
    unfold loopS
    rw [hn, List.getElem?_eq_getElem hi]
    simp only [e1, e2]
    exact e3
theorem stp {u v : Fs} {ρ ρ' : Sl} {S S' : Store} (h : u ρ S = .nx ρ' S') : sSeq u v ρ S = v ρ' S' := by
  unfold sSeq; rw [h]; rfl
end LK
set_option Elab.async false
set_option linter.all false
set_option maxRecDepth 100000
namespace LK
open PySem PySem.Spec L2 DL
/-- a comprehension that leaves the store as it is: f tells of each item what is put, or that nothing is -/
theorem loopC_inv {sv : SrcV} {t : Tg} {tb : Fb} {el : Fe} {S : Store} (ds : List D) (hn : ∀ i, sv.nxt i S = some ds[i]?) (hz : ds.length < sizeLine) (f : D → Option PyData) {ρ : Sl}
    (step : ∀ (d : D), d ∈ ds → ∃ ρ1 b, t d ρ = some ρ1 ∧ tb ρ1 S = .ok b S ∧ (b = false → f d = none) ∧ (b = true → ∃ x, el ρ1 S = .ok (.p x) S ∧ f d = some x)) :
    ∀ (m i : Nat) (acc : List PyData), i + m = ds.length → acc.length ≤ i → loopC sv t tb el m i ρ (acc.map D.p) S = .ok ((acc ++ (ds.drop i).filterMap f).map D.p) S
  | 0, i, acc, h, ha => by
    have e : i = ds.length := by omega
    subst e
    unfold loopC
    rw [hn, List.getElem?_eq_none (Nat.le_refl _)]
    simp
  | m + 1, i, acc, h, ha => by
    have hi : i < ds.length := by omega
    obtain ⟨ρ1, b, e1, e2, hf, ht⟩ := step ds[i] (List.getElem_mem hi)
    unfold loopC
    rw [hn, List.getElem?_eq_getElem hi]
    simp only [e1, e2, bindN]
    have hd : ds.drop i = ds[i] :: ds.drop (i + 1) := List.drop_eq_getElem_cons hi
    cases b with
    | false =>
      rw [if_neg Bool.false_ne_true, loopC_inv ds hn hz f step m (i + 1) acc (by omega) (by omega), hd, List.filterMap_cons, hf rfl]
    | true =>
      obtain ⟨x, ex, fx⟩ := ht rfl
      rw [if_pos rfl]
      simp only [ex, bindN]
      rw [if_pos (by rw [List.length_map]; omega)]
      have ea : acc.map D.p ++ [D.p x] = (acc ++ [x]).map D.p := by simp
      rw [ea, loopC_inv ds hn hz f step m (i + 1) (acc ++ [x]) (by omega) (by rw [List.length_append]; simp; omega), hd, List.filterMap_cons, fx]
      simp
theorem asPs_map : ∀ (es : List PyData), asPs (es.map D.p) = some es
  | [] => rfl
  | e :: es => by
    have := asPs_map es
    simp [asPs, this]
/-- .. the whole of it -/
theorem comp_inv {fsrc : Fsrc} {vs : List Nat} {t : Tg} {tb : Fb} {el : Fe} {ρ : Sl} {S : Store} {sv : SrcV} (hsrc : fsrc ρ S = .ok sv S) (ds : List D) (hc : sv.count S = ds.length) (hn : ∀ i, sv.nxt i S = some ds[i]?) (hz : ds.length < sizeLine) (f : D → Option PyData)
    (step : ∀ (d : D), d ∈ ds → ∃ ρ1 b, t d (wipeD ρ vs) = some ρ1 ∧ tb ρ1 S = .ok b S ∧ (b = false → f d = none) ∧ (b = true → ∃ x, el ρ1 S = .ok (.p x) S ∧ f d = some x)) :
    eLc fsrc vs t tb el ρ S = .ok (.p (.list (ds.filterMap f))) S := by
  have e := loopC_inv ds hn hz f step ds.length 0 [] (by omega) (by simp)
  unfold eLc
  simp only [M.bind, hsrc]
  rw [hc, show ([] : List D) = ([] : List PyData).map D.p from rfl, e]
  simp only [kAcc, List.nil_append, List.drop_zero, asPs_map]
  rfl
end LK
set_option Elab.async false
set_option linter.all false
set_option maxRecDepth 100000
namespace LK
open PySem PySem.Spec L2 DL
/-- a loop over a tuple that changes the store, and may return -/
theorem loop_fold {α β : Type} {t : Tg} {u : Fs} (ps : List PyData) (f : α → PyData → α ⊕ β) (Rl : α → Sl → Store → Prop) (Fin : β → D → Store → Prop)
    (step : ∀ (p : PyData) (a : α) (ρ : Sl) (S : Store), p ∈ ps → Rl a ρ S → ∃ ρ1, t (.p p) ρ = some ρ1 ∧ match f a p with
      | .inl a' => ∃ ρ2 S2, u ρ1 S = .nx ρ2 S2 ∧ Rl a' ρ2 S2
      | .inr b => ∃ d S2, u ρ1 S = .rt d S2 ∧ Fin b d S2) :
    ∀ (m i : Nat) (a : α) (ρ : Sl) (S : Store), i + m = ps.length → Rl a ρ S → match walkF f a (ps.drop i) with
      | .inl a' => ∃ ρ' S', loopS (.seq (.p (.tuple ps))) t u m i ρ S = .nx ρ' S' ∧ Rl a' ρ' S'
      | .inr b => ∃ d S', loopS (.seq (.p (.tuple ps))) t u m i ρ S = .rt d S' ∧ Fin b d S'
  | 0, i, a, ρ, S, h, r => by
    have e : i = ps.length := by omega
    subst e
    rw [List.drop_eq_nil_of_le (Nat.le_refl _)]
    refine ⟨ρ, S, ?_, r⟩
    unfold loopS
    rw [show (SrcV.seq (.p (.tuple ps))).nxt ps.length S = some (ps.map D.p)[ps.length]? from rfl, List.getElem?_eq_none (by simp)]
  | m + 1, i, a, ρ, S, h, r => by
    have hi : i < ps.length := by omega
    have hd : ps.drop i = ps[i] :: ps.drop (i + 1) := List.drop_eq_getElem_cons hi
    have hx : (SrcV.seq (.p (.tuple ps))).nxt i S = some (some (.p ps[i])) := by
      show some (ps.map D.p)[i]? = _
      rw [List.getElem?_map, List.getElem?_eq_getElem hi]
      rfl
    obtain ⟨ρ1, e1, st⟩ := step ps[i] a ρ S (List.getElem_mem hi) r
    rw [hd]
    unfold walkF loopS
    rw [hx]
    simp only [e1]
    cases hf : f a ps[i] with
    | inl a' =>
      rw [hf] at st
      obtain ⟨ρ2, S2, e2, r2⟩ := st
      simp only [e2]
      exact loop_fold ps f Rl Fin step m (i + 1) a' ρ2 S2 (by omega) r2
    | inr b =>
      rw [hf] at st
      obtain ⟨d, S2, e2, q⟩ := st
      simp only [e2]
      exact ⟨d, S2, rfl, q⟩
end LK
set_option Elab.async false
set_option linter.all false
set_option maxRecDepth 100000
namespace LK
open PySem PySem.Spec L2 DL
/-- a loop whose items are known, that changes the store, and may return -/
theorem loop_foldS {α β : Type} {sv : SrcV} {t : Tg} {u : Fs} (ps : List PyData) (hn : ∀ i S, sv.nxt i S = some ((ps.map D.p)[i]?)) (f : α → PyData → α ⊕ β) (Rl : List PyData → α → Sl → Store → Prop) (Fin : β → D → Store → Prop)
    (step : ∀ (p : PyData) (rest : List PyData) (a : α) (ρ : Sl) (S : Store), p ∈ ps → Rl (p :: rest) a ρ S → ∃ ρ1, t (.p p) ρ = some ρ1 ∧ match f a p with
      | .inl a' => ∃ ρ2 S2, u ρ1 S = .nx ρ2 S2 ∧ Rl rest a' ρ2 S2
      | .inr b => ∃ d S2, u ρ1 S = .rt d S2 ∧ Fin b d S2) :
    ∀ (m i : Nat) (a : α) (ρ : Sl) (S : Store), i + m = ps.length → Rl (ps.drop i) a ρ S → match walkF f a (ps.drop i) with
      | .inl a' => ∃ ρ' S', loopS sv t u m i ρ S = .nx ρ' S' ∧ Rl [] a' ρ' S'
      | .inr b => ∃ d S', loopS sv t u m i ρ S = .rt d S' ∧ Fin b d S'
  | 0, i, a, ρ, S, h, r => by
    have e : i = ps.length := by omega
    subst e
    rw [List.drop_eq_nil_of_le (Nat.le_refl _)] at r ⊢
    refine ⟨ρ, S, ?_, r⟩
    unfold loopS
    rw [hn, List.getElem?_eq_none (by simp)]
  | m + 1, i, a, ρ, S, h, r => by
    have hi : i < ps.length := by omega
    have hd : ps.drop i = ps[i] :: ps.drop (i + 1) := List.drop_eq_getElem_cons hi
    have hx : sv.nxt i S = some (some (.p ps[i])) := by
      rw [hn, List.getElem?_map, List.getElem?_eq_getElem hi]
      rfl
    obtain ⟨ρ1, e1, st⟩ := step ps[i] (ps.drop (i + 1)) a ρ S (List.getElem_mem hi) (hd ▸ r)
    rw [hd]
    unfold walkF loopS
    rw [hx]
    simp only [e1]
    cases hf : f a ps[i] with
    | inl a' =>
      rw [hf] at st
      obtain ⟨ρ2, S2, e2, r2⟩ := st
      simp only [e2]
      exact loop_foldS ps hn f Rl Fin step m (i + 1) a' ρ2 S2 (by omega) r2
    | inr b =>
      rw [hf] at st
      obtain ⟨d, S2, e2, q⟩ := st
      simp only [e2]
      exact ⟨d, S2, rfl, q⟩
/-- .. as a statement -/
theorem for_fold {α β : Type} {src : Fsrc} {sv : SrcV} {t : Tg} {u : Fs} (ps : List PyData) (f : α → PyData → α ⊕ β) (Rl : List PyData → α → Sl → Store → Prop) (Fin : β → D → Store → Prop) {a : α} {ρ : Sl} {S S1 : Store}
    (hs : src ρ S = .ok sv S1) (hc : sv.count S1 = ps.length) (hn : ∀ i S, sv.nxt i S = some ((ps.map D.p)[i]?)) (h0 : Rl ps a ρ S1)
    (step : ∀ (p : PyData) (rest : List PyData) (a : α) (ρ : Sl) (S : Store), p ∈ ps → Rl (p :: rest) a ρ S → ∃ ρ1, t (.p p) ρ = some ρ1 ∧ match f a p with
      | .inl a' => ∃ ρ2 S2, u ρ1 S = .nx ρ2 S2 ∧ Rl rest a' ρ2 S2
      | .inr b => ∃ d S2, u ρ1 S = .rt d S2 ∧ Fin b d S2) :
    match walkF f a ps with
      | .inl a' => ∃ ρ' S', sFor src t u ρ S = .nx ρ' S' ∧ Rl [] a' ρ' S'
      | .inr b => ∃ d S', sFor src t u ρ S = .rt d S' ∧ Fin b d S' := by
  have L := loop_foldS ps hn f Rl Fin step ps.length 0 a ρ S1 (by omega) (by rw [List.drop_zero]; exact h0)
  rw [List.drop_zero] at L
  have e : sFor src t u ρ S = loopS sv t u ps.length 0 ρ S1 := by
    unfold sFor bindS
    rw [hs]
    show loopS _ _ _ (sv.count S1) 0 _ _ = _
    rw [hc]
  rw [e]
  exact L
theorem seq_tup_nxt (ps : List PyData) (i : Nat) (S : Store) : (SrcV.seq (.p (.tuple ps))).nxt i S = some ((ps.map D.p)[i]?) := rfl
theorem seq_lst_nxt (ps : List PyData) (i : Nat) (S : Store) : (SrcV.seq (.p (.list ps))).nxt i S = some ((ps.map D.p)[i]?) := rfl
theorem seq_tup_count (ps : List PyData) (S : Store) : (SrcV.seq (.p (.tuple ps))).count S = ps.length := by
  show ((some (ps.map D.p)).map List.length).getD 0 = ps.length
  simp
theorem seq_lst_count (ps : List PyData) (S : Store) : (SrcV.seq (.p (.list ps))).count S = ps.length := by
  show ((some (ps.map D.p)).map List.length).getD 0 = ps.length
  simp
/-- the numbers of a range -/
def rngL (lo : Int) (n : Nat) : List PyData := (List.range n).map fun (i : Nat) => .int (lo + i)
theorem rngL_len {lo : Int} {n : Nat} : (rngL lo n).length = n := by simp [rngL]
theorem rng_nxt (lo : Int) (n i : Nat) (S : Store) : (SrcV.rng lo n).nxt i S = some (((rngL lo n).map D.p)[i]?) := by
  show some (if i < n then some (D.p (.int (lo + i))) else none) = _
  by_cases h : i < n
  · simp [rngL, h]
  · simp [rngL, h]
theorem stpr {u v : Fs} {ρ : Sl} {S S' : Store} {d : D} (h : u ρ S = .rt d S') : sSeq u v ρ S = .rt d S' := by
  unfold sSeq; rw [h]; rfl
theorem walk_const {α β γ : Type} (f : α → γ → α ⊕ β) : ∀ (xs ys : List γ) (a : α), xs.length = ys.length → (∀ a x y, f a x = f a y) → walkF f a xs = walkF f a ys
  | [], [], _, _, _ => rfl
  | [], _ :: _, _, h, _ => by simp at h
  | _ :: _, [], _, h, _ => by simp at h
  | x :: xs, y :: ys, a, h, hf => by
    have e := hf a x y
    cases q : f a y with
    | inl a' => rw [walkF_inl (e.trans q), walkF_inl q]; exact walk_const f xs ys a' (by simpa using h) hf
    | inr b => rw [walkF_inr (e.trans q), walkF_inr q]
end LK
set_option Elab.async false
set_option linter.all false
set_option maxRecDepth 100000
namespace LK
open PySem PySem.Spec L2 DL
/-- a comprehension that may change the store: J tells of what is left, what is put, the store -/
theorem loopC_gen {sv : SrcV} {t : Tg} {tb : Fb} {el : Fe} {ρ : Sl} (ps : List PyData) (hn : ∀ i S, sv.nxt i S = some ((ps.map D.p)[i]?)) (hz : ps.length < 16777216) (J : List PyData → List PyData → Store → Prop)
    (step : ∀ (d : PyData) (rest acc : List PyData) (S : Store), d ∈ ps → J (d :: rest) acc S → ∃ ρ1 b S1, t (.p d) ρ = some ρ1 ∧ tb ρ1 S = .ok b S1 ∧ (b = false → J rest acc S1) ∧ (b = true → ∃ x S2, el ρ1 S1 = .ok (.p x) S2 ∧ J rest (acc ++ [x]) S2)) :
    ∀ (m i : Nat) (acc : List PyData) (S : Store), i + m = ps.length → acc.length ≤ i → J (ps.drop i) acc S → ∃ qs S', loopC sv t tb el m i ρ (acc.map D.p) S = .ok (qs.map D.p) S' ∧ J [] qs S'
  | 0, i, acc, S, h, ha, hj => by
    have e : i = ps.length := by omega
    subst e
    rw [List.drop_eq_nil_of_le (Nat.le_refl _)] at hj
    refine ⟨acc, S, ?_, hj⟩
    unfold loopC
    rw [hn, List.getElem?_eq_none (by simp)]
  | m + 1, i, acc, S, h, ha, hj => by
    have hi : i < ps.length := by omega
    have hd : ps.drop i = ps[i] :: ps.drop (i + 1) := List.drop_eq_getElem_cons hi
    rw [hd] at hj
    obtain ⟨ρ1, b, S1, e1, e2, hf, ht⟩ := step ps[i] _ acc S (List.getElem_mem hi) hj
    have hx : sv.nxt i S = some (some (.p ps[i])) := by
      rw [hn, List.getElem?_map, List.getElem?_eq_getElem hi]
      rfl
    unfold loopC
    rw [hx]
    simp only [e1, e2, bindN]
    cases b with
    | false =>
      rw [if_neg Bool.false_ne_true]
      exact loopC_gen ps hn hz J step m (i + 1) acc S1 (by omega) (by omega) (hf rfl)
    | true =>
      obtain ⟨x, S2, ex, hj2⟩ := ht rfl
      rw [if_pos rfl]
      simp only [ex, bindN]
      rw [if_pos (by rw [List.length_map, sizeLine_eq]; omega)]
      have ea : acc.map D.p ++ [D.p x] = (acc ++ [x]).map D.p := by simp
      rw [ea]
      exact loopC_gen ps hn hz J step m (i + 1) (acc ++ [x]) S2 (by omega) (by rw [List.length_append]; simp; omega) hj2
theorem comp_gen {fsrc : Fsrc} {vs : List Nat} {t : Tg} {tb : Fb} {el : Fe} {ρ : Sl} {S S0 : Store} {sv : SrcV} (hsrc : fsrc ρ S = .ok sv S0) (ps : List PyData) (hc : sv.count S0 = ps.length) (hn : ∀ i S, sv.nxt i S = some ((ps.map D.p)[i]?)) (hz : ps.length < 16777216) (J : List PyData → List PyData → Store → Prop) (h0 : J ps [] S0)
    (step : ∀ (d : PyData) (rest acc : List PyData) (S : Store), d ∈ ps → J (d :: rest) acc S → ∃ ρ1 b S1, t (.p d) (wipeD ρ vs) = some ρ1 ∧ tb ρ1 S = .ok b S1 ∧ (b = false → J rest acc S1) ∧ (b = true → ∃ x S2, el ρ1 S1 = .ok (.p x) S2 ∧ J rest (acc ++ [x]) S2)) :
    ∃ qs S', eLc fsrc vs t tb el ρ S = .ok (.p (.list qs)) S' ∧ J [] qs S' := by
  obtain ⟨qs, S', e, hj⟩ := loopC_gen ps hn hz J step ps.length 0 [] S0 (by omega) (by simp) (by rw [List.drop_zero]; exact h0)
  refine ⟨qs, S', ?_, hj⟩
  unfold eLc
  simp only [M.bind, hsrc]
  rw [hc, show ([] : List D) = ([] : List PyData).map D.p from rfl, e]
  simp only [kAcc, asPs_map]
  rfl
/-- a store that keeps what it had, but for a box -/
structure Kp (i : Nat) (S S' : Store) : Prop where
  len : S.length ≤ S'.length
  same : ∀ a, a < S.length → a ≠ i → S'[a]? = S[a]?
  box : ∃ b0 b1 : Int, S'[i]? = some (.lst [.p (.int b0), .p (.int b1)])
def Bx (i : Nat) (S : Store) : Prop := ∃ b0 b1 : Int, S[i]? = some (.lst [.p (.int b0), .p (.int b1)])
theorem Kp.refl {i : Nat} {S : Store} (h : Bx i S) : Kp i S S := ⟨Nat.le_refl _, fun _ _ _ => rfl, h⟩
theorem Kp.trans {i : Nat} {S S' S'' : Store} (h : Kp i S S') (g : Kp i S' S'') : Kp i S S'' :=
  ⟨Nat.le_trans h.len g.len, fun a ha hi => (g.same a (Nat.lt_of_lt_of_le ha h.len) hi).trans (h.same a ha hi), g.box⟩
theorem Bx.lt {i : Nat} {S : Store} (h : Bx i S) : i < S.length := by
  obtain ⟨b0, b1, h⟩ := h
  exact (List.getElem?_eq_some_iff.mp h).1
theorem Kp.ext {i : Nat} {S : Store} (h : Bx i S) (T : Store) : Kp i S (S ++ T) := by
  have hl := h.lt
  obtain ⟨b0, b1, h⟩ := h
  exact ⟨by simp, fun a ha _ => by rw [List.getElem?_append_left ha], b0, b1, by rw [List.getElem?_append_left hl]; exact h⟩
theorem Kp.put {i : Nat} {S : Store} (h : Bx i S) (b0 b1 : Int) : Kp i S (S.set i (.lst [.p (.int b0), .p (.int b1)])) :=
  ⟨by simp, fun a _ hi => by rw [List.getElem?_set_ne hi.symm], b0, b1, List.getElem?_set_self h.lt⟩
theorem Kp.get {i q : Nat} {S S' : Store} {c : Cell} (h : Kp i S S') (hq : S[q]? = some c) (hi : q ≠ i) : S'[q]? = some c :=
  (h.same q (List.getElem?_eq_some_iff.mp hq).1 hi).trans hq
end LK
set_option Elab.async false
set_option linter.all false
set_option maxRecDepth 100000
namespace LK
open PySem PySem.Spec L2 DL
/-! steps of an evaluation -/
section
variable {X Y Z : Fe} {ρ : Sl} {S S1 S2 S3 : Store} {d e : D} {a b c : PyData} {i : Nat}
theorem sRet_of (h : X ρ S = .ok d S1) : sRet X ρ S = .rt d S1 := by unfold sRet bindS; rw [h]
theorem sSet_of (h : X ρ S = .ok d S1) : sSet i X ρ S = .nx (ρ.set i (some d)) S1 := by unfold sSet bindS; rw [h]
theorem sExpr_of (h : X ρ S = .ok d S1) : sExpr X ρ S = .nx ρ S1 := by unfold sExpr bindS; rw [h]
theorem stSet {v : Fs} (h : X ρ S = .ok d S1) : sSeq (sSet i X) v ρ S = v (ρ.set i (some d)) S1 := stp (sSet_of h)
theorem stExpr {v : Fs} (h : X ρ S = .ok d S1) : sSeq (sExpr X) v ρ S = v ρ S1 := stp (sExpr_of h)
theorem un_of {F : D → M D} (h : X ρ S = .ok d S1) : eUn F X ρ S = F d S1 := by unfold eUn M.bind; rw [h]
theorem bin_of {F : D → D → M D} (h : X ρ S = .ok d S1) (g : Y ρ S1 = .ok e S2) : eBin F X Y ρ S = F d e S2 := by unfold eBin M.bind; simp only [h, g]
theorem cb0 {F : List D → M D} : eCB F aNil ρ S = F [] S := rfl
theorem cb1 {F : List D → M D} (h : X ρ S = .ok d S1) : eCB F (aCons X aNil) ρ S = F [d] S1 := by simp [eCB, aCons, aNil, M.bind, M.pure, h]
theorem cb2 {F : List D → M D} (h : X ρ S = .ok d S1) (g : Y ρ S1 = .ok e S2) : eCB F (aCons X (aCons Y aNil)) ρ S = F [d, e] S2 := by simp [eCB, aCons, aNil, M.bind, M.pure, h, g]
theorem cb3 {F : List D → M D} {f : D} (h : X ρ S = .ok d S1) (g : Y ρ S1 = .ok e S2) (k : Z ρ S2 = .ok f S3) : eCB F (aCons X (aCons Y (aCons Z aNil))) ρ S = F [d, e, f] S3 := by simp [eCB, aCons, aNil, M.bind, M.pure, h, g, k]
theorem cb5 {F : List D → M D} {X1 X2 X3 X4 X5 : Fe} {d1 d2 d3 d4 d5 : D} {T1 T2 T3 T4 T5 : Store} (h1 : X1 ρ S = .ok d1 T1) (h2 : X2 ρ T1 = .ok d2 T2) (h3 : X3 ρ T2 = .ok d3 T3) (h4 : X4 ρ T3 = .ok d4 T4) (h5 : X5 ρ T4 = .ok d5 T5) : eCB F (aCons X1 (aCons X2 (aCons X3 (aCons X4 (aCons X5 aNil))))) ρ S = F [d1, d2, d3, d4, d5] T5 := by simp [eCB, aCons, aNil, M.bind, M.pure, h1, h2, h3, h4, h5]
theorem tup1 (h : X ρ S = .ok (.p a) S1) : eTup (aCons X aNil) ρ S = .ok (.p (.tuple [a])) S1 := by simp [eTup, aCons, aNil, M.bind, M.pure, h, kTup, asPs, sizeLine_eq]
theorem tup2 (h : X ρ S = .ok (.p a) S1) (g : Y ρ S1 = .ok (.p b) S2) : eTup (aCons X (aCons Y aNil)) ρ S = .ok (.p (.tuple [a, b])) S2 := by simp [eTup, aCons, aNil, M.bind, M.pure, h, g, kTup, asPs, sizeLine_eq]
theorem tup3 (h : X ρ S = .ok (.p a) S1) (g : Y ρ S1 = .ok (.p b) S2) (k : Z ρ S2 = .ok (.p c) S3) : eTup (aCons X (aCons Y (aCons Z aNil))) ρ S = .ok (.p (.tuple [a, b, c])) S3 := by simp [eTup, aCons, aNil, M.bind, M.pure, h, g, k, kTup, asPs, sizeLine_eq]
theorem eT_of {t : Bool} (h : X ρ S = .ok (.p (.bool t)) S1) : eT X ρ S = .ok t S1 := by simp [eT, M.bind, h, asB, M.pure]
theorem bNot_of {T : Fb} {t : Bool} (h : T ρ S = .ok t S1) : bNot T ρ S = .ok (!t) S1 := by simp [bNot, M.bind, h, M.pure]
theorem bAnd_f {T U : Fb} (h : T ρ S = .ok false S1) : bAnd T U ρ S = .ok false S1 := by simp [bAnd, M.bind, h, M.pure]
theorem bAnd_t {T U : Fb} (h : T ρ S = .ok true S1) : bAnd T U ρ S = U ρ S1 := by simp [bAnd, M.bind, h]
theorem bOr_t {T U : Fb} (h : T ρ S = .ok true S1) : bOr T U ρ S = .ok true S1 := by simp [bOr, M.bind, h, M.pure]
theorem bOr_f {T U : Fb} (h : T ρ S = .ok false S1) : bOr T U ρ S = U ρ S1 := by simp [bOr, M.bind, h]
theorem sIf_t {T : Fb} {u v : Fs} (h : T ρ S = .ok true S1) : sIf T u v ρ S = u ρ S1 := by unfold sIf bindS; rw [h]; rfl
theorem sIf_f {T : Fb} {u v : Fs} (h : T ρ S = .ok false S1) : sIf T u v ρ S = v ρ S1 := by unfold sIf bindS; rw [h]; rfl
/-- an if that only may leave -/
theorem stIf_f {T : Fb} {u v : Fs} (h : T ρ S = .ok false S1) : sSeq (sIf T u sNil) v ρ S = v ρ S1 := stp (by rw [sIf_f h]; rfl)
theorem eIf_t {T : Fb} (h : T ρ S = .ok true S1) : eIf T X Y ρ S = X ρ S1 := by simp [eIf, M.bind, h]
theorem eIf_f {T : Fb} (h : T ρ S = .ok false S1) : eIf T X Y ρ S = Y ρ S1 := by simp [eIf, M.bind, h]
theorem srcSeq_lst {ds : List PyData} (h : X ρ S = .ok (.p (.list ds)) S1) : srcSeq X ρ S = .ok (.seq (.p (.list ds))) S1 := by
  unfold srcSeq M.bind; rw [h]; rfl
theorem srcSeq_tup {ds : List PyData} (h : X ρ S = .ok (.p (.tuple ds)) S1) : srcSeq X ρ S = .ok (.seq (.p (.tuple ds))) S1 := by
  unfold srcSeq M.bind; rw [h]; rfl
theorem rng1_of {n : Nat} (h : X ρ S = .ok (.p (.int n)) S1) (hn : n < 2 ^ 60) : srcRng1 X ρ S = .ok (.rng 0 n) S1 := by
  have e : ofRng1 [.p (.int n)] S1 = .ok (.rng 0 n) S1 := by
    simp [ofRng1]
    omega
  simp [srcRng1, aCons, aNil, M.bind, M.pure, h, e]
theorem finR_exc {F : List D → M D} {g : Fs} {n m : Nat} {ds : List D} {x : Exn} {ρ' : Sl} (hF : F = bodyF n m g) (hn : ds.length = n) (h : g (slots m ds) S = .exc x ρ' S1) : F ds S = .exc x S1 := by
  subst hF
  unfold bodyF
  rw [if_pos hn, h]; rfl
theorem finR_of {F : List D → M D} {g : Fs} {n m : Nat} {ds : List D} (hF : F = bodyF n m g) (hn : ds.length = n) (h : g (slots m ds) S = .rt d S1) : F ds S = .ok d S1 := by
  subst hF
  unfold bodyF
  rw [if_pos hn, h]; rfl
end
end LK
set_option Elab.async false
set_option linter.all false
set_option maxRecDepth 100000
namespace LK
open PySem PySem.Spec L2 DL
theorem walk_unit {γ : Type} : ∀ (ps : List γ), walkF (α := Unit) (β := Unit) (fun _ _ => .inl ()) () ps = .inl ()
  | [] => rfl
  | p :: ps => by rw [walkF_inl (a' := ()) rfl]; exact walk_unit ps
/-- a loop that only goes on: Inv tells of what is left, the slots, the store -/
theorem for_inv {src : Fsrc} {sv : SrcV} {t : Tg} {u : Fs} (ps : List PyData) (Inv : List PyData → Sl → Store → Prop) {ρ : Sl} {S S1 : Store}
    (hs : src ρ S = .ok sv S1) (hc : sv.count S1 = ps.length) (hn : ∀ i S, sv.nxt i S = some ((ps.map D.p)[i]?)) (h0 : Inv ps ρ S1)
    (step : ∀ (p : PyData) (rest : List PyData) (ρ : Sl) (S : Store), p ∈ ps → Inv (p :: rest) ρ S → ∃ ρ1 ρ2 S2, t (.p p) ρ = some ρ1 ∧ u ρ1 S = .nx ρ2 S2 ∧ Inv rest ρ2 S2) :
    ∃ ρ' S', sFor src t u ρ S = .nx ρ' S' ∧ Inv [] ρ' S' := by
  have L := for_fold (α := Unit) (β := Unit) (t := t) (u := u) ps (fun _ _ => .inl ()) (fun rest _ ρ S => Inv rest ρ S) (fun _ _ _ => False) (a := ()) hs hc hn h0
    (fun p rest a ρ S hp hI => by
      obtain ⟨ρ1, ρ2, S2, e1, e2, h2⟩ := step p rest ρ S hp hI
      exact ⟨ρ1, e1, ρ2, S2, e2, h2⟩)
  rw [walk_unit] at L
  exact L
theorem sum_ints (l : List Int) (S : Store) : fSum (.p (.list (l.map PyData.int))) S = .ok (.p (.int l.sum)) S := by
  have e : ∀ l : List Int, asInts ((l.map PyData.int).map D.p) = some l := fun l => by
    induction l with
    | nil => rfl
    | cons b l ih => rw [List.map_cons, List.map_cons, asInts, ih]; rfl
  show ofO S ((items S (.p (.list (l.map PyData.int)))).bind _) = _
  show ofO S ((some ((l.map PyData.int).map D.p)).bind _) = _
  simp only [Option.bind_some, e l]
  rfl
end LK
set_option Elab.async false
set_option linter.all false
set_option maxRecDepth 100000
set_option maxHeartbeats 1000000
namespace LK
open PySem PySem.Spec L2 DL
theorem ixN2 (S : Store) (i : Nat) (b0 b1 : Int) (h : S[i]? = some (.lst [.p (.int b0), .p (.int b1)])) : lstAt S i = some [.p (.int b0), .p (.int b1)] := by
  unfold lstAt; rw [h]; rfl
theorem items2 (S : Store) (i : Nat) (b0 b1 : Int) (h : S[i]? = some (.lst [.p (.int b0), .p (.int b1)])) : items S (.o i) = some [.p (.int b0), .p (.int b1)] := by
  show S[i]?.bind Cell.seq? = _; rw [h]; rfl
theorem at2_0 {a b : D} : atI [a, b] 0 = some a := rfl
theorem at2_1 {a b : D} : atI [a, b] 1 = some b := rfl
theorem items_pl {S : Store} {es : List PyData} : items S (.p (.list es)) = some (es.map D.p) := rfl
theorem ix2_0 : ixN 2 0 = some 0 := rfl
theorem ix2_1 : ixN 2 1 = some 1 := rfl
theorem take_ok (S : Store) (i : Nat) (b0 b1 m : Int) (h : S[i]? = some (.lst [.p (.int b0), .p (.int b1)])) (hm : 0 < m) (hl : m.natAbs.log2 < 9000) :
    ∃ got b0' b1', F__law_take [.o i, .p (.int m)] S = .ok (.p (.int got)) (S.set i (.lst [.p (.int b0'), .p (.int b1')])) ∧ 0 ≤ got ∧ got < m := by
  have hi := items2 S i b0 b1 h
  have hl' := ixN2 S i b0 b1 h
  by_cases hb : 0 < b0
  · refine ⟨b0 % m, b0 / m, b1, ?_, Int.emod_nonneg _ (by omega), Int.emod_lt_of_pos _ hm⟩
    unfold F__law_take bodyF g__law_take
    simp [sSeq, thenS, sIf, eT, asB, eBin, eVar, eC, M.bind, M.pure, M.bad, fIx, fI, fI0, fGt, fLt, fGe, fLe, fMod, fDivW, fDiv, fMul, fSub, fPow, fAdd, bindS, slots, finR, sRet, sSet, sItem, eCB, on1, aCons, aNil, fInt, fAbs, fLen, ofO, setAt, CDivW, CDiv, CMul, CPow, nxO, at2_0, at2_1, ix2_0, ix2_1, sNil, eCell, kCell, eLst, eTup, kLst, kTup, asPs, sizeLine_eq, items_pl, hi, hb, hm, hl', hl]
  · have hlen : i < S.length := (List.getElem?_eq_some_iff.mp h).1
    refine ⟨((b1 * 39373 + 69621) % 2147483647 / 8191) % m, b0, (b1 * 39373 + 69621) % 2147483647, ?_, Int.emod_nonneg _ (by omega), Int.emod_lt_of_pos _ hm⟩
    unfold F__law_take bodyF g__law_take
    have hi2 : items (S.set i (.lst [.p (.int b0), .p (.int ((b1 * 39373 + 69621) % 2147483647))])) (.o i) = some [.p (.int b0), .p (.int ((b1 * 39373 + 69621) % 2147483647))] := items2 _ i _ _ (by rw [List.getElem?_set_self hlen])
    simp [sSeq, thenS, sIf, eT, asB, eBin, eVar, eC, M.bind, M.pure, M.bad, fIx, fI, fI0, fGt, fLt, fGe, fLe, fMod, fDivW, fDiv, fMul, fSub, fPow, fAdd, bindS, slots, finR, sRet, sSet, sItem, eCB, on1, aCons, aNil, fInt, fAbs, fLen, ofO, setAt, CDivW, CDiv, CMul, CPow, nxO, at2_0, at2_1, ix2_0, ix2_1, sNil, eCell, kCell, eLst, eTup, kLst, kTup, asPs, sizeLine_eq, items_pl, hi, hb, hm, hl', hl, hi2]
theorem ixN_nat {n k : Nat} (h : k < n) : ixN n (k : Int) = some k := by
  unfold ixN
  have : ¬ ((k : Int) < 0) := by omega
  simp [this]
  try omega
theorem atI_map {ns : List Int} {k : Nat} (h : k < ns.length) : atI (ns.map fun n => D.p (.int n)) (k : Int) = some (.p (.int (ns.getD k 0))) := by
  unfold atI
  rw [List.length_map, ixN_nat h]
  simp [h]
theorem len_s {S : Store} {ns : List Int} : fLen (.s ns) S = .ok (.p (.int ns.length)) S := by
  simp [fLen, items, ofO]
theorem ix_s {S : Store} {ns : List Int} {k : Nat} (h : k < ns.length) : fIx (.s ns) (.p (.int k)) S = .ok (.p (.int (ns.getD k 0))) S := by
  show ofO S ((items S (.s ns)).bind fun ds => atI ds k) = _
  show ofO S (atI (ns.map fun n => D.p (.int n)) k) = _
  rw [atI_map h]
  rfl
theorem box_end (S : Store) (c k : Int) (ρ0 : Option D) :
    ∃ b0 b1, thenS (.nx [ρ0, some (.p (.int k)), some (.p (.int c)), none] S) (sSeq (sSet 3 (eBin fIx (eLst (aCons (eC (.int 0)) (aCons (eVar 2) aNil))) (eCB (on1 fInt) (aCons (eBin fGe (eVar 2) (eBin fPow (eC (.int 10)) (eC (.int 18)))) aNil)))) (sRet (eCell (aCons (eVar 3) (aCons (eBin fAdd (eBin fMod (eCB (on1 fInt) (aCons (eBin fAdd (eBin fMul (eBin fMod (eCB (on1 fInt) (aCons (eVar 2) aNil)) (eC (.int 1000000007))) (eC (.int 48271))) (eBin fMul (eC (.int 613)) (eVar 1))) aNil)) (eC (.int 2147483647))) (eC (.int 1))) aNil))))) = .rt (.o S.length) (S ++ [.lst [.p (.int b0), .p (.int b1)]]) := by
  by_cases h : (10 : Int) ^ 18 ≤ c
  · refine ⟨c, (c % 1000000007 * 48271 + 613 * k) % 2147483647 + 1, ?_⟩
    have h' : (1000000000000000000 : Int) ≤ c := by simpa using h
    simp [sSeq, thenS, sIf, eT, asB, eBin, eVar, eC, M.bind, M.pure, M.bad, fIx, fI, fI0, fGt, fLt, fGe, fLe, fMod, fDivW, fDiv, fMul, fSub, fPow, fAdd, bindS, slots, finR, sRet, sSet, sItem, eCB, on1, aCons, aNil, fInt, fAbs, fLen, ofO, setAt, CDivW, CDiv, CMul, CPow, nxO, at2_0, at2_1, ix2_0, ix2_1, sNil, eCell, kCell, eLst, eTup, kLst, kTup, asPs, sizeLine_eq, items_pl, h']
  · refine ⟨0, (c % 1000000007 * 48271 + 613 * k) % 2147483647 + 1, ?_⟩
    have h' : ¬ (1000000000000000000 : Int) ≤ c := by simpa using h
    simp [sSeq, thenS, sIf, eT, asB, eBin, eVar, eC, M.bind, M.pure, M.bad, fIx, fI, fI0, fGt, fLt, fGe, fLe, fMod, fDivW, fDiv, fMul, fSub, fPow, fAdd, bindS, slots, finR, sRet, sSet, sItem, eCB, on1, aCons, aNil, fInt, fAbs, fLen, ofO, setAt, CDivW, CDiv, CMul, CPow, nxO, at2_0, at2_1, ix2_0, ix2_1, sNil, eCell, kCell, eLst, eTup, kLst, kTup, asPs, sizeLine_eq, items_pl, h']
/-- the box of a script -/
theorem box_ok (ns : List Int) (k : Nat) (S : Store) : ∃ b0 b1, F__law_box [.s ns, .p (.int k)] S = .ok (.o S.length) (S ++ [.lst [.p (.int b0), .p (.int b1)]]) := by
  have fin : ∀ (c : Int) (r0 : Option D) (x : RS), x = .nx [r0, some (.p (.int k)), some (.p (.int c)), none] S → ∃ b0 b1, finR (thenS x (sSeq (sSet 3 (eBin fIx (eLst (aCons (eC (.int 0)) (aCons (eVar 2) aNil))) (eCB (on1 fInt) (aCons (eBin fGe (eVar 2) (eBin fPow (eC (.int 10)) (eC (.int 18)))) aNil)))) (sRet (eCell (aCons (eVar 3) (aCons (eBin fAdd (eBin fMod (eCB (on1 fInt) (aCons (eBin fAdd (eBin fMul (eBin fMod (eCB (on1 fInt) (aCons (eVar 2) aNil)) (eC (.int 1000000007))) (eC (.int 48271))) (eBin fMul (eC (.int 613)) (eVar 1))) aNil)) (eC (.int 2147483647))) (eC (.int 1))) aNil)))))) = .ok (.o S.length) (S ++ [.lst [.p (.int b0), .p (.int b1)]]) := by
    intro c r0 x e
    obtain ⟨b0, b1, f⟩ := box_end S c k r0
    exact ⟨b0, b1, by rw [e, f]; rfl⟩
  have hl := @len_s S ns
  have start : ∃ c : Int, thenS (sSet 2 (eBin fAdd (eBin fMul (eC (.int 7919)) (eVar 1)) (eC (.int 101))) (slots 4 [.s ns, .p (.int k)]) S) (sIf (eT (eBin fLt (eVar 1) (eCB (on1 fLen) (aCons (eVar 0) aNil)))) (sSet 2 (eCB (on1 fAbs) (aCons (eBin fIx (eVar 0) (eVar 1)) aNil))) (sIf (eT (eBin fGt (eCB (on1 fLen) (aCons (eVar 0) aNil)) (eC (.int 0)))) (sSet 2 (eBin fAdd (eBin fMul (eBin fMod (eCB (on1 fInt) (aCons (eCB (on1 fAbs) (aCons (eBin fIx (eVar 0) (eBin fMod (eCB (on1 fInt) (aCons (eVar 1) aNil)) (eCB (on1 fLen) (aCons (eVar 0) aNil)))) aNil)) aNil)) (eC (.int 1000000007))) (eC (.int 31))) (eBin fMul (eC (.int 7919)) (eVar 1)))) sNil)) = .nx [some (.s ns), some (.p (.int k)), some (.p (.int c)), none] S := by
    by_cases h1 : k < ns.length
    · have hx := @ix_s S ns k h1
      refine ⟨if ns.getD k 0 < 0 then - ns.getD k 0 else ns.getD k 0, ?_⟩
      simp [sSet, eBin, eVar, eC, M.bind, M.pure, bindS, slots, fAdd, fMul, fI, CMul, thenS, sIf, eT, eCB, on1, aCons, aNil, hl, fLt, fI0, asB, h1, hx, fAbs]
    · by_cases h2 : 0 < ns.length
      · have hm : (k : Int) % (ns.length : Int) = ((k % ns.length : Nat) : Int) := by omega
        have hx : fIx (.s ns) (.p (.int ((k : Int) % (ns.length : Int)))) S = .ok (.p (.int (ns.getD (k % ns.length) 0))) S := by rw [hm]; exact @ix_s S ns (k % ns.length) (Nat.mod_lt _ h2)
        refine ⟨(if ns.getD (k % ns.length) 0 < 0 then - ns.getD (k % ns.length) 0 else ns.getD (k % ns.length) 0) % 1000000007 * 31 + 7919 * k, ?_⟩
        simp [sSet, eBin, eVar, eC, M.bind, M.pure, bindS, slots, fAdd, fMul, fI, CMul, thenS, sIf, eT, eCB, on1, aCons, aNil, hl, fLt, fGt, fI0, asB, h1, h2, fAbs, fMod, fInt, hx]
      · refine ⟨7919 * k + 101, ?_⟩
        simp [sSet, eBin, eVar, eC, M.bind, M.pure, bindS, slots, fAdd, fMul, fI, CMul, thenS, sIf, eT, eCB, on1, aCons, aNil, hl, fLt, fGt, fI0, asB, h1, h2, sNil]
  obtain ⟨c, e⟩ := start
  exact fin c _ _ e
end LK
set_option Elab.async false
set_option linter.all false
set_option maxRecDepth 100000
set_option maxHeartbeats 400000
namespace LK
open PySem PySem.Spec L2 DL
/-! what the program's small functions tell of data -/
def noDict : PyData → Bool
  | .dict _ => false
  | _ => true
def isPair : PyData → Bool
  | .tuple [_, _] => true
  | _ => false
def isTupD' : PyData → Bool
  | .tuple _ => true
  | _ => false
theorem is_integer_ok (d : PyData) (h : noDict d = true) (S : Store) : F_is_integer [.p d] S = .ok (.p (.bool (isInt d))) S := by
  cases d <;> first | rfl | cases h
theorem law_whole_ok (d : PyData) (h : noDict d = true) (S : Store) : F__law_whole [.p d] S = .ok (.p (.bool (isInt d))) S := by
  cases d <;> first | rfl | cases h
theorem is_integer_in_ok (d : PyData) (h : noDict d = true) (lo hi : Int) (S : Store) : F_is_integer_in [.p d, .p (.int lo), .p (.int hi)] S = .ok (.p (.bool (inRange lo hi d))) S := by
  have e := is_integer_ok d h S
  unfold F_is_integer_in bodyF g_is_integer_in
  cases d <;> first
    | (cases h; done)
    | (simp [sRet, eAnd, eCB, aCons, aNil, eVar, M.bind, M.pure, slots, e, isInt, asB, bindS, finR, inRange]; done)
    | skip
  rename_i i
  by_cases h1 : lo ≤ i
  · by_cases h2 : i ≤ hi
    · simp [sRet, eAnd, eCB, aCons, aNil, eVar, M.bind, M.pure, slots, e, isInt, asB, bindS, finR, inRange, eChain, fLe, fI0, onB, h1, h2]
    · simp [sRet, eAnd, eCB, aCons, aNil, eVar, M.bind, M.pure, slots, e, isInt, asB, bindS, finR, inRange, eChain, fLe, fI0, onB, h1, h2]
  · simp [sRet, eAnd, eCB, aCons, aNil, eVar, M.bind, M.pure, slots, e, isInt, asB, bindS, finR, inRange, eChain, fLe, fI0, onB, h1]
end LK
set_option Elab.async false
set_option linter.all false
set_option maxRecDepth 100000
set_option maxHeartbeats 400000
namespace LK
open PySem PySem.Spec L2 DL
def pairB : PyData → Bool
  | .tuple ds => ds.length == 2
  | _ => false
theorem eqInt (S : Store) (a b : Int) : fEq false (.p (.int a)) (.p (.int b)) S = .ok (.p (.bool (decide (a = b)))) S := by
  have h1 : SeqAt.shaped (.int a) = true := rfl
  have h2 : SeqAt.shaped (.int b) = true := rfl
  have e : (a == b) = decide (a = b) := by by_cases h : a = b <;> simp [h]
  simp [fEq, toPy, h1, h2, PyData.eqv, e]
theorem isi_tup (S : Store) (ds : List PyData) : fIsi "tuple" (.p (.tuple ds)) S = .ok (.p (.bool true)) S := by rfl
theorem len_tup (S : Store) (ds : List PyData) : fLen (.p (.tuple ds)) S = .ok (.p (.int ds.length)) S := by rfl
theorem is_pair_ok (d : PyData) (h : noDict d = true) (S : Store) : F_is_pair [.p d] S = .ok (.p (.bool (pairB d))) S := by
  cases d <;> first
    | (cases h; done)
    | rfl
    | skip
  rename_i ds
  have e1 := isi_tup S ds
  have e2 := len_tup S ds
  have e3 := eqInt S ds.length 2
  unfold F_is_pair bodyF g_is_pair
  simp [sRet, eAnd, eBin, eUn, eC, eCB, on1, aCons, aNil, eVar, M.bind, M.pure, slots, e1, e2, e3, asB, bindS, finR, pairB]
  by_cases h : ds.length = 2
  · simp [h]
  · have h' : ¬ ((ds.length : Int) = 2) := by omega
    simp [h, h']
def noDict2 : PyData → Bool
  | .dict _ => false
  | .tuple ds => ds.all noDict
  | _ => true
theorem looks_ok (d : PyData) (h : noDict2 d = true) (S : Store) : F__looks_like_run [.p d] S = .ok (.p (.bool (runLike d))) S := by
  have hn : noDict d = true := by cases d <;> first | rfl | cases h
  have e1 := is_pair_ok d hn S
  cases hp : pairB d with
  | false =>
    have hr : runLike d = false := by
      cases d with
      | tuple ds =>
        have : ds.length ≠ 2 := by simpa [pairB] using hp
        match ds, this with
        | [], _ => rfl
        | [a], _ => cases a <;> rfl
        | [_, _], h => exact absurd rfl h
        | a :: b :: _ :: _, _ => cases a <;> first | rfl | (cases b <;> rfl)
      | _ => rfl
    unfold F__looks_like_run bodyF g__looks_like_run
    simp [sRet, eAnd, eCB, aCons, aNil, eVar, M.bind, M.pure, slots, e1, hp, asB, bindS, finR, hr]
  | true =>
    cases d with
    | tuple ds =>
      have hl : ds.length = 2 := by simpa [pairB] using hp
      match ds, hl with
      | [a, b], _ =>
        have hab : noDict a = true ∧ noDict b = true := by simpa [noDict2] using h
        have e2 := is_integer_ok a hab.1 S
        have e3 : fIx (.p (.tuple [a, b])) (.p (.int 0)) S = .ok (.p a) S := rfl
        have e4 : fIx (.p (.tuple [a, b])) (.p (.int 1)) S = .ok (.p b) S := rfl
        have e5 : fIsi "tuple" (.p b) S = .ok (.p (.bool (isTupD' b))) S := by
          have := hab.2
          cases b <;> first | rfl | cases this
        unfold F__looks_like_run bodyF g__looks_like_run
        cases ha : isInt a with
        | false =>
          have hr : runLike (.tuple [a, b]) = false := by cases a <;> first | rfl | cases ha
          simp [sRet, eAnd, eCB, eBin, eC, eUn, aCons, aNil, eVar, M.bind, M.pure, slots, e1, hp, asB, bindS, finR, hr, e3, e4, e2, e5, ha]
        | true =>
          have hr : runLike (.tuple [a, b]) = isTupD' b := by cases a <;> first | (cases ha; done) | (cases b <;> rfl)
          simp [sRet, eAnd, eCB, eBin, eC, eUn, aCons, aNil, eVar, M.bind, M.pure, slots, e1, hp, asB, bindS, finR, hr, e3, e4, e2, e5, ha]
    | _ => cases hp
end LK
set_option Elab.async false
set_option linter.all false
set_option maxRecDepth 100000
set_option maxHeartbeats 400000
namespace LK
open PySem PySem.Spec L2 DL
/-! the law's trace of a value that is shaped as a run -/
mutual
def trF : Nat → PyData → Option (List PyData)
  | 0, _ => none
  | n + 1, .tuple [f, .tuple ps] => (trPs n ps).map fun l => PyData.tuple [.str "in", f] :: (l ++ [.tuple [.str "out", f]])
  | _ + 1, _ => none
def trPs : Nat → List PyData → Option (List PyData)
  | _, [] => some []
  | n, p :: ps => (match p with
      | .tuple ds => trF n (.tuple ds)
      | .dict _ => none
      | q => some [q]).bind fun a => (trPs n ps).map fun l => a ++ l
end
def trP (n : Nat) (p : PyData) : Option (List PyData) := match p with
  | .tuple ds => trF n (.tuple ds)
  | .dict _ => none
  | q => some [q]
theorem trPs_at {n : Nat} : ∀ {ps : List PyData} {l : List PyData}, trPs n ps = some l → ∃ ls : List (List PyData), ls.length = ps.length ∧ ls.flatten = l ∧ ∀ (i : Nat) (p : PyData), ps[i]? = some p → ∃ a, ls[i]? = some a ∧ trP n p = some a
  | [], l, h => ⟨[], rfl, by simpa [trPs] using h, fun i p e => by simp at e⟩
  | p :: ps, l, h => by
    unfold trPs at h
    obtain ⟨a, h1, h2⟩ := Option.bind_eq_some_iff.mp h
    obtain ⟨m, h3, rfl⟩ := Option.map_eq_some_iff.mp h2
    obtain ⟨ls, e1, e2, e3⟩ := trPs_at h3
    refine ⟨a :: ls, by simp [e1], by simp [e2], fun i q hq => ?_⟩
    cases i with
    | zero =>
      cases hq
      exact ⟨a, rfl, h1⟩
    | succ i => simpa using e3 i q (by simpa using hq)
theorem flat_take {α : Type} : ∀ (ls : List (List α)) (i : Nat) (a : List α), ls[i]? = some a → (ls.take (i + 1)).flatten = (ls.take i).flatten ++ a
  | [], i, a, h => by simp at h
  | l :: ls, 0, a, h => by cases h; simp
  | l :: ls, i + 1, a, h => by
    have := flat_take ls i a (by simpa using h)
    simp [this]
theorem flat_le {α : Type} (ls : List (List α)) (i : Nat) : (ls.take i).flatten.length ≤ ls.flatten.length := by
  have : ls.flatten = (ls.take i).flatten ++ (ls.drop i).flatten := by rw [← List.flatten_append, List.take_append_drop]
  rw [this, List.length_append]
  omega
theorem notTup (S : Store) (p : PyData) (h : isTupD' p = false) (h2 : noDict p = true) : fIsi "tuple" (.p p) S = .ok (.p (.bool false)) S := by
  cases p <;> first | (cases h; done) | (cases h2; done) | rfl
theorem trace_ok : ∀ (n : Nat) (d : PyData) (l : List PyData), trF n d = some l → l.length ≤ 100000 → ∀ S, F__law_trace n [.p d] S = .ok (.p (.tuple l)) S
  | 0, d, l, h, _, _ => by cases d <;> simp [trF] at h
  | n + 1, d, l, h, hl, S => by
    have sh : ∃ f ps m, d = .tuple [f, .tuple ps] ∧ trPs n ps = some m ∧ l = PyData.tuple [.str "in", f] :: (m ++ [.tuple [.str "out", f]]) := by
      unfold trF at h
      split at h
      · cases h
      · rename_i n' f ps e
        cases e
        obtain ⟨m, h1, h2⟩ := Option.map_eq_some_iff.mp h
        exact ⟨f, ps, m, rfl, h1, h2.symm⟩
      · cases h
    obtain ⟨f, ps, m, rfl, hm, rfl⟩ := sh
    obtain ⟨ls, e1, e2, e3⟩ := trPs_at hm
    have hml : m.length ≤ 100000 := by simp at hl; omega
    have ix0 : fIx (.p (.tuple [f, .tuple ps])) (.p (.int 0)) S = .ok (.p f) S := rfl
    have ix1 : fIx (.p (.tuple [f, .tuple ps])) (.p (.int 1)) S = .ok (.p (.tuple ps)) S := rfl
    suffices hh : g__law_trace (F__law_trace n) [some (.p (.tuple [f, .tuple ps])), none, none] S = .rt (.p (.tuple (PyData.tuple [.str "in", f] :: (m ++ [.tuple [.str "out", f]])))) S by
      show finR (g__law_trace (F__law_trace n) [some (.p (.tuple [f, .tuple ps])), none, none] S) = _
      rw [hh]
      rfl
    unfold g__law_trace
    rw [stp (ρ' := [some (.p (.tuple [f, .tuple ps])), some (.p (.tuple [.tuple [.str "in", f]])), none]) (S' := S) (by
      simp [sSet, eTup, eBin, aCons, aNil, eVar, eC, M.bind, M.pure, bindS, ix0, kTup, asPs, sizeLine_eq])]
    have hn : ∀ i, (SrcV.seq (.p (.tuple ps))).nxt i S = some (ps.map D.p)[i]? := fun i => rfl
    obtain ⟨ρ', e, x, rfl⟩ := loop_inv (sv := .seq (.p (.tuple ps))) (t := tName 2) (u := sSet 1 (eBin fAdd (eVar 1) (eIf (eT (eUn (fIsi "tuple") (eVar 2))) (eCB (F__law_trace n) (aCons (eVar 2) aNil)) (eTup (aCons (eVar 2) aNil))))) (S := S) (ps.map D.p) hn
      (fun i ρ => ∃ x, ρ = [some (.p (.tuple [f, .tuple ps])), some (.p (.tuple (PyData.tuple [.str "in", f] :: (ls.take i).flatten))), x]) (fun i q ρ hq ⟨x, hx⟩ => by
        subst hx
        obtain ⟨p, hp, rfl⟩ := by
          rw [List.getElem?_map] at hq
          exact Option.map_eq_some_iff.mp hq
        obtain ⟨a, ha, hpa⟩ := e3 i p hp
        have hlen : ((ls.take i).flatten).length ≤ 100000 := by
          have := flat_le ls i
          rw [e2] at this
          omega
        have hal : a.length ≤ 100000 := by
          have := flat_le ls (i + 1)
          rw [flat_take ls i a ha, e2, List.length_append] at this
          omega
        refine ⟨[some (.p (.tuple [f, .tuple ps])), some (.p (.tuple (PyData.tuple [.str "in", f] :: (ls.take i).flatten))), some (.p p)], [some (.p (.tuple [f, .tuple ps])), some (.p (.tuple (PyData.tuple [.str "in", f] :: (ls.take (i + 1)).flatten))), some (.p p)], rfl, ?_, _, rfl⟩
        rw [flat_take ls i a ha]
        generalize (ls.take i).flatten = u at hlen ⊢
        have hsz : u.length + 1 + a.length ≤ 16777216 := by omega
        have hsz2 : u.length + 1 + 1 ≤ 16777216 := by omega
        cases p with
        | dict _ => cases hpa
        | tuple ds =>
          have ih := trace_ok n (.tuple ds) a hpa hal S
          have e1 := isi_tup S ds
          simp [sSet, eBin, eIf, eT, eUn, eCB, aCons, aNil, eTup, eVar, M.bind, M.pure, e1, asB, ih, fAdd, kTup, asPs, sizeLine_eq, bindS, hsz]
        | none => cases hpa; simp [sSet, eBin, eIf, eT, eUn, eCB, aCons, aNil, eTup, eVar, M.bind, M.pure, notTup S .none rfl rfl, asB, fAdd, kTup, asPs, sizeLine_eq, bindS, hsz2]
        | bool b => cases hpa; simp [sSet, eBin, eIf, eT, eUn, eCB, aCons, aNil, eTup, eVar, M.bind, M.pure, notTup S (.bool b) rfl rfl, asB, fAdd, kTup, asPs, sizeLine_eq, bindS, hsz2]
        | int b => cases hpa; simp [sSet, eBin, eIf, eT, eUn, eCB, aCons, aNil, eTup, eVar, M.bind, M.pure, notTup S (.int b) rfl rfl, asB, fAdd, kTup, asPs, sizeLine_eq, bindS, hsz2]
        | str b => cases hpa; simp [sSet, eBin, eIf, eT, eUn, eCB, aCons, aNil, eTup, eVar, M.bind, M.pure, notTup S (.str b) rfl rfl, asB, fAdd, kTup, asPs, sizeLine_eq, bindS, hsz2]
        | list b => cases hpa; simp [sSet, eBin, eIf, eT, eUn, eCB, aCons, aNil, eTup, eVar, M.bind, M.pure, notTup S (.list b) rfl rfl, asB, fAdd, kTup, asPs, sizeLine_eq, bindS, hsz2]) ps.length 0 [some (.p (.tuple [f, .tuple ps])), some (.p (.tuple [.tuple [.str "in", f]])), none] (by simp) ⟨none, by simp⟩
    have hs : srcSeq (eBin fIx (eVar 0) (eC (.int 1))) [some (.p (.tuple [f, .tuple ps])), some (.p (.tuple [.tuple [.str "in", f]])), none] S = .ok (.seq (.p (.tuple ps))) S := by
      simp [srcSeq, eBin, eVar, eC, M.bind, ix1, ofSeq, seqItems]
    have hc : (SrcV.seq (.p (.tuple ps))).count S = ps.length := by
      show ((some (ps.map D.p)).map List.length).getD 0 = ps.length
      simp
    have ef : sFor (srcSeq (eBin fIx (eVar 0) (eC (.int 1)))) (tName 2) (sSet 1 (eBin fAdd (eVar 1) (eIf (eT (eUn (fIsi "tuple") (eVar 2))) (eCB (F__law_trace n) (aCons (eVar 2) aNil)) (eTup (aCons (eVar 2) aNil))))) [some (.p (.tuple [f, .tuple ps])), some (.p (.tuple [.tuple [.str "in", f]])), none] S = .nx [some (.p (.tuple [f, .tuple ps])), some (.p (.tuple (PyData.tuple [.str "in", f] :: (ls.take (ps.map D.p).length).flatten))), x] S := by
      unfold sFor bindS
      rw [hs]
      show loopS _ _ _ ((SrcV.seq (.p (.tuple ps))).count S) 0 _ _ = _
      rw [hc]
      exact e
    rw [stp ef]
    have full : (ls.take (ps.map D.p).length).flatten = m := by
      rw [List.length_map, ← e1, List.take_length, e2]
    rw [full]
    have hsz : m.length + 1 + 1 ≤ 16777216 := by omega
    simp [sRet, eBin, eTup, aCons, aNil, eVar, eC, M.bind, M.pure, ix0, kTup, asPs, sizeLine_eq, fAdd, bindS, hsz]
end LK
set_option Elab.async false
set_option linter.all false
set_option maxRecDepth 100000
set_option maxHeartbeats 400000
namespace LK
open PySem PySem.Spec L2 DL
theorem is_ticks_ok (d : PyData) (h : noDict d = true) (S : Store) : F__is_ticks [.p d] S = .ok (.p (.bool (inRange 1 999999 d))) S := by
  have e := is_integer_in_ok d h 1 999999 S
  unfold F__is_ticks bodyF g__is_ticks
  simp [sRet, eCB, eC, aCons, aNil, eVar, M.bind, M.pure, slots, e, bindS, finR]
theorem is_function_ok (n : Int) (d : PyData) (h : noDict d = true) (S : Store) : F_is_function [.p (.int n), .p d] S = .ok (.p (.bool (inRange 0 (n - 1) d))) S := by
  have e := is_integer_in_ok d h 0 (n - 1) S
  unfold F_is_function bodyF g_is_function
  simp [sRet, eCB, eC, eBin, fSub, fI0, aCons, aNil, eVar, M.bind, M.pure, slots, e, bindS, finR]
/-- what trace_of does of what events_of tells -/
theorem trace_of_none {c r : D} {S S' : Store} (h : F_events_of [c, r] S = .ok (.p .none) S') : F_trace_of [c, r] S = .exc ⟨"InvalidRun", [("value", r)]⟩ S' := by
  unfold F_trace_of bodyF g_trace_of
  have e : ∀ T, fIs false (.p .none) (.p .none) T = .ok (.p (.bool true)) T := fun T => rfl
  simp [sSeq, thenS, sSet, sIf, eT, eBin, eC, eCB, aCons, aNil, eVar, M.bind, M.pure, slots, h, e, asB, bindS, sRaise, finR]
theorem trace_of_some {c r : D} {l : List PyData} {S S' : Store} (h : F_events_of [c, r] S = .ok (.p (.tuple l)) S') : F_trace_of [c, r] S = .ok (.p (.tuple l)) S' := by
  unfold F_trace_of bodyF g_trace_of
  have e : ∀ T, fIs false (.p (.tuple l)) (.p .none) T = .ok (.p (.bool false)) T := fun T => rfl
  simp [sSeq, thenS, sSet, sIf, eT, eBin, eC, eCB, aCons, aNil, eVar, M.bind, M.pure, slots, h, e, asB, bindS, sRet, sNil, finR]
theorem run_of_none {c t : D} {S S1 : Store} (h : F__are_events [c, t] S = .ok (.p (.bool false)) S1) : F_run_of [c, t] S = .exc ⟨"InvalidTrace", [("value", t)]⟩ S1 := by
  unfold F_run_of bodyF g_run_of
  simp [sSeq, thenS, sIf, bNot, eT, eCB, aCons, aNil, eVar, M.bind, M.pure, slots, h, asB, bindS, sRaise, finR]
theorem run_of_unjoined {c t : D} {S S1 S2 : Store} (h : F__are_events [c, t] S = .ok (.p (.bool true)) S1) (h2 : F__joined [c, t] S1 = .ok (.p .none) S2) : F_run_of [c, t] S = .exc ⟨"InvalidTrace", [("value", t)]⟩ S2 := by
  unfold F_run_of bodyF g_run_of
  have e : ∀ T, fIs false (.p .none) (.p .none) T = .ok (.p (.bool true)) T := fun T => rfl
  simp [sSeq, thenS, sSet, sIf, bNot, eT, eBin, eC, eCB, aCons, aNil, eVar, M.bind, M.pure, slots, h, h2, e, asB, bindS, sRaise, sNil, finR]
theorem run_of_joined {c t : D} {ds : List PyData} {S S1 S2 : Store} (h : F__are_events [c, t] S = .ok (.p (.bool true)) S1) (h2 : F__joined [c, t] S1 = .ok (.p (.tuple ds)) S2) : F_run_of [c, t] S = .ok (.p (.tuple ds)) S2 := by
  unfold F_run_of bodyF g_run_of
  have e : ∀ T, fIs false (.p (.tuple ds)) (.p .none) T = .ok (.p (.bool false)) T := fun T => rfl
  simp [sSeq, thenS, sSet, sIf, bNot, eT, eBin, eC, eCB, aCons, aNil, eVar, M.bind, M.pure, slots, h, h2, e, asB, bindS, sRet, sNil, finR]
/-! what the law's asking tells -/
theorem told0_ok {c : D} {r d : PyData} {S S1 : Store} (h : F_trace_of [c, .p r] S = .ok (.p d) S1) : F__law_told [.p (.int 0), c, .p r] S = .ok (.p (.tuple [.str "told", d])) S1 := by
  unfold F__law_told bodyF g__law_told
  have e := eqInt S 0 0
  simp [sTry, sRet, eTup, eIf, eT, eBin, eC, eCB, aCons, aNil, eVar, M.bind, M.pure, slots, h, e, asB, bindS, kTup, asPs, sizeLine_eq, finR]
theorem told1_ok {c : D} {r d : PyData} {S S1 : Store} (h : F_run_of [c, .p r] S = .ok (.p d) S1) : F__law_told [.p (.int 1), c, .p r] S = .ok (.p (.tuple [.str "told", d])) S1 := by
  unfold F__law_told bodyF g__law_told
  have e := eqInt S 1 0
  simp [sTry, sRet, eTup, eIf, eT, eBin, eC, eCB, aCons, aNil, eVar, M.bind, M.pure, slots, h, e, asB, bindS, kTup, asPs, sizeLine_eq, finR]
theorem told0_exc {c : D} {r : PyData} {S S1 : Store} (h : F_trace_of [c, .p r] S = .exc ⟨"InvalidRun", [("value", .p r)]⟩ S1) : F__law_told [.p (.int 0), c, .p r] S = .ok (.p (.tuple [.str "run", r])) S1 := by
  unfold F__law_told bodyF g__law_told
  have e := eqInt S 0 0
  have k1 : ENs.contains "InvalidRun" = true := by decide +kernel
  have k2 : (("InvalidRun" : Str) == "InvalidRun") = true := by decide +kernel
  simp [sTry, sRet, eTup, eIf, eT, eBin, eC, eCB, aCons, aNil, eVar, M.bind, M.pure, slots, h, e, asB, bindS, hRun, Hd.run, finR]
  try decide +kernel
theorem told1_exc {c : D} {r : PyData} {S S1 : Store} (h : F_run_of [c, .p r] S = .exc ⟨"InvalidTrace", [("value", .p r)]⟩ S1) : F__law_told [.p (.int 1), c, .p r] S = .ok (.p (.tuple [.str "trace", r])) S1 := by
  unfold F__law_told bodyF g__law_told
  have e := eqInt S 1 0
  simp [sTry, sRet, eTup, eIf, eT, eBin, eC, eCB, aCons, aNil, eVar, M.bind, M.pure, slots, h, e, asB, bindS, hRun, Hd.run, finR]
  have ne : ¬ (Str.ofString "InvalidTrace" = Str.ofString "InvalidRun") := by decide +kernel
  rw [if_neg ne]
end LK
set_option Elab.async false
set_option linter.all false
set_option maxRecDepth 100000
set_option maxHeartbeats 400000
namespace LK
open PySem PySem.Spec L2 DL
/-! whether events are few enough -/
def isEv : PyData → Bool
  | .int _ => true
  | .tuple [.str s, _] => PyData.strOk s
  | _ => false
theorem strEq (S : Store) (a : Str) (h : PyData.strOk a = true) : fEq false (.p (.str a)) (.p (.str "in")) S = .ok (.p (.bool (a == "in"))) S := by
  have h1 : SeqAt.shaped (.str a) = true := by simp [SeqAt.shaped, PyData.canLay0, PyData.depth, h]
  have h2 : SeqAt.shaped (.str "in") = true := by decide +kernel
  simp [fEq, toPy, h1, h2, PyData.eqv]
theorem ev_noDict {e : PyData} (h : isEv e = true) : noDict e = true := by
  cases e <;> first | rfl | cases h
theorem ints_comp (x : D) (S : Store) (es : List PyData) (hx : seqItems S x = some (es.map D.p)) (hz : es.length < 16777216) (hev : ∀ e ∈ es, isEv e = true) (a1 a2 a3 a4 : Option D) :
    eLc (srcSeq (eVar 0)) [4] (tName 4) (eT (eCB F_is_integer (aCons (eVar 4) aNil))) (eVar 4) [some x, a1, a2, a3, a4] S = .ok (.p (.list (es.filter isInt))) S := by
  have hsrc : srcSeq (eVar 0) [some x, a1, a2, a3, a4] S = .ok (.seq x) S := by
    simp [srcSeq, eVar, M.bind, ofSeq, hx]
  have h := comp_inv (vs := [4]) (t := tName 4) (tb := eT (eCB F_is_integer (aCons (eVar 4) aNil))) (el := eVar 4) hsrc (es.map D.p) (by show ((seqItems S x).map List.length).getD 0 = _; rw [hx]; rfl) (fun i => by show (seqItems S x).map (fun ds => ds[i]?) = _; rw [hx]; rfl) (by rw [List.length_map, sizeLine_eq]; exact hz)
    (fun d => match d with | .p e => if isInt e = true then some e else none | _ => none) (fun d hd => by
      obtain ⟨e, he, rfl⟩ := List.mem_map.mp hd
      have hi := is_integer_ok e (ev_noDict (hev e he)) S
      refine ⟨[some x, a1, a2, a3, some (.p e)], isInt e, rfl, ?_, fun hb => by simp [hb], fun hb => ⟨e, rfl, by simp [hb]⟩⟩
      simp [eT, eCB, aCons, aNil, eVar, M.bind, M.pure, hi, asB])
  rw [h]
  congr 3
  clear h hsrc hx hz hev
  induction es with
  | nil => rfl
  | cons e es ih =>
    rw [List.map_cons, List.filterMap_cons, List.filter_cons, ih]
    cases h : isInt e <;> simp [h]
theorem isIn_ev {e : PyData} (h : isEv e = true) : (∃ i, e = .int i) ∨ ∃ s k, e = .tuple [.str s, k] ∧ PyData.strOk s = true := by
  unfold isEv at h
  split at h
  · exact .inl ⟨_, rfl⟩
  · exact .inr ⟨_, _, rfl, h⟩
  · cases h
theorem ins_comp (x : D) (S : Store) (es : List PyData) (hx : seqItems S x = some (es.map D.p)) (hz : es.length < 16777216) (hev : ∀ e ∈ es, isEv e = true) (a1 a2 a3 a4 : Option D) :
    eLc (srcSeq (eVar 0)) [4] (tName 4) (bAnd (bNot (eT (eCB F_is_integer (aCons (eVar 4) aNil)))) (eT (eBin (fEq false) (eBin fIx (eVar 4) (eC (.int 0))) (eC (.str "in"))))) (eVar 4) [some x, a1, a2, a3, a4] S = .ok (.p (.list (es.filter isIn))) S := by
  have hsrc : srcSeq (eVar 0) [some x, a1, a2, a3, a4] S = .ok (.seq x) S := by
    simp [srcSeq, eVar, M.bind, ofSeq, hx]
  have h := comp_inv (vs := [4]) (t := tName 4) (tb := bAnd (bNot (eT (eCB F_is_integer (aCons (eVar 4) aNil)))) (eT (eBin (fEq false) (eBin fIx (eVar 4) (eC (.int 0))) (eC (.str "in"))))) (el := eVar 4) hsrc (es.map D.p) (by show ((seqItems S x).map List.length).getD 0 = _; rw [hx]; rfl) (fun i => by show (seqItems S x).map (fun ds => ds[i]?) = _; rw [hx]; rfl) (by rw [List.length_map, sizeLine_eq]; exact hz)
    (fun d => match d with | .p e => if isIn e = true then some e else none | _ => none) (fun d hd => by
      obtain ⟨e, he, rfl⟩ := List.mem_map.mp hd
      have hi := is_integer_ok e (ev_noDict (hev e he)) S
      refine ⟨[some x, a1, a2, a3, some (.p e)], isIn e, rfl, ?_, fun hb => by simp [hb], fun hb => ⟨e, rfl, by simp [hb]⟩⟩
      rcases isIn_ev (hev e he) with ⟨i, rfl⟩ | ⟨s, k, rfl, hs⟩
      · have e1 : isInt (.int i) = true := rfl
        have e2 : isIn (.int i) = false := rfl
        rw [e1] at hi
        simp [bAnd, bNot, eT, eCB, aCons, aNil, eVar, M.bind, M.pure, hi, asB, e2]
      · have e1 : isInt (.tuple [.str s, k]) = false := rfl
        have e2 : isIn (.tuple [.str s, k]) = (s == "in") := rfl
        have e3 : fIx (.p (.tuple [.str s, k])) (.p (.int 0)) S = .ok (.p (.str s)) S := rfl
        have e4 := strEq S s hs
        rw [e1] at hi
        simp [bAnd, bNot, eT, eBin, eC, eCB, aCons, aNil, eVar, M.bind, M.pure, hi, asB, e2, e3, e4])
  rw [h]
  congr 3
  clear h hsrc hx hz hev
  induction es with
  | nil => rfl
  | cons e es ih =>
    rw [List.map_cons, List.filterMap_cons, List.filter_cons, ih]
    cases h : isIn e <;> simp [h]
theorem asInts_ok : ∀ (es : List PyData), asInts ((es.filter isInt).map D.p) = some (es.filterMap intOf)
  | [] => rfl
  | e :: es => by
    have ih := asInts_ok es
    cases e with
    | int i =>
      have h1 : (PyData.int i :: es).filter isInt = PyData.int i :: es.filter isInt := rfl
      have h2 : (PyData.int i :: es).filterMap intOf = i :: es.filterMap intOf := rfl
      rw [h1, h2, List.map_cons]
      simp [asInts, ih]
    | _ => exact ih
theorem sum_ok (es : List PyData) (S : Store) : fSum (.p (.list (es.filter isInt))) S = .ok (.p (.int (es.filterMap intOf).sum)) S := by
  have h := asInts_ok es
  simp [fSum, items, h, ofO]
  done
theorem are_few_ok (x : D) (S : Store) (es : List PyData) (hx : seqItems S x = some (es.map D.p)) (hz : es.length < 16777216) (hev : ∀ e ∈ es, isEv e = true) : F__are_few [x] S = .ok (.p (.bool (few es))) S := by
  have c1 := ints_comp x S es hx hz hev none none none none
  have c2 := ins_comp x S es hx hz hev (some (.p (.list (es.filter isInt)))) none none none
  have l1 : ∀ ds : List PyData, fLen (.p (.list ds)) S = .ok (.p (.int ds.length)) S := fun ds => by simp [fLen, items, ofO]
  have s1 := sum_ok es S
  suffices h : g__are_few [some x, none, none, none, none] S = .rt (.p (.bool (few es))) S by
    show finR (g__are_few [some x, none, none, none, none] S) = _
    rw [h]
    rfl
  unfold g__are_few
  rw [stp (ρ' := [some x, some (.p (.list (es.filter isInt))), none, none, none]) (S' := S) (by simp only [sSet, c1, bindS]; rfl)]
  rw [stp (ρ' := [some x, some (.p (.list (es.filter isInt))), some (.p (.int (es.filter isIn).length)), none, none]) (S' := S) (by simp only [sSet, eCB, aCons, aNil, M.bind, M.pure, c2, on1, l1, bindS]; rfl)]
  generalize hk : ((es.filter isIn).length : Int) = k
  rw [stp (ρ' := [some x, some (.p (.list (es.filter isInt))), some (.p (.int k)), some (.p (.int ((es.filter isInt).length + k - 1))), none]) (S' := S) (by simp [sSet, eBin, eCB, aCons, aNil, eVar, eC, M.bind, M.pure, on1, l1, fAdd, fSub, fI0, bindS])]
  unfold few
  rw [hk]
  by_cases h1 : k ≤ 200
  · by_cases h2 : ((es.filter isInt).length : Int) + k - 1 ≤ 400
    · simp [sRet, eAnd, eBin, eCB, aCons, aNil, eVar, eC, M.bind, M.pure, on1, s1, fLe, fI0, asB, bindS, h1, h2]
    · simp [sRet, eAnd, eBin, eCB, aCons, aNil, eVar, eC, M.bind, M.pure, on1, s1, fLe, fI0, asB, bindS, h1, h2]
  · simp [sRet, eAnd, eBin, eCB, aCons, aNil, eVar, eC, M.bind, M.pure, on1, s1, fLe, fI0, asB, bindS, h1]
end LK
set_option Elab.async false
set_option linter.all false
set_option maxRecDepth 100000
set_option maxHeartbeats 400000
namespace LK
open PySem PySem.Spec L2 DL
/-! edges -/
def edgeD (e : Int × Int) : PyData := .tuple [.int e.1, .int e.2]
theorem eqv_edge (e : Int × Int) (f g : Int) : PyData.eqv (edgeD e) (.tuple [.int f, .int g]) = decide (e = (f, g)) := by
  obtain ⟨a, b⟩ := e
  by_cases h1 : a = f
  · by_cases h2 : b = g
    · simp [edgeD, PyData.eqv, PyData.eqvAll, h1, h2]
    · simp [edgeD, PyData.eqv, PyData.eqvAll, h1, h2]
  · simp [edgeD, PyData.eqv, PyData.eqvAll, h1]
theorem edge_in (edges : List (Int × Int)) (f g : Int) : (edges.map edgeD).any (fun z => PyData.eqv z (.tuple [.int f, .int g])) = decide ((f, g) ∈ edges) := by
  induction edges with
  | nil => simp
  | cons e es ih =>
    rw [List.map_cons, List.any_cons, ih, eqv_edge]
    by_cases h1 : e = (f, g)
    · simp [h1]
    · by_cases h2 : (f, g) ∈ es
      · simp [h2]
      · have h3 : ¬ ((f, g) = e) := fun z => h1 z.symm
        simp [h1, h2, h3]
theorem shaped_edges (edges : List (Int × Int)) : SeqAt.shaped (.tuple (edges.map edgeD)) = true := by
  have h1 : PyData.canLayAll0 (edges.map edgeD) = true := by
    induction edges with
    | nil => rfl
    | cons e es ih => simp [PyData.canLayAll0, ih, edgeD, PyData.canLay0]
  have h2 : PyData.depthAll (edges.map edgeD) ≤ 2 := by
    induction edges with
    | nil => simp [PyData.depthAll]
    | cons e es ih =>
      rw [List.map_cons]
      have e1 : PyData.depth (edgeD e) ≤ 2 := by simp [edgeD, PyData.depth, PyData.depthAll]
      have e2 : PyData.depthAll (edgeD e :: es.map edgeD) = max (PyData.depth (edgeD e)) (PyData.depthAll (es.map edgeD)) := by
        simp [PyData.depthAll]
      rw [e2]
      have ih := ih (by have := h1; simp [PyData.canLayAll0] at this; exact this.2)
      omega
  simp [SeqAt.shaped, PyData.canLay0, PyData.depth, h1]
  omega
theorem notIn_edges (S : Store) (edges : List (Int × Int)) (f g : Int) : fIn true (.p (.tuple [.int f, .int g])) (.p (.tuple (edges.map edgeD))) S = .ok (.p (.bool (!decide ((f, g) ∈ edges)))) S := by
  have h1 : SeqAt.shaped (.tuple [.int f, .int g]) = true := rfl
  have h2 := shaped_edges edges
  have h3 := edge_in edges f g
  simp only [fIn, toPy, seqPy, h1, h2, Bool.and_self, if_true, h3]
end LK
set_option Elab.async false
set_option linter.all false
set_option maxRecDepth 100000
set_option maxHeartbeats 400000
namespace LK
open PySem PySem.Spec L2 DL
/-! what the program adds of a run's events -/
/-- the store with the events in cell j -/
def evS (S0 : Store) (j : Nat) (evs : List PyData) : Store := S0.set j (.lst (evs.map D.p))
theorem evS_lst {S0 : Store} {j : Nat} {evs : List PyData} (h : j < S0.length) : lstAt (evS S0 j evs) j = some (evs.map D.p) := by
  unfold lstAt evS
  rw [List.getElem?_set_self h]
  rfl
theorem evS_set {S0 : Store} {j : Nat} {evs evs' : List PyData} : (evS S0 j evs).set j (.lst (evs'.map D.p)) = evS S0 j evs' := by
  unfold evS
  rw [List.set_set]
theorem app_ok {S0 : Store} {j : Nat} {evs : List PyData} (h : j < S0.length) (hz : evs.length < 16777216) (p : PyData) : kApp (.o j) (.p p) (evS S0 j evs) = .ok (.p .none) (evS S0 j (evs ++ [p])) := by
  unfold kApp
  simp only [evS_lst h, ofO]
  rw [if_pos (by rw [List.length_map, sizeLine_eq]; exact hz)]
  have e : evs.map D.p ++ [D.p p] = (evs ++ [p]).map D.p := by simp
  rw [e, evS_set]
theorem isL_ok {S0 : Store} {j : Nat} {evs : List PyData} (h : j < S0.length) : kIsL (.o j) (evS S0 j evs) = .ok (.o j) (evS S0 j evs) := by
  unfold kIsL
  simp [evS_lst h]
theorem len_ev {S0 : Store} {j : Nat} {evs : List PyData} (h : j < S0.length) : fLen (.o j) (evS S0 j evs) = .ok (.p (.int evs.length)) (evS S0 j evs) := by
  have e : items (evS S0 j evs) (.o j) = some (evs.map D.p) := by
    show (evS S0 j evs)[j]?.bind Cell.seq? = _
    unfold evS
    rw [List.getElem?_set_self h]
    rfl
  simp [fLen, e, ofO]
theorem edges_ev {S0 : Store} {j q : Nat} {evs : List PyData} {n : Int} {edges : List (Int × Int)} (hq : S0[q]? = some (.ins "Calls" [("functions", .p (.int n)), ("edges", .p (.tuple (edges.map edgeD)))])) (hj : q ≠ j) :
    fFld "Calls" "edges" (.o q) (evS S0 j evs) = .ok (.p (.tuple (edges.map edgeD))) (evS S0 j evs) := by
  have e : (evS S0 j evs)[q]? = some (.ins "Calls" [("functions", .p (.int n)), ("edges", .p (.tuple (edges.map edgeD)))]) := by
    unfold evS
    rw [List.getElem?_set_ne (fun z => hj z.symm)]
    exact hq
  show ofO (evS S0 j evs) ((insAt (evS S0 j evs) q).bind _) = _
  unfold insAt
  rw [e]
  rfl
end LK
set_option Elab.async false
set_option linter.all false
set_option maxRecDepth 100000
set_option maxHeartbeats 400000
namespace LK
open PySem PySem.Spec L2 DL
/-! the program's reading of a run -/
theorem addF_len {E : Es} : ∀ (n : Nat) (v : PyData) (evs : List PyData), evs.length ≤ 601 → (addF E n v evs).2.length ≤ 602 + n
  | 0, v, evs, h => by
    have : addF E 0 v evs = (false, evs) := by unfold addF; rfl
    rw [this]; show evs.length ≤ _; omega
  | n + 1, v, evs, h => by
    have w : ∀ (f : Int) (ps : List PyData) (es : List PyData), es.length ≤ 602 + n → match walkF (addStep E (addF E n) f) es ps with
        | .inl r => r.length ≤ 602 + n
        | .inr r => r.length ≤ 602 + n := by
      intro f ps
      induction ps with
      | nil => intro es he; exact he
      | cons p ps ih =>
        intro es he
        by_cases h1 : 601 < es.length
        · rw [walkF_inr (b := es) (by unfold addStep; rw [if_pos h1])]; exact he
        · by_cases h2 : inRange 1 999999 p = true
          · rw [walkF_inl (a' := es ++ [p]) (by unfold addStep; rw [if_neg h1, if_pos h2])]
            exact ih _ (by simp; omega)
          · by_cases h3 : runLike p = true ∧ (f, headInt p) ∈ E
            · have hl := addF_len (E := E) n p es (by omega)
              have e0 : addStep E (addF E n) f es p = match addF E n p es with
                | (true, evs') => .inl evs'
                | (false, evs') => .inr evs' := by unfold addStep; rw [if_neg h1, if_neg h2, if_pos h3] <;> rfl
              revert e0 hl
              generalize addF E n p es = r
              obtain ⟨b, r⟩ := r
              intro hl e0
              cases b with
              | true => rw [walkF_inl e0]; exact ih _ hl
              | false => rw [walkF_inr e0]; exact hl
            · rw [walkF_inr (b := es) (by unfold addStep; rw [if_neg h1, if_neg h2, if_neg h3])]; exact he
    by_cases hv : ∃ f ps, v = .tuple [.int f, .tuple ps]
    · obtain ⟨f, ps, rfl⟩ := hv
      have := w f ps (evs ++ [inE f]) (by simp; omega)
      rw [addF]
      revert this
      cases walkF (addStep E (addF E n) f) (evs ++ [inE f]) ps with
      | inl r => intro h; show (r ++ [outE f]).length ≤ _; simp; have h : r.length ≤ 602 + n := h; omega
      | inr r => intro h; show r.length ≤ _; have h : r.length ≤ 602 + n := h; omega
    · have e : addF E (n + 1) v evs = (false, evs) := by
        unfold addF
        split
        · exact absurd ⟨_, _, rfl⟩ hv
        · rfl
      rw [e]
      show evs.length ≤ _; omega
def lay (d : PyData) : Prop := d.canLay0 = true
theorem lay_all {ds : List PyData} (h : PyData.canLayAll0 ds = true) : ∀ d ∈ ds, lay d := by
  induction ds with
  | nil => intro d hd; cases hd
  | cons e es ih =>
    simp only [PyData.canLayAll0, Bool.and_eq_true] at h
    intro d hd
    rcases List.mem_cons.mp hd with rfl | hd
    · exact h.1
    · exact ih h.2 d hd
theorem lay_tup {ds : List PyData} (h : lay (.tuple ds)) : ∀ d ∈ ds, lay d := lay_all (by simpa [lay, PyData.canLay0] using h)
theorem lay_noDict {d : PyData} (h : lay d) : noDict d = true := by
  cases d <;> first | rfl | (simp [lay, PyData.canLay0] at h)
theorem lay_noDict2 {d : PyData} (h : lay d) : noDict2 d = true := by
  cases d with
  | tuple ds =>
    simp only [noDict2, List.all_eq_true]
    exact fun e he => lay_noDict (lay_tup h e he)
  | dict _ => simp [lay, PyData.canLay0] at h
  | _ => rfl
theorem evS_len {S0 : Store} {j : Nat} {evs : List PyData} : (evS S0 j evs).length = S0.length := by simp [evS]
section
variable {S0 : Store} {q j : Nat} {k : Int} {E : Es}
theorem add_ok (hq : S0[q]? = some (.ins "Calls" [("functions", .p (.int k)), ("edges", .p (.tuple (E.map edgeD)))])) (hqj : q ≠ j) (hj : j < S0.length) (hE : EOk E) :
    ∀ (n : Nat) (g : Int) (qs evs : List PyData), lay (.tuple [.int g, .tuple qs]) → evs.length ≤ 601 → 0 ≤ g → g ≤ 4 → 5 ≤ g + n → n ≤ 20 →
      F__add_events n [.o q, .p (.tuple [.int g, .tuple qs]), .o j] (evS S0 j evs) = .ok (.p (.bool (addF E n (.tuple [.int g, .tuple qs]) evs).1)) (evS S0 j (addF E n (.tuple [.int g, .tuple qs]) evs).2)
  | 0, g, qs, evs, _, _, _, h4, hf, _ => absurd hf (by omega)
  | n + 1, g, qs, evs, hl, he, h0, h4, hf, hn => by
    have hlq : ∀ p ∈ qs, lay p := lay_tup (lay_tup hl (.tuple qs) (by simp))
    have ix0 : ∀ S, fIx (.p (.tuple [.int g, .tuple qs])) (.p (.int 0)) S = .ok (.p (.int g)) S := fun _ => rfl
    have ix1 : ∀ S, fIx (.p (.tuple [.int g, .tuple qs])) (.p (.int 1)) S = .ok (.p (.tuple qs)) S := fun _ => rfl
    have ap : ∀ (es : List PyData) (p : PyData), es.length ≤ 700 → kApp (.o j) (.p p) (evS S0 j es) = .ok (.p .none) (evS S0 j (es ++ [p])) := fun es p h => app_ok hj (by omega) p
    have il : ∀ es : List PyData, kIsL (.o j) (evS S0 j es) = .ok (.o j) (evS S0 j es) := fun es => isL_ok hj
    have L := loop_fold (α := List PyData) (β := List PyData) (t := tName 4)
      (u := sSeq (sIf (eT (eBin fGt (eCB (on1 fLen) (aCons (eVar 2) aNil)) (eC (.int 601)))) (sRet (eC (.bool false))) sNil) (sIf (eT (eCB F__is_ticks (aCons (eVar 4) aNil))) (sExpr (eApp (eVar 2) (eCB (on1 fInt) (aCons (eVar 4) aNil)))) (sIf (bOr (bNot (eT (eCB F__looks_like_run (aCons (eVar 4) aNil)))) (eT (eBin (fIn true) (eTup (aCons (eVar 3) (aCons (eBin fIx (eVar 4) (eC (.int 0))) aNil))) (eUn (fFld "Calls" "edges") (eVar 0))))) (sRet (eC (.bool false))) (sIf (bNot (eT (eCB (F__add_events n) (aCons (eVar 0) (aCons (eVar 4) (aCons (eVar 2) aNil)))))) (sRet (eC (.bool false))) sNil))))
      qs (addStep E (addF E n) g)
      (fun es ρ S => (∃ x, ρ = [some (.o q), some (.p (.tuple [.int g, .tuple qs])), some (.o j), some (.p (.int g)), x]) ∧ S = evS S0 j es ∧ es.length ≤ 602 + n)
      (fun es d S => d = .p (.bool false) ∧ S = evS S0 j es)
      (fun p es ρ S hp ⟨⟨x, hx⟩, hS, hes⟩ => by
        subst hx hS
        refine ⟨[some (.o q), some (.p (.tuple [.int g, .tuple qs])), some (.o j), some (.p (.int g)), some (.p p)], rfl, ?_⟩
        have hlp := hlq p hp
        have len := len_ev (evs := es) hj
        have t1 := is_ticks_ok p (lay_noDict hlp) (evS S0 j es)
        have t2 := looks_ok p (lay_noDict2 hlp) (evS S0 j es)
        by_cases h1 : 601 < es.length
        · have e0 : addStep E (addF E n) g es p = .inr es := by unfold addStep; rw [if_pos h1]
          rw [e0]
          refine ⟨_, _, ?_, rfl, rfl⟩
          have h1' : (601 : Int) < es.length := by omega
          simp [sSeq, thenS, sIf, sSet, sRet, sExpr, eT, asB, eIf, eAnd, eOr, eNot, eChain, onB, eBin, eUn, eVar, eC, eCB, on1, on2, aCons, aNil, eTup, eLst, eCell, kTup, kLst, kCell, asPs, bAnd, bOr, bNot, M.bind, M.pure, bindS, slots, finR, sizeLine_eq, len, fGt, fI0, h1', h1]
        · have h1' : ¬ (601 : Int) < es.length := by omega
          have a1 := ap es p (by omega)
          by_cases h2 : inRange 1 999999 p = true
          · have e0 : addStep E (addF E n) g es p = .inl (es ++ [p]) := by unfold addStep; rw [if_neg h1, if_pos h2]
            rw [e0]
            obtain ⟨i, rfl, _, _⟩ := inRange_inv h2
            refine ⟨[some (.o q), some (.p (.tuple [.int g, .tuple qs])), some (.o j), some (.p (.int g)), some (.p (.int i))], _, ?_, ⟨_, rfl⟩, rfl, by simp; omega⟩
            simp [sSeq, thenS, sIf, sSet, sRet, sExpr, eT, asB, eIf, eAnd, eOr, eNot, eChain, onB, eBin, eUn, eVar, eC, eCB, on1, on2, aCons, aNil, eTup, eLst, eCell, kTup, kLst, kCell, asPs, bAnd, bOr, bNot, M.bind, M.pure, bindS, slots, finR, sizeLine_eq, len, fGt, fI0, h1', h1, t1, h2, sNil, eApp, il, fInt, a1]
          · by_cases h3 : runLike p = true ∧ (g, headInt p) ∈ E
            · obtain ⟨g2, qs2, rfl⟩ := runLike_inv h3.1
              have hed : (g, g2) ∈ E := h3.2
              have hb := hE g g2 hed
              have ih := add_ok hq hqj hj hE n g2 qs2 es hlp (by omega) (by omega) hb.2.2 (by omega) (by omega)
              have hal := addF_len (E := E) n (.tuple [.int g2, .tuple qs2]) es (by omega)
              have e0 : addStep E (addF E n) g es (.tuple [.int g2, .tuple qs2]) = match addF E n (.tuple [.int g2, .tuple qs2]) es with
                | (true, evs') => .inl evs'
                | (false, evs') => .inr evs' := by unfold addStep; rw [if_neg h1, if_neg h2, if_pos h3] <;> rfl
              rw [e0]
              have ed := edges_ev (evs := es) hq hqj
              have nin := notIn_edges (evS S0 j es) E g g2
              have jx : fIx (.p (.tuple [.int g2, .tuple qs2])) (.p (.int 0)) (evS S0 j es) = .ok (.p (.int g2)) (evS S0 j es) := rfl
              have rl : runLike (.tuple [.int g2, .tuple qs2]) = true := rfl
              revert ih hal
              generalize addF E n (.tuple [.int g2, .tuple qs2]) es = r
              obtain ⟨b, r⟩ := r
              intro ih hal
              dsimp only at ih hal
              cases b with
              | true =>
                refine ⟨[some (.o q), some (.p (.tuple [.int g, .tuple qs])), some (.o j), some (.p (.int g)), some (.p (.tuple [.int g2, .tuple qs2]))], _, ?_, ⟨_, rfl⟩, rfl, hal⟩
                simp [sSeq, thenS, sIf, sSet, sRet, sExpr, eT, asB, eIf, eAnd, eOr, eNot, eChain, onB, eBin, eUn, eVar, eC, eCB, on1, on2, aCons, aNil, eTup, eLst, eCell, kTup, kLst, kCell, asPs, bAnd, bOr, bNot, M.bind, M.pure, bindS, slots, finR, sizeLine_eq, len, fGt, fI0, h1', h1, t1, h2, sNil, t2, rl, jx, ed, nin, hed, ih]
              | false =>
                refine ⟨_, _, ?_, rfl, rfl⟩
                simp [sSeq, thenS, sIf, sSet, sRet, sExpr, eT, asB, eIf, eAnd, eOr, eNot, eChain, onB, eBin, eUn, eVar, eC, eCB, on1, on2, aCons, aNil, eTup, eLst, eCell, kTup, kLst, kCell, asPs, bAnd, bOr, bNot, M.bind, M.pure, bindS, slots, finR, sizeLine_eq, len, fGt, fI0, h1', h1, t1, h2, sNil, t2, rl, jx, ed, nin, hed, ih]
            · have e0 : addStep E (addF E n) g es p = .inr es := by unfold addStep; rw [if_neg h1, if_neg h2, if_neg h3]
              rw [e0]
              refine ⟨_, _, ?_, rfl, rfl⟩
              cases hr : runLike p with
              | false => simp [sSeq, thenS, sIf, sSet, sRet, sExpr, eT, asB, eIf, eAnd, eOr, eNot, eChain, onB, eBin, eUn, eVar, eC, eCB, on1, on2, aCons, aNil, eTup, eLst, eCell, kTup, kLst, kCell, asPs, bAnd, bOr, bNot, M.bind, M.pure, bindS, slots, finR, sizeLine_eq, len, fGt, fI0, h1', h1, t1, h2, sNil, t2, hr]
              | true =>
                obtain ⟨g2, qs2, rfl⟩ := runLike_inv hr
                have hed : (g, g2) ∉ E := fun h => h3 ⟨hr, h⟩
                have ed := edges_ev (evs := es) hq hqj
                have nin := notIn_edges (evS S0 j es) E g g2
                have jx : fIx (.p (.tuple [.int g2, .tuple qs2])) (.p (.int 0)) (evS S0 j es) = .ok (.p (.int g2)) (evS S0 j es) := rfl
                simp [sSeq, thenS, sIf, sSet, sRet, sExpr, eT, asB, eIf, eAnd, eOr, eNot, eChain, onB, eBin, eUn, eVar, eC, eCB, on1, on2, aCons, aNil, eTup, eLst, eCell, kTup, kLst, kCell, asPs, bAnd, bOr, bNot, M.bind, M.pure, bindS, slots, finR, sizeLine_eq, len, fGt, fI0, h1', h1, t1, h2, sNil, t2, hr, jx, ed, nin, hed])
      qs.length 0 (evs ++ [inE g]) [some (.o q), some (.p (.tuple [.int g, .tuple qs])), some (.o j), some (.p (.int g)), none] (evS S0 j (evs ++ [inE g])) (by simp) ⟨⟨_, rfl⟩, rfl, by simp; omega⟩
    have a0 := ap evs (inE g) (by omega)
    suffices hh : g__add_events (F__add_events n) [some (.o q), some (.p (.tuple [.int g, .tuple qs])), some (.o j), none, none] (evS S0 j evs) = .rt (.p (.bool (addF E (n + 1) (.tuple [.int g, .tuple qs]) evs).1)) (evS S0 j (addF E (n + 1) (.tuple [.int g, .tuple qs]) evs).2) by
      show finR (g__add_events (F__add_events n) [some (.o q), some (.p (.tuple [.int g, .tuple qs])), some (.o j), none, none] (evS S0 j evs)) = _
      rw [hh]
      rfl
    unfold g__add_events
    rw [stp (ρ' := [some (.o q), some (.p (.tuple [.int g, .tuple qs])), some (.o j), some (.p (.int g)), none]) (S' := evS S0 j evs) (by simp [sSeq, thenS, sIf, sSet, sRet, sExpr, eT, asB, eIf, eAnd, eOr, eNot, eChain, onB, eBin, eUn, eVar, eC, eCB, on1, on2, aCons, aNil, eTup, eLst, eCell, kTup, kLst, kCell, asPs, bAnd, bOr, bNot, M.bind, M.pure, bindS, slots, finR, sizeLine_eq, ix0, fInt])]
    rw [stp (ρ' := [some (.o q), some (.p (.tuple [.int g, .tuple qs])), some (.o j), some (.p (.int g)), none]) (S' := evS S0 j (evs ++ [inE g])) (by
      unfold inE at a0
      simp [sSeq, thenS, sIf, sSet, sRet, sExpr, eT, asB, eIf, eAnd, eOr, eNot, eChain, onB, eBin, eUn, eVar, eC, eCB, on1, on2, aCons, aNil, eTup, eLst, eCell, kTup, kLst, kCell, asPs, bAnd, bOr, bNot, M.bind, M.pure, bindS, slots, finR, sizeLine_eq, eApp, il, a0, inE])]
    have hs : srcSeq (eBin fIx (eVar 1) (eC (.int 1))) [some (.o q), some (.p (.tuple [.int g, .tuple qs])), some (.o j), some (.p (.int g)), none] (evS S0 j (evs ++ [inE g])) = .ok (.seq (.p (.tuple qs))) (evS S0 j (evs ++ [inE g])) := by
      simp [srcSeq, eBin, eVar, eC, M.bind, ix1, ofSeq, seqItems]
    have hc : (SrcV.seq (.p (.tuple qs))).count (evS S0 j (evs ++ [inE g])) = qs.length := by
      show ((some (qs.map D.p)).map List.length).getD 0 = qs.length
      simp
    rw [List.drop_zero] at L
    have ea : addF E (n + 1) (.tuple [.int g, .tuple qs]) evs = match walkF (addStep E (addF E n) g) (evs ++ [inE g]) qs with
      | .inl evs' => (true, evs' ++ [outE g])
      | .inr evs' => (false, evs') := by rw [addF] <;> rfl
    rw [ea]
    revert L
    cases hw : walkF (addStep E (addF E n) g) (evs ++ [inE g]) qs with
    | inl r =>
      rintro ⟨ρ', S', e, ⟨x, rfl⟩, rfl, hr⟩
      rw [stp (by unfold sFor bindS; rw [hs]; show loopS _ _ _ ((SrcV.seq (.p (.tuple qs))).count _) 0 _ _ = _; rw [hc]; exact e)]
      have a2 := ap r (outE g) (by omega)
      unfold outE at a2
      simp [sSeq, thenS, sIf, sSet, sRet, sExpr, eT, asB, eIf, eAnd, eOr, eNot, eChain, onB, eBin, eUn, eVar, eC, eCB, on1, on2, aCons, aNil, eTup, eLst, eCell, kTup, kLst, kCell, asPs, bAnd, bOr, bNot, M.bind, M.pure, bindS, slots, finR, sizeLine_eq, eApp, il, a2, outE]
    | inr r =>
      rintro ⟨d, S', e, rfl, rfl⟩
      rw [stpr (by unfold sFor bindS; rw [hs]; show loopS _ _ _ ((SrcV.seq (.p (.tuple qs))).count _) 0 _ _ = _; rw [hc]; exact e)]
end
end LK
set_option Elab.async false
set_option linter.all false
set_option maxRecDepth 100000
set_option maxHeartbeats 400000
namespace LK
open PySem PySem.Spec L2 DL
/-- the events of a value that is a run -/
def trV : PyData → List PyData
  | .tuple [.int f, .tuple ps] => trE f ps
  | _ => []
theorem strOk_in : PyData.strOk "in" = true := by decide +kernel
theorem strOk_out : PyData.strOk "out" = true := by decide +kernel
theorem isEv_inE {g : Int} : isEv (inE g) = true := strOk_in
theorem isEv_outE {g : Int} : isEv (outE g) = true := strOk_out
theorem evP_isEv : ∀ (ps : List PyData), sp ps = true → ∀ e ∈ evP ps, isEv e = true
  | [], _, e, he => by rw [evP_nil] at he; cases he
  | p :: ps, h, e, he => by
    cases sp_pk h with
    | int i =>
      rw [sp_int] at h
      rw [evP_int] at he
      rcases List.mem_cons.mp he with rfl | he
      · rfl
      · exact evP_isEv ps h e he
    | run g qs =>
      rw [sp_run, Bool.and_eq_true] at h
      rw [evP_run] at he
      rcases List.mem_cons.mp he with rfl | he
      · exact isEv_inE
      · rcases List.mem_append.mp he with he | he
        · exact evP_isEv qs h.1 e he
        · rcases List.mem_cons.mp he with rfl | he
          · exact isEv_outE
          · exact evP_isEv ps h.2 e he
termination_by ps => sizeOf ps
theorem trE_isEv {f : Int} {ps : List PyData} (h : sp ps = true) : ∀ e ∈ trE f ps, isEv e = true := by
  intro e he
  rcases List.mem_cons.mp he with rfl | he
  · exact isEv_inE
  · rcases List.mem_append.mp he with he | he
    · exact evP_isEv ps h e he
    · rcases List.mem_cons.mp he with rfl | he
      · exact isEv_outE
      · cases he
section
variable {q : Nat} {k : Int} {E : Es}
abbrev callsC (k : Int) (E : Es) : Cell := .ins "Calls" [("functions", .p (.int k)), ("edges", .p (.tuple (E.map edgeD)))]
theorem get_app {S T : Store} {i : Nat} {c : Cell} (h : S[i]? = some c) : (S ++ T)[i]? = some c := by
  rw [List.getElem?_append_left (List.getElem?_eq_some_iff.mp h).1]; exact h
theorem events_ok {S : Store} (hq : S[q]? = some (callsC k E)) (hE : EOk E) (v : PyData) (hl : lay v) :
    ∃ T, F_events_of [.o q, .p v] S = .ok (.p (if goodRun E v = true then .tuple (trV v) else .none)) (S ++ T) := by
  have t1 := looks_ok v (lay_noDict2 hl) S
  cases hr : runLike v with
  | false =>
    have hg : goodRun E v = false := by
      unfold goodRun
      split
      · cases hr
      · rfl
    refine ⟨[], ?_⟩
    rw [hg, List.append_nil]
    unfold F_events_of bodyF g_events_of
    simp [sSeq, thenS, sIf, sSet, sRet, sExpr, eT, asB, eIf, eAnd, eOr, eNot, eChain, onB, eBin, eUn, eVar, eC, eCB, on1, on2, aCons, aNil, eTup, eLst, eCell, kTup, kLst, kCell, asPs, bAnd, bOr, bNot, M.bind, M.pure, bindS, slots, finR, sizeLine_eq, t1, hr]
  | true =>
    obtain ⟨f, ps, rfl⟩ := runLike_inv hr
    have ix0 : ∀ S, fIx (.p (.tuple [.int f, .tuple ps])) (.p (.int 0)) S = .ok (.p (.int f)) S := fun _ => rfl
    have ne : fEq true (.p (.int f)) (.p (.int 0)) S = .ok (.p (.bool (!decide (f = 0)))) S := by
      have h1 : SeqAt.shaped (.int f) = true := rfl
      have h2 : SeqAt.shaped (.int 0) = true := rfl
      have e : (f == 0) = decide (f = 0) := by by_cases h : f = 0 <;> simp [h]
      simp [fEq, toPy, h1, h2, PyData.eqv, e]
    by_cases hf : f = 0
    · subst hf
      have hj : S.length < (S ++ [Cell.lst []]).length := by simp
      have hq' := get_app (T := [Cell.lst []]) hq
      have hqj : q ≠ S.length := by
        have := (List.getElem?_eq_some_iff.mp hq).1
        omega
      have ha := add_ok hq' hqj hj hE 20 0 ps [] hl (by simp) (by omega) (by omega) (by omega) (by omega)
      have he : evS (S ++ [Cell.lst []]) S.length [] = S ++ [Cell.lst []] := by
        unfold evS
        simp
      rw [he] at ha
      have hgd := add_good hE 20 (by omega) 0 ps
      have hrun := run_add hE 20 0 ps [] (by omega) (by omega) (by omega)
      revert ha hgd hrun
      generalize hr2 : addF E 20 (.tuple [.int 0, .tuple ps]) [] = r
      obtain ⟨b, evs⟩ := r
      intro ha hgd hrun
      dsimp only at ha
      have ev : ∀ es, evS (S ++ [Cell.lst []]) S.length es = S ++ [Cell.lst (es.map D.p)] := fun es => by
        unfold evS
        simp
      rw [ev] at ha
      cases b with
      | false =>
        have hg : goodRun E (.tuple [.int 0, .tuple ps]) = false := by
          cases h : goodRun E (.tuple [.int 0, .tuple ps]) with
          | false => rfl
          | true => rw [h] at hgd; cases hgd
        refine ⟨[Cell.lst (evs.map D.p)], ?_⟩
        rw [hg]
        unfold F_events_of bodyF g_events_of
        simp [sSeq, thenS, sIf, sSet, sRet, sExpr, eT, asB, eIf, eAnd, eOr, eNot, eChain, onB, eBin, eUn, eVar, eC, eCB, on1, on2, aCons, aNil, eTup, eLst, eCell, kTup, kLst, kCell, asPs, bAnd, bOr, bNot, M.bind, M.pure, bindS, slots, finR, sizeLine_eq, t1, hr, ix0, ne, ha, sNil]
      | true =>
        have e0 : evs = [] ++ trE 0 ps := hrun.1
        have hgp : gp E 0 ps = true := hrun.2
        rw [List.nil_append] at e0
        subst e0
        have hit : ∀ l : List D, items (S ++ [Cell.lst l]) (.o S.length) = some l := fun l => by
          show (S ++ [Cell.lst l])[S.length]?.bind Cell.seq? = _
          simp [Cell.seq?]
        have hsq := hit ((trE 0 ps).map D.p)
        have hx : seqItems (S ++ [Cell.lst ((trE 0 ps).map D.p)]) (.o S.length) = some ((trE 0 ps).map D.p) := hsq
        have hlen : (trE 0 ps).length ≤ 622 := by
          have := addF_len (E := E) 20 (.tuple [.int 0, .tuple ps]) [] (by simp)
          rw [hr2] at this
          exact this
        have hfw := are_few_ok _ _ _ hx (by omega) (trE_isEv (gp_sp _ _ hgp))
        have htu : fTuple (.o S.length) (S ++ [Cell.lst ((trE 0 ps).map D.p)]) = .ok (.p (.tuple (trE 0 ps))) (S ++ [Cell.lst ((trE 0 ps).map D.p)]) := by
          show ofO _ ((items _ _).bind _) = _
          rw [hsq]
          simp [asPs_map, ofO]
        have hgr : goodRun E (.tuple [.int 0, .tuple ps]) = few (trE 0 ps) := by simp [goodRun, hgp]
        refine ⟨[Cell.lst ((trE 0 ps).map D.p)], ?_⟩
        rw [hgr]
        unfold F_events_of bodyF g_events_of
        cases hfe : few (trE 0 ps) with
        | false => simp [sSeq, thenS, sIf, sSet, sRet, sExpr, eT, asB, eIf, eAnd, eOr, eNot, eChain, onB, eBin, eUn, eVar, eC, eCB, on1, on2, aCons, aNil, eTup, eLst, eCell, kTup, kLst, kCell, asPs, bAnd, bOr, bNot, M.bind, M.pure, bindS, slots, finR, sizeLine_eq, t1, hr, ix0, ne, ha, sNil, hfw, hfe]
        | true => simp [sSeq, thenS, sIf, sSet, sRet, sExpr, eT, asB, eIf, eAnd, eOr, eNot, eChain, onB, eBin, eUn, eVar, eC, eCB, on1, on2, aCons, aNil, eTup, eLst, eCell, kTup, kLst, kCell, asPs, bAnd, bOr, bNot, M.bind, M.pure, bindS, slots, finR, sizeLine_eq, t1, hr, ix0, ne, ha, sNil, hfw, hfe, htu, trV]
    · have hg : goodRun E (.tuple [.int f, .tuple ps]) = false := by simp [goodRun, hf]
      refine ⟨[], ?_⟩
      rw [hg, List.append_nil]
      unfold F_events_of bodyF g_events_of
      simp [sSeq, thenS, sIf, sSet, sRet, sExpr, eT, asB, eIf, eAnd, eOr, eNot, eChain, onB, eBin, eUn, eVar, eC, eCB, on1, on2, aCons, aNil, eTup, eLst, eCell, kTup, kLst, kCell, asPs, bAnd, bOr, bNot, M.bind, M.pure, bindS, slots, finR, sizeLine_eq, t1, hr, ix0, ne, hf]
end
end LK
set_option Elab.async false
set_option linter.all false
set_option maxRecDepth 100000
set_option maxHeartbeats 400000
namespace LK
open PySem PySem.Spec L2 DL
/-! the law's look at a run -/
mutual
def nd : PyData → Nat
  | .tuple ds => ndL ds + 1
  | .list ds => ndL ds + 1
  | _ => 1
def ndL : List PyData → Nat
  | [] => 0
  | d :: ds => nd d + ndL ds
end
theorem nd_pos (d : PyData) : 1 ≤ nd d := by cases d <;> simp [nd]
theorem ndL_append (a b : List PyData) : ndL (a ++ b) = ndL a + ndL b := by
  induction a with
  | nil => simp [ndL]
  | cons x a ih => simp [ndL, ih]; omega
theorem len_ndL (a : List PyData) : a.length ≤ ndL a := by
  induction a with
  | nil => simp [ndL]
  | cons x a ih => have := nd_pos x; simp [ndL]; omega
abbrev shp (d : PyData) : Prop := SeqAt.shaped d = true
theorem shp_lay {d : PyData} (h : shp d) : lay d := SeqAt.canLay_of_shaped h
theorem depthAll_mem {ds : List PyData} {d : PyData} (h : d ∈ ds) : PyData.depth d ≤ PyData.depthAll ds := by
  induction ds with
  | nil => cases h
  | cons e es ih =>
    rw [PyData.depthAll]
    rcases List.mem_cons.mp h with rfl | h
    · omega
    · have := ih h; omega
theorem shp_tup {ds : List PyData} (h : shp (.tuple ds)) : ∀ d ∈ ds, shp d := fun d hd => by
  have h1 := lay_tup (shp_lay h) d hd
  have h2 := SeqAt.depth_of_shaped h
  have h3 := depthAll_mem hd
  rw [PyData.depth] at h2
  have h1 : d.canLay0 = true := h1
  simp only [shp, SeqAt.shaped, h1, Bool.true_and, decide_eq_true_eq]
  omega
theorem shp_int {i : Int} : shp (.int i) := rfl
theorem neInt (S : Store) (a b : Int) : fEq true (.p (.int a)) (.p (.int b)) S = .ok (.p (.bool (!decide (a = b)))) S := by
  have h1 : SeqAt.shaped (.int a) = true := rfl
  have h2 : SeqAt.shaped (.int b) = true := rfl
  have e : (a == b) = decide (a = b) := by by_cases h : a = b <;> simp [h]
  simp [fEq, toPy, h1, h2, PyData.eqv, e]
theorem eqTup0 (S : Store) (ds : List PyData) (h : shp (.tuple ds)) : fEq false (.p (.tuple ds)) (.p (.tuple [])) S = .ok (.p (.bool ds.isEmpty)) S := by
  have h2 : SeqAt.shaped (.tuple []) = true := rfl
  have e : PyData.eqv (.tuple ds) (.tuple []) = ds.isEmpty := by cases ds <;> simp [PyData.eqv, PyData.eqvAll]
  have h : SeqAt.shaped (.tuple ds) = true := h
  simp [fEq, toPy, h, h2, e]
theorem isi_tupD (S : Store) (d : PyData) (h : noDict d = true) : fIsi "tuple" (.p d) S = .ok (.p (.bool (isTupD' d))) S := by
  cases d <;> first | (cases h; done) | rfl
theorem ix_cons0 (h : PyData) (tl : List PyData) (S : Store) : fIx (.p (.tuple (h :: tl))) (.p (.int 0)) S = .ok (.p h) S := by
  simp [fIx, atI, ixN, ofO]
/-- a list's cell of tasks -/
def tdD (x : PyData × Int) : PyData := .tuple [x.1, .int x.2]
def tdC (todo : Td) : Cell := .lst ((todo.map tdD).map D.p)
section
variable {E : Es} {cs : PyData} {v : PyData}
def isRunF (E : Es) (s : Td × Int × Int × Int) (_ : PyData) : (Td × Int × Int × Int) ⊕ Bool :=
  if s.1 = [] then .inr (decide (s.2.2.1 ≤ 999999) && decide (s.2.2.2 ≤ 400)) else
    if 200 < s.2.1 + 1 then .inr false else
    match popF s.1 with
    | none => .inr false
    | some (w, qs) => match walkF (scanF E w) (s.1.dropLast, s.2.2.1) qs with
      | .inl (todo', t') => .inl (todo', s.2.1 + 1, t', s.2.2.2 + qs.length)
      | .inr _ => .inr false
theorem isRunF_walk {E : Es} : ∀ (xs : List PyData) (todo : Td) (num t p : Int), (match walkF (isRunF E) (todo, num, t, p) xs with
    | .inl _ => false
    | .inr b => b) = isRunL E xs.length todo num t p
  | [], todo, num, t, p => rfl
  | x :: xs, todo, num, t, p => by
    show _ = isRunL E (xs.length + 1) todo num t p
    unfold isRunL
    by_cases h1 : todo = []
    · rw [walkF_inr (b := (decide (t ≤ 999999) && decide (p ≤ 400))) (by unfold isRunF; rw [if_pos h1]), if_pos h1]
    · rw [if_neg h1]
      by_cases h2 : 200 < num + 1
      · rw [walkF_inr (b := false) (by unfold isRunF; rw [if_neg h1, if_pos h2]), if_pos h2]
      · rw [if_neg h2]
        cases h3 : popF todo with
        | none => rw [walkF_inr (b := false) (by unfold isRunF; rw [if_neg h1, if_neg h2, h3])]
        | some r =>
          obtain ⟨w, qs⟩ := r
          dsimp only
          cases h4 : walkF (scanF E w) (todo.dropLast, t) qs with
          | inr u => rw [walkF_inr (b := false) (by unfold isRunF; rw [if_neg h1, if_neg h2, h3]; dsimp only; rw [h4])]
          | inl r =>
            obtain ⟨todo', t'⟩ := r
            rw [walkF_inl (a' := (todo', num + 1, t', p + qs.length)) (by unfold isRunF; rw [if_neg h1, if_neg h2, h3]; dsimp only; rw [h4])]
            exact isRunF_walk xs _ _ _ _
theorem tdC_at {S : Store} {j : Nat} {todo : Td} (h : j < S.length) : lstAt (S.set j (tdC todo)) j = some ((todo.map tdD).map D.p) := by
  unfold lstAt; rw [List.getElem?_set_self h]; rfl
theorem tdC_items {S : Store} {j : Nat} {todo : Td} (h : j < S.length) : items (S.set j (tdC todo)) (.o j) = some ((todo.map tdD).map D.p) := by
  show (S.set j (tdC todo))[j]?.bind Cell.seq? = _
  rw [List.getElem?_set_self h]; rfl
theorem td_app {S : Store} {j : Nat} {todo : Td} (h : j < S.length) (hz : todo.length < 16777216) (x : PyData × Int) :
    kApp (.o j) (.p (tdD x)) (S.set j (tdC todo)) = .ok (.p .none) (S.set j (tdC (todo ++ [x]))) := by
  unfold kApp
  simp only [tdC_at h, ofO]
  rw [if_pos (by simp [sizeLine_eq]; exact hz)]
  rw [List.set_set]
  congr 2
  simp [tdC]
theorem td_isL {S : Store} {j : Nat} {todo : Td} (h : j < S.length) : kIsL (.o j) (S.set j (tdC todo)) = .ok (.o j) (S.set j (tdC todo)) := by
  unfold kIsL
  simp [tdC_at h]
theorem td_pop {S : Store} {j : Nat} {i : Td} {x : PyData × Int} (h : j < S.length) : kPop (.o j) (S.set j (tdC (i ++ [x]))) = .ok (.p (tdD x)) (S.set j (tdC i)) := by
  unfold kPop
  simp only [tdC_at h]
  have e1 : (((i ++ [x]).map tdD).map D.p)[(((i ++ [x]).map tdD).map D.p).length - 1]? = some (.p (tdD x)) := by simp
  have e2 : (((i ++ [x]).map tdD).map D.p).dropLast = (i.map tdD).map D.p := by simp
  rw [e1, e2]
  simp only [List.set_set]
  rfl
theorem td_nil {S : Store} {j : Nat} {todo : Td} (h : j < S.length) : fEqNil (.o j) (.p (.list [])) (S.set j (tdC todo)) = .ok (.p (.bool todo.isEmpty)) (S.set j (tdC todo)) := by
  show ofO _ ((items _ _).map _) = _
  rw [tdC_items h]
  cases todo <;> rfl
def ndT (todo : Td) : Nat := ndL (todo.map (·.1))
theorem ndT_snoc {i : Td} {x : PyData × Int} : ndT (i ++ [x]) = ndT i + nd x.1 := by simp [ndT, ndL_append, ndL]
theorem len_ndT (todo : Td) : todo.length ≤ ndT todo := by
  have := len_ndL (todo.map (·.1)); simpa [ndT] using this
abbrev lpScan : Fs := sIf (eT (eUn (fIsi "tuple") (eVar 9))) (sSeq (sIf (bOr (eT (eBin (fEq false) (eVar 9) (eTup aNil))) (bOr (bNot (eT (eCB F__law_whole (aCons (eBin fIx (eVar 9) (eC (.int 0))) aNil)))) (eT (eBin (fIn true) (eTup (aCons (eVar 8) (aCons (eBin fIx (eVar 9) (eC (.int 0))) aNil))) (eBin fIx (eVar 0) (eC (.int 1))))))) (sRet (eC (.bool false))) sNil) (sExpr (eApp (eVar 2) (eTup (aCons (eVar 9) (aCons (eBin fIx (eVar 9) (eC (.int 0))) aNil)))))) (sIf (bOr (bNot (eT (eCB F__law_whole (aCons (eVar 9) aNil)))) (bOr (eT (eBin fLt (eVar 9) (eC (.int 1)))) (eT (eBin fGt (eVar 9) (eC (.int 999999)))))) (sRet (eC (.bool false))) (sSet 4 (eBin fAdd (eVar 4) (eVar 9))))
/-- one run's parts -/
theorem scan_store {k : Int} (S : Store) (j : Nat) (hj : j < S.length) (w num p : Int) (one : PyData) (ps : List PyData) (hps : ∀ d ∈ ps, shp d) (x6 : Option D) (todo : Td) (t : Int) (hN : ndT todo + ndL ps ≤ 16777215) (hto : ∀ x ∈ todo, shp x.1) (x9 : Option D) :
    match walkF (scanF E w) (todo, t) ps with
    | .inl (todo', t') => ∃ x9', sFor (srcSeq (eBin fIx (eVar 7) (eC (.int 1)))) (tName 9) lpScan
        [some (.p (.tuple [.int k, .tuple (E.map edgeD)])), some (.p v), some (.o j), some (.p (.int num)), some (.p (.int t)), some (.p (.int p)), x6, some (.p (.tuple [one, .tuple ps])), some (.p (.int w)), x9] (S.set j (tdC todo)) =
        .nx [some (.p (.tuple [.int k, .tuple (E.map edgeD)])), some (.p v), some (.o j), some (.p (.int num)), some (.p (.int t')), some (.p (.int p)), x6, some (.p (.tuple [one, .tuple ps])), some (.p (.int w)), x9'] (S.set j (tdC todo')) ∧ ndT todo' ≤ ndT todo + ndL ps ∧ ∀ x ∈ todo', shp x.1
    | .inr _ => ∃ S', sFor (srcSeq (eBin fIx (eVar 7) (eC (.int 1)))) (tName 9) lpScan
        [some (.p (.tuple [.int k, .tuple (E.map edgeD)])), some (.p v), some (.o j), some (.p (.int num)), some (.p (.int t)), some (.p (.int p)), x6, some (.p (.tuple [one, .tuple ps])), some (.p (.int w)), x9] (S.set j (tdC todo)) = .rt (.p (.bool false)) (S.set j (tdC S')) := by
  have hs : ∀ x4 T, srcSeq (eBin fIx (eVar 7) (eC (.int 1))) [some (.p (.tuple [.int k, .tuple (E.map edgeD)])), some (.p v), some (.o j), some (.p (.int num)), x4, some (.p (.int p)), x6, some (.p (.tuple [one, .tuple ps])), some (.p (.int w)), x9] T = .ok (.seq (.p (.tuple ps))) T := fun x4 T => by
    have ix1 : fIx (.p (.tuple [one, .tuple ps])) (.p (.int 1)) T = .ok (.p (.tuple ps)) T := rfl
    simp [srcSeq, eBin, eVar, eC, M.bind, ix1, ofSeq, seqItems]
  have L := for_fold (α := Td × Int) (β := Unit) (t := tName 9) (u := lpScan) ps (scanF E w)
    (fun rest s ρ T => (∃ x, ρ = [some (.p (.tuple [.int k, .tuple (E.map edgeD)])), some (.p v), some (.o j), some (.p (.int num)), some (.p (.int s.2)), some (.p (.int p)), x6, some (.p (.tuple [one, .tuple ps])), some (.p (.int w)), x]) ∧ T = S.set j (tdC s.1) ∧ ndT s.1 + ndL rest ≤ ndT todo + ndL ps ∧ ∀ x ∈ s.1, shp x.1)
    (fun _ d T => d = .p (.bool false) ∧ ∃ td, T = S.set j (tdC td)) (a := (todo, t)) (hs (some (.p (.int t))) (S.set j (tdC todo))) (seq_tup_count _ _) (seq_tup_nxt ps) ⟨⟨_, rfl⟩, rfl, Nat.le_refl _, hto⟩
    (fun q rest s ρ T hq ⟨⟨x, hx⟩, hT, hnd, hsh⟩ => by
      subst hx hT
      obtain ⟨td, tt⟩ := s
      dsimp only at hnd hsh ⊢
      refine ⟨[some (.p (.tuple [.int k, .tuple (E.map edgeD)])), some (.p v), some (.o j), some (.p (.int num)), some (.p (.int tt)), some (.p (.int p)), x6, some (.p (.tuple [one, .tuple ps])), some (.p (.int w)), some (.p q)], rfl, ?_⟩
      have hq := hps q hq
      have hqn := lay_noDict (shp_lay hq)
      have i1 := isi_tupD (S.set j (tdC td)) q hqn
      have hlen : td.length < 16777216 := by have := len_ndT td; omega
      have fin : ∀ (d : PyData), ndL (d :: rest) = nd d + ndL rest := fun d => by simp [ndL]
      rw [fin] at hnd
      cases q with
      | tuple ds =>
        have i1 : fIsi "tuple" (.p (.tuple ds)) (S.set j (tdC td)) = .ok (.p (.bool true)) (S.set j (tdC td)) := i1
        have i2 := eqTup0 (S.set j (tdC td)) ds hq
        cases ds with
        | nil =>
          refine ⟨.p (.bool false), S.set j (tdC td), ?_, rfl, td, rfl⟩
          have i2 : fEq false (.p (.tuple [])) (.p (.tuple [])) (S.set j (tdC td)) = .ok (.p (.bool true)) (S.set j (tdC td)) := i2
          simp [sSeq, thenS, sIf, sSet, sRet, sExpr, eT, asB, eIf, eAnd, eOr, eNot, eChain, onB, eBin, eUn, eVar, eC, eCB, on1, on2, aCons, aNil, eTup, eLst, eCell, kTup, kLst, kCell, asPs, bAnd, bOr, bNot, M.bind, M.pure, bindS, slots, finR, sizeLine_eq, i1, i2]
        | cons h tl =>
          have i2 : fEq false (.p (.tuple (h :: tl))) (.p (.tuple [])) (S.set j (tdC td)) = .ok (.p (.bool false)) (S.set j (tdC td)) := i2
          have i3 : fIx (.p (.tuple (h :: tl))) (.p (.int 0)) (S.set j (tdC td)) = .ok (.p h) (S.set j (tdC td)) := ix_cons0 _ _ _
          have hh := shp_tup hq h (by simp)
          have i4 := law_whole_ok h (lay_noDict (shp_lay hh)) (S.set j (tdC td))
          have i5 : fIx (.p (.tuple [.int k, .tuple (E.map edgeD)])) (.p (.int 1)) (S.set j (tdC td)) = .ok (.p (.tuple (E.map edgeD))) (S.set j (tdC td)) := rfl
          cases h with
          | int g =>
            have i4 : F__law_whole [.p (.int g)] (S.set j (tdC td)) = .ok (.p (.bool true)) (S.set j (tdC td)) := i4
            have i6 := notIn_edges (S.set j (tdC td)) E w g
            by_cases he : (w, g) ∈ E
            · have e0 : scanF E w (td, tt) (.tuple (.int g :: tl)) = .inl (td ++ [(.tuple (.int g :: tl), g)], tt) := by
                show (if (w, g) ∈ E then _ else _) = _
                rw [if_pos he]
              rw [e0]
              have a1 := td_app (x := (.tuple (.int g :: tl), g)) hj hlen
              have a2 := td_isL (todo := td) hj
              refine ⟨[some (.p (.tuple [.int k, .tuple (E.map edgeD)])), some (.p v), some (.o j), some (.p (.int num)), some (.p (.int tt)), some (.p (.int p)), x6, some (.p (.tuple [one, .tuple ps])), some (.p (.int w)), some (.p (.tuple (.int g :: tl)))], _, ?_, ⟨_, rfl⟩, rfl, ?_, ?_⟩
              · unfold tdD at a1
                simp [sSeq, thenS, sIf, sSet, sRet, sExpr, eT, asB, eIf, eAnd, eOr, eNot, eChain, onB, eBin, eUn, eVar, eC, eCB, on1, on2, aCons, aNil, eTup, eLst, eCell, kTup, kLst, kCell, asPs, bAnd, bOr, bNot, M.bind, M.pure, bindS, slots, finR, sizeLine_eq, i1, i2, i3, i4, i5, i6, he, sNil, eApp, a1, a2]
              · show ndT (td ++ [_]) + _ ≤ _
                rw [ndT_snoc]; dsimp only; omega
              · intro x hx
                rcases List.mem_append.mp hx with hx | hx
                · exact hsh x hx
                · have : x = (.tuple (.int g :: tl), g) := by simpa using hx
                  rw [this]; exact hq
            · have e0 : scanF E w (td, tt) (.tuple (.int g :: tl)) = .inr () := by
                show (if (w, g) ∈ E then _ else _) = _
                rw [if_neg he]
              rw [e0]
              refine ⟨.p (.bool false), S.set j (tdC td), ?_, rfl, td, rfl⟩
              simp [sSeq, thenS, sIf, sSet, sRet, sExpr, eT, asB, eIf, eAnd, eOr, eNot, eChain, onB, eBin, eUn, eVar, eC, eCB, on1, on2, aCons, aNil, eTup, eLst, eCell, kTup, kLst, kCell, asPs, bAnd, bOr, bNot, M.bind, M.pure, bindS, slots, finR, sizeLine_eq, i1, i2, i3, i4, i5, i6, he]
          | _ =>
            refine ⟨.p (.bool false), S.set j (tdC td), ?_, rfl, td, rfl⟩
            first
              | (have i4 : F__law_whole [.p _] (S.set j (tdC td)) = .ok (.p (.bool false)) (S.set j (tdC td)) := i4
                 simp [sSeq, thenS, sIf, sSet, sRet, sExpr, eT, asB, eIf, eAnd, eOr, eNot, eChain, onB, eBin, eUn, eVar, eC, eCB, on1, on2, aCons, aNil, eTup, eLst, eCell, kTup, kLst, kCell, asPs, bAnd, bOr, bNot, M.bind, M.pure, bindS, slots, finR, sizeLine_eq, i1, i2, i3, i4, i5])
      | int i =>
        have i1 : fIsi "tuple" (.p (.int i)) (S.set j (tdC td)) = .ok (.p (.bool false)) (S.set j (tdC td)) := i1
        have i4 := law_whole_ok (.int i) rfl (S.set j (tdC td))
        have i4 : F__law_whole [.p (.int i)] (S.set j (tdC td)) = .ok (.p (.bool true)) (S.set j (tdC td)) := i4
        by_cases hi : 1 ≤ i ∧ i ≤ 999999
        · have e0 : scanF E w (td, tt) (.int i) = .inl (td, tt + i) := by
            show (if 1 ≤ i ∧ i ≤ 999999 then _ else _) = _
            rw [if_pos hi]
          rw [e0]
          have n1 : ¬ i < 1 := by omega
          have n2 : ¬ 999999 < i := by omega
          refine ⟨[some (.p (.tuple [.int k, .tuple (E.map edgeD)])), some (.p v), some (.o j), some (.p (.int num)), some (.p (.int (tt + i))), some (.p (.int p)), x6, some (.p (.tuple [one, .tuple ps])), some (.p (.int w)), some (.p (.int i))], _, ?_, ⟨_, rfl⟩, rfl, ?_, hsh⟩
          · simp [sSeq, thenS, sIf, sSet, sRet, sExpr, eT, asB, eIf, eAnd, eOr, eNot, eChain, onB, eBin, eUn, eVar, eC, eCB, on1, on2, aCons, aNil, eTup, eLst, eCell, kTup, kLst, kCell, asPs, bAnd, bOr, bNot, M.bind, M.pure, bindS, slots, finR, sizeLine_eq, i1, i4, fLt, fGt, fI0, n1, n2, fAdd]
          · dsimp only; omega
        · have e0 : scanF E w (td, tt) (.int i) = .inr () := by
            show (if 1 ≤ i ∧ i ≤ 999999 then _ else _) = _
            rw [if_neg hi]
          rw [e0]
          refine ⟨.p (.bool false), S.set j (tdC td), ?_, rfl, td, rfl⟩
          by_cases n1 : i < 1
          · simp [sSeq, thenS, sIf, sSet, sRet, sExpr, eT, asB, eIf, eAnd, eOr, eNot, eChain, onB, eBin, eUn, eVar, eC, eCB, on1, on2, aCons, aNil, eTup, eLst, eCell, kTup, kLst, kCell, asPs, bAnd, bOr, bNot, M.bind, M.pure, bindS, slots, finR, sizeLine_eq, i1, i4, fLt, fGt, fI0, n1]
          · have n2 : 999999 < i := by omega
            simp [sSeq, thenS, sIf, sSet, sRet, sExpr, eT, asB, eIf, eAnd, eOr, eNot, eChain, onB, eBin, eUn, eVar, eC, eCB, on1, on2, aCons, aNil, eTup, eLst, eCell, kTup, kLst, kCell, asPs, bAnd, bOr, bNot, M.bind, M.pure, bindS, slots, finR, sizeLine_eq, i1, i4, fLt, fGt, fI0, n1, n2]
      | dict _ => cases hqn
      | _ =>
        have i4 := law_whole_ok _ hqn (S.set j (tdC td))
        refine ⟨.p (.bool false), S.set j (tdC td), ?_, rfl, td, rfl⟩
        simp [sSeq, thenS, sIf, sSet, sRet, sExpr, eT, asB, eIf, eAnd, eOr, eNot, eChain, onB, eBin, eUn, eVar, eC, eCB, on1, on2, aCons, aNil, eTup, eLst, eCell, kTup, kLst, kCell, asPs, bAnd, bOr, bNot, M.bind, M.pure, bindS, slots, finR, sizeLine_eq, i1, i4, isTupD', isInt])
  revert L
  cases walkF (scanF E w) (todo, t) ps with
  | inl r =>
    obtain ⟨todo', t'⟩ := r
    rintro ⟨ρ', S', e, ⟨x, rfl⟩, rfl, h1, h2⟩
    exact ⟨x, e, by simpa [ndL] using h1, h2⟩
  | inr r =>
    rintro ⟨d, S', e, rfl, td, rfl⟩
    exact ⟨td, e⟩
theorem popF_len {i : Td} {ds : List PyData} {w : Int} (h : ds.length ≠ 2) : popF (i ++ [(.tuple ds, w)]) = none := by
  unfold popF
  rw [List.getLast?_concat]
  split
  · rename_i e; cases e; exact absurd rfl h
  · rfl
theorem eqInts_ne (S : Store) (n : Nat) (h : n ≠ 2) : fEq true (.p (.int n)) (.p (.int 2)) S = .ok (.p (.bool true)) S := by
  rw [neInt]
  have : ¬ ((n : Int) = 2) := by omega
  simp [this]
/-- the law tells whether a value is a run -/
theorem is_run_ok {k : Int} (S0 : Store) (v : PyData) (hv : shp v) (hnd : nd v ≤ 16777215) :
    ∃ T, F__law_is_run [.p (.tuple [.int k, .tuple (E.map edgeD)]), .p v] S0 = .ok (.p (.bool (goodRun E v))) (S0 ++ T) := by
  let j := S0.length
  let S : Store := S0 ++ [tdC [(v, 0)]]
  have hj : j < S.length := by simp [j, S]
  have hS0 : S.set j (tdC [(v, 0)]) = S := by simp [j, S]
  have hset : ∀ c, S.set j c = S0 ++ [c] := fun c => by simp [j, S]
  have L := for_fold (α := Td × Int × Int × Int) (β := Bool) (src := srcRng1 (eC (.int 201))) (t := tName 6)
    (u := (sSeq (sIf (eT (eBin fEqNil (eVar 2) (eLst aNil))) (sRet (eAnd (eBin fLe (eVar 4) (eC (.int 999999))) (eBin fLe (eVar 5) (eC (.int 400))))) sNil) (sSeq (sAsg (ePop (eVar 2)) (tTupT 2 (tsCons (tName 7) (tsCons (tName 8) tsNil)))) (sSeq (sSet 3 (eBin fAdd (eVar 3) (eC (.int 1)))) (sSeq (sIf (bOr (eT (eBin fGt (eVar 3) (eC (.int 200)))) (bOr (bNot (eT (eUn (fIsi "tuple") (eVar 7)))) (bOr (eT (eBin (fEq true) (eCB (on1 fLen) (aCons (eVar 7) aNil)) (eC (.int 2)))) (bOr (bNot (eT (eCB F__law_whole (aCons (eBin fIx (eVar 7) (eC (.int 0))) aNil)))) (bOr (eT (eBin (fEq true) (eBin fIx (eVar 7) (eC (.int 0))) (eVar 8))) (bNot (eT (eUn (fIsi "tuple") (eBin fIx (eVar 7) (eC (.int 1))))))))))) (sRet (eC (.bool false))) sNil) (sSeq (sSet 5 (eBin fAdd (eVar 5) (eCB (on1 fLen) (aCons (eBin fIx (eVar 7) (eC (.int 1))) aNil)))) (sFor (srcSeq (eBin fIx (eVar 7) (eC (.int 1)))) (tName 9) lpScan)))))))
    (rngL 0 201) (isRunF E)
    (fun _ s ρ T => (∃ x6 x7 x8 x9, ρ = [some (.p (.tuple [.int k, .tuple (E.map edgeD)])), some (.p v), some (.o j), some (.p (.int s.2.1)), some (.p (.int s.2.2.1)), some (.p (.int s.2.2.2)), x6, x7, x8, x9]) ∧ T = S.set j (tdC s.1) ∧ ndT s.1 ≤ 16777215 ∧ ∀ x ∈ s.1, shp x.1)
    (fun b d T => d = .p (.bool b) ∧ ∃ td, T = S.set j (tdC td)) (a := ([(v, 0)], 0, 0, 0)) (sv := .rng 0 201) (S1 := S)
    (ρ := [some (.p (.tuple [.int k, .tuple (E.map edgeD)])), some (.p v), some (.o j), some (.p (.int 0)), some (.p (.int 0)), some (.p (.int 0)), none, none, none, none]) (S := S)
    (by simp [srcRng1, aCons, aNil, eC, M.bind, M.pure, ofRng1]) (by rw [rngL_len]; rfl) (rng_nxt 0 201) ⟨⟨_, _, _, _, rfl⟩, hS0.symm, by simp [ndT, ndL]; exact hnd, fun x hx => by
      have hx0 : x = (v, 0) := by simpa using hx
      rw [hx0]; exact hv⟩
    (fun d rest s ρ T hd ⟨⟨x6, x7, x8, x9, hρ⟩, hT, hn, hsh⟩ => by
      subst hρ hT
      obtain ⟨todo, num, t, p⟩ := s
      dsimp only at hn hsh ⊢
      refine ⟨[some (.p (.tuple [.int k, .tuple (E.map edgeD)])), some (.p v), some (.o j), some (.p (.int num)), some (.p (.int t)), some (.p (.int p)), some (.p d), x7, x8, x9], rfl, ?_⟩
      have nl := td_nil (todo := todo) hj
      by_cases h1 : todo = []
      · have e0 : isRunF E (todo, num, t, p) d = .inr (decide (t ≤ 999999) && decide (p ≤ 400)) := by unfold isRunF; rw [if_pos h1]
        rw [e0]
        subst h1
        refine ⟨_, S.set j (tdC []), ?_, rfl, [], rfl⟩
        have nl : fEqNil (.o j) (.p (.list [])) (S.set j (tdC [])) = .ok (.p (.bool true)) (S.set j (tdC [])) := nl
        by_cases h2 : t ≤ 999999
        · simp [sSeq, thenS, sIf, sSet, sRet, sExpr, eT, asB, eIf, eAnd, eOr, eNot, eChain, onB, eBin, eUn, eVar, eC, eCB, on1, on2, aCons, aNil, eTup, eLst, eCell, kTup, kLst, kCell, asPs, bAnd, bOr, bNot, M.bind, M.pure, bindS, slots, finR, sizeLine_eq, nl, fLe, fI0, h2]
        · simp [sSeq, thenS, sIf, sSet, sRet, sExpr, eT, asB, eIf, eAnd, eOr, eNot, eChain, onB, eBin, eUn, eVar, eC, eCB, on1, on2, aCons, aNil, eTup, eLst, eCell, kTup, kLst, kCell, asPs, bAnd, bOr, bNot, M.bind, M.pure, bindS, slots, finR, sizeLine_eq, nl, fLe, fI0, h2]
      · obtain ⟨i, ⟨one, want⟩, rfl⟩ := snoc_of h1
        have nl : fEqNil (.o j) (.p (.list [])) (S.set j (tdC (i ++ [(one, want)]))) = .ok (.p (.bool false)) (S.set j (tdC (i ++ [(one, want)]))) := by
          rw [nl]
          have : (i ++ [(one, want)]).isEmpty = false := by cases i <;> rfl
          rw [this]
        have pp := td_pop (i := i) (x := (one, want)) hj
        unfold tdD at pp
        have hso : shp one := hsh (one, want) (by simp)
        have hsi : ∀ x ∈ i, shp x.1 := fun x hx => hsh x (by simp [hx])
        have hno := lay_noDict (shp_lay hso)
        rw [ndT_snoc] at hn
        dsimp only at hn
        have i1 := isi_tupD (S.set j (tdC i)) one hno
        by_cases h2 : 200 < num + 1
        · have e0 : isRunF E (i ++ [(one, want)], num, t, p) d = .inr false := by unfold isRunF; rw [if_neg h1, if_pos h2]
          rw [e0]
          refine ⟨_, S.set j (tdC i), ?_, rfl, i, rfl⟩
          simp [sSeq, thenS, sIf, sSet, sRet, sExpr, eT, asB, eIf, eAnd, eOr, eNot, eChain, onB, eBin, eUn, eVar, eC, eCB, on1, on2, aCons, aNil, eTup, eLst, eCell, kTup, kLst, kCell, asPs, bAnd, bOr, bNot, M.bind, M.pure, bindS, slots, finR, sizeLine_eq, nl, sNil, sAsg, ePop, pp, tTupT, tsCons, tName, tsNil, fAdd, fGt, fI0, h2]
        · have hp := popF_snoc (i := i) (x := (one, want)) (E := E)
          have hbad : popF (i ++ [(one, want)]) = none → isRunF E (i ++ [(one, want)], num, t, p) d = .inr false := fun hh => by
            unfold isRunF; rw [if_neg h1, if_neg h2]; dsimp only; rw [hh]
          by_cases ht : ∃ ds, one = .tuple ds
          · obtain ⟨ds, rfl⟩ := ht
            have i1 : fIsi "tuple" (.p (.tuple ds)) (S.set j (tdC i)) = .ok (.p (.bool true)) (S.set j (tdC i)) := i1
            have i2 := len_tup (S.set j (tdC i)) ds
            match ds, hso, hn, i1, i2 with
            | [a, b], hso, hn, i1, i2 =>
              have i3 := neInt (S.set j (tdC i)) 2 2
              have ha := shp_tup hso a (by simp)
              have hb := shp_tup hso b (by simp)
              have i4 : fIx (.p (.tuple [a, b])) (.p (.int 0)) (S.set j (tdC i)) = .ok (.p a) (S.set j (tdC i)) := rfl
              have i5 : fIx (.p (.tuple [a, b])) (.p (.int 1)) (S.set j (tdC i)) = .ok (.p b) (S.set j (tdC i)) := rfl
              have i6 := law_whole_ok a (lay_noDict (shp_lay ha)) (S.set j (tdC i))
              have i7 := isi_tupD (S.set j (tdC i)) b (lay_noDict (shp_lay hb))
              by_cases hai : ∃ g, a = .int g
              · obtain ⟨g, rfl⟩ := hai
                have i6 : F__law_whole [.p (.int g)] (S.set j (tdC i)) = .ok (.p (.bool true)) (S.set j (tdC i)) := i6
                have i8 := neInt (S.set j (tdC i)) g want
                by_cases hgw : g = want
                · subst hgw
                  by_cases hbt : ∃ qs, b = .tuple qs
                  · obtain ⟨qs, rfl⟩ := hbt
                    have hpop : popF (i ++ [(.tuple [.int g, .tuple qs], g)]) = some (g, qs) := by
                      unfold popF
                      rw [List.getLast?_concat]
                      simp
                    have i7 : fIsi "tuple" (.p (.tuple qs)) (S.set j (tdC i)) = .ok (.p (.bool true)) (S.set j (tdC i)) := i7
                    have i9 := len_tup (S.set j (tdC i)) qs
                    have hqs : ∀ d ∈ qs, shp d := shp_tup hb
                    have hnq : nd (.tuple [.int g, .tuple qs]) = ndL qs + 3 := by simp [nd, ndL]; omega
                    rw [hnq] at hn
                    have sc := scan_store (E := E) (v := v) (k := k) S j hj g (num + 1) (p + qs.length) (.int g) qs hqs (some (.p d)) i t (by omega) hsi x9
                    have head : ∀ r, sFor (srcSeq (eBin fIx (eVar 7) (eC (.int 1)))) (tName 9) lpScan [some (.p (.tuple [.int k, .tuple (E.map edgeD)])), some (.p v), some (.o j), some (.p (.int (num + 1))), some (.p (.int t)), some (.p (.int (p + qs.length))), some (.p d), some (.p (.tuple [.int g, .tuple qs])), some (.p (.int g)), x9] (S.set j (tdC i)) = r →
                        (sSeq (sIf (eT (eBin fEqNil (eVar 2) (eLst aNil))) (sRet (eAnd (eBin fLe (eVar 4) (eC (.int 999999))) (eBin fLe (eVar 5) (eC (.int 400))))) sNil) (sSeq (sAsg (ePop (eVar 2)) (tTupT 2 (tsCons (tName 7) (tsCons (tName 8) tsNil)))) (sSeq (sSet 3 (eBin fAdd (eVar 3) (eC (.int 1)))) (sSeq (sIf (bOr (eT (eBin fGt (eVar 3) (eC (.int 200)))) (bOr (bNot (eT (eUn (fIsi "tuple") (eVar 7)))) (bOr (eT (eBin (fEq true) (eCB (on1 fLen) (aCons (eVar 7) aNil)) (eC (.int 2)))) (bOr (bNot (eT (eCB F__law_whole (aCons (eBin fIx (eVar 7) (eC (.int 0))) aNil)))) (bOr (eT (eBin (fEq true) (eBin fIx (eVar 7) (eC (.int 0))) (eVar 8))) (bNot (eT (eUn (fIsi "tuple") (eBin fIx (eVar 7) (eC (.int 1))))))))))) (sRet (eC (.bool false))) sNil) (sSeq (sSet 5 (eBin fAdd (eVar 5) (eCB (on1 fLen) (aCons (eBin fIx (eVar 7) (eC (.int 1))) aNil)))) (sFor (srcSeq (eBin fIx (eVar 7) (eC (.int 1)))) (tName 9) lpScan)))))) [some (.p (.tuple [.int k, .tuple (E.map edgeD)])), some (.p v), some (.o j), some (.p (.int num)), some (.p (.int t)), some (.p (.int p)), some (.p d), x7, x8, x9] (S.set j (tdC (i ++ [(.tuple [.int g, .tuple qs], g)]))) = r := by
                      intro r hr
                      rw [← hr]
                      rw [stp (ρ' := [some (.p (.tuple [.int k, .tuple (E.map edgeD)])), some (.p v), some (.o j), some (.p (.int num)), some (.p (.int t)), some (.p (.int p)), some (.p d), x7, x8, x9]) (S' := S.set j (tdC (i ++ [(.tuple [.int g, .tuple qs], g)]))) (by simp [sSeq, thenS, sIf, sSet, sRet, sExpr, eT, asB, eIf, eAnd, eOr, eNot, eChain, onB, eBin, eUn, eVar, eC, eCB, on1, on2, aCons, aNil, eTup, eLst, eCell, kTup, kLst, kCell, asPs, bAnd, bOr, bNot, M.bind, M.pure, bindS, slots, finR, sizeLine_eq, nl, sNil])]
                      rw [stp (ρ' := [some (.p (.tuple [.int k, .tuple (E.map edgeD)])), some (.p v), some (.o j), some (.p (.int num)), some (.p (.int t)), some (.p (.int p)), some (.p d), some (.p (.tuple [.int g, .tuple qs])), some (.p (.int g)), x9]) (S' := S.set j (tdC i)) (by simp [sSeq, thenS, sIf, sSet, sRet, sExpr, eT, asB, eIf, eAnd, eOr, eNot, eChain, onB, eBin, eUn, eVar, eC, eCB, on1, on2, aCons, aNil, eTup, eLst, eCell, kTup, kLst, kCell, asPs, bAnd, bOr, bNot, M.bind, M.pure, bindS, slots, finR, sizeLine_eq, sAsg, ePop, pp, tTupT, tsCons, tName, tsNil])]
                      rw [stp (ρ' := [some (.p (.tuple [.int k, .tuple (E.map edgeD)])), some (.p v), some (.o j), some (.p (.int (num + 1))), some (.p (.int t)), some (.p (.int p)), some (.p d), some (.p (.tuple [.int g, .tuple qs])), some (.p (.int g)), x9]) (S' := S.set j (tdC i)) (by simp [sSeq, thenS, sIf, sSet, sRet, sExpr, eT, asB, eIf, eAnd, eOr, eNot, eChain, onB, eBin, eUn, eVar, eC, eCB, on1, on2, aCons, aNil, eTup, eLst, eCell, kTup, kLst, kCell, asPs, bAnd, bOr, bNot, M.bind, M.pure, bindS, slots, finR, sizeLine_eq, fAdd])]
                      rw [stp (ρ' := [some (.p (.tuple [.int k, .tuple (E.map edgeD)])), some (.p v), some (.o j), some (.p (.int (num + 1))), some (.p (.int t)), some (.p (.int p)), some (.p d), some (.p (.tuple [.int g, .tuple qs])), some (.p (.int g)), x9]) (S' := S.set j (tdC i)) (by simp [sSeq, thenS, sIf, sSet, sRet, sExpr, eT, asB, eIf, eAnd, eOr, eNot, eChain, onB, eBin, eUn, eVar, eC, eCB, on1, on2, aCons, aNil, eTup, eLst, eCell, kTup, kLst, kCell, asPs, bAnd, bOr, bNot, M.bind, M.pure, bindS, slots, finR, sizeLine_eq, fGt, fI0, h2, i1, i2, i3, i4, i5, i6, i7, i8, sNil])]
                      rw [stp (ρ' := [some (.p (.tuple [.int k, .tuple (E.map edgeD)])), some (.p v), some (.o j), some (.p (.int (num + 1))), some (.p (.int t)), some (.p (.int (p + qs.length))), some (.p d), some (.p (.tuple [.int g, .tuple qs])), some (.p (.int g)), x9]) (S' := S.set j (tdC i)) (by simp [sSeq, thenS, sIf, sSet, sRet, sExpr, eT, asB, eIf, eAnd, eOr, eNot, eChain, onB, eBin, eUn, eVar, eC, eCB, on1, on2, aCons, aNil, eTup, eLst, eCell, kTup, kLst, kCell, asPs, bAnd, bOr, bNot, M.bind, M.pure, bindS, slots, finR, sizeLine_eq, fAdd, i5, i9])]
                    have e0 : isRunF E (i ++ [(.tuple [.int g, .tuple qs], g)], num, t, p) d = match walkF (scanF E g) (i, t) qs with
                      | .inl (todo', t') => .inl (todo', num + 1, t', p + qs.length)
                      | .inr _ => .inr false := by
                      unfold isRunF; rw [if_neg h1, if_neg h2]; dsimp only; rw [hpop, List.dropLast_concat]
                    rw [e0]
                    revert sc
                    cases walkF (scanF E g) (i, t) qs with
                    | inl r =>
                      obtain ⟨todo', t'⟩ := r
                      rintro ⟨x9', e, hnd', hsh'⟩
                      exact ⟨_, _, head _ e, ⟨_, _, _, _, rfl⟩, rfl, by dsimp only; omega, hsh'⟩
                    | inr r =>
                      rintro ⟨td, e⟩
                      exact ⟨_, _, head _ e, rfl, td, rfl⟩
                  · have hpop : popF (i ++ [(.tuple [.int g, b], g)]) = none := by
                      unfold popF
                      rw [List.getLast?_concat]
                      split
                      · rename_i e; cases e; exact absurd ⟨_, rfl⟩ hbt
                      · rfl
                    rw [hbad hpop]
                    have i7 : fIsi "tuple" (.p b) (S.set j (tdC i)) = .ok (.p (.bool false)) (S.set j (tdC i)) := by
                      rw [i7]
                      have : isTupD' b = false := by cases b <;> first | rfl | exact absurd ⟨_, rfl⟩ hbt
                      rw [this]
                    refine ⟨_, S.set j (tdC i), ?_, rfl, i, rfl⟩
                    simp [sSeq, thenS, sIf, sSet, sRet, sExpr, eT, asB, eIf, eAnd, eOr, eNot, eChain, onB, eBin, eUn, eVar, eC, eCB, on1, on2, aCons, aNil, eTup, eLst, eCell, kTup, kLst, kCell, asPs, bAnd, bOr, bNot, M.bind, M.pure, bindS, slots, finR, sizeLine_eq, nl, sNil, sAsg, ePop, pp, tTupT, tsCons, tName, tsNil, fAdd, fGt, fI0, h2, i1, i2, i3, i4, i5, i6, i7, i8]
                · have hpop : popF (i ++ [(.tuple [.int g, b], want)]) = none := by
                    unfold popF
                    rw [List.getLast?_concat]
                    split
                    · rename_i e; cases e; rw [if_neg hgw]
                    · rfl
                  rw [hbad hpop]
                  refine ⟨_, S.set j (tdC i), ?_, rfl, i, rfl⟩
                  simp [sSeq, thenS, sIf, sSet, sRet, sExpr, eT, asB, eIf, eAnd, eOr, eNot, eChain, onB, eBin, eUn, eVar, eC, eCB, on1, on2, aCons, aNil, eTup, eLst, eCell, kTup, kLst, kCell, asPs, bAnd, bOr, bNot, M.bind, M.pure, bindS, slots, finR, sizeLine_eq, nl, sNil, sAsg, ePop, pp, tTupT, tsCons, tName, tsNil, fAdd, fGt, fI0, h2, i1, i2, i3, i4, i5, i6, i8, hgw]
              · have hpop : popF (i ++ [(.tuple [a, b], want)]) = none := by
                  unfold popF
                  rw [List.getLast?_concat]
                  split
                  · rename_i e; cases e; exact absurd ⟨_, rfl⟩ hai
                  · rfl
                rw [hbad hpop]
                have i6 : F__law_whole [.p a] (S.set j (tdC i)) = .ok (.p (.bool false)) (S.set j (tdC i)) := by
                  rw [i6]
                  have : isInt a = false := by cases a <;> first | rfl | exact absurd ⟨_, rfl⟩ hai
                  rw [this]
                refine ⟨_, S.set j (tdC i), ?_, rfl, i, rfl⟩
                simp [sSeq, thenS, sIf, sSet, sRet, sExpr, eT, asB, eIf, eAnd, eOr, eNot, eChain, onB, eBin, eUn, eVar, eC, eCB, on1, on2, aCons, aNil, eTup, eLst, eCell, kTup, kLst, kCell, asPs, bAnd, bOr, bNot, M.bind, M.pure, bindS, slots, finR, sizeLine_eq, nl, sNil, sAsg, ePop, pp, tTupT, tsCons, tName, tsNil, fAdd, fGt, fI0, h2, i1, i2, i3, i4, i6]
            | [], hso, hn, i1, i2 =>
              rw [hbad (popF_len (by simp))]
              have i3 := neInt (S.set j (tdC i)) 0 2
              refine ⟨_, S.set j (tdC i), ?_, rfl, i, rfl⟩
              simp [sSeq, thenS, sIf, sSet, sRet, sExpr, eT, asB, eIf, eAnd, eOr, eNot, eChain, onB, eBin, eUn, eVar, eC, eCB, on1, on2, aCons, aNil, eTup, eLst, eCell, kTup, kLst, kCell, asPs, bAnd, bOr, bNot, M.bind, M.pure, bindS, slots, finR, sizeLine_eq, nl, sNil, sAsg, ePop, pp, tTupT, tsCons, tName, tsNil, fAdd, fGt, fI0, h2, i1, i2, i3]
            | [a], hso, hn, i1, i2 =>
              rw [hbad (popF_len (by simp))]
              have i3 := eqInts_ne (S.set j (tdC i)) [a].length (by simp)
              refine ⟨_, S.set j (tdC i), ?_, rfl, i, rfl⟩
              generalize hl : [a].length = len at i2 i3
              simp [sSeq, thenS, sIf, sSet, sRet, sExpr, eT, asB, eIf, eAnd, eOr, eNot, eChain, onB, eBin, eUn, eVar, eC, eCB, on1, on2, aCons, aNil, eTup, eLst, eCell, kTup, kLst, kCell, asPs, bAnd, bOr, bNot, M.bind, M.pure, bindS, slots, finR, sizeLine_eq, nl, sNil, sAsg, ePop, pp, tTupT, tsCons, tName, tsNil, fAdd, fGt, fI0, h2, i1, i2, i3]
            | a :: b :: c :: tl, hso, hn, i1, i2 =>
              rw [hbad (popF_len (by simp))]
              have i3 := eqInts_ne (S.set j (tdC i)) (a :: b :: c :: tl).length (by simp)
              refine ⟨_, S.set j (tdC i), ?_, rfl, i, rfl⟩
              generalize hl : (a :: b :: c :: tl).length = len at i2 i3
              simp [sSeq, thenS, sIf, sSet, sRet, sExpr, eT, asB, eIf, eAnd, eOr, eNot, eChain, onB, eBin, eUn, eVar, eC, eCB, on1, on2, aCons, aNil, eTup, eLst, eCell, kTup, kLst, kCell, asPs, bAnd, bOr, bNot, M.bind, M.pure, bindS, slots, finR, sizeLine_eq, nl, sNil, sAsg, ePop, pp, tTupT, tsCons, tName, tsNil, fAdd, fGt, fI0, h2, i1, i2, i3]
          · have hpop : popF (i ++ [(one, want)]) = none := by
              unfold popF
              rw [List.getLast?_concat]
              split
              · rename_i e; cases e; exact absurd ⟨_, rfl⟩ ht
              · rfl
            rw [hbad hpop]
            have i1 : fIsi "tuple" (.p one) (S.set j (tdC i)) = .ok (.p (.bool false)) (S.set j (tdC i)) := by
              rw [i1]
              have : isTupD' one = false := by cases one <;> first | rfl | exact absurd ⟨_, rfl⟩ ht
              rw [this]
            refine ⟨_, S.set j (tdC i), ?_, rfl, i, rfl⟩
            simp [sSeq, thenS, sIf, sSet, sRet, sExpr, eT, asB, eIf, eAnd, eOr, eNot, eChain, onB, eBin, eUn, eVar, eC, eCB, on1, on2, aCons, aNil, eTup, eLst, eCell, kTup, kLst, kCell, asPs, bAnd, bOr, bNot, M.bind, M.pure, bindS, slots, finR, sizeLine_eq, nl, sNil, sAsg, ePop, pp, tTupT, tsCons, tName, tsNil, fAdd, fGt, fI0, h2, i1])
  have hw := isRunF_walk (E := E) (rngL 0 201) [(v, 0)] 0 0 0
  rw [rngL_len, isRunL_eq] at hw
  suffices hh : ∃ td, g__law_is_run [some (.p (.tuple [.int k, .tuple (E.map edgeD)])), some (.p v), none, none, none, none, none, none, none, none] S0 = .rt (.p (.bool (goodRun E v))) (S.set j (tdC td)) by
    obtain ⟨td, hh⟩ := hh
    refine ⟨[tdC td], ?_⟩
    show finR (g__law_is_run [some (.p (.tuple [.int k, .tuple (E.map edgeD)])), some (.p v), none, none, none, none, none, none, none, none] S0) = _
    rw [hh, hset]
    rfl
  unfold g__law_is_run
  rw [stp (ρ' := [some (.p (.tuple [.int k, .tuple (E.map edgeD)])), some (.p v), some (.o j), none, none, none, none, none, none, none]) (S' := S) (by
    simp [sSeq, thenS, sIf, sSet, sRet, sExpr, eT, asB, eIf, eAnd, eOr, eNot, eChain, onB, eBin, eUn, eVar, eC, eCB, on1, on2, aCons, aNil, eTup, eLst, eCell, kTup, kLst, kCell, asPs, bAnd, bOr, bNot, M.bind, M.pure, bindS, slots, finR, sizeLine_eq, S, j, tdC, tdD])]
  rw [stp (ρ' := [some (.p (.tuple [.int k, .tuple (E.map edgeD)])), some (.p v), some (.o j), some (.p (.int 0)), some (.p (.int 0)), some (.p (.int 0)), none, none, none, none]) (S' := S) (by
    simp [sSeq, thenS, sIf, sSet, sRet, sExpr, eT, asB, eIf, eAnd, eOr, eNot, eChain, onB, eBin, eUn, eVar, eC, eCB, on1, on2, aCons, aNil, eTup, eLst, eCell, kTup, kLst, kCell, asPs, bAnd, bOr, bNot, M.bind, M.pure, bindS, slots, finR, sizeLine_eq, sAsg, tTupT, tsCons, tName, tsNil])]
  revert L hw
  cases walkF (isRunF E) ([(v, 0)], 0, 0, 0) (rngL 0 201) with
  | inl r =>
    rintro ⟨ρ', S', e, ⟨x6, x7, x8, x9, rfl⟩, rfl, _, _⟩ hw
    have hw : false = goodRun E v := hw
    refine ⟨r.1, ?_⟩
    rw [stp e, ← hw]
    simp [sSeq, thenS, sIf, sSet, sRet, sExpr, eT, asB, eIf, eAnd, eOr, eNot, eChain, onB, eBin, eUn, eVar, eC, eCB, on1, on2, aCons, aNil, eTup, eLst, eCell, kTup, kLst, kCell, asPs, bAnd, bOr, bNot, M.bind, M.pure, bindS, slots, finR, sizeLine_eq]
  | inr b =>
    rintro ⟨d, S', e, rfl, td, rfl⟩ hw
    have hw : b = goodRun E v := hw
    refine ⟨td, ?_⟩
    rw [stpr e, hw]
end
end LK
set_option Elab.async false
set_option linter.all false
set_option maxRecDepth 100000
set_option maxHeartbeats 400000
namespace LK
open PySem PySem.Spec L2 DL
/-! the program's look at events -/
theorem cut_pre {α : Type} (xs : List α) (k : Int) (h : 0 ≤ k) (hk : k ≤ xs.length) : cutL xs none (some k) = xs.take k.toNat := by
  have e : HT.sIx xs.length xs.length (some k) = k.toNat := by
    simp only [HT.sIx]
    split <;> omega
  have e0 : HT.sIx xs.length 0 none = 0 := rfl
  unfold cutL
  rw [e, e0]
  simp
theorem is_ev_ok {q : Nat} {k : Int} {E : Es} {S : Store} (hq : S[q]? = some (callsC k E)) (d : PyData) (hd : shp d) : F__is_event [.o q, .p d] S = .ok (.p (.bool (isEvB k d))) S := by
  have t1 := is_ticks_ok d (lay_noDict (shp_lay hd)) S
  have t2 := is_pair_ok d (lay_noDict (shp_lay hd)) S
  have ff : fFld "Calls" "functions" (.o q) S = .ok (.p (.int k)) S := by
    show ofO S ((insAt S q).bind _) = _
    unfold insAt
    rw [hq]
    rfl
  unfold F__is_event bodyF g__is_event
  cases h1 : inRange 1 999999 d with
  | true =>
    obtain ⟨i, rfl, _, _⟩ := inRange_inv h1
    have : isEvB k (.int i) = true := h1
    simp [sSeq, thenS, sIf, sSet, sRet, sExpr, eT, asB, eIf, eAnd, eOr, eNot, eChain, onB, eBin, eUn, eVar, eC, eCB, on1, on2, aCons, aNil, eTup, eLst, eCell, kTup, kLst, kCell, asPs, bAnd, bOr, bNot, M.bind, M.pure, bindS, slots, finR, sizeLine_eq, t1, h1, this]
  | false =>
    cases h2 : pairB d with
    | false =>
      have : isEvB k d = false := by
        unfold isEvB
        split
        · exact h1
        · cases h2
        · rfl
      simp [sSeq, thenS, sIf, sSet, sRet, sExpr, eT, asB, eIf, eAnd, eOr, eNot, eChain, onB, eBin, eUn, eVar, eC, eCB, on1, on2, aCons, aNil, eTup, eLst, eCell, kTup, kLst, kCell, asPs, bAnd, bOr, bNot, M.bind, M.pure, bindS, slots, finR, sizeLine_eq, t1, h1, t2, h2, this, sNil]
    | true =>
      cases d with
      | tuple ds =>
        have hl : ds.length = 2 := by simpa [pairB] using h2
        match ds, hl with
        | [a, b], _ =>
          have ha := shp_tup hd a (by simp)
          have hb := shp_tup hd b (by simp)
          have ix0 : fIx (.p (.tuple [a, b])) (.p (.int 0)) S = .ok (.p a) S := rfl
          have ix1 : fIx (.p (.tuple [a, b])) (.p (.int 1)) S = .ok (.p b) S := rfl
          have fn := is_function_ok k b (lay_noDict (shp_lay hb)) S
          have si : SeqAt.shaped (.tuple [.str "in", .str "out"]) = true := by decide +kernel
          have ha' : SeqAt.shaped a = true := ha
          have inn : fIn false (.p a) (.p (.tuple [.str "in", .str "out"])) S = .ok (.p (.bool (PyData.eqv (.str "in") a || PyData.eqv (.str "out") a))) S := by
            simp [fIn, toPy, seqPy, si, ha']
          cases a with
          | str x =>
            have ex : (PyData.eqv (.str "in") (.str x) || PyData.eqv (.str "out") (.str x)) = ((x == "in") || (x == "out")) := by
              simp only [PyData.eqv]
              rw [show ((Str.ofString "in" == x) = (x == Str.ofString "in")) from Bool.beq_comm, show ((Str.ofString "out" == x) = (x == Str.ofString "out")) from Bool.beq_comm]
            rw [ex] at inn
            have ev : isEvB k (.tuple [.str x, b]) = (((x == "in") || (x == "out")) && inRange 0 (k - 1) b) := by
              cases b <;> simp [isEvB, inRange, Bool.and_assoc]
            rw [ev]
            cases hx : ((x == "in") || (x == "out")) with
            | false => rw [hx] at inn; simp [sSeq, thenS, sIf, sSet, sRet, sExpr, eT, asB, eIf, eAnd, eOr, eNot, eChain, onB, eBin, eUn, eVar, eC, eCB, on1, on2, aCons, aNil, eTup, eLst, eCell, kTup, kLst, kCell, asPs, bAnd, bOr, bNot, M.bind, M.pure, bindS, slots, finR, sizeLine_eq, t1, h1, t2, h2, sNil, ix0, inn]
            | true => rw [hx] at inn; simp [sSeq, thenS, sIf, sSet, sRet, sExpr, eT, asB, eIf, eAnd, eOr, eNot, eChain, onB, eBin, eUn, eVar, eC, eCB, on1, on2, aCons, aNil, eTup, eLst, eCell, kTup, kLst, kCell, asPs, bAnd, bOr, bNot, M.bind, M.pure, bindS, slots, finR, sizeLine_eq, t1, h1, t2, h2, sNil, ix0, ix1, inn, ff, fn]
          | _ =>
            simp only [PyData.eqv, Bool.or_self] at inn
            simp [sSeq, thenS, sIf, sSet, sRet, sExpr, eT, asB, eIf, eAnd, eOr, eNot, eChain, onB, eBin, eUn, eVar, eC, eCB, on1, on2, aCons, aNil, eTup, eLst, eCell, kTup, kLst, kCell, asPs, bAnd, bOr, bNot, M.bind, M.pure, bindS, slots, finR, sizeLine_eq, t1, h1, t2, h2, sNil, ix0, inn, isEvB]
      | _ => cases h2
theorem isEv_of_B {k : Int} {d : PyData} (h : isEvB k d = true) : isEv d = true := by
  unfold isEvB at h
  split at h
  · rfl
  · rename_i x g
    simp only [Bool.and_eq_true, Bool.or_eq_true] at h
    show PyData.strOk x = true
    rcases h.1.1 with e | e
    · rw [str_eq e]; exact strOk_in
    · rw [str_eq e]; exact strOk_out
  · cases h
theorem all_bools (l : List Bool) (S : Store) : fAll (.p (.list (l.map PyData.bool))) S = .ok (.p (.bool (l.all id))) S := by
  have e : ∀ l : List Bool, asBools ((l.map PyData.bool).map D.p) = some l := fun l => by
    induction l with
    | nil => rfl
    | cons b l ih => rw [List.map_cons, List.map_cons, asBools, ih]; rfl
  show ofO S ((items S (.p (.list (l.map PyData.bool)))).bind _) = _
  rw [items_pl]
  simp only [Option.bind_some, e l]
  rfl
theorem are_events_ok {q : Nat} {k : Int} {E : Es} {S : Store} (hq : S[q]? = some (callsC k E)) (evs : List PyData) (hs : shp (.tuple evs)) (hz : evs.length < 16777216) :
    F__are_events [.o q, .p (.tuple evs)] S = .ok (.p (.bool (evs.all (isEvB k) && few evs))) S := by
  have hd := shp_tup hs
  have hsrc : srcSeq (eVar 1) [some (.o q), some (.p (.tuple evs)), none] S = .ok (.seq (.p (.tuple evs))) S := by
    simp [srcSeq, eVar, M.bind, ofSeq, seqItems]
  have hc := comp_inv (vs := [2]) (t := tName 2) (tb := fun _ => M.pure true) (el := eCB F__is_event (aCons (eVar 0) (aCons (eVar 2) aNil))) hsrc (evs.map D.p) (by rw [seq_tup_count]; simp) (fun i => rfl) (by rw [List.length_map, sizeLine_eq]; exact hz)
    (fun d => match d with | .p e => some (.bool (isEvB k e)) | _ => none) (fun d hd' => by
      obtain ⟨e, he, rfl⟩ := List.mem_map.mp hd'
      have h := is_ev_ok hq e (hd e he)
      refine ⟨[some (.o q), some (.p (.tuple evs)), some (.p e)], true, rfl, rfl, (fun h => by cases h), fun _ => ⟨_, ?_, rfl⟩⟩
      simp [sSeq, thenS, sIf, sSet, sRet, sExpr, eT, asB, eIf, eAnd, eOr, eNot, eChain, onB, eBin, eUn, eVar, eC, eCB, on1, on2, aCons, aNil, eTup, eLst, eCell, kTup, kLst, kCell, asPs, bAnd, bOr, bNot, M.bind, M.pure, bindS, slots, finR, sizeLine_eq, h])
  have hm : (evs.map D.p).filterMap (fun d => match d with | .p e => some (.bool (isEvB k e)) | _ => none) = (evs.map (isEvB k)).map PyData.bool := by
    clear hc hsrc hd hs hz
    induction evs with
    | nil => rfl
    | cons e evs ih => rw [List.map_cons, List.filterMap_cons, ih]; rfl
  rw [hm] at hc
  have ha := all_bools (evs.map (isEvB k)) S
  rw [List.all_map] at ha
  have hall : evs.all (id ∘ isEvB k) = evs.all (isEvB k) := rfl
  rw [hall] at ha
  generalize (evs.map (isEvB k)).map PyData.bool = bl at hc ha
  have i1 := isi_tup S evs
  unfold F__are_events bodyF g__are_events
  cases h : evs.all (isEvB k) with
  | false =>
    rw [h] at ha
    simp [sSeq, thenS, sIf, sSet, sRet, sExpr, eT, asB, eIf, eAnd, eOr, eNot, eChain, onB, eBin, eUn, eVar, eC, eCB, on1, on2, aCons, aNil, eTup, eLst, eCell, kTup, kLst, kCell, asPs, bAnd, bOr, bNot, M.bind, M.pure, bindS, slots, finR, sizeLine_eq, i1, hc, ha]
  | true =>
    rw [h] at ha
    have hev : ∀ e ∈ evs, isEv e = true := fun e he => isEv_of_B (List.all_eq_true.mp h e he)
    have hf := are_few_ok (.p (.tuple evs)) S evs rfl hz hev
    simp [sSeq, thenS, sIf, sSet, sRet, sExpr, eT, asB, eIf, eAnd, eOr, eNot, eChain, onB, eBin, eUn, eVar, eC, eCB, on1, on2, aCons, aNil, eTup, eLst, eCell, kTup, kLst, kCell, asPs, bAnd, bOr, bNot, M.bind, M.pure, bindS, slots, finR, sizeLine_eq, i1, hc, ha, hf]
theorem are_events_no {q : Nat} {S : Store} (d : PyData) (hd : noDict d = true) (h : isTupD' d = false) : F__are_events [.o q, .p d] S = .ok (.p (.bool false)) S := by
  have i1 := isi_tupD S d hd
  rw [h] at i1
  unfold F__are_events bodyF g__are_events
  simp [sSeq, thenS, sIf, sSet, sRet, sExpr, eT, asB, eIf, eAnd, eOr, eNot, eChain, onB, eBin, eUn, eVar, eC, eCB, on1, on2, aCons, aNil, eTup, eLst, eCell, kTup, kLst, kCell, asPs, bAnd, bOr, bNot, M.bind, M.pure, bindS, slots, finR, sizeLine_eq, i1]
end LK
set_option Elab.async false
set_option linter.all false
set_option maxRecDepth 100000
set_option maxHeartbeats 400000
namespace LK
open PySem PySem.Spec L2 DL
/-! a stack in the store: cell j lists the cells as (top first), which hold what st tells -/
inductive Cells (c : Int × List PyData → Cell) (T : Store) : List Nat → Sk → Prop
  | nil : Cells c T [] []
  | cons {a : Nat} {x : Int × List PyData} {as : List Nat} {st : Sk} : T[a]? = some (c x) → Cells c T as st → Cells c T (a :: as) (x :: st)
structure Stk (c : Int × List PyData → Cell) (L j : Nat) (T : Store) (as : List Nat) (st : Sk) : Prop where
  top : T[j]? = some (.lst (as.reverse.map D.o))
  cells : Cells c T as st
  nd : as.Nodup
  out : j ∉ as
  low : ∀ a ∈ as, L ≤ a
variable {c : Int × List PyData → Cell} {L j : Nat} {T : Store} {as : List Nat} {st : Sk}
theorem Cells.lt : ∀ {as : List Nat} {st : Sk}, Cells c T as st → ∀ a ∈ as, a < T.length
  | _, _, .nil, _, h => by cases h
  | _, _, .cons h1 h2, a, h => by
    rcases List.mem_cons.mp h with rfl | h
    · exact (List.getElem?_eq_some_iff.mp h1).1
    · exact h2.lt a h
theorem Cells.len : ∀ {as : List Nat} {st : Sk}, Cells c T as st → as.length = st.length
  | _, _, .nil => rfl
  | _, _, .cons _ h2 => by simp [h2.len]
theorem Cells.to {T' : Store} : ∀ {as : List Nat} {st : Sk}, Cells c T as st → (∀ a ∈ as, T'[a]? = T[a]?) → Cells c T' as st
  | _, _, .nil, _ => .nil
  | _, _, .cons h1 h2, h => .cons ((h _ (by simp)).trans h1) (h2.to fun a ha => h a (by simp [ha]))
theorem Stk.jlt (h : Stk c L j T as st) : j < T.length := (List.getElem?_eq_some_iff.mp h.top).1
theorem Stk.at (h : Stk c L j T as st) : lstAt T j = some (as.reverse.map D.o) := by
  unfold lstAt; rw [h.top]; rfl
theorem Stk.put {a : Nat} {x x' : Int × List PyData} (h : Stk c L j T (a :: as) (x :: st)) : Stk c L j (T.set a (c x')) (a :: as) (x' :: st) := by
  have hn := List.nodup_cons.mp h.nd
  cases h.cells with
  | cons h1 h2 =>
    have ha := (List.getElem?_eq_some_iff.mp h1).1
    have hj : a ≠ j := fun e => h.out (by simp [e])
    refine ⟨?_, .cons (List.getElem?_set_self ha) (h2.to fun b hb => List.getElem?_set_ne (by intro e; subst e; exact hn.1 hb)), h.nd, h.out, h.low⟩
    rw [List.getElem?_set_ne hj]; exact h.top
theorem Stk.push {x : Int × List PyData} (h : Stk c L j T as st) (hL : L ≤ T.length) :
    Stk c L j ((T ++ [c x]).set j (.lst ((as.reverse.map D.o) ++ [.o T.length]))) (T.length :: as) (x :: st) := by
  have hj := h.jlt
  have hlt := h.cells.lt
  refine ⟨?_, .cons ?_ (h.cells.to fun a ha => ?_), List.nodup_cons.mpr ⟨fun hm => by have := hlt _ hm; omega, h.nd⟩, fun hm => ?_, fun a ha => ?_⟩
  · rw [List.getElem?_set_self (by simp; omega)]; simp
  · rw [List.getElem?_set_ne (by omega)]; simp
  · have := hlt a ha
    rw [List.getElem?_set_ne (by intro e; subst e; exact h.out ha), List.getElem?_append_left this]
  · rcases List.mem_cons.mp hm with e | hm
    · omega
    · exact h.out hm
  · rcases List.mem_cons.mp ha with rfl | ha
    · exact hL
    · exact h.low a ha
theorem Stk.pop {a : Nat} {x : Int × List PyData} (h : Stk c L j T (a :: as) (x :: st)) : Stk c L j (T.set j (.lst (as.reverse.map D.o))) as st := by
  have hn := List.nodup_cons.mp h.nd
  cases h.cells with
  | cons h1 h2 =>
    refine ⟨List.getElem?_set_self h.jlt, h2.to fun b hb => List.getElem?_set_ne (by intro e; subst e; exact h.out (List.mem_cons_of_mem _ hb)), hn.2, fun hm => h.out (by simp [hm]), fun b hb => h.low b (by simp [hb])⟩
theorem Stk.other {i : Nat} {d : Cell} (h : Stk c L j T as st) (hi : i ≠ j) (hn : i ∉ as) : Stk c L j (T.set i d) as st :=
  ⟨by rw [List.getElem?_set_ne hi]; exact h.top, h.cells.to fun a ha => List.getElem?_set_ne (by intro e; subst e; exact hn ha), h.nd, h.out, h.low⟩
theorem Stk.ext {d : Cell} (h : Stk c L j T as st) : Stk c L j (T ++ [d]) as st := by
  have hj := h.jlt
  refine ⟨by rw [List.getElem?_append_left hj]; exact h.top, h.cells.to fun a ha => List.getElem?_append_left (h.cells.lt a ha), h.nd, h.out, h.low⟩
theorem Stk.topcell {a : Nat} {x : Int × List PyData} (h : Stk c L j T (a :: as) (x :: st)) : T[a]? = some (c x) := by
  cases h.cells with | cons h1 _ => exact h1
theorem atI_last {α : Type} (xs : List α) (x : α) : atI (xs ++ [x]) (-1) = some x := by
  have e : ixN (xs ++ [x]).length (-1) = some xs.length := by
    simp only [ixN, List.length_append, List.length_cons, List.length_nil]
    rw [if_neg (by omega), if_pos (by omega)]
    congr 1; omega
  unfold atI
  rw [e]
  simp
theorem Stk.last {a : Nat} {x : Int × List PyData} (h : Stk c L j T (a :: as) (x :: st)) : fIx (.o j) (.p (.int (-1))) T = .ok (.o a) T := by
  show ofO T ((items T (.o j)).bind fun ds => atI ds (-1)) = _
  have e : items T (.o j) = some ((as.reverse.map D.o) ++ [.o a]) := by
    show T[j]?.bind Cell.seq? = _
    rw [h.top]
    simp [Cell.seq?]
  rw [e]
  simp only [Option.bind_some, atI_last]
  rfl
theorem Stk.kpop {a : Nat} {x : Int × List PyData} (h : Stk c L j T (a :: as) (x :: st)) : kPop (.o j) T = .ok (.o a) (T.set j (.lst (as.reverse.map D.o))) := by
  have e := h.at
  unfold kPop
  simp only [e]
  have e1 : ((a :: as).reverse.map D.o)[((a :: as).reverse.map D.o).length - 1]? = some (.o a) := by simp
  have e2 : ((a :: as).reverse.map D.o).dropLast = as.reverse.map D.o := by simp
  rw [e1, e2]
theorem Stk.isL (h : Stk c L j T as st) : kIsL (.o j) T = .ok (.o j) T := by
  unfold kIsL; simp [h.at]
theorem Stk.kapp (h : Stk c L j T as st) (hz : st.length < 16777216) (y : D) : kApp (.o j) y T = .ok (.p .none) (T.set j (.lst (as.reverse.map D.o ++ [y]))) := by
  unfold kApp
  simp only [h.at, ofO]
  rw [if_pos (by simp [sizeLine_eq, h.cells.len]; exact hz)]
theorem Stk.nil (h : Stk c L j T as st) : fEqNil (.o j) (.p (.list [])) T = .ok (.p (.bool st.isEmpty)) T := by
  have e : items T (.o j) = some (as.reverse.map D.o) := by
    show T[j]?.bind Cell.seq? = _
    rw [h.top]; rfl
  show ofO _ ((items _ _).map _) = _
  rw [e]
  have hl := h.cells.len
  have : ((as.reverse.map D.o).length == 0) = st.isEmpty := by
    cases st with
    | nil => cases as <;> first | rfl | simp at hl
    | cons x st => cases as <;> first | (simp at hl; done) | simp
  simp [ofO] at this ⊢
  simpa using this
end LK
set_option Elab.async false
set_option linter.all false
set_option maxRecDepth 100000
set_option maxHeartbeats 400000
namespace LK
open PySem PySem.Spec L2 DL
/-! the program joins events -/
def cP (x : Int × List PyData) : Cell := .lst (x.2.map D.p)
theorem pre_of {S T : Store} (hl : S.length ≤ T.length) (h : ∀ i, i < S.length → T[i]? = S[i]?) : ∃ T', T = S ++ T' := by
  have e : T.take S.length = S := by
    apply List.ext_getElem?
    intro i
    by_cases hi : i < S.length
    · rw [List.getElem?_take_of_lt hi]; exact h i hi
    · rw [List.getElem?_eq_none (by rw [List.length_take]; omega), List.getElem?_eq_none (by omega)]
  exact ⟨T.drop S.length, by rw [← e, List.length_take, Nat.min_eq_left hl, List.take_append_drop]⟩
theorem lstAt_of {T : Store} {i : Nat} {ds : List D} (h : T[i]? = some (.lst ds)) : lstAt T i = some ds := by
  unfold lstAt; rw [h]; rfl
theorem kIsL_of {T : Store} {i : Nat} {ds : List D} (h : T[i]? = some (.lst ds)) : kIsL (.o i) T = .ok (.o i) T := by
  unfold kIsL; simp [lstAt_of h]
theorem kApp_of {T : Store} {i : Nat} {ds : List D} (h : T[i]? = some (.lst ds)) (hz : ds.length < 16777216) (y : D) : kApp (.o i) y T = .ok (.p .none) (T.set i (.lst (ds ++ [y]))) := by
  unfold kApp
  simp only [lstAt_of h, ofO]
  rw [if_pos (by rw [sizeLine_eq]; exact hz)]
theorem kPop_of {T : Store} {i : Nat} {ds : List D} {y : D} (h : T[i]? = some (.lst (ds ++ [y]))) : kPop (.o i) T = .ok y (T.set i (.lst ds)) := by
  unfold kPop
  simp only [lstAt_of h]
  have e1 : (ds ++ [y])[(ds ++ [y]).length - 1]? = some y := by simp
  rw [e1]
  simp
theorem neg1 (S : Store) (ρ : Sl) : eUn fNeg (eC (.int 1)) ρ S = .ok (.p (.int (-1))) S := rfl
/-- the functions of a stack, in their list -/
def fnC (st : Sk) : Cell := .lst (st.reverse.map fun x => D.p (.int x.1))
theorem fn_items {T : Store} {jf : Nat} {st : Sk} (h : T[jf]? = some (fnC st)) : items T (.o jf) = some (st.reverse.map fun x => D.p (.int x.1)) := by
  show T[jf]?.bind Cell.seq? = _
  rw [h]; rfl
theorem fn_last {T : Store} {jf : Nat} {f : Int} {ps : List PyData} {st : Sk} (h : T[jf]? = some (fnC ((f, ps) :: st))) : fIx (.o jf) (.p (.int (-1))) T = .ok (.p (.int f)) T := by
  show ofO T ((items T (.o jf)).bind fun ds => atI ds (-1)) = _
  rw [fn_items h]
  simp only [Option.bind_some, List.reverse_cons, List.map_append, List.map_cons, List.map_nil, atI_last]
  rfl
theorem fn_len {T : Store} {jf : Nat} {st : Sk} (h : T[jf]? = some (fnC st)) : fLen (.o jf) T = .ok (.p (.int st.length)) T := by
  show ofO T ((items T (.o jf)).map _) = _
  rw [fn_items h]
  simp [ofO]
theorem fn_isL {T : Store} {jf : Nat} {st : Sk} (h : T[jf]? = some (fnC st)) : kIsL (.o jf) T = .ok (.o jf) T := kIsL_of h
theorem fn_app {T : Store} {jf : Nat} {st : Sk} {g : Int} {ps : List PyData} (h : T[jf]? = some (fnC st)) (hz : st.length < 16777216) : kApp (.o jf) (.p (.int g)) T = .ok (.p .none) (T.set jf (fnC ((g, ps) :: st))) := by
  rw [kApp_of h (by simpa using hz)]
  simp [fnC]
theorem fn_pop {T : Store} {jf : Nat} {f : Int} {ps : List PyData} {st : Sk} (h : T[jf]? = some (fnC ((f, ps) :: st))) : kPop (.o jf) T = .ok (.p (.int f)) (T.set jf (fnC st)) :=
  kPop_of (ds := st.reverse.map fun x => D.p (.int x.1)) (y := .p (.int f)) (by rw [h]; simp [fnC])
theorem cp_app {T : Store} {a : Nat} {x : Int × List PyData} (p : PyData) (h : T[a]? = some (cP x)) (hz : x.2.length < 16777216) : kApp (.o a) (.p p) T = .ok (.p .none) (T.set a (cP (x.1, x.2 ++ [p]))) := by
  rw [kApp_of h (by simpa using hz)]
  simp [cP]
theorem cp_isL {T : Store} {a : Nat} {x : Int × List PyData} (h : T[a]? = some (cP x)) : kIsL (.o a) T = .ok (.o a) T := kIsL_of h
theorem cp_tup {T : Store} {a : Nat} {x : Int × List PyData} (h : T[a]? = some (cP x)) : fTuple (.o a) T = .ok (.p (.tuple x.2)) T := by
  show ofO T ((items T (.o a)).bind _) = _
  have e : items T (.o a) = some (x.2.map D.p) := by
    show T[a]?.bind Cell.seq? = _
    rw [h]; rfl
  rw [e]
  simp [asPs_map, ofO]
theorem len_evP_ge : ∀ (ps : List PyData), ps.length ≤ (evP ps).length
  | [] => by simp
  | p :: ps => by
    have ih := len_evP_ge ps
    by_cases hk : ∃ g rs, p = .tuple [.int g, .tuple rs]
    · obtain ⟨g, rs, rfl⟩ := hk
      rw [evP_run]; simp; omega
    · rw [evP_other (fun g rs e => hk ⟨g, rs, e⟩)]; simp; omega
theorem len_fl : ∀ (st : Sk), st.length ≤ (fl st).length
  | [] => by simp
  | (f, ps) :: r => by
    have ih := len_fl r
    simp [fl]; omega
theorem len_fl_top {f : Int} {ps : List PyData} {r : Sk} : ps.length < (fl ((f, ps) :: r)).length := by
  have := len_evP_ge ps
  simp [fl]; omega
/-- what the loop keeps -/
structure JR (E : Es) (k : Int) (S : Store) (q jf jp : Nat) (T : Store) (st : Sk) : Prop where
  as_ : ∃ as, Stk cP S.length jp T as st ∧ jf ∉ as
  fn : T[jf]? = some (fnC st)
  ne : jf ≠ jp
  lf : S.length ≤ jf
  lp : S.length ≤ jp
  pre : ∀ i, i < S.length → T[i]? = S[i]?
  ok : okS E st
theorem JR.len {E : Es} {k : Int} {S T : Store} {q jf jp : Nat} {st : Sk} (h : JR E k S q jf jp T st) : S.length ≤ T.length := by
  have := (List.getElem?_eq_some_iff.mp h.fn).1
  have := h.lf
  omega
theorem pre_set {S T : Store} {i : Nat} {c : Cell} (h : ∀ a, a < S.length → T[a]? = S[a]?) (hi : S.length ≤ i) : ∀ a, a < S.length → (T.set i c)[a]? = S[a]? := fun a ha => by
  rw [List.getElem?_set_ne (by omega)]; exact h a ha
theorem pre_ext {S T : Store} {c : Cell} (h : ∀ a, a < S.length → T[a]? = S[a]?) (hl : S.length ≤ T.length) : ∀ a, a < S.length → (T ++ [c])[a]? = S[a]? := fun a ha => by
  rw [List.getElem?_append_left (by omega)]; exact h a ha
abbrev lpJoin : Fs := sIf (eT (eCB F_is_integer (aCons (eVar 4) aNil))) (sExpr (eApp (eBin fIx (eVar 3) (eUn fNeg (eC (.int 1)))) (eCB (on1 fInt) (aCons (eVar 4) aNil)))) (sIf (eT (eBin (fEq false) (eBin fIx (eVar 4) (eC (.int 0))) (eC (.str "in")))) (sSeq (sIf (eT (eBin (fIn true) (eTup (aCons (eBin fIx (eVar 2) (eUn fNeg (eC (.int 1)))) (aCons (eBin fIx (eVar 4) (eC (.int 1))) aNil))) (eUn (fFld "Calls" "edges") (eVar 0)))) (sRet (eC .none)) sNil) (sSeq (sExpr (eApp (eVar 2) (eCB (on1 fInt) (aCons (eBin fIx (eVar 4) (eC (.int 1))) aNil)))) (sExpr (eApp (eVar 3) (eCell aNil))))) (sSeq (sIf (bOr (eT (eBin (fEq false) (eCB (on1 fLen) (aCons (eVar 2) aNil)) (eC (.int 1)))) (eT (eBin (fEq true) (eBin fIx (eVar 2) (eUn fNeg (eC (.int 1)))) (eBin fIx (eVar 4) (eC (.int 1)))))) (sRet (eC .none)) sNil) (sSeq (sSet 5 (eTup (aCons (ePop (eVar 2)) (aCons (eCB (on1 fTuple) (aCons (ePop (eVar 3)) aNil)) aNil)))) (sExpr (eApp (eBin fIx (eVar 3) (eUn fNeg (eC (.int 1)))) (eVar 5))))))
theorem join_store {E : Es} {k : Int} {S T : Store} {q jf jp : Nat} {st : Sk} {v ev : PyData} {x5 : Option D} (hq : S[q]? = some (callsC k E)) (R : JR E k S q jf jp T st) (he : isEvB k ev = true) (hz : (fl st).length < 16777216) :
    match joinF E st ev with
    | .inl st' => ∃ x5' T', lpJoin [some (.o q), some (.p v), some (.o jf), some (.o jp), some (.p ev), x5] T = .nx [some (.o q), some (.p v), some (.o jf), some (.o jp), some (.p ev), x5'] T' ∧ JR E k S q jf jp T' st'
    | .inr _ => ∃ T', lpJoin [some (.o q), some (.p v), some (.o jf), some (.o jp), some (.p ev), x5] T = .rt (.p .none) T' ∧ S.length ≤ T'.length ∧ ∀ i, i < S.length → T'[i]? = S[i]? := by
  obtain ⟨⟨as, K, hfa⟩, hfn, hne, hlf, hlp, hpre, hok⟩ := R
  have hlen : S.length ≤ T.length := by
    have := (List.getElem?_eq_some_iff.mp hfn).1
    omega
  have hqT : T[q]? = some (callsC k E) := (hpre q (List.getElem?_eq_some_iff.mp hq).1).trans hq
  cases st with
  | nil => exact hok.elim
  | cons x r =>
  obtain ⟨f, ps⟩ := x
  cases as with
  | nil => have := K.cells.len; simp at this
  | cons a as =>
  have hfa' : jf ≠ a ∧ jf ∉ as := by simpa using hfa
  have hlast := K.last
  have htop : T[a]? = some (cP (f, ps)) := K.topcell
  have hza : ps.length < 16777216 := by have := len_fl_top (f := f) (ps := ps) (r := r); omega
  have hzs : ((f, ps) :: r).length < 16777216 := by have := len_fl ((f, ps) :: r); omega
  cases ev with
  | int i =>
    have e0 : joinF E ((f, ps) :: r) (.int i) = .inl ((f, ps ++ [.int i]) :: r) := rfl
    rw [e0]
    have ii := is_integer_ok (.int i) rfl T
    have ii : F_is_integer [.p (.int i)] T = .ok (.p (.bool true)) T := ii
    refine ⟨x5, T.set a (cP (f, ps ++ [.int i])), ?_, ⟨⟨a :: as, K.put, hfa⟩, ?_, hne, hlf, hlp, pre_set hpre (K.low a (by simp)), okS_head hok fun hg => ?_⟩⟩
    · have h1 := cp_isL htop
      have h2 := cp_app (.int i) htop hza
      dsimp only at h2
      simp [sSeq, thenS, sIf, sSet, sRet, sExpr, eT, asB, eIf, eAnd, eOr, eNot, eChain, onB, eBin, eUn, eVar, eC, eCB, on1, on2, aCons, aNil, eTup, eLst, eCell, kTup, kLst, kCell, asPs, bAnd, bOr, bNot, M.bind, M.pure, bindS, slots, finR, sizeLine_eq, lpJoin, ii, eApp, fNeg, hlast, h1, fInt, h2]
    · rw [List.getElem?_set_ne hfa'.1.symm, hfn]; simp [fnC]
    · rw [gp_append, hg, gp_int, gp_nil]
      simpa [isEvB, inRange] using he
  | tuple ds =>
    match ds, he with
    | [.str x, .int g], he =>
      have hst : ∀ st', joinF E ((f, ps) :: r) (.tuple [.str x, .int g]) = .inl st' → okS E st' ∧ fl st' = fl ((f, ps) :: r) ++ [.tuple [.str x, .int g]] := fun st' => join_step (st := (f, ps) :: r) (ev := .tuple [.str x, .int g]) hok he
      have ii := is_integer_ok (.tuple [.str x, .int g]) rfl T
      have ii : F_is_integer [.p (.tuple [.str x, .int g])] T = .ok (.p (.bool false)) T := ii
      have ix0 : fIx (.p (.tuple [.str x, .int g])) (.p (.int 0)) T = .ok (.p (.str x)) T := rfl
      have ix1 : ∀ T, fIx (.p (.tuple [.str x, .int g])) (.p (.int 1)) T = .ok (.p (.int g)) T := fun _ => rfl
      have hxo : PyData.strOk x = true := isEv_of_B he
      have se := strEq T x hxo
      have fl1 := fn_last hfn
      by_cases hx : (x == "in") = true
      · rw [hx] at se
        have ff : fFld "Calls" "edges" (.o q) T = .ok (.p (.tuple (E.map edgeD))) T := by
          show ofO T ((insAt T q).bind _) = _
          unfold insAt
          rw [hqT]
          rfl
        have nin := notIn_edges T E f g
        by_cases hed : (f, g) ∈ E
        · have e0 : joinF E ((f, ps) :: r) (.tuple [.str x, .int g]) = .inl ((g, []) :: (f, ps) :: r) := by
            unfold joinF; dsimp only; rw [if_pos hx, if_pos hed]
          have hst := hst _ e0
          rw [e0]
          have h1 := fn_isL hfn
          have h2 := fn_app (g := g) (ps := []) hfn hzs
          have K1 : Stk cP S.length jp (T.set jf (fnC ((g, []) :: (f, ps) :: r))) (a :: as) ((f, ps) :: r) := K.other hne hfa
          have h3 := K1.isL
          have K2 : Stk cP S.length jp (T.set jf (fnC ((g, []) :: (f, ps) :: r)) ++ [.lst []]) (a :: as) ((f, ps) :: r) := K1.ext
          have h4 := K2.kapp hzs (.o (T.set jf (fnC ((g, []) :: (f, ps) :: r))).length)
          have K3 := K1.push (x := (g, [])) (by rw [List.length_set]; exact hlen)
          have ec : cP (g, []) = .lst [] := rfl
          rw [ec] at K3
          have hjf : jf < T.length := (List.getElem?_eq_some_iff.mp hfn).1
          refine ⟨x5, _, ?_, ⟨⟨_, K3, ?_⟩, ?_, hne, hlf, hlp, pre_set (pre_ext (pre_set hpre hlf) (by rw [List.length_set]; exact hlen)) hlp, hst.1⟩⟩
          · simp only [List.length_set] at h4
            simp [sSeq, thenS, sIf, sSet, sRet, sExpr, eT, asB, eIf, eAnd, eOr, eNot, eChain, onB, eBin, eUn, eVar, eC, eCB, on1, on2, aCons, aNil, eTup, eLst, eCell, kTup, kLst, kCell, asPs, bAnd, bOr, bNot, M.bind, M.pure, bindS, slots, finR, sizeLine_eq, lpJoin, ii, ix0, ix1, se, eApp, fNeg, fl1, ff, nin, hed, h1, h2, h3, h4, fInt, sNil]
          · rw [List.length_set]
            intro hm
            rcases List.mem_cons.mp hm with e | hm
            · omega
            · exact hfa hm
          · rw [List.getElem?_set_ne hne.symm, List.getElem?_append_left (by rw [List.length_set]; exact hjf), List.getElem?_set_self hjf]
        · have e0 : joinF E ((f, ps) :: r) (.tuple [.str x, .int g]) = .inr () := by
            unfold joinF; dsimp only; rw [if_pos hx, if_neg hed]
          rw [e0]
          refine ⟨T, ?_, hlen, hpre⟩
          simp [sSeq, thenS, sIf, sSet, sRet, sExpr, eT, asB, eIf, eAnd, eOr, eNot, eChain, onB, eBin, eUn, eVar, eC, eCB, on1, on2, aCons, aNil, eTup, eLst, eCell, kTup, kLst, kCell, asPs, bAnd, bOr, bNot, M.bind, M.pure, bindS, slots, finR, sizeLine_eq, lpJoin, ii, ix0, ix1, se, fNeg, fl1, ff, nin, hed]
      · have hx' : (x == "in") = false := by simpa using hx
        rw [hx'] at se
        have hlf' := fn_len hfn
        cases r with
        | nil =>
          have e0 : joinF E [(f, ps)] (.tuple [.str x, .int g]) = .inr () := by
            unfold joinF; dsimp only; rw [if_neg hx]
          rw [e0]
          refine ⟨T, ?_, hlen, hpre⟩
          have hl1 : fLen (.o jf) T = .ok (.p (.int 1)) T := hlf'
          have q1 := eqInt T 1 1
          simp [sSeq, thenS, sIf, sSet, sRet, sExpr, eT, asB, eIf, eAnd, eOr, eNot, eChain, onB, eBin, eUn, eVar, eC, eCB, on1, on2, aCons, aNil, eTup, eLst, eCell, kTup, kLst, kCell, asPs, bAnd, bOr, bNot, M.bind, M.pure, bindS, slots, finR, sizeLine_eq, lpJoin, ii, ix0, ix1, se, hl1, q1]
        | cons y r =>
          obtain ⟨f2, qs⟩ := y
          have q1 := eqInt T ((f, ps) :: (f2, qs) :: r).length 1
          have q1n : ¬ ((((f, ps) :: (f2, qs) :: r).length : Int) = 1) := by simp; omega
          rw [decide_eq_false q1n] at q1
          generalize ((((f, ps) :: (f2, qs) :: r).length : Nat) : Int) = len at q1 hlf'
          have q2 := neInt T f g
          by_cases hfg : f = g
          · subst hfg
            have e0 : joinF E ((f, ps) :: (f2, qs) :: r) (.tuple [.str x, .int f]) = .inl ((f2, qs ++ [runD f ps]) :: r) := by
              unfold joinF; dsimp only; rw [if_neg hx, if_pos rfl]
            have hst := hst _ e0
            rw [e0]
            have p1 := fn_pop hfn
            have K1 : Stk cP S.length jp (T.set jf (fnC ((f2, qs) :: r))) (a :: as) ((f, ps) :: (f2, qs) :: r) := K.other hne hfa
            have p2 := K1.kpop
            have K2 := K1.pop
            cases as with
            | nil => have := K2.cells.len; simp at this
            | cons a2 as =>
            have hn := List.nodup_cons.mp K.nd
            have hja : jp ≠ a := fun e => K.out (by simp [e])
            have t1 : ((T.set jf (fnC ((f2, qs) :: r))).set jp (.lst ((a2 :: as).reverse.map D.o)))[a]? = some (cP (f, ps)) := by
              rw [List.getElem?_set_ne hja, List.getElem?_set_ne hfa'.1]; exact htop
            have p3 := cp_tup t1
            dsimp only at p3
            have l2 := K2.last
            have t2 := K2.topcell
            have h1 := cp_isL t2
            have hzq : qs.length < 16777216 := by
              have h := len_evP_ge qs
              simp only [fl, List.length_append, List.length_cons] at hz
              omega
            have h2 := cp_app (runD f ps) t2 hzq
            dsimp only at h2
            have K3 := K2.put (x' := (f2, qs ++ [runD f ps]))
            refine ⟨some (.p (runD f ps)), _, ?_, ⟨⟨_, K3, hfa'.2⟩, ?_, hne, hlf, hlp, pre_set (pre_set (pre_set hpre hlf) hlp) (K2.low a2 (by simp)), hst.1⟩⟩
            · generalize Cell.lst ((a2 :: as).reverse.map D.o) = cc at p2 p3 l2 h1 h2 ⊢
              unfold runD at h2 ⊢
              simp [sSeq, thenS, sIf, sSet, sRet, sExpr, eT, asB, eIf, eAnd, eOr, eNot, eChain, onB, eBin, eUn, eVar, eC, eCB, on1, on2, aCons, aNil, eTup, eLst, eCell, kTup, kLst, kCell, asPs, bAnd, bOr, bNot, M.bind, M.pure, bindS, slots, finR, sizeLine_eq, lpJoin, ii, ix0, ix1, se, hlf', q1, q2, fNeg, fl1, sNil, ePop, p1, p2, p3, eApp, l2, h1, h2]
            · have hja2 : a2 ≠ jf := fun e => hfa'.2 (by simp [e])
              rw [List.getElem?_set_ne hja2, List.getElem?_set_ne hne.symm, List.getElem?_set_self (List.getElem?_eq_some_iff.mp hfn).1]
              simp [fnC]
          · have e0 : joinF E ((f, ps) :: (f2, qs) :: r) (.tuple [.str x, .int g]) = .inr () := by
              unfold joinF; dsimp only; rw [if_neg hx, if_neg hfg]
            rw [e0]
            refine ⟨T, ?_, hlen, hpre⟩
            simp [sSeq, thenS, sIf, sSet, sRet, sExpr, eT, asB, eIf, eAnd, eOr, eNot, eChain, onB, eBin, eUn, eVar, eC, eCB, on1, on2, aCons, aNil, eTup, eLst, eCell, kTup, kLst, kCell, asPs, bAnd, bOr, bNot, M.bind, M.pure, bindS, slots, finR, sizeLine_eq, lpJoin, ii, ix0, ix1, se, hlf', q1, q2, hfg, fNeg, fl1]
  | _ => cases he
theorem cut_last {α : Type} (xs : List α) : cutL xs (some (-1)) none = xs.drop (xs.length - 1) := by
  have e : HT.sIx xs.length 0 (some (-1)) = xs.length - 1 := by
    simp only [HT.sIx]
    rw [if_pos (by omega)]
    omega
  have e2 : HT.sIx xs.length xs.length none = xs.length := rfl
  unfold cutL
  rw [e, e2]
  apply List.take_of_length_le
  simp
theorem cut_mid {α : Type} (xs : List α) : cutL xs (some 1) (some (-1)) = (xs.drop 1).take (xs.length - 2) := by
  have e : HT.sIx xs.length xs.length (some (-1)) = xs.length - 1 := by
    simp only [HT.sIx]
    rw [if_pos (by omega)]
    omega
  have e2 : HT.sIx xs.length 0 (some 1) = min 1 xs.length := by
    simp only [HT.sIx]
    rw [if_neg (by omega)]
    rfl
  unfold cutL
  rw [e, e2]
  cases xs with
  | nil => rfl
  | cons x xs =>
    have : min 1 (x :: xs).length = 1 := by simp
    rw [this]
    congr 1
theorem cut_first {α : Type} (xs : List α) : cutL xs none (some 1) = xs.take 1 := by
  have e : HT.sIx xs.length xs.length (some 1) = min 1 xs.length := by
    simp only [HT.sIx]
    rw [if_neg (by omega)]
    rfl
  have e2 : HT.sIx xs.length 0 none = 0 := rfl
  unfold cutL
  rw [e, e2, List.drop_zero]
  cases xs with
  | nil => rfl
  | cons x xs =>
    have : min 1 (x :: xs).length = 1 := by simp
    rw [this]
theorem shp_sub {ds es : List PyData} (h : shp (.tuple ds)) (hs : ∀ e ∈ es, e ∈ ds) : shp (.tuple es) := by
  have h2 := SeqAt.depth_of_shaped h
  have hl := lay_tup (shp_lay h)
  rw [PyData.depth] at h2
  have a1 : PyData.canLayAll0 es = true := by
    have : ∀ es : List PyData, (∀ e ∈ es, e ∈ ds) → PyData.canLayAll0 es = true := by
      intro es
      induction es with
      | nil => intro _; rfl
      | cons e es ih =>
        intro hs
        rw [PyData.canLayAll0, ih (fun x hx => hs x (by simp [hx])), Bool.and_true]
        exact hl e (hs e (by simp))
    exact this es hs
  have a2 : PyData.depthAll es ≤ PyData.depthAll ds := by
    have : ∀ es : List PyData, (∀ e ∈ es, e ∈ ds) → PyData.depthAll es ≤ PyData.depthAll ds := by
      intro es
      induction es with
      | nil => intro _; simp [PyData.depthAll]
      | cons e es ih =>
        intro hs
        have := ih (fun x hx => hs x (by simp [hx]))
        have h3 := depthAll_mem (hs e (by simp))
        rw [PyData.depthAll]; omega
    exact this es hs
  have c1 : PyData.canLay0 (.tuple es) = true := by rw [PyData.canLay0]; exact a1
  have c2 : PyData.depth (.tuple es) ≤ 64 := by rw [PyData.depth]; omega
  show (PyData.canLay0 (.tuple es) && decide (PyData.depth (.tuple es) ≤ 64)) = true
  rw [c1, decide_eq_true c2]; rfl
theorem ne_one (S : Store) (w : Str) (l : List PyData) (hs : shp (.tuple l)) (hw : PyData.strOk w = true) (k : Int) (hb : ∀ e ∈ l, isEvB k e = true) :
    fEq true (.p (.tuple l)) (.p (.tuple [.tuple [.str w, .int 0]])) S = .ok (.p (.bool (!one0 w l))) S := by
  have h2 : SeqAt.shaped (.tuple [.tuple [.str w, .int 0]]) = true := by
    simp [SeqAt.shaped, PyData.canLay0, PyData.canLayAll0, PyData.depth, PyData.depthAll, hw]
  have hs : SeqAt.shaped (.tuple l) = true := hs
  have e : PyData.eqv (.tuple l) (.tuple [.tuple [.str w, .int 0]]) = one0 w l := by
    match l, hb with
    | [], _ => rfl
    | [e], hb =>
      have he := hb e (by simp)
      unfold isEvB at he
      split at he
      · simp [PyData.eqv, PyData.eqvAll, one0, is0]
      · rename_i x g _
        have eg : (g == 0) = decide (g = 0) := by by_cases h : g = 0 <;> simp [h]
        simp [PyData.eqv, PyData.eqvAll, one0, is0, eg]
      · cases he
    | a :: b :: c, _ => simp [PyData.eqv, PyData.eqvAll, one0]
  simp [fEq, toPy, hs, h2, e]
theorem joined_ok {E : Es} {k : Int} {S : Store} {q : Nat} (hq : S[q]? = some (callsC k E)) (evs : List PyData) (hs : shp (.tuple evs)) (hb : ∀ e ∈ evs, isEvB k e = true) (hz : evs.length < 16777000) :
    ∃ T, F__joined [.o q, .p (.tuple evs)] S = .ok (.p ((joinR E evs).getD .none)) (S ++ T) := by
  have f1 : fSl none (some 1) (.p (.tuple evs)) S = .ok (.p (.tuple (evs.take 1))) S := by
    show M.pure _ S = _
    rw [cut_first]; rfl
  have f2 : fSl (some (-1)) none (.p (.tuple evs)) S = .ok (.p (.tuple (evs.drop (evs.length - 1)))) S := by
    show M.pure _ S = _
    rw [cut_last]; rfl
  have n1 := ne_one S "in" (evs.take 1) (shp_sub hs fun e he => List.mem_of_mem_take he) strOk_in k (fun e he => hb e (List.mem_of_mem_take he))
  have n2 := ne_one S "out" (evs.drop (evs.length - 1)) (shp_sub hs fun e he => List.mem_of_mem_drop he) strOk_out k (fun e he => hb e (List.mem_of_mem_drop he))
  have first : sIf (bOr (eT (eBin (fEq true) (eSl (eVar 1) oNone (oSome (eC (.int 1)))) (eTup (aCons (eTup (aCons (eC (.str "in")) (aCons (eC (.int 0)) aNil))) aNil)))) (eT (eBin (fEq true) (eSl (eVar 1) (oSome (eUn fNeg (eC (.int 1)))) oNone) (eTup (aCons (eTup (aCons (eC (.str "out")) (aCons (eC (.int 0)) aNil))) aNil))))) (sRet (eC .none)) sNil [some (.o q), some (.p (.tuple evs)), none, none, none, none] S =
      if (one0 "in" (evs.take 1) && one0 "out" (evs.drop (evs.length - 1))) = true then .nx [some (.o q), some (.p (.tuple evs)), none, none, none, none] S else .rt (.p .none) S := by
    cases h1 : one0 "in" (evs.take 1) with
    | false =>
      rw [h1] at n1
      simp [sSeq, thenS, sIf, sSet, sRet, sExpr, eT, asB, eIf, eAnd, eOr, eNot, eChain, onB, eBin, eUn, eVar, eC, eCB, on1, on2, aCons, aNil, eTup, eLst, eCell, kTup, kLst, kCell, asPs, bAnd, bOr, bNot, M.bind, M.pure, bindS, slots, finR, sizeLine_eq, eSl, oNone, oSome, asI, f1, n1]
    | true =>
      rw [h1] at n1
      cases h2 : one0 "out" (evs.drop (evs.length - 1)) with
      | false => rw [h2] at n2; simp [sSeq, thenS, sIf, sSet, sRet, sExpr, eT, asB, eIf, eAnd, eOr, eNot, eChain, onB, eBin, eUn, eVar, eC, eCB, on1, on2, aCons, aNil, eTup, eLst, eCell, kTup, kLst, kCell, asPs, bAnd, bOr, bNot, M.bind, M.pure, bindS, slots, finR, sizeLine_eq, eSl, oNone, oSome, asI, fNeg, f1, f2, n1, n2]
      | true => rw [h2] at n2; simp [sSeq, thenS, sIf, sSet, sRet, sExpr, eT, asB, eIf, eAnd, eOr, eNot, eChain, onB, eBin, eUn, eVar, eC, eCB, on1, on2, aCons, aNil, eTup, eLst, eCell, kTup, kLst, kCell, asPs, bAnd, bOr, bNot, M.bind, M.pure, bindS, slots, finR, sizeLine_eq, eSl, oNone, oSome, asI, fNeg, f1, f2, n1, n2, sNil]
  suffices hh : ∃ T, g__joined [some (.o q), some (.p (.tuple evs)), none, none, none, none] S = .rt (.p ((joinR E evs).getD .none)) (S ++ T) by
    obtain ⟨T, hh⟩ := hh
    refine ⟨T, ?_⟩
    show finR (g__joined [some (.o q), some (.p (.tuple evs)), none, none, none, none] S) = _
    rw [hh]
    rfl
  unfold g__joined joinR
  by_cases hh : (one0 "in" (evs.take 1) && one0 "out" (evs.drop (evs.length - 1))) = true
  · rw [if_pos hh] at first
    rw [if_pos hh, stp first]
    have h1 : sSet 2 (eCell (aCons (eC (.int 0)) aNil)) [some (.o q), some (.p (.tuple evs)), none, none, none, none] S = .nx [some (.o q), some (.p (.tuple evs)), some (.o S.length), none, none, none] (S ++ [.lst [.p (.int 0)]]) := by
      simp [sSeq, thenS, sIf, sSet, sRet, sExpr, eT, asB, eIf, eAnd, eOr, eNot, eChain, onB, eBin, eUn, eVar, eC, eCB, on1, on2, aCons, aNil, eTup, eLst, eCell, kTup, kLst, kCell, asPs, bAnd, bOr, bNot, M.bind, M.pure, bindS, slots, finR, sizeLine_eq]
    rw [stp h1]
    have h2 : sSet 3 (eCell (aCons (eCell aNil) aNil)) [some (.o q), some (.p (.tuple evs)), some (.o S.length), none, none, none] (S ++ [.lst [.p (.int 0)]]) = .nx [some (.o q), some (.p (.tuple evs)), some (.o S.length), some (.o (S.length + 2)), none, none] (S ++ [.lst [.p (.int 0)], .lst [], .lst [.o (S.length + 1)]]) := by
      simp [sSeq, thenS, sIf, sSet, sRet, sExpr, eT, asB, eIf, eAnd, eOr, eNot, eChain, onB, eBin, eUn, eVar, eC, eCB, on1, on2, aCons, aNil, eTup, eLst, eCell, kTup, kLst, kCell, asPs, bAnd, bOr, bNot, M.bind, M.pure, bindS, slots, finR, sizeLine_eq]
    rw [stp h2]
    have R0 : JR E k S q S.length (S.length + 2) (S ++ [.lst [.p (.int 0)], .lst [], .lst [.o (S.length + 1)]]) [(0, [])] := by
      refine ⟨⟨[S.length + 1], ⟨by simp, .cons (by simp [cP]) .nil, by simp, by simp, by simp⟩, by simp⟩, by simp [fnC], by omega, by omega, by omega, fun i hi => ?_, rfl, gp_nil⟩
      rw [List.getElem?_append_left hi]
    have hmid : ∀ e ∈ (evs.drop 1).take (evs.length - 2), isEvB k e = true := fun e he => hb e (List.mem_of_mem_drop (List.mem_of_mem_take he))
    have hml : ((evs.drop 1).take (evs.length - 2)).length ≤ evs.length := by
      rw [List.length_take, List.length_drop]; omega
    have hs1 : ∀ T, srcSeq (eSl (eVar 1) (oSome (eC (.int 1))) (oSome (eUn fNeg (eC (.int 1))))) [some (.o q), some (.p (.tuple evs)), some (.o S.length), some (.o (S.length + 2)), none, none] T = .ok (.seq (.p (.tuple ((evs.drop 1).take (evs.length - 2))))) T := fun T => by
      have f3 : fSl (some 1) (some (-1)) (.p (.tuple evs)) T = .ok (.p (.tuple ((evs.drop 1).take (evs.length - 2)))) T := by
        show M.pure _ T = _
        rw [cut_mid]; rfl
      simp [srcSeq, eSl, oSome, asI, eUn, fNeg, eVar, eC, M.bind, M.pure, f3, ofSeq, seqItems]
    have L := for_fold (α := Sk) (β := Unit) (t := tName 4) (u := lpJoin) ((evs.drop 1).take (evs.length - 2)) (joinF E)
      (fun rest st ρ T => (∃ x4 x5, ρ = [some (.o q), some (.p (.tuple evs)), some (.o S.length), some (.o (S.length + 2)), x4, x5]) ∧ JR E k S q S.length (S.length + 2) T st ∧ (fl st).length + rest.length ≤ evs.length + 1)
      (fun _ d T => d = .p .none ∧ S.length ≤ T.length ∧ ∀ i, i < S.length → T[i]? = S[i]?)
      (a := [(0, [])]) (hs1 _) (seq_tup_count _ _) (seq_tup_nxt _) ⟨⟨_, _, rfl⟩, R0, by simp [fl, evP_nil]; omega⟩
      (fun ev rest st ρ T hev ⟨⟨x4, x5, hρ⟩, R, hsz⟩ => by
        subst hρ
        refine ⟨[some (.o q), some (.p (.tuple evs)), some (.o S.length), some (.o (S.length + 2)), some (.p ev), x5], rfl, ?_⟩
        have hbe := hmid ev hev
        have js := join_store (v := .tuple evs) (x5 := x5) hq R hbe (by omega)
        have hst : ∀ st', joinF E st ev = .inl st' → fl st' = fl st ++ [ev] := fun st' h => (join_step R.ok hbe h).2
        revert js hst
        cases joinF E st ev with
        | inl st' =>
          rintro ⟨x5', T', e, R'⟩ hst
          refine ⟨_, T', e, ⟨_, _, rfl⟩, R', ?_⟩
          rw [hst st' rfl]
          simp at hsz ⊢; omega
        | inr u =>
          rintro ⟨T', e, h1, h2⟩ _
          exact ⟨_, T', e, rfl, h1, h2⟩)
    revert L
    cases walkF (joinF E) [(0, [])] ((evs.drop 1).take (evs.length - 2)) with
    | inr u =>
      rintro ⟨d, T', e, rfl, h1, h2⟩
      obtain ⟨T, rfl⟩ := pre_of h1 h2
      exact ⟨T, stpr e⟩
    | inl st =>
      rintro ⟨ρ', T', e, ⟨x4, x5, rfl⟩, R, _⟩
      obtain ⟨T, hT⟩ := pre_of R.len R.pre
      refine ⟨T, ?_⟩
      rw [stp e, ← hT]
      have fnl := fn_len R.fn
      obtain ⟨as, K, hfa⟩ := R.as_
      cases st with
      | nil => exact R.ok.elim
      | cons x r =>
        obtain ⟨f, ps⟩ := x
        cases r with
        | nil =>
          have fnl : fLen (.o S.length) T' = .ok (.p (.int 1)) T' := fnl
          have q1 := eqInt T' 1 1
          cases as with
          | nil => have := K.cells.len; simp at this
          | cons a as =>
            cases as with
            | cons b as => have := K.cells.len; simp at this
            | nil =>
              have ix : fIx (.o (S.length + 2)) (.p (.int 0)) T' = .ok (.o a) T' := by
                show ofO T' ((items T' (.o (S.length + 2))).bind fun ds => atI ds 0) = _
                have e : items T' (.o (S.length + 2)) = some [.o a] := by
                  show T'[S.length + 2]?.bind Cell.seq? = _
                  rw [K.top]; rfl
                rw [e]; rfl
              have tu := cp_tup K.topcell
              simp [sSeq, thenS, sIf, sSet, sRet, sExpr, eT, asB, eIf, eAnd, eOr, eNot, eChain, onB, eBin, eUn, eVar, eC, eCB, on1, on2, aCons, aNil, eTup, eLst, eCell, kTup, kLst, kCell, asPs, bAnd, bOr, bNot, M.bind, M.pure, bindS, slots, finR, sizeLine_eq, fnl, q1, ix, tu, runD]
        | cons y r =>
          have q1 := eqInt T' ((f, ps) :: y :: r).length 1
          have q1n : ¬ ((((f, ps) :: y :: r).length : Int) = 1) := by simp; omega
          rw [decide_eq_false q1n] at q1
          generalize ((((f, ps) :: y :: r).length : Nat) : Int) = len at q1 fnl
          simp [sSeq, thenS, sIf, sSet, sRet, sExpr, eT, asB, eIf, eAnd, eOr, eNot, eChain, onB, eBin, eUn, eVar, eC, eCB, on1, on2, aCons, aNil, eTup, eLst, eCell, kTup, kLst, kCell, asPs, bAnd, bOr, bNot, M.bind, M.pure, bindS, slots, finR, sizeLine_eq, fnl, q1]
  · rw [if_neg hh] at first
    rw [if_neg hh]
    refine ⟨[], ?_⟩
    rw [List.append_nil]
    exact stpr first
/-- the program reads events as progR does -/
theorem run_of_ok {E : Es} {k : Int} {S : Store} {q : Nat} (hq : S[q]? = some (callsC k E)) (v : PyData) (hs : shp v) (hz : nd v < 16777000) :
    ∃ T, F_run_of [.o q, .p v] S = (match (match v with | .tuple evs => progR E k evs | _ => none) with
      | some r => .ok (.p r) (S ++ T)
      | none => .exc ⟨"InvalidTrace", [("value", .p v)]⟩ (S ++ T)) := by
  by_cases ht : ∃ evs, v = .tuple evs
  · obtain ⟨evs, rfl⟩ := ht
    have hlen : evs.length < 16777000 := by
      have := len_ndL evs
      simp [nd] at hz; omega
    have ae := are_events_ok hq evs hs (by omega)
    dsimp only
    unfold progR
    by_cases h : evs.all (isEvB k) = true ∧ few evs = true
    · rw [if_pos h]
      rw [h.1, h.2] at ae
      obtain ⟨T, hj⟩ := joined_ok hq evs hs (List.all_eq_true.mp h.1) hlen
      refine ⟨T, ?_⟩
      cases hr : joinR E evs with
      | none =>
        rw [hr] at hj
        exact run_of_unjoined ae hj
      | some r =>
        rw [hr] at hj
        have : ∃ ds, r = .tuple ds := by
          unfold joinR at hr
          split at hr
          · split at hr
            · cases hr; exact ⟨_, rfl⟩
            · cases hr
          · cases hr
        obtain ⟨ds, rfl⟩ := this
        exact run_of_joined ae hj
    · rw [if_neg h]
      refine ⟨[], ?_⟩
      have : (evs.all (isEvB k) && few evs) = false := by
        cases h1 : evs.all (isEvB k) with
        | false => rfl
        | true =>
          cases h2 : few evs with
          | false => rfl
          | true => exact absurd ⟨h1, h2⟩ h
      rw [this] at ae
      rw [List.append_nil]
      exact run_of_none ae
  · have hn := lay_noDict (shp_lay hs)
    have hf : isTupD' v = false := by cases v <;> first | rfl | exact absurd ⟨_, rfl⟩ ht
    have ae := are_events_no (q := q) (S := S) v hn hf
    refine ⟨[], ?_⟩
    rw [List.append_nil]
    have : (match v with | .tuple evs => progR E k evs | _ => none) = none := by
      split
      · exact absurd ⟨_, rfl⟩ ht
      · rfl
    rw [this]
    exact run_of_none ae
end LK
set_option Elab.async false
set_option linter.all false
set_option maxRecDepth 100000
set_option maxHeartbeats 400000
namespace LK
open PySem PySem.Spec L2 DL
/-! the law reads events -/
def spSk (st : Sk) : Prop := ∀ x ∈ st, sp x.2 = true
theorem sp_runD {f : Int} {ps : List PyData} (h : sp ps = true) : sp [runD f ps] = true := by
  unfold runD; rw [sp_run, h, sp_nil]; rfl
theorem read_step_sp {st : Sk} {ev : PyData} {s : Sk × Option PyData} (h : readF (st, none) ev = .inl s) (hs : spSk st) : spSk s.1 ∧ ∀ f ps, s.2 = some (runD f ps) → sp ps = true := by
  unfold readF at h
  dsimp only at h
  split at h
  · rename_i x g
    by_cases h1 : (x == "in") = true
    · rw [if_pos h1] at h
      cases h
      exact ⟨fun y hy => by
        rcases List.mem_cons.mp hy with rfl | hy
        · exact sp_nil
        · exact hs y hy, fun f ps e => by cases e⟩
    · rw [if_neg h1] at h
      by_cases h2 : (x == "out") = true
      · rw [if_pos h2] at h
        split at h
        · cases h
        · rename_i f ps
          by_cases hf : f = g
          · rw [if_pos hf] at h
            cases h
            refine ⟨(fun y hy => by cases hy), fun f' ps' e => ?_⟩
            simp [runD] at e
            rw [← e.2]; exact hs (f, ps) (by simp)
          · rw [if_neg hf] at h; cases h
        · rename_i f ps f2 qs r
          by_cases hf : f = g
          · rw [if_pos hf] at h
            cases h
            refine ⟨fun y hy => ?_, fun f ps e => by cases e⟩
            rcases List.mem_cons.mp hy with rfl | hy
            · rw [sp_append, hs (f2, qs) (by simp), sp_runD (hs (f, ps) (by simp))]; rfl
            · exact hs y (by simp [hy])
          · rw [if_neg hf] at h; cases h
      · rw [if_neg h2] at h; cases h
  · rename_i i
    split at h
    · cases h
    · rename_i f ps r
      cases h
      refine ⟨fun y hy => ?_, fun f ps e => by cases e⟩
      rcases List.mem_cons.mp hy with rfl | hy
      · show sp (ps ++ [.int i]) = true
        rw [sp_append, hs (f, ps) (by simp), sp_int, sp_nil]; rfl
      · exact hs y (by simp [hy])
  · cases h
theorem read_sound_sp : ∀ (evs : List PyData) (st : Sk) (s : Sk × Option PyData), walkF readF (st, none) evs = .inl s → spSk st →
    ∀ r, s.2 = some r → ∃ f ps, r = runD f ps ∧ sp ps = true ∧ fl st ++ evs = trE f ps
  | [], st, s, h, _, r, hr => by
    cases h; cases hr
  | ev :: evs, st, s, h, hs, r, hr => by
    cases q : readF (st, none) ev with
    | inr _ => rw [walkF_inr q] at h; cases h
    | inl s1 =>
      rw [walkF_inl q] at h
      obtain ⟨hs1, hs2⟩ := read_step_sp q hs
      obtain ⟨st1, d1⟩ := s1
      rcases read_step q with ⟨e1, e2⟩ | ⟨f, ps, e1, e2, e3⟩
      · dsimp only at e1 e2
        subst e1
        obtain ⟨f, ps, h1, h3, h2⟩ := read_sound_sp evs st1 s h hs1 r hr
        exact ⟨f, ps, h1, h3, by rw [← h2, e2]; simp⟩
      · have hsp := hs2 f ps e1
        dsimp only at e1 e2
        subst e1 e2
        cases evs with
        | nil =>
          cases h
          cases hr
          exact ⟨f, ps, rfl, hsp, by rw [e3]⟩
        | cons ev2 evs =>
          rw [walkF_inr (b := ()) (by rfl)] at h; cases h
theorem ndL_sp : ∀ (ps : List PyData), sp ps = true → ndL ps ≤ 3 * (evP ps).length
  | [], _ => by simp [ndL]
  | p :: ps, h => by
    cases sp_pk h with
    | int i =>
      rw [sp_int] at h
      have := ndL_sp ps h
      rw [evP_int]; simp [ndL, nd]; omega
    | run g qs =>
      rw [sp_run, Bool.and_eq_true] at h
      have h1 := ndL_sp ps h.2
      have h2 := ndL_sp qs h.1
      rw [evP_run]; simp [ndL, nd]; omega
termination_by ps => sizeOf ps
theorem lay_sp : ∀ (ps : List PyData), sp ps = true → PyData.canLayAll0 ps = true ∧ PyData.depthAll ps ≤ 2 * cR ps
  | [], _ => ⟨rfl, by simp [PyData.depthAll]⟩
  | p :: ps, h => by
    cases sp_pk h with
    | int i =>
      rw [sp_int] at h
      obtain ⟨h1, h2⟩ := lay_sp ps h
      refine ⟨by rw [PyData.canLayAll0, h1]; rfl, ?_⟩
      rw [cR_int, PyData.depthAll]
      simp [PyData.depth]; exact h2
    | run g qs =>
      rw [sp_run, Bool.and_eq_true] at h
      obtain ⟨h1, h2⟩ := lay_sp ps h.2
      obtain ⟨h3, h4⟩ := lay_sp qs h.1
      refine ⟨?_, ?_⟩
      · rw [PyData.canLayAll0, h1]
        simp [PyData.canLay0, PyData.canLayAll0, h3]
      · rw [cR_run, PyData.depthAll]
        simp only [PyData.depth, PyData.depthAll]
        omega
termination_by ps => sizeOf ps
theorem shp_runD {f : Int} {ps : List PyData} (h : sp ps = true) (hc : cR ps ≤ 31) : shp (runD f ps) := by
  obtain ⟨h1, h2⟩ := lay_sp ps h
  have c1 : PyData.canLay0 (runD f ps) = true := by simp [runD, PyData.canLay0, PyData.canLayAll0, h1]
  have c2 : PyData.depth (runD f ps) ≤ 64 := by
    simp only [runD, PyData.depth, PyData.depthAll]
    omega
  show (PyData.canLay0 _ && decide (PyData.depth _ ≤ 64)) = true
  rw [c1, decide_eq_true c2]; rfl
/-- the cell of a run that is open -/
def cO (x : Int × List PyData) : Cell := .lst [.p (.int x.1), .p (.tuple x.2)]
theorem co_0 {T : Store} {a : Nat} {x : Int × List PyData} (h : T[a]? = some (cO x)) : fIx (.o a) (.p (.int 0)) T = .ok (.p (.int x.1)) T := by
  show ofO T ((items T (.o a)).bind fun ds => atI ds 0) = _
  have e : items T (.o a) = some [.p (.int x.1), .p (.tuple x.2)] := by
    show T[a]?.bind Cell.seq? = _
    rw [h]; rfl
  rw [e]; rfl
theorem co_1 {T : Store} {a : Nat} {x : Int × List PyData} (h : T[a]? = some (cO x)) : fIx (.o a) (.p (.int 1)) T = .ok (.p (.tuple x.2)) T := by
  show ofO T ((items T (.o a)).bind fun ds => atI ds 1) = _
  have e : items T (.o a) = some [.p (.int x.1), .p (.tuple x.2)] := by
    show T[a]?.bind Cell.seq? = _
    rw [h]; rfl
  rw [e]; rfl
theorem co_set {T : Store} {a : Nat} {x : Int × List PyData} {qs : List PyData} (h : T[a]? = some (cO x)) : setAt (.o a) (.p (.int 1)) (.p (.tuple qs)) T = some (T.set a (cO (x.1, qs))) := by
  show (lstAt T a).bind _ = _
  rw [lstAt_of h]
  rfl
abbrev lpRead : Fs := sSeq (sIf (eT (eBin (fIs true) (eVar 3) (eC .none))) (sRet (eC .none)) sNil) (sIf (eT (eUn (fIsi "tuple") (eVar 4))) (sSeq (sIf (bOr (eT (eBin (fEq true) (eCB (on1 fLen) (aCons (eVar 4) aNil)) (eC (.int 2)))) (bOr (bNot (eT (eUn (fIsi "str") (eBin fIx (eVar 4) (eC (.int 0)))))) (bNot (eT (eCB F__law_whole (aCons (eBin fIx (eVar 4) (eC (.int 1))) aNil)))))) (sRet (eC .none)) sNil) (sIf (eT (eBin (fEq false) (eBin fIx (eVar 4) (eC (.int 0))) (eC (.str "in")))) (sExpr (eApp (eVar 2) (eCell (aCons (eBin fIx (eVar 4) (eC (.int 1))) (aCons (eTup aNil) aNil))))) (sIf (bOr (eT (eBin (fEq true) (eBin fIx (eVar 4) (eC (.int 0))) (eC (.str "out")))) (bOr (eT (eBin fEqNil (eVar 2) (eLst aNil))) (eT (eBin (fEq true) (eBin fIx (eBin fIx (eVar 2) (eUn fNeg (eC (.int 1)))) (eC (.int 0))) (eBin fIx (eVar 4) (eC (.int 1))))))) (sRet (eC .none)) (sSeq (sSet 5 (ePop (eVar 2))) (sIf (eT (eBin fEqNil (eVar 2) (eLst aNil))) (sSet 3 (eTup (aCons (eBin fIx (eVar 5) (eC (.int 0))) (aCons (eBin fIx (eVar 5) (eC (.int 1))) aNil)))) (sItem (eBin fIx (eVar 2) (eUn fNeg (eC (.int 1)))) (eC (.int 1)) (eBin fAdd (eBin fIx (eBin fIx (eVar 2) (eUn fNeg (eC (.int 1)))) (eC (.int 1))) (eTup (aCons (eTup (aCons (eBin fIx (eVar 5) (eC (.int 0))) (aCons (eBin fIx (eVar 5) (eC (.int 1))) aNil))) aNil))))))))) (sIf (bOr (eT (eBin fEqNil (eVar 2) (eLst aNil))) (bNot (eT (eCB F__law_whole (aCons (eVar 4) aNil))))) (sRet (eC .none)) (sItem (eBin fIx (eVar 2) (eUn fNeg (eC (.int 1)))) (eC (.int 1)) (eBin fAdd (eBin fIx (eBin fIx (eVar 2) (eUn fNeg (eC (.int 1)))) (eC (.int 1))) (eTup (aCons (eVar 4) aNil))))))
structure RR (S : Store) (j : Nat) (T : Store) (st : Sk) : Prop where
  as_ : ∃ as, Stk cO S.length j T as st
  lj : S.length ≤ j
  pre : ∀ i, i < S.length → T[i]? = S[i]?
theorem RR.len {S T : Store} {j : Nat} {st : Sk} (h : RR S j T st) : S.length ≤ T.length := by
  obtain ⟨as, K⟩ := h.as_
  have := K.jlt
  have := h.lj
  omega
def dnD : Option PyData → PyData
  | some r => r
  | none => .none
def isStrD : PyData → Bool
  | .str _ => true
  | _ => false
def notNone : PyData → Bool
  | .none => false
  | _ => true
theorem isi_str (S : Store) (d : PyData) (h : noDict d = true) : fIsi "str" (.p d) S = .ok (.p (.bool (isStrD d))) S := by
  cases d <;> first | (cases h; done) | rfl
theorem neOut (S : Store) (a : Str) (h : PyData.strOk a = true) : fEq true (.p (.str a)) (.p (.str "out")) S = .ok (.p (.bool (!(a == "out")))) S := by
  have h1 : SeqAt.shaped (.str a) = true := by simp [SeqAt.shaped, PyData.canLay0, PyData.depth, h]
  have h2 : SeqAt.shaped (.str "out") = true := by decide +kernel
  simp [fEq, toPy, h1, h2, PyData.eqv]
theorem is_not_none (S : Store) (d : PyData) (h : d = .none ∨ ∃ ds, d = .tuple ds) : fIs true (.p d) (.p .none) S = .ok (.p (.bool (notNone d))) S := by
  rcases h with rfl | ⟨ds, rfl⟩ <;> rfl
theorem read_store {S T : Store} {j : Nat} {st : Sk} {cs v ev : PyData} {x5 : Option D} (R : RR S j T st) (hev : shp ev) (hz : (fl st).length < 16777000) :
    match readF (st, none) ev with
    | .inl (st', dn) => ∃ x5' T', lpRead [some (.p cs), some (.p v), some (.o j), some (.p .none), some (.p ev), x5] T = .nx [some (.p cs), some (.p v), some (.o j), some (.p (dnD dn)), some (.p ev), x5'] T' ∧ RR S j T' st'
    | .inr _ => lpRead [some (.p cs), some (.p v), some (.o j), some (.p .none), some (.p ev), x5] T = .rt (.p .none) T := by
  have hlen := R.len
  obtain ⟨⟨as, K⟩, hlj, hpre⟩ := R
  have hzs : st.length < 16777000 := by have := len_fl st; omega
  have nn := is_not_none T .none (.inl rfl)
  have nn : fIs true (.p .none) (.p .none) T = .ok (.p (.bool false)) T := nn
  have hn := lay_noDict (shp_lay hev)
  have it := isi_tupD T ev hn
  have knil := K.nil
  have evT : ∀ ds : List PyData, (¬ ∃ x g, ds = [.str x, .int g]) → readF (st, none) (.tuple ds) = .inr () := fun ds h => by
    unfold readF
    dsimp only
    split
    · rename_i e; cases e; exact absurd ⟨_, _, rfl⟩ h
    · rename_i e; cases e
    · rfl
  cases ev with
  | tuple ds =>
    have it : fIsi "tuple" (.p (.tuple ds)) T = .ok (.p (.bool true)) T := it
    have il := len_tup T ds
    by_cases hl : ds.length = 2
    · match ds, hl with
      | [a, b], _ =>
        have il : fLen (.p (.tuple [a, b])) T = .ok (.p (.int 2)) T := il
        have i2 := neInt T 2 2
        have ha := shp_tup hev a (by simp)
        have hb := shp_tup hev b (by simp)
        have ix0 : ∀ T, fIx (.p (.tuple [a, b])) (.p (.int 0)) T = .ok (.p a) T := fun _ => rfl
        have ix1 : ∀ T, fIx (.p (.tuple [a, b])) (.p (.int 1)) T = .ok (.p b) T := fun _ => rfl
        have is := isi_str T a (lay_noDict (shp_lay ha))
        have iw := law_whole_ok b (lay_noDict (shp_lay hb)) T
        by_cases hx : ∃ x, a = .str x
        · obtain ⟨x, rfl⟩ := hx
          have is : fIsi "str" (.p (.str x)) T = .ok (.p (.bool true)) T := is
          by_cases hg : ∃ g, b = .int g
          · obtain ⟨g, rfl⟩ := hg
            have iw : F__law_whole [.p (.int g)] T = .ok (.p (.bool true)) T := iw
            have hxo : PyData.strOk x = true := by
              have := shp_lay ha
              simpa [lay, PyData.canLay0] using this
            have se := strEq T x hxo
            have so := neOut T x hxo
            by_cases h1 : (x == "in") = true
            · rw [h1] at se
              have e0 : readF (st, none) (.tuple [.str x, .int g]) = .inl ((g, []) :: st, none) := by
                unfold readF; dsimp only; rw [if_pos h1]
              rw [e0]
              have h3 := K.isL
              have h4 := (K.ext (d := cO (g, []))).kapp (by omega) (.o T.length)
              have K2 := K.push (x := (g, [])) hlen
              refine ⟨x5, _, ?_, ⟨⟨_, K2⟩, hlj, pre_set (pre_ext hpre hlen) hlj⟩⟩
              unfold cO at h4 ⊢
              dsimp only at h4 ⊢
              simp [sSeq, thenS, sIf, sSet, sRet, sExpr, eT, asB, eIf, eAnd, eOr, eNot, eChain, onB, eBin, eUn, eVar, eC, eCB, on1, on2, aCons, aNil, eTup, eLst, eCell, kTup, kLst, kCell, asPs, bAnd, bOr, bNot, M.bind, M.pure, bindS, slots, finR, sizeLine_eq, lpRead, nn, it, il, i2, ix0, ix1, is, iw, se, sNil, eApp, h3, h4, dnD]
            · have h1' : (x == "in") = false := by simpa using h1
              rw [h1'] at se
              by_cases h2 : (x == "out") = true
              · rw [h2] at so
                cases st with
                | nil =>
                  have e0 : readF ([], none) (.tuple [.str x, .int g]) = .inr () := by
                    unfold readF; dsimp only; rw [if_neg h1, if_pos h2]
                  rw [e0]
                  have knil : fEqNil (.o j) (.p (.list [])) T = .ok (.p (.bool true)) T := knil
                  simp [sSeq, thenS, sIf, sSet, sRet, sExpr, eT, asB, eIf, eAnd, eOr, eNot, eChain, onB, eBin, eUn, eVar, eC, eCB, on1, on2, aCons, aNil, eTup, eLst, eCell, kTup, kLst, kCell, asPs, bAnd, bOr, bNot, M.bind, M.pure, bindS, slots, finR, sizeLine_eq, lpRead, nn, it, il, i2, ix0, ix1, is, iw, se, so, sNil, knil]
                | cons y r =>
                  obtain ⟨f, ps⟩ := y
                  cases as with
                  | nil => have := K.cells.len; simp at this
                  | cons c as =>
                  have knil : fEqNil (.o j) (.p (.list [])) T = .ok (.p (.bool false)) T := knil
                  have hlast := K.last
                  have c0 := co_0 K.topcell
                  dsimp only at c0
                  have q2 := neInt T f g
                  by_cases hfg : f = g
                  · subst hfg
                    have p2 := K.kpop
                    have K2 := K.pop
                    have hja : j ≠ c := fun e => K.out (by simp [e])
                    have t1 : (T.set j (.lst (as.reverse.map D.o)))[c]? = some (cO (f, ps)) := by
                      rw [List.getElem?_set_ne hja]; exact K.topcell
                    have d0 := co_0 t1
                    have d1 := co_1 t1
                    dsimp only at d0 d1
                    have knil2 := K2.nil
                    cases r with
                    | nil =>
                      have e0 : readF ([(f, ps)], none) (.tuple [.str x, .int f]) = .inl ([], some (runD f ps)) := by
                        unfold readF; dsimp only; rw [if_neg h1, if_pos h2, if_pos rfl]
                      rw [e0]
                      have knil2 : fEqNil (.o j) (.p (.list [])) (T.set j (.lst (as.reverse.map D.o))) = .ok (.p (.bool true)) (T.set j (.lst (as.reverse.map D.o))) := knil2
                      refine ⟨some (.o c), _, ?_, ⟨⟨_, K2⟩, hlj, pre_set hpre hlj⟩⟩
                      generalize Cell.lst (as.reverse.map D.o) = cc at *
                      simp [sSeq, thenS, sIf, sSet, sRet, sExpr, eT, asB, eIf, eAnd, eOr, eNot, eChain, onB, eBin, eUn, eVar, eC, eCB, on1, on2, aCons, aNil, eTup, eLst, eCell, kTup, kLst, kCell, asPs, bAnd, bOr, bNot, M.bind, M.pure, bindS, slots, finR, sizeLine_eq, lpRead, nn, it, il, i2, ix0, ix1, is, iw, se, so, sNil, knil, fNeg, hlast, c0, q2, ePop, p2, knil2, d0, d1, dnD, runD]
                    | cons y r =>
                      obtain ⟨f2, qs⟩ := y
                      have e0 : readF ((f, ps) :: (f2, qs) :: r, none) (.tuple [.str x, .int f]) = .inl ((f2, qs ++ [runD f ps]) :: r, none) := by
                        unfold readF; dsimp only; rw [if_neg h1, if_pos h2, if_pos rfl]
                      rw [e0]
                      have knil2 : fEqNil (.o j) (.p (.list [])) (T.set j (.lst (as.reverse.map D.o))) = .ok (.p (.bool false)) (T.set j (.lst (as.reverse.map D.o))) := knil2
                      cases as with
                      | nil => have := K2.cells.len; simp at this
                      | cons c2 as =>
                      have l2 := K2.last
                      have g1 := co_1 K2.topcell
                      have g2 := co_set (qs := qs ++ [runD f ps]) K2.topcell
                      dsimp only at g1 g2
                      have K3 := K2.put (x' := (f2, qs ++ [runD f ps]))
                      have hzq : qs.length + 1 ≤ 16777216 := by
                        have h := len_evP_ge qs
                        simp only [fl, List.length_append, List.length_cons] at hz
                        omega
                      refine ⟨some (.o c), _, ?_, ⟨⟨_, K3⟩, hlj, pre_set (pre_set hpre hlj) (K2.low c2 (by simp))⟩⟩
                      generalize Cell.lst ((c2 :: as).reverse.map D.o) = cc at *
                      unfold runD at g2 ⊢
                      simp [sSeq, thenS, sIf, sSet, sRet, sExpr, eT, asB, eIf, eAnd, eOr, eNot, eChain, onB, eBin, eUn, eVar, eC, eCB, on1, on2, aCons, aNil, eTup, eLst, eCell, kTup, kLst, kCell, asPs, bAnd, bOr, bNot, M.bind, M.pure, bindS, slots, finR, sizeLine_eq, lpRead, nn, it, il, i2, ix0, ix1, is, iw, se, so, sNil, knil, fNeg, hlast, c0, q2, ePop, p2, knil2, d0, d1, dnD, sItem, l2, g1, g2, fAdd, hzq, nxO]
                  · have e0 : readF ((f, ps) :: r, none) (.tuple [.str x, .int g]) = .inr () := by
                      unfold readF; dsimp only; rw [if_neg h1, if_pos h2]
                      cases r with
                      | nil => dsimp only; rw [if_neg hfg]
                      | cons y r => obtain ⟨f2, qs⟩ := y; dsimp only; rw [if_neg hfg]
                    rw [e0]
                    simp [sSeq, thenS, sIf, sSet, sRet, sExpr, eT, asB, eIf, eAnd, eOr, eNot, eChain, onB, eBin, eUn, eVar, eC, eCB, on1, on2, aCons, aNil, eTup, eLst, eCell, kTup, kLst, kCell, asPs, bAnd, bOr, bNot, M.bind, M.pure, bindS, slots, finR, sizeLine_eq, lpRead, nn, it, il, i2, ix0, ix1, is, iw, se, so, sNil, knil, fNeg, hlast, c0, q2, hfg]
              · have h2' : (x == "out") = false := by simpa using h2
                rw [h2'] at so
                have e0 : readF (st, none) (.tuple [.str x, .int g]) = .inr () := by
                  unfold readF; dsimp only; rw [if_neg h1, if_neg h2]
                rw [e0]
                simp [sSeq, thenS, sIf, sSet, sRet, sExpr, eT, asB, eIf, eAnd, eOr, eNot, eChain, onB, eBin, eUn, eVar, eC, eCB, on1, on2, aCons, aNil, eTup, eLst, eCell, kTup, kLst, kCell, asPs, bAnd, bOr, bNot, M.bind, M.pure, bindS, slots, finR, sizeLine_eq, lpRead, nn, it, il, i2, ix0, ix1, is, iw, se, so, sNil]
          · rw [evT _ (by rintro ⟨x', g', e⟩; simp at e; exact hg ⟨_, e.2⟩)]
            have iw : F__law_whole [.p b] T = .ok (.p (.bool false)) T := by
              rw [iw]
              have : isInt b = false := by cases b <;> first | rfl | exact absurd ⟨_, rfl⟩ hg
              rw [this]
            simp [sSeq, thenS, sIf, sSet, sRet, sExpr, eT, asB, eIf, eAnd, eOr, eNot, eChain, onB, eBin, eUn, eVar, eC, eCB, on1, on2, aCons, aNil, eTup, eLst, eCell, kTup, kLst, kCell, asPs, bAnd, bOr, bNot, M.bind, M.pure, bindS, slots, finR, sizeLine_eq, lpRead, nn, it, il, i2, ix0, ix1, is, iw, sNil]
        · rw [evT _ (by rintro ⟨x', g', e⟩; simp at e; exact hx ⟨_, e.1⟩)]
          have is : fIsi "str" (.p a) T = .ok (.p (.bool false)) T := by
            rw [is]
            have : isStrD a = false := by cases a <;> first | rfl | exact absurd ⟨_, rfl⟩ hx
            rw [this]
          simp [sSeq, thenS, sIf, sSet, sRet, sExpr, eT, asB, eIf, eAnd, eOr, eNot, eChain, onB, eBin, eUn, eVar, eC, eCB, on1, on2, aCons, aNil, eTup, eLst, eCell, kTup, kLst, kCell, asPs, bAnd, bOr, bNot, M.bind, M.pure, bindS, slots, finR, sizeLine_eq, lpRead, nn, it, il, i2, ix0, ix1, is, sNil]
    · rw [evT _ (by rintro ⟨x', g', e⟩; exact hl (by rw [e]; rfl))]
      have i2 := eqInts_ne T ds.length hl
      generalize ((ds.length : Nat) : Int) = len at il i2
      simp [sSeq, thenS, sIf, sSet, sRet, sExpr, eT, asB, eIf, eAnd, eOr, eNot, eChain, onB, eBin, eUn, eVar, eC, eCB, on1, on2, aCons, aNil, eTup, eLst, eCell, kTup, kLst, kCell, asPs, bAnd, bOr, bNot, M.bind, M.pure, bindS, slots, finR, sizeLine_eq, lpRead, nn, it, il, i2, sNil]
  | int i =>
    have it : fIsi "tuple" (.p (.int i)) T = .ok (.p (.bool false)) T := it
    have iw : F__law_whole [.p (.int i)] T = .ok (.p (.bool true)) T := law_whole_ok (.int i) rfl T
    cases st with
    | nil =>
      have e0 : readF ([], none) (.int i) = .inr () := rfl
      rw [e0]
      have knil : fEqNil (.o j) (.p (.list [])) T = .ok (.p (.bool true)) T := knil
      simp [sSeq, thenS, sIf, sSet, sRet, sExpr, eT, asB, eIf, eAnd, eOr, eNot, eChain, onB, eBin, eUn, eVar, eC, eCB, on1, on2, aCons, aNil, eTup, eLst, eCell, kTup, kLst, kCell, asPs, bAnd, bOr, bNot, M.bind, M.pure, bindS, slots, finR, sizeLine_eq, lpRead, nn, it, sNil, knil]
    | cons y r =>
      obtain ⟨f, ps⟩ := y
      have e0 : readF ((f, ps) :: r, none) (.int i) = .inl ((f, ps ++ [.int i]) :: r, none) := rfl
      rw [e0]
      have knil : fEqNil (.o j) (.p (.list [])) T = .ok (.p (.bool false)) T := knil
      cases as with
      | nil => have := K.cells.len; simp at this
      | cons c as =>
      have hlast := K.last
      have g1 := co_1 K.topcell
      have g2 := co_set (qs := ps ++ [.int i]) K.topcell
      dsimp only at g1 g2
      have K3 := K.put (x' := (f, ps ++ [.int i]))
      have hzq : ps.length + 1 ≤ 16777216 := by
        have h := len_evP_ge ps
        simp only [fl, List.length_append, List.length_cons] at hz
        omega
      refine ⟨x5, _, ?_, ⟨⟨_, K3⟩, hlj, pre_set hpre (K.low c (by simp))⟩⟩
      simp [sSeq, thenS, sIf, sSet, sRet, sExpr, eT, asB, eIf, eAnd, eOr, eNot, eChain, onB, eBin, eUn, eVar, eC, eCB, on1, on2, aCons, aNil, eTup, eLst, eCell, kTup, kLst, kCell, asPs, bAnd, bOr, bNot, M.bind, M.pure, bindS, slots, finR, sizeLine_eq, lpRead, nn, it, sNil, knil, iw, fNeg, hlast, sItem, g1, g2, fAdd, hzq, nxO, dnD]
  | dict _ => cases hn
  | _ =>
    have iw := law_whole_ok _ hn T
    simp only [readF]
    cases st with
    | nil =>
      have knil : fEqNil (.o j) (.p (.list [])) T = .ok (.p (.bool true)) T := knil
      simp [sSeq, thenS, sIf, sSet, sRet, sExpr, eT, asB, eIf, eAnd, eOr, eNot, eChain, onB, eBin, eUn, eVar, eC, eCB, on1, on2, aCons, aNil, eTup, eLst, eCell, kTup, kLst, kCell, asPs, bAnd, bOr, bNot, M.bind, M.pure, bindS, slots, finR, sizeLine_eq, lpRead, nn, it, isTupD', sNil, knil]
    | cons y r =>
      have knil : fEqNil (.o j) (.p (.list [])) T = .ok (.p (.bool false)) T := knil
      simp [sSeq, thenS, sIf, sSet, sRet, sExpr, eT, asB, eIf, eAnd, eOr, eNot, eChain, onB, eBin, eUn, eVar, eC, eCB, on1, on2, aCons, aNil, eTup, eLst, eCell, kTup, kLst, kCell, asPs, bAnd, bOr, bNot, M.bind, M.pure, bindS, slots, finR, sizeLine_eq, lpRead, nn, it, isTupD', sNil, knil, iw, isInt]
end LK
set_option Elab.async false
set_option linter.all false
set_option maxRecDepth 100000
set_option maxHeartbeats 400000
namespace LK
open PySem PySem.Spec L2 DL
/-- the plain reading of any value -/
def readV (E : Es) : PyData → Option PyData
  | .tuple evs => readR E evs
  | _ => none
theorem read_ok {E : Es} {k : Int} (S : Store) (v : PyData) (hs : shp v) (hz : nd v < 5000000) (hd : ∀ f ps, sp ps = true → v = .tuple (trE f ps) → shp (runD f ps)) :
    ∃ T, F__law_read [.p (.tuple [.int k, .tuple (E.map edgeD)]), .p v] S = .ok (.p (dnD (readV E v))) (S ++ T) := by
  have hn := lay_noDict (shp_lay hs)
  have it := isi_tupD S v hn
  suffices hh : ∃ T, g__law_read [some (.p (.tuple [.int k, .tuple (E.map edgeD)])), some (.p v), none, none, none, none] S = .rt (.p (dnD (readV E v))) (S ++ T) by
    obtain ⟨T, hh⟩ := hh
    refine ⟨T, ?_⟩
    show finR (g__law_read [some (.p (.tuple [.int k, .tuple (E.map edgeD)])), some (.p v), none, none, none, none] S) = _
    rw [hh]
    rfl
  unfold g__law_read
  by_cases ht : ∃ evs, v = .tuple evs
  · obtain ⟨evs, rfl⟩ := ht
    have it : fIsi "tuple" (.p (.tuple evs)) S = .ok (.p (.bool true)) S := it
    have i0 := eqTup0 S evs hs
    have hlen : evs.length < 5000000 := by
      have := len_ndL evs
      simp [nd] at hz; omega
    cases evs with
    | nil =>
      have i0 : fEq false (.p (.tuple [])) (.p (.tuple [])) S = .ok (.p (.bool true)) S := i0
      refine ⟨[], ?_⟩
      rw [List.append_nil]
      have : readV E (.tuple []) = none := rfl
      rw [this]
      exact stpr (by simp [sSeq, thenS, sIf, sSet, sRet, sExpr, eT, asB, eIf, eAnd, eOr, eNot, eChain, onB, eBin, eUn, eVar, eC, eCB, on1, on2, aCons, aNil, eTup, eLst, eCell, kTup, kLst, kCell, asPs, bAnd, bOr, bNot, M.bind, M.pure, bindS, slots, finR, sizeLine_eq, it, i0, dnD])
    | cons e0 evs0 =>
      have i0 : fEq false (.p (.tuple (e0 :: evs0))) (.p (.tuple [])) S = .ok (.p (.bool false)) S := i0
      generalize e0 :: evs0 = evs at *
      rw [stp (ρ' := [some (.p (.tuple [.int k, .tuple (E.map edgeD)])), some (.p (.tuple evs)), none, none, none, none]) (S' := S) (by simp [sSeq, thenS, sIf, sSet, sRet, sExpr, eT, asB, eIf, eAnd, eOr, eNot, eChain, onB, eBin, eUn, eVar, eC, eCB, on1, on2, aCons, aNil, eTup, eLst, eCell, kTup, kLst, kCell, asPs, bAnd, bOr, bNot, M.bind, M.pure, bindS, slots, finR, sizeLine_eq, it, i0, sNil])]
      rw [stp (ρ' := [some (.p (.tuple [.int k, .tuple (E.map edgeD)])), some (.p (.tuple evs)), some (.o S.length), none, none, none]) (S' := S ++ [.lst []]) (by simp [sSeq, thenS, sIf, sSet, sRet, sExpr, eT, asB, eIf, eAnd, eOr, eNot, eChain, onB, eBin, eUn, eVar, eC, eCB, on1, on2, aCons, aNil, eTup, eLst, eCell, kTup, kLst, kCell, asPs, bAnd, bOr, bNot, M.bind, M.pure, bindS, slots, finR, sizeLine_eq])]
      rw [stp (ρ' := [some (.p (.tuple [.int k, .tuple (E.map edgeD)])), some (.p (.tuple evs)), some (.o S.length), some (.p .none), none, none]) (S' := S ++ [.lst []]) (by simp [sSeq, thenS, sIf, sSet, sRet, sExpr, eT, asB, eIf, eAnd, eOr, eNot, eChain, onB, eBin, eUn, eVar, eC, eCB, on1, on2, aCons, aNil, eTup, eLst, eCell, kTup, kLst, kCell, asPs, bAnd, bOr, bNot, M.bind, M.pure, bindS, slots, finR, sizeLine_eq])]
      have R0 : RR S S.length (S ++ [.lst []]) [] := by
        refine ⟨⟨[], ⟨by simp, .nil, by simp, by simp, by simp⟩⟩, by omega, fun i hi => ?_⟩
        rw [List.getElem?_append_left hi]
      have hsh := shp_tup hs
      have hs1 : ∀ T, srcSeq (eVar 1) [some (.p (.tuple [.int k, .tuple (E.map edgeD)])), some (.p (.tuple evs)), some (.o S.length), some (.p .none), none, none] T = .ok (.seq (.p (.tuple evs))) T := fun T => by
        simp [srcSeq, eVar, M.bind, ofSeq, seqItems]
      have L := for_fold (α := Sk × Option PyData) (β := Unit) (t := tName 4) (u := lpRead) evs readF
        (fun rest s ρ T => (∃ x4 x5, ρ = [some (.p (.tuple [.int k, .tuple (E.map edgeD)])), some (.p (.tuple evs)), some (.o S.length), some (.p (dnD s.2)), x4, x5]) ∧ RR S S.length T s.1 ∧ (∀ r, s.2 = some r → ∃ f ps, r = runD f ps) ∧ (s.2 = none → (fl s.1).length + rest.length ≤ evs.length))
        (fun _ d T => d = .p .none ∧ S.length ≤ T.length ∧ ∀ i, i < S.length → T[i]? = S[i]?)
        (a := ([], none)) (hs1 _) (seq_tup_count _ _) (seq_tup_nxt _) ⟨⟨_, _, rfl⟩, R0, (fun r e => by cases e), fun _ => by simp [fl]⟩
        (fun ev rest s ρ T hev ⟨⟨x4, x5, hρ⟩, R, hr, hsz⟩ => by
          subst hρ
          obtain ⟨st, dn⟩ := s
          dsimp only at R hr hsz ⊢
          refine ⟨[some (.p (.tuple [.int k, .tuple (E.map edgeD)])), some (.p (.tuple evs)), some (.o S.length), some (.p (dnD dn)), some (.p ev), x5], rfl, ?_⟩
          cases dn with
          | some r =>
            obtain ⟨f, ps, rfl⟩ := hr r rfl
            have e0 : readF (st, some (runD f ps)) ev = .inr () := rfl
            rw [e0]
            have nn : fIs true (.p (runD f ps)) (.p .none) T = .ok (.p (.bool true)) T := is_not_none T (runD f ps) (.inr ⟨_, rfl⟩)
            refine ⟨_, T, ?_, rfl, R.len, R.pre⟩
            simp [sSeq, thenS, sIf, sSet, sRet, sExpr, eT, asB, eIf, eAnd, eOr, eNot, eChain, onB, eBin, eUn, eVar, eC, eCB, on1, on2, aCons, aNil, eTup, eLst, eCell, kTup, kLst, kCell, asPs, bAnd, bOr, bNot, M.bind, M.pure, bindS, slots, finR, sizeLine_eq, lpRead, dnD, nn]
          | none =>
            have hsz := hsz rfl
            have rs := read_store (cs := .tuple [.int k, .tuple (E.map edgeD)]) (v := .tuple evs) (x5 := x5) R (hsh ev hev) (by omega)
            have hst : ∀ s', readF (st, none) ev = .inl s' → (s'.2 = none ∧ fl s'.1 = fl st ++ [ev]) ∨ ∃ f ps, s'.2 = some (runD f ps) ∧ s'.1 = [] ∧ trE f ps = fl st ++ [ev] := fun s' h => read_step h
            revert rs hst
            cases readF (st, none) ev with
            | inl s' =>
              obtain ⟨st', dn'⟩ := s'
              rintro ⟨x5', T', e, R'⟩ hst
              have hst := hst _ rfl
              dsimp only at hst ⊢
              refine ⟨_, T', e, ⟨_, _, rfl⟩, R', fun r er => ?_, fun en => ?_⟩
              · rcases hst with ⟨e1, _⟩ | ⟨f, ps, e1, _⟩
                · rw [e1] at er; cases er
                · rw [e1] at er; cases er; exact ⟨f, ps, rfl⟩
              · rcases hst with ⟨_, e2⟩ | ⟨f, ps, e1, _⟩
                · rw [e2]; simp at hsz ⊢; omega
                · rw [e1] at en; cases en
            | inr u =>
              intro e _
              exact ⟨_, T, e, rfl, R.len, R.pre⟩)
      have hsound := fun s (h : walkF readF ([], none) evs = .inl s) => read_sound_sp evs [] s h (fun x hx => by cases hx)
      have hv : readV E (.tuple evs) = readR E evs := rfl
      rw [hv]
      unfold readR
      revert L hsound
      cases walkF readF ([], none) evs with
      | inr u =>
        rintro ⟨d, T', e, rfl, h1, h2⟩ _
        obtain ⟨T, rfl⟩ := pre_of h1 h2
        exact ⟨T, stpr e⟩
      | inl s =>
        obtain ⟨st, dn⟩ := s
        rintro ⟨ρ', T', e, ⟨x4, x5, rfl⟩, R, _, _⟩ hsound
        obtain ⟨T, rfl⟩ := pre_of R.len R.pre
        cases dn with
        | none =>
          refine ⟨T, ?_⟩
          rw [stp e]
          have nn : fIs true (.p .none) (.p .none) (S ++ T) = .ok (.p (.bool false)) (S ++ T) := is_not_none _ .none (.inl rfl)
          simp [sSeq, thenS, sIf, sSet, sRet, sExpr, eT, asB, eIf, eAnd, eOr, eNot, eChain, onB, eBin, eUn, eVar, eC, eCB, on1, on2, aCons, aNil, eTup, eLst, eCell, kTup, kLst, kCell, asPs, bAnd, bOr, bNot, M.bind, M.pure, bindS, slots, finR, sizeLine_eq, dnD, nn]
        | some r =>
          obtain ⟨f, ps, rfl, hsp, hfl⟩ := hsound _ rfl r rfl
          have hev : evs = trE f ps := by simpa [fl] using hfl
          have hsr := hd f ps hsp (by rw [hev])
          have hndr : nd (runD f ps) ≤ 16777215 := by
            have h1 := ndL_sp ps hsp
            have h2 : evs.length = (evP ps).length + 2 := by rw [hev, trE_len]
            simp [runD, nd, ndL]; omega
          obtain ⟨T2, hr⟩ := is_run_ok (E := E) (k := k) (S ++ T) (runD f ps) hsr hndr
          have nn : fIs true (.p (runD f ps)) (.p .none) (S ++ T) = .ok (.p (.bool true)) (S ++ T) := is_not_none _ (runD f ps) (.inr ⟨_, rfl⟩)
          refine ⟨T ++ T2, ?_⟩
          rw [stp e, ← List.append_assoc]
          dsimp only [dnD]
          cases hg : goodRun E (runD f ps) with
          | false => rw [hg] at hr; simp [sSeq, thenS, sIf, sSet, sRet, sExpr, eT, asB, eIf, eAnd, eOr, eNot, eChain, onB, eBin, eUn, eVar, eC, eCB, on1, on2, aCons, aNil, eTup, eLst, eCell, kTup, kLst, kCell, asPs, bAnd, bOr, bNot, M.bind, M.pure, bindS, slots, finR, sizeLine_eq, dnD, nn, hr]
          | true => rw [hg] at hr; simp [sSeq, thenS, sIf, sSet, sRet, sExpr, eT, asB, eIf, eAnd, eOr, eNot, eChain, onB, eBin, eUn, eVar, eC, eCB, on1, on2, aCons, aNil, eTup, eLst, eCell, kTup, kLst, kCell, asPs, bAnd, bOr, bNot, M.bind, M.pure, bindS, slots, finR, sizeLine_eq, dnD, nn, hr]
  · have it : fIsi "tuple" (.p v) S = .ok (.p (.bool false)) S := by
      rw [it]
      have : isTupD' v = false := by cases v <;> first | rfl | exact absurd ⟨_, rfl⟩ ht
      rw [this]
    have : readV E v = none := by
      unfold readV
      split
      · exact absurd ⟨_, rfl⟩ ht
      · rfl
    rw [this]
    refine ⟨[], ?_⟩
    rw [List.append_nil]
    exact stpr (by simp [sSeq, thenS, sIf, sSet, sRet, sExpr, eT, asB, eIf, eAnd, eOr, eNot, eChain, onB, eBin, eUn, eVar, eC, eCB, on1, on2, aCons, aNil, eTup, eLst, eCell, kTup, kLst, kCell, asPs, bAnd, bOr, bNot, M.bind, M.pure, bindS, slots, finR, sizeLine_eq, it, dnD])
end LK
set_option Elab.async false
set_option linter.all false
set_option maxRecDepth 100000
set_option maxHeartbeats 400000
namespace LK
open PySem PySem.Spec L2 DL
/-! drawn calls -/
theorem take_kp {S : Store} {i : Nat} (hb : Bx i S) (m : Int) (hm : 0 < m) (hl : m < 10 ^ 18) :
    ∃ got S', F__law_take [.o i, .p (.int m)] S = .ok (.p (.int got)) S' ∧ 0 ≤ got ∧ got < m ∧ Kp i S S' ∧ S'.length = S.length := by
  obtain ⟨b0, b1, h⟩ := hb
  have hlog : m.natAbs.log2 < 9000 := by
    have h1 : m.natAbs < 2 ^ 60 := by omega
    have h2 : m.natAbs.log2 < 60 := (Nat.log2_lt (by omega)).mpr h1
    omega
  obtain ⟨got, b0', b1', e, h1, h2⟩ := take_ok S i b0 b1 m h hm hlog
  exact ⟨got, _, e, h1, h2, Kp.put ⟨b0, b1, h⟩ b0' b1', by simp⟩
theorem fix_lst {ds : List PyData} {k : Nat} (h : k < ds.length) (S : Store) : fIx (.p (.list ds)) (.p (.int k)) S = .ok (.p ds[k]) S := by
  show ofO S ((items S (.p (.list ds))).bind fun es => atI es k) = _
  rw [items_pl]
  simp only [Option.bind_some]
  unfold atI
  rw [List.length_map, ixN_nat h]
  simp [h, ofO]
theorem pick_kp {S : Store} {i : Nat} (hb : Bx i S) (ds : List PyData) (hn : ds ≠ []) (hl : ds.length < 10 ^ 9) :
    ∃ d S', F__law_pick [.o i, .p (.list ds)] S = .ok (.p d) S' ∧ d ∈ ds ∧ Kp i S S' ∧ S'.length = S.length := by
  have hp : 0 < ds.length := by cases ds; exact absurd rfl hn; simp
  obtain ⟨got, S', e, h0, h1, hk, hs⟩ := take_kp hb ds.length (by omega) (by omega)
  obtain ⟨g, rfl⟩ : ∃ g : Nat, got = g := ⟨got.toNat, by omega⟩
  have hg : g < ds.length := by omega
  have hx := fix_lst hg S'
  have l1 : fLen (.p (.list ds)) S = .ok (.p (.int ds.length)) S := by simp [fLen, items, ofO]
  refine ⟨ds[g], S', ?_, List.getElem_mem hg, hk, hs⟩
  unfold F__law_pick bodyF g__law_pick
  generalize ((ds.length : Nat) : Int) = len at e l1
  generalize (ds[g] : PyData) = d at hx
  simp [sSeq, thenS, sIf, sSet, sRet, sExpr, eT, asB, eIf, eAnd, eOr, eNot, eChain, onB, eBin, eUn, eVar, eC, eCB, on1, on2, aCons, aNil, eTup, eLst, eCell, kTup, kLst, kCell, asPs, bAnd, bOr, bNot, M.bind, M.pure, bindS, slots, finR, sizeLine_eq, l1, e, hx]
theorem box_kp (ns : List Int) (k : Nat) (S : Store) : ∃ c, F__law_box [.s ns, .p (.int k)] S = .ok (.o S.length) (S ++ [c]) ∧ Bx S.length (S ++ [c]) := by
  obtain ⟨b0, b1, e⟩ := box_ok ns k S
  exact ⟨_, e, b0, b1, by simp⟩
/-- all edges of so many functions -/
def allE (k : Nat) : Es := (List.range k).flatMap fun g => (List.range (k - (g + 1))).map fun f => ((g : Int), ((f + g + 1 : Nat) : Int))
theorem all_edges_ok (k : Nat) (hk : k = 1 ∨ k = 2 ∨ k = 3 ∨ k = 4 ∨ k = 5) (S : Store) : F__law_all_edges [.p (.int k)] S = .ok (.p (.list ((allE k).map edgeD))) S := by
  rcases hk with rfl | rfl | rfl | rfl | rfl
  · rfl
  · rfl
  · rfl
  · rfl
  · rfl
/-- what is drawn as calls -/
structure COk (k : Int) (E : Es) : Prop where
  k1 : 1 ≤ k
  k5 : k ≤ 5
  ed : ∀ g f, (g, f) ∈ E → 0 ≤ g ∧ g < f ∧ f < k
  up : E.Pairwise fun (a b : Int × Int) => DL.lexLt [a.1, a.2] [b.1, b.2] = true
  few : E.length ≤ 10
theorem allE_ok (k : Nat) (hk : k = 1 ∨ k = 2 ∨ k = 3 ∨ k = 4 ∨ k = 5) : (∀ e ∈ allE k, 0 ≤ e.1 ∧ e.1 < e.2 ∧ e.2 < (k : Int)) ∧ (allE k).Pairwise (fun (a b : Int × Int) => DL.lexLt [a.1, a.2] [b.1, b.2] = true) ∧ (allE k).length ≤ 10 := by
  rcases hk with rfl | rfl | rfl | rfl | rfl <;> decide +kernel
theorem sublist_map {E : Es} : ∀ {qs : List PyData} , qs.Sublist (E.map edgeD) → ∃ E' : Es, E'.Sublist E ∧ qs = E'.map edgeD := by
  intro qs h
  obtain ⟨l, h1, h2⟩ := List.sublist_map_iff.mp h
  exact ⟨l, h1, h2⟩
theorem calls_ok (ns : List Int) (S : Store) : ∃ k E S', F__law_calls [.s ns] S = .ok (.p (.tuple [.int k, .tuple (E.map edgeD)])) S' ∧ COk k E ∧ (∃ T, S' = S ++ T) := by
  obtain ⟨c, e1, hb⟩ := box_kp ns 0 S
  obtain ⟨d, S1, e2, hd, k1, l1⟩ := pick_kp hb [.int 1, .int 2, .int 3, .int 4, .int 4, .int 5, .int 5, .int 5] (by simp) (by simp)
  obtain ⟨m, S2, e3, hm, k2, l2⟩ := pick_kp k1.box [.int 1, .int 2, .int 4, .int 9] (by simp) (by simp)
  have hd' : ∃ k : Nat, d = .int k ∧ (k = 1 ∨ k = 2 ∨ k = 3 ∨ k = 4 ∨ k = 5) := by
    simp only [List.mem_cons, List.not_mem_nil, or_false] at hd
    rcases hd with rfl | rfl | rfl | rfl | rfl | rfl | rfl | rfl
    · exact ⟨1, rfl, by simp⟩
    · exact ⟨2, rfl, by simp⟩
    · exact ⟨3, rfl, by simp⟩
    · exact ⟨4, rfl, by simp⟩
    · exact ⟨4, rfl, by simp⟩
    · exact ⟨5, rfl, by simp⟩
    · exact ⟨5, rfl, by simp⟩
    · exact ⟨5, rfl, by simp⟩
  have hm' : ∃ m' : Int, m = .int m' ∧ 1 ≤ m' ∧ m' ≤ 9 := by
    simp only [List.mem_cons, List.not_mem_nil, or_false] at hm
    rcases hm with rfl | rfl | rfl | rfl
    · exact ⟨1, rfl, by omega⟩
    · exact ⟨2, rfl, by omega⟩
    · exact ⟨4, rfl, by omega⟩
    · exact ⟨9, rfl, by omega⟩
  obtain ⟨k, rfl, hk⟩ := hd'
  obtain ⟨m', rfl, hm1, hm9⟩ := hm'
  have ae := all_edges_ok k hk S2
  obtain ⟨ao1, ao2, ao3⟩ := allE_ok k hk
  have hsrc : srcSeq (eCB F__law_all_edges (aCons (eVar 2) aNil)) [some (.s ns), some (.o S.length), some (.p (.int k)), some (.p (.int m')), none] S2 = .ok (.seq (.p (.list ((allE k).map edgeD)))) S2 := by
    exact srcSeq_lst ((cb1 (d := .p (.int k)) rfl).trans ae)
  obtain ⟨qs, S3, e4, hk3⟩ := comp_gen (vs := [4]) (t := tName 4) (tb := eT (eBin fGt (eCB F__law_take (aCons (eVar 1) (aCons (eBin fAdd (eVar 3) (eC (.int 1))) aNil))) (eC (.int 0)))) (el := eVar 4) hsrc ((allE k).map edgeD) (seq_lst_count _ _) (seq_lst_nxt _) (by rw [List.length_map]; omega)
    (fun rest acc T => (∃ pre, pre ++ rest = (allE k).map edgeD ∧ acc.Sublist pre) ∧ Kp S.length S2 T) ⟨⟨[], rfl, List.Sublist.refl _⟩, Kp.refl k2.box⟩
    (fun d rest acc T hd ⟨⟨pre, hpre, hsub⟩, hkp⟩ => by
      obtain ⟨got, T', e, _, _, hk', _⟩ := take_kp hkp.box (m' + 1) (by omega) (by omega)
      refine ⟨[some (.s ns), some (.o S.length), some (.p (.int k)), some (.p (.int m')), some (.p d)], decide (0 < got), T', rfl, ?_, fun _ => ?_, fun _ => ⟨d, T', rfl, ?_⟩⟩
      · simp [sSeq, thenS, sIf, sSet, sRet, sExpr, eT, asB, eIf, eAnd, eOr, eNot, eChain, onB, eBin, eUn, eVar, eC, eCB, on1, on2, aCons, aNil, eTup, eLst, eCell, kTup, kLst, kCell, asPs, bAnd, bOr, bNot, M.bind, M.pure, bindS, slots, finR, sizeLine_eq, fAdd, e, fGt, fI0]
      · exact ⟨⟨pre ++ [d], by simpa using hpre, hsub.trans (List.sublist_append_left _ _)⟩, hkp.trans hk'⟩
      · exact ⟨⟨pre ++ [d], by simpa using hpre, hsub.append (List.Sublist.refl _)⟩, hkp.trans hk'⟩)
  obtain ⟨⟨pre, hpre, hsub⟩, hkp⟩ := hk3
  rw [List.append_nil] at hpre
  subst hpre
  obtain ⟨E, hE, rfl⟩ := sublist_map hsub
  have hpre3 : ∀ a, a < S.length → S3[a]? = S[a]? := fun a ha => by
    rw [hkp.same a (by have := k1.len; have := k2.len; simp at *; omega) (by omega), k2.same a (by have := k1.len; simp at *; omega) (by omega), k1.same a (by simp; omega) (by omega), List.getElem?_append_left ha]
  have hlen : S.length ≤ S3.length := by have := k1.len; have := k2.len; have := hkp.len; simp at *; omega
  refine ⟨k, E, S3, ?_, ⟨?_, ?_, fun g f h => ?_, ao2.sublist hE, Nat.le_trans hE.length_le ao3⟩, pre_of hlen hpre3⟩
  · have tu : fTuple (.p (.list (E.map edgeD))) S3 = .ok (.p (.tuple (E.map edgeD))) S3 := by
      show ofO S3 ((items S3 (.p (.list (E.map edgeD)))).bind _) = _
      rw [items_pl]
      simp only [Option.bind_some, asPs_map]
      rfl
    refine finR_of (F := F__law_calls) rfl rfl ?_
    unfold g__law_calls
    rw [stSet (d := .o S.length) (S1 := S ++ [c]) (by rw [cb2 (d := .s ns) rfl rfl]; exact e1)]
    rw [stSet (d := .p (.int k)) (S1 := S1) (by rw [cb2 (d := .o S.length) (S2 := S ++ [c]) rfl (by simp [sSeq, thenS, sIf, sSet, sRet, sExpr, eT, asB, eIf, eAnd, eOr, eNot, eChain, onB, eBin, eUn, eVar, eC, eCB, on1, on2, aCons, aNil, eTup, eLst, eCell, kTup, kLst, kCell, asPs, bAnd, bOr, bNot, M.bind, M.pure, bindS, slots, finR, sizeLine_eq]; rfl)]; exact e2)]
    rw [stSet (d := .p (.int m')) (S1 := S2) (by rw [cb2 (d := .o S.length) (S2 := S1) rfl (by simp [sSeq, thenS, sIf, sSet, sRet, sExpr, eT, asB, eIf, eAnd, eOr, eNot, eChain, onB, eBin, eUn, eVar, eC, eCB, on1, on2, aCons, aNil, eTup, eLst, eCell, kTup, kLst, kCell, asPs, bAnd, bOr, bNot, M.bind, M.pure, bindS, slots, finR, sizeLine_eq]; rfl)]; exact e3)]
    exact sRet_of (tup2 rfl ((cb1 e4).trans tu))
  · rcases hk with rfl | rfl | rfl | rfl | rfl <;> omega
  · rcases hk with rfl | rfl | rfl | rfl | rfl <;> omega
  · exact ao1 (g, f) (hE.subset h)
end LK
set_option Elab.async false
set_option linter.all false
set_option maxRecDepth 100000
set_option maxHeartbeats 400000
namespace LK
open PySem PySem.Spec L2 DL
theorem finR_nx {F : List D → M D} {g : Fs} {n m : Nat} {ds : List D} {S S1 : Store} {ρ' : Sl} (hF : F = bodyF n m g) (hn : ds.length = n) (h : g (slots m ds) S = .nx ρ' S1) : F ds S = .ok (.p .none) S1 := by
  subst hF
  unfold bodyF
  rw [if_pos hn, h]; rfl
/-! calls are made -/
def zipP (xs ys : List PyData) : List PyData := List.zipWith (fun a b => .tuple [a, b]) xs ys
theorem zip_nxt (xs ys : List PyData) (i : Nat) (S : Store) : (SrcV.zip (.p (.tuple xs)) (.p (.tuple ys))).nxt i S = some (((zipP xs ys).map D.p)[i]?) := by
  show (some (xs.map D.p)).bind (fun as => (some (ys.map D.p)).bind fun bs => zipAt as bs i) = _
  simp only [Option.bind_some]
  unfold zipAt zipP
  simp only [List.getElem?_map, List.getElem?_zipWith]
  cases hx : xs[i]? with
  | none => simp
  | some x =>
    cases hy : ys[i]? with
    | none => simp
    | some y => simp [pairUp]
theorem zip_count (xs ys : List PyData) (S : Store) : (SrcV.zip (.p (.tuple xs)) (.p (.tuple ys))).count S = (zipP xs ys).length := by
  show min (((some (xs.map D.p)).map List.length).getD 0) (((some (ys.map D.p)).map List.length).getD 0) = _
  simp [zipP]
theorem cut_rest {α : Type} (xs : List α) : cutL xs (some 1) none = xs.drop 1 := by
  have e : HT.sIx xs.length 0 (some 1) = min 1 xs.length := by
    simp only [HT.sIx]
    rw [if_neg (by omega)]
    rfl
  have e2 : HT.sIx xs.length xs.length none = xs.length := rfl
  unfold cutL
  rw [e, e2]
  cases xs with
  | nil => rfl
  | cons x xs =>
    have : min 1 (x :: xs).length = 1 := by simp
    rw [this]
    apply List.take_of_length_le
    simp
theorem bools_of (l : List PyData) (h : ∀ d ∈ l, d = .bool true) (S : Store) : fAll (.p (.list l)) S = .ok (.p (.bool true)) S := by
  have e : l = (l.map fun _ => true).map PyData.bool := by
    induction l with
    | nil => rfl
    | cons d l ih => rw [List.map_cons, List.map_cons, ← ih (fun d hd => h d (by simp [hd])), h d (by simp)]
  rw [e, all_bools]
  simp
theorem lt_edge (a b : Int × Int) (S : Store) : fLtD (.p (edgeD a)) (.p (edgeD b)) S = .ok (.p (.bool (DL.lexLt [a.1, a.2] [b.1, b.2]))) S := rfl
theorem pairwise_zip {R : Int × Int → Int × Int → Bool} : ∀ {E : Es}, E.Pairwise (fun a b => R a b = true) → ∀ d ∈ zipP (E.map edgeD) ((E.map edgeD).drop 1), ∃ a b, d = .tuple [edgeD a, edgeD b] ∧ R a b = true
  | [], _, d, hd => by simp [zipP] at hd
  | [a], _, d, hd => by simp [zipP] at hd
  | a :: b :: E, h, d, hd => by
    have hd : d ∈ (.tuple [edgeD a, edgeD b]) :: zipP ((b :: E).map edgeD) (((b :: E).map edgeD).drop 1) := hd
    have hp := List.pairwise_cons.mp h
    rcases List.mem_cons.mp hd with rfl | hd
    · exact ⟨a, b, rfl, hp.1 b (by simp)⟩
    · exact pairwise_zip hp.2 d hd
theorem asc_ok {E : Es} (h : E.Pairwise fun (a b : Int × Int) => DL.lexLt [a.1, a.2] [b.1, b.2] = true) (hl : E.length ≤ 10) (S : Store) : F_is_ascending [.p (.tuple (E.map edgeD))] S = .ok (.p (.bool true)) S := by
  have f1 : fSl (some 1) none (.p (.tuple (E.map edgeD))) S = .ok (.p (.tuple ((E.map edgeD).drop 1))) S := by
    show M.pure _ S = _
    rw [cut_rest]; rfl
  have hsrc : srcZip2 (eVar 0) (eSl (eVar 0) (oSome (eC (.int 1))) oNone) [some (.p (.tuple (E.map edgeD))), none, none] S = .ok (.zip (.p (.tuple (E.map edgeD))) (.p (.tuple ((E.map edgeD).drop 1)))) S := by
    generalize E.map edgeD = es at f1
    simp [srcZip2, eSl, oSome, asI, oNone, aCons, aNil, eVar, eC, M.bind, M.pure, f1, ofZip2, isTup, seqItems]
  have hlen : (zipP (E.map edgeD) ((E.map edgeD).drop 1)).length < 16777216 := by simp [zipP]; omega
  obtain ⟨qs, S', e, hq, rfl⟩ := comp_gen (vs := [1, 2]) (t := tTupT 2 (tsCons (tName 1) (tsCons (tName 2) tsNil))) (tb := fun _ => M.pure true) (el := eBin fLtD (eVar 1) (eVar 2)) hsrc _ (zip_count _ _ _) (zip_nxt _ _) hlen
    (fun _ acc T => (∀ d ∈ acc, d = .bool true) ∧ T = S) ⟨fun d hd => by (cases hd), rfl⟩
    (fun d rest acc T hd ⟨ha, hT⟩ => by
      subst hT
      obtain ⟨a, b, rfl, hr⟩ := pairwise_zip h d hd
      refine ⟨[some (.p (.tuple (E.map edgeD))), some (.p (edgeD a)), some (.p (edgeD b))], true, T, rfl, rfl, (fun h => by cases h), fun _ => ⟨.bool true, T, ?_, fun d hd => ?_, rfl⟩⟩
      · have := lt_edge a b T
        rw [hr] at this
        exact (bin_of (d := .p (edgeD a)) rfl rfl).trans this
      · rcases List.mem_append.mp hd with hd | hd
        · exact ha d hd
        · simpa using hd)
  refine finR_of (F := F_is_ascending) rfl rfl ?_
  exact sRet_of ((cb1 e).trans (bools_of qs hq _))
theorem upward_ok {k : Int} {e : Int × Int} (h : 0 ≤ e.1 ∧ e.1 < e.2 ∧ e.2 < k) (S : Store) : F_is_upward_pair [.p (.int k), .p (edgeD e)] S = .ok (.p (.bool true)) S := by
  obtain ⟨g, f⟩ := e
  dsimp only at h
  have t2 := is_pair_ok (edgeD (g, f)) rfl S
  have t2 : F_is_pair [.p (edgeD (g, f))] S = .ok (.p (.bool true)) S := t2
  have ix0 : fIx (.p (edgeD (g, f))) (.p (.int 0)) S = .ok (.p (.int g)) S := rfl
  have ix1 : fIx (.p (edgeD (g, f))) (.p (.int 1)) S = .ok (.p (.int f)) S := rfl
  have f0 := is_integer_in_ok (.int g) rfl 0 (k - 1) S
  have f1 := is_integer_in_ok (.int f) rfl 0 (k - 1) S
  have e0 : inRange 0 (k - 1) (.int g) = true := by simp [inRange]; omega
  have e1 : inRange 0 (k - 1) (.int f) = true := by simp [inRange]; omega
  rw [e0] at f0
  rw [e1] at f1
  have lt : g < f := h.2.1
  generalize edgeD (g, f) = d at *
  unfold F_is_upward_pair bodyF g_is_upward_pair
  simp [sSeq, thenS, sIf, sSet, sRet, sExpr, eT, asB, eIf, eAnd, eOr, eNot, eChain, onB, eBin, eUn, eVar, eC, eCB, on1, on2, aCons, aNil, eTup, eLst, eCell, kTup, kLst, kCell, asPs, bAnd, bOr, bNot, M.bind, M.pure, bindS, slots, finR, sizeLine_eq, t2, ix0, ix1, f0, f1, fLt, fI0, lt, fSub]
theorem are_edges_ok {k : Int} {E : Es} (h : COk k E) (S : Store) : F_are_upward_pairs [.p (.int k), .p (.tuple (E.map edgeD))] S = .ok (.p (.bool true)) S := by
  have i1 := isi_tup S (E.map edgeD)
  have as := asc_ok h.up h.few S
  have hsrc : srcSeq (eVar 1) [some (.p (.int k)), some (.p (.tuple (E.map edgeD))), none] S = .ok (.seq (.p (.tuple (E.map edgeD)))) S := srcSeq_tup rfl
  obtain ⟨qs, S', e, hq, rfl⟩ := comp_gen (vs := [2]) (t := tName 2) (tb := fun _ => M.pure true) (el := eCB F_is_upward_pair (aCons (eVar 0) (aCons (eVar 2) aNil))) hsrc _ (seq_tup_count _ _) (seq_tup_nxt _) (by rw [List.length_map]; have := h.few; omega)
    (fun _ acc T => (∀ d ∈ acc, d = .bool true) ∧ T = S) ⟨fun d hd => by (cases hd), rfl⟩
    (fun d rest acc T hd ⟨ha, hT⟩ => by
      subst hT
      obtain ⟨x, hx, rfl⟩ := List.mem_map.mp hd
      refine ⟨[some (.p (.int k)), some (.p (.tuple (E.map edgeD))), some (.p (edgeD x))], true, T, rfl, rfl, (fun h => by cases h), fun _ => ⟨.bool true, T, ?_, fun d hd => ?_, rfl⟩⟩
      · exact (cb2 (d := .p (.int k)) rfl rfl).trans (upward_ok (h.ed x.1 x.2 hx) T)
      · rcases List.mem_append.mp hd with hd | hd
        · exact ha d hd
        · simpa using hd)
  have al : eCB (on1 fAll) (aCons (eLc (srcSeq (eVar 1)) [2] (tName 2) (fun _ => M.pure true) (eCB F_is_upward_pair (aCons (eVar 0) (aCons (eVar 2) aNil)))) aNil) [some (.p (.int k)), some (.p (.tuple (E.map edgeD))), none] S' = .ok (.p (.bool true)) S' := (cb1 e).trans (bools_of qs hq _)
  refine finR_of (F := F_are_upward_pairs) rfl rfl ?_
  refine sRet_of (d := .p (.bool true)) (S1 := S') ?_
  generalize hB : eCB (on1 fAll) (aCons (eLc (srcSeq (eVar 1)) [2] (tName 2) (fun _ => M.pure true) (eCB F_is_upward_pair (aCons (eVar 0) (aCons (eVar 2) aNil)))) aNil) = B at al
  generalize E.map edgeD = es at *
  show eAnd (eUn (fIsi "tuple") (eVar 1)) (eAnd _ (eCB F_is_ascending (aCons (eVar 1) aNil))) [some (.p (.int k)), some (.p (.tuple es)), none] S' = _
  simp [sSeq, thenS, sIf, sSet, sRet, sExpr, eT, asB, eIf, eAnd, eOr, eNot, eChain, onB, eBin, eUn, eVar, eC, eCB, on1, on2, aCons, aNil, eTup, eLst, eCell, kTup, kLst, kCell, asPs, bAnd, bOr, bNot, M.bind, M.pure, bindS, slots, finR, sizeLine_eq, i1, al, as]
theorem ints_ok {E : Es} (S : Store) (o : D) (k : Int) (hl : E.length ≤ 10) : eLc (srcSeq (eVar 2)) [3, 4] (tTupT 2 (tsCons (tName 3) (tsCons (tName 4) tsNil))) (fun _ => M.pure true) (eTup (aCons (eCB (on1 fInt) (aCons (eVar 3) aNil)) (aCons (eCB (on1 fInt) (aCons (eVar 4) aNil)) aNil)))
    [some o, some (.p (.int k)), some (.p (.tuple (E.map edgeD))), none, none] S = .ok (.p (.list (E.map edgeD))) S := by
  have hsrc : srcSeq (eVar 2) [some o, some (.p (.int k)), some (.p (.tuple (E.map edgeD))), none, none] S = .ok (.seq (.p (.tuple (E.map edgeD)))) S := srcSeq_tup rfl
  obtain ⟨qs, S', e, hq, rfl⟩ := comp_gen (vs := [3, 4]) (t := tTupT 2 (tsCons (tName 3) (tsCons (tName 4) tsNil))) (tb := fun _ => M.pure true) (el := eTup (aCons (eCB (on1 fInt) (aCons (eVar 3) aNil)) (aCons (eCB (on1 fInt) (aCons (eVar 4) aNil)) aNil))) hsrc _ (seq_tup_count _ _) (seq_tup_nxt _) (by rw [List.length_map]; omega)
    (fun rest acc T => acc ++ rest = E.map edgeD ∧ T = S) ⟨rfl, rfl⟩
    (fun d rest acc T hd ⟨ha, hT⟩ => by
      subst hT
      obtain ⟨x, hx, rfl⟩ := List.mem_map.mp hd
      refine ⟨[some o, some (.p (.int k)), some (.p (.tuple (E.map edgeD))), some (.p (.int x.1)), some (.p (.int x.2))], true, T, rfl, rfl, (fun h => by cases h), fun _ => ⟨edgeD x, T, ?_, by simpa using ha, rfl⟩⟩
      exact tup2 ((cb1 (d := .p (.int x.1)) rfl).trans rfl) ((cb1 (d := .p (.int x.2)) rfl).trans rfl))
  rw [List.append_nil] at hq
  rw [← hq]
  rw [← hq] at e
  exact e
theorem made_ok {k : Int} {E : Es} (h : COk k E) (S : Store) : F__law_made [.p (.tuple [.int k, .tuple (E.map edgeD)])] S = .ok (.o S.length) (S ++ [callsC k E]) := by
  have hk1 := h.k1
  have hk5 := h.k5
  have e1 : ∀ T, F_is_integer_in [.p (.int k), .p (.int 1), .p (.int 5)] T = .ok (.p (.bool true)) T := fun T => by
    have := is_integer_in_ok (.int k) rfl 1 5 T
    have e : inRange 1 5 (.int k) = true := by simp [inRange]; omega
    rw [e] at this
    exact this
  have e2 := fun T => are_edges_ok h T
  have e3 := fun T => ints_ok (E := E) T (.o S.length) k h.few
  have tu : ∀ T, fTuple (.p (.list (E.map edgeD))) T = .ok (.p (.tuple (E.map edgeD))) T := fun T => by
    show ofO T ((items T (.p (.list (E.map edgeD)))).bind _) = _
    rw [items_pl]
    simp only [Option.bind_some, asPs_map]
    rfl
  have init : F_m_Callsdd_initdd [.o S.length, .p (.int k), .p (.tuple (E.map edgeD))] (S ++ [.ins "Calls" []]) = .ok (.p .none) (S ++ [callsC k E]) := by
    have hg : g_m_Callsdd_initdd [some (.o S.length), some (.p (.int k)), some (.p (.tuple (E.map edgeD))), none, none] (S ++ [.ins "Calls" []]) = .nx [some (.o S.length), some (.p (.int k)), some (.p (.tuple (E.map edgeD))), none, none] (S ++ [callsC k E]) := by
      unfold g_m_Callsdd_initdd
      rw [stIf_f (S1 := S ++ [.ins "Calls" []]) (bNot_of (t := true) (eT_of ((cb3 (d := .p (.int k)) rfl rfl rfl).trans (e1 _))))]
      rw [stIf_f (S1 := S ++ [.ins "Calls" []]) (bNot_of (t := true) (eT_of ((cb2 (d := .p (.int k)) rfl rfl).trans (e2 _))))]
      have p1 : DL.sFld "Calls" "functions" (eVar 0) (eCB (on1 fInt) (aCons (eVar 1) aNil)) [some (.o S.length), some (.p (.int k)), some (.p (.tuple (E.map edgeD))), none, none] (S ++ [.ins "Calls" []]) = .nx [some (.o S.length), some (.p (.int k)), some (.p (.tuple (E.map edgeD))), none, none] (S ++ [.ins "Calls" [("functions", .p (.int k))]]) := by
        simp [DL.sFld, sSeq, thenS, sIf, sSet, sRet, sExpr, eT, asB, eIf, eAnd, eOr, eNot, eChain, onB, eBin, eUn, eVar, eC, eCB, on1, on2, aCons, aNil, eTup, eLst, eCell, kTup, kLst, kCell, asPs, bAnd, bOr, bNot, M.bind, M.pure, bindS, slots, finR, sizeLine_eq, fInt, DL.putAt, insAt, nxO, putD]
      rw [stp p1]
      have ev : eCB (on1 fTuple) (aCons (eLc (srcSeq (eVar 2)) [3, 4] (tTupT 2 (tsCons (tName 3) (tsCons (tName 4) tsNil))) (fun _ => M.pure true) (eTup (aCons (eCB (on1 fInt) (aCons (eVar 3) aNil)) (aCons (eCB (on1 fInt) (aCons (eVar 4) aNil)) aNil)))) aNil) [some (.o S.length), some (.p (.int k)), some (.p (.tuple (E.map edgeD))), none, none] (S ++ [.ins "Calls" [("functions", .p (.int k))]]) = .ok (.p (.tuple (E.map edgeD))) (S ++ [.ins "Calls" [("functions", .p (.int k))]]) := (cb1 (e3 _)).trans (tu _)
      have ne : ¬ (Str.ofString "functions" = Str.ofString "edges") := by decide +kernel
      unfold DL.sFld bindS
      rw [ev]
      simp [eVar, DL.putAt, insAt, nxO, putD, ne]
    exact finR_nx (F := F_m_Callsdd_initdd) rfl rfl hg
  refine finR_of (F := F__law_made) rfl rfl ?_
  refine sRet_of ((cb2 (d := .p (.int k)) (e := .p (.tuple (E.map edgeD))) rfl rfl).trans ?_)
  unfold kMake
  rw [init]
end LK
set_option Elab.async false
set_option linter.all false
set_option maxRecDepth 100000
set_option maxHeartbeats 400000
namespace LK
open PySem PySem.Spec L2 DL
/-! drawn runs -/
theorem runs_in_ok {E : Es} (hE : EOk E) : ∀ (n : Nat) (f : Int) (ps : List PyData), gp E f ps = true → 0 ≤ f → f ≤ 4 → 5 ≤ f + n → ps.length < 16777216 → (∀ g qs, .tuple [.int g, .tuple qs] ∈ ps → qs.length < 16777216) → ndL ps < 16777216 → ∀ S, F__law_runs_in n [.p (runD f ps)] S = .ok (.p (.int (1 + cR ps))) S
  | 0, f, ps, _, _, h4, h5, _, _, _, _ => absurd h5 (by omega)
  | n + 1, f, ps, hg, h0, h4, h5, hl, hl2, hnd, S => by
    have hsrc : srcSeq (eBin fIx (eVar 0) (eC (.int 1))) [some (.p (runD f ps)), none] S = .ok (.seq (.p (.tuple ps))) S := srcSeq_tup ((bin_of (d := .p (runD f ps)) rfl rfl).trans rfl)
    obtain ⟨qs, S', e, ⟨l, rfl, hs⟩, rfl⟩ := comp_gen (vs := [1]) (t := tName 1) (tb := eT (eUn (fIsi "tuple") (eVar 1))) (el := eCB (F__law_runs_in n) (aCons (eVar 1) aNil)) hsrc ps (seq_tup_count _ _) (seq_tup_nxt _) hl
      (fun rest acc T => (∃ l : List Int, acc = l.map PyData.int ∧ l.sum + cR rest = cR ps ∧ gp E f rest = true ∧ ndL rest ≤ ndL ps) ∧ T = S) ⟨⟨[], rfl, by simp, hg, Nat.le_refl _⟩, rfl⟩
      (fun d rest acc T hd ⟨⟨l, ha, hs, hgr, hnr⟩, hT⟩ => by
        subst hT ha
        cases sp_pk (gp_sp _ _ hgr) with
        | int i =>
          rw [gp_int] at hgr
          simp only [Bool.and_eq_true] at hgr
          rw [cR_int] at hs
          refine ⟨[some (.p (runD f ps)), some (.p (.int i))], false, T, rfl, rfl, fun _ => ⟨⟨l, rfl, hs, hgr.2, by simp [ndL, nd] at hnr; omega⟩, rfl⟩, fun h => by cases h⟩
        | run g qs =>
          rw [gp_run] at hgr
          simp only [Bool.and_eq_true, decide_eq_true_eq] at hgr
          rw [cR_run] at hs
          have hb := hE f g hgr.1.1
          have hnq : ndL qs + ndL rest < ndL ps := by simp [ndL, nd] at hnr; omega
          have hlq := len_ndL qs
          have ih := runs_in_ok hE n g qs hgr.1.2 (by omega) hb.2.2 (by omega) (by omega) (fun g' qs' hm => by
            have hh : ∀ (l : List PyData), .tuple [.int g', .tuple qs'] ∈ l → ndL qs' ≤ ndL l := by
              intro l
              induction l with
              | nil => intro h; cases h
              | cons x l ih =>
                intro h
                rcases List.mem_cons.mp h with rfl | h
                · simp [LK.ndL, LK.nd]; omega
                · have := ih h; simp [ndL]; omega
            have h1 := hh qs hm
            have h2 := len_ndL qs'
            omega) (by omega) T
          refine ⟨[some (.p (runD f ps)), some (.p (runD g qs))], true, T, rfl, rfl, (fun h => by cases h), fun _ => ⟨.int (1 + cR qs), T, ?_, ⟨⟨l ++ [1 + (cR qs : Int)], by simp, ?_, hgr.2, by omega⟩, rfl⟩⟩⟩
          · exact (cb1 (d := .p (runD g qs)) rfl).trans ih
          · simp; omega)
    have hs1 : l.sum = cR ps := by have := hs.1; rw [cR_nil] at this; omega
    refine finR_of (F := F__law_runs_in (n + 1)) rfl rfl ?_
    refine sRet_of ((bin_of (d := .p (.int 1)) rfl ((cb1 e).trans (sum_ints l _))).trans ?_)
    rw [hs1]
    rfl
/-- whom f may call -/
def calleesOf (E : Es) (f : Int) : List PyData := E.filterMap fun e => if e.1 = f then some (.int e.2) else none
structure DR (E : Es) (f : Int) (room wide : Int) (ps : List PyData) (m : Nat) : Prop where
  g : gp E f ps = true
  len : ps.length ≤ m
  r : (cR ps : Int) + 1 ≤ room
  p : cI ps + cR ps ≤ ps.length + 4 * cR ps
  t : cT ps ≤ wide * cI ps
  nd : ndL ps ≤ 3 * (cI ps + cR ps)
theorem DR.nil {E : Es} {f room wide : Int} (h : 1 ≤ room) {m : Nat} : DR E f room wide [] m := ⟨gp_nil, by simp, by rw [cR_nil]; omega, by rw [cR_nil, cI_nil]; simp, by rw [cT_nil, cI_nil]; simp, by simp [ndL]⟩
theorem DR.int {E : Es} {f room wide i : Int} {ps : List PyData} {m : Nat} (h : DR E f room wide ps m) (h1 : 1 ≤ i) (h2 : i ≤ wide) (h3 : wide ≤ 90) : DR E f room wide (ps ++ [.int i]) (m + 1) := by
  obtain ⟨a, b, c, d, e, g⟩ := h
  refine ⟨?_, by simp; omega, ?_, ?_, ?_, ?_⟩
  · rw [gp_append, a, gp_int, gp_nil]; simp; omega
  · rw [cR_append, cR_int, cR_nil]; omega
  · rw [cR_append, cR_int, cR_nil, cI_append, cI_int, cI_nil]; simp; omega
  · rw [cT_append, cT_int, cT_nil, cI_append, cI_int, cI_nil]
    have : wide * ((cI ps + (0 + 1) : Nat) : Int) = wide * cI ps + wide := by push_cast; rw [Int.mul_add]; simp
    rw [this]; omega
  · rw [ndL_append, cR_append, cR_int, cR_nil, cI_append, cI_int, cI_nil]; simp [LK.ndL, LK.nd]; omega
theorem DR.run {E : Es} {f g room wide : Int} {ps qs : List PyData} {m : Nat} (h : DR E f room wide ps m) (hg : (f, g) ∈ E) (k : DR E g (room - 1 - cR ps) wide qs 4) (hw : 0 ≤ wide) : DR E f room wide (ps ++ [runD g qs]) (m + 1) := by
  obtain ⟨a, b, c, d, e, j⟩ := h
  obtain ⟨a', b', c', d', e', j'⟩ := k
  unfold runD
  refine ⟨?_, by simp; omega, ?_, ?_, ?_, ?_⟩
  · rw [gp_append, a, gp_run, gp_nil, a']; simp [hg]
  · rw [cR_append, cR_run, cR_nil]; omega
  · rw [cR_append, cR_run, cR_nil, cI_append, cI_run, cI_nil]; simp; omega
  · rw [cT_append, cT_run, cT_nil, cI_append, cI_run, cI_nil]
    have : wide * ((cI ps + (cI qs + 0) : Nat) : Int) = wide * cI ps + wide * cI qs := by push_cast; rw [← Int.mul_add]; simp
    rw [this]; omega
  · rw [ndL_append, cR_append, cR_run, cR_nil, cI_append, cI_run, cI_nil]; simp [LK.ndL, LK.nd]; omega
end LK
set_option Elab.async false
set_option linter.all false
set_option maxRecDepth 100000
set_option maxHeartbeats 400000
namespace LK
open PySem PySem.Spec L2 DL
def calI (E : Es) (f : Int) : List Int := E.filterMap fun e => if e.1 = f then some e.2 else none
theorem calI_mem {E : Es} {f g : Int} (h : g ∈ calI E f) : (f, g) ∈ E := by
  obtain ⟨e, h1, h2⟩ := List.mem_filterMap.mp h
  by_cases he : e.1 = f
  · rw [if_pos he] at h2
    cases h2
    obtain ⟨a, b⟩ := e
    dsimp only at he
    subst he
    exact h1
  · rw [if_neg he] at h2; cases h2
theorem shp_ints (l : List Int) : SeqAt.shaped (.list (l.map PyData.int)) = true := by
  have h : PyData.canLayAll0 (l.map PyData.int) = true ∧ PyData.depthAll (l.map PyData.int) = 0 := by
    induction l with
    | nil => exact ⟨rfl, rfl⟩
    | cons a l ih => simp [PyData.canLayAll0, PyData.depthAll, PyData.canLay0, PyData.depth, ih.1, ih.2]
  have c1 : PyData.canLay0 (.list (l.map PyData.int)) = true := by rw [PyData.canLay0]; exact h.1
  have c2 : PyData.depth (.list (l.map PyData.int)) ≤ 64 := by rw [PyData.depth, h.2]; omega
  show (PyData.canLay0 _ && decide (PyData.depth _ ≤ 64)) = true
  rw [c1, decide_eq_true c2]; rfl
theorem neNil_ints (l : List Int) (S : Store) : fEq true (.p (.list (l.map PyData.int))) (.p (.list [])) S = .ok (.p (.bool (!l.isEmpty))) S := by
  have h1 := shp_ints l
  have h2 : SeqAt.shaped (.list []) = true := rfl
  have e : PyData.eqv (.list (l.map PyData.int)) (.list []) = l.isEmpty := by cases l <;> simp [PyData.eqv, PyData.eqvAll]
  simp [fEq, toPy, h1, h2, e]
theorem DR.mono {E : Es} {f room room' wide : Int} {ps : List PyData} {m : Nat} (h : DR E f room wide ps m) (hr : room ≤ room') : DR E f room' wide ps m :=
  ⟨h.g, h.len, by have := h.r; omega, h.p, h.t, h.nd⟩
theorem cal_ok {E : Es} {k : Int} {f : Int} {r0 r3 r4 r5 r6 : Option D} (hl : E.length ≤ 10) (S : Store) : eLc (srcSeq (eBin fIx (eVar 1) (eC (.int 1)))) [10, 11] (tTupT 2 (tsCons (tName 10) (tsCons (tName 11) tsNil))) (eT (eBin (fEq false) (eVar 10) (eVar 2))) (eVar 11)
    [r0, some (.p (.tuple [.int k, .tuple (E.map edgeD)])), some (.p (.int f)), r3, r4, r5, r6, none, none, none, none, none] S = .ok (.p (.list ((calI E f).map PyData.int))) S := by
  have hsrc : srcSeq (eBin fIx (eVar 1) (eC (.int 1))) [r0, some (.p (.tuple [.int k, .tuple (E.map edgeD)])), some (.p (.int f)), r3, r4, r5, r6, none, none, none, none, none] S = .ok (.seq (.p (.tuple (E.map edgeD)))) S := srcSeq_tup ((bin_of (d := .p (.tuple [.int k, .tuple (E.map edgeD)])) rfl rfl).trans rfl)
  obtain ⟨qs, S', e, ⟨done, hd1, hd2⟩, rfl⟩ := comp_gen (vs := [10, 11]) (t := tTupT 2 (tsCons (tName 10) (tsCons (tName 11) tsNil))) (tb := eT (eBin (fEq false) (eVar 10) (eVar 2))) (el := eVar 11) hsrc _ (seq_tup_count _ _) (seq_tup_nxt _) (by rw [List.length_map]; omega)
    (fun rest acc T => (∃ done : Es, done.map edgeD ++ rest = E.map edgeD ∧ acc = (calI done f).map PyData.int) ∧ T = S) ⟨⟨[], rfl, rfl⟩, rfl⟩
    (fun d rest acc T hd ⟨⟨done, h1, h2⟩, hT⟩ => by
      subst hT h2
      obtain ⟨x, hx, rfl⟩ := List.mem_map.mp hd
      obtain ⟨a, b⟩ := x
      have q := eqInt T a f
      refine ⟨[r0, some (.p (.tuple [.int k, .tuple (E.map edgeD)])), some (.p (.int f)), r3, r4, r5, r6, none, none, none, some (.p (.int a)), some (.p (.int b))], decide (a = f), T, rfl, eT_of ((bin_of (d := .p (.int a)) rfl rfl).trans q), fun hb => ?_, fun hb => ⟨.int b, T, rfl, ?_⟩⟩
      · refine ⟨⟨done ++ [(a, b)], by simpa using h1, ?_⟩, rfl⟩
        have hne : ¬ a = f := by simpa using hb
        simp [calI, List.filterMap_append, hne]
      · refine ⟨⟨done ++ [(a, b)], by simpa using h1, ?_⟩, rfl⟩
        have he : a = f := by simpa using hb
        simp [calI, List.filterMap_append, he])
  rw [List.append_nil] at hd1
  have : done = E := by
    have hinj : ∀ (x y : Es), x.map edgeD = y.map edgeD → x = y := by
      intro x
      induction x with
      | nil => intro y h; cases y with
        | nil => rfl
        | cons _ _ => cases h
      | cons a x ih => intro y h; cases y with
        | nil => cases h
        | cons b y =>
          rw [List.map_cons, List.map_cons] at h
          injection h with h1 h2
          rw [ih y h2]
          obtain ⟨a1, a2⟩ := a
          obtain ⟨b1, b2⟩ := b
          simp [edgeD] at h1
          rw [h1.1, h1.2]
    exact hinj _ _ hd1
  subst this
  rw [hd2] at e
  exact e
theorem COk.eok {k : Int} {E : Es} (h : COk k E) : EOk E := fun g f he => by
  have := h.ed g f he
  have := h.k5
  omega
theorem COk.ein {k : Int} {E : Es} (h : COk k E) : EIn E k := ⟨h.k1, fun g f he => by have := h.ed g f he; omega⟩
theorem drawn_ok {k : Int} {E : Es} (hC : COk k E) {b : Nat} {wide : Int} (hw1 : 1 ≤ wide) (hw2 : wide ≤ 90) :
    ∀ (n : Nat) (f room : Int) (S : Store), 0 ≤ f → f ≤ 4 → 5 ≤ f + n → 1 ≤ room → room ≤ 100 → Bx b S →
      ∃ ps S', F__law_drawn_run n [.o b, .p (.tuple [.int k, .tuple (E.map edgeD)]), .p (.int f), .p (.int room), .p (.int wide)] S = .ok (.p (runD f ps)) S' ∧ DR E f room wide ps 4 ∧ Kp b S S' ∧ S'.length = S.length
  | 0, f, room, S, _, h4, h5, _, _, _ => absurd h5 (by omega)
  | n + 1, f, room, S, h0, h4, h5, hr1, hr2, hb => by
    obtain ⟨got, S1, e1, g0, g5, k1, l1⟩ := take_kp hb 5 (by omega) (by omega)
    obtain ⟨g, rfl⟩ : ∃ g : Nat, got = g := ⟨got.toNat, by omega⟩
    have hs : srcRng1 (eCB F__law_take (aCons (eVar 0) (aCons (eC (.int 5)) aNil))) [some (.o b), some (.p (.tuple [.int k, .tuple (E.map edgeD)])), some (.p (.int f)), some (.p (.int room)), some (.p (.int wide)), some (.p (.tuple [])), some (.p (.int (room - 1))), some (.p (.list ((calI E f).map PyData.int))), none, none, none, none] S = .ok (.rng 0 g) S1 :=
      rng1_of ((cb2 (d := .o b) rfl rfl).trans e1) (by omega)
    obtain ⟨ρ', S', ef, ps, m, x8, x9, x10, x11, rfl, hD, hm, hk, hl⟩ := for_inv (t := tName 8) (u := sIf (bAnd (eT (eBin (fEq true) (eVar 7) (eLst aNil))) (bAnd (eT (eBin fGt (eVar 6) (eC (.int 0)))) (eT (eBin fGt (eCB F__law_take (aCons (eVar 0) (aCons (eC (.int 3)) aNil))) (eC (.int 0)))))) (sSeq (sSet 9 (eCB (F__law_drawn_run n) (aCons (eVar 0) (aCons (eVar 1) (aCons (eCB F__law_pick (aCons (eVar 0) (aCons (eVar 7) aNil))) (aCons (eBin fAdd (eC (.int 1)) (eCB F__law_take (aCons (eVar 0) (aCons (eVar 6) aNil)))) (aCons (eVar 4) aNil))))))) (sSeq (sSet 6 (eBin fSub (eVar 6) (eCB (F__law_runs_in 20) (aCons (eVar 9) aNil)))) (sSet 5 (eBin fAdd (eVar 5) (eTup (aCons (eVar 9) aNil)))))) (sSet 5 (eBin fAdd (eVar 5) (eTup (aCons (eBin fAdd (eC (.int 1)) (eCB F__law_take (aCons (eVar 0) (aCons (eVar 4) aNil)))) aNil)))))
      (rngL 0 g) (fun rest ρ T => ∃ ps m x8 x9 x10 x11, ρ = [some (.o b), some (.p (.tuple [.int k, .tuple (E.map edgeD)])), some (.p (.int f)), some (.p (.int room)), some (.p (.int wide)), some (.p (.tuple ps)), some (.p (.int (room - 1 - cR ps))), some (.p (.list ((calI E f).map PyData.int))), x8, x9, x10, x11] ∧ DR E f room wide ps m ∧ m + rest.length ≤ 4 ∧ Kp b S T ∧ T.length = S.length)
      hs (by rw [rngL_len]; rfl) (rng_nxt 0 g) ⟨[], 0, none, none, none, none, by rw [cR_nil]; simp, DR.nil hr1, by rw [rngL_len]; omega, k1, l1⟩
      (fun p rest ρ T hp ⟨ps, m, x8, x9, x10, x11, hρ, hD, hm, hk, hl⟩ => by
        subst hρ
        have hm : m + (rest.length + 1) ≤ 4 := hm
        have hps : ps.length ≤ 4 := by have := hD.len; omega
        refine ⟨[some (.o b), some (.p (.tuple [.int k, .tuple (E.map edgeD)])), some (.p (.int f)), some (.p (.int room)), some (.p (.int wide)), some (.p (.tuple ps)), some (.p (.int (room - 1 - cR ps))), some (.p (.list ((calI E f).map PyData.int))), some (.p p), x9, x10, x11], ?_⟩
        have nn := neNil_ints (calI E f) T
        -- the way where ticks are drawn
        have ticks : ∀ (T1 : Store), Kp b S T1 → T1.length = S.length → ∃ ρ2 S2, sSet 5 (eBin fAdd (eVar 5) (eTup (aCons (eBin fAdd (eC (.int 1)) (eCB F__law_take (aCons (eVar 0) (aCons (eVar 4) aNil)))) aNil))) [some (.o b), some (.p (.tuple [.int k, .tuple (E.map edgeD)])), some (.p (.int f)), some (.p (.int room)), some (.p (.int wide)), some (.p (.tuple ps)), some (.p (.int (room - 1 - cR ps))), some (.p (.list ((calI E f).map PyData.int))), some (.p p), x9, x10, x11] T1 = .nx ρ2 S2 ∧ ∃ ps m x8 x9 x10 x11, ρ2 = [some (.o b), some (.p (.tuple [.int k, .tuple (E.map edgeD)])), some (.p (.int f)), some (.p (.int room)), some (.p (.int wide)), some (.p (.tuple ps)), some (.p (.int (room - 1 - cR ps))), some (.p (.list ((calI E f).map PyData.int))), x8, x9, x10, x11] ∧ DR E f room wide ps m ∧ m + rest.length ≤ 4 ∧ Kp b S S2 ∧ S2.length = S.length := by
          intro T1 hk1 hl1
          obtain ⟨gt, T2, e2, q0, q1, k2, l2⟩ := take_kp hk1.box wide (by omega) (by omega)
          have ec : cR (ps ++ [.int (1 + gt)]) = cR ps := by rw [cR_append, cR_int, cR_nil]; omega
          refine ⟨_, T2, sSet_of (d := .p (.tuple (ps ++ [.int (1 + gt)]))) ?_, ps ++ [.int (1 + gt)], m + 1, some (.p p), x9, x10, x11, by rw [ec]; rfl, hD.int (by omega) (by omega) hw2, by omega, hk1.trans k2, by omega⟩
          refine (bin_of (d := .p (.tuple ps)) (S1 := T1) rfl (tup1 (a := .int (1 + gt)) ((bin_of (d := .p (.int 1)) rfl ((cb2 (d := .o b) rfl rfl).trans e2)).trans rfl))).trans ?_
          show (if _ then _ else _) = _
          rw [if_pos (by simp [sizeLine_eq]; omega)]
        cases hce : (calI E f).isEmpty with
        | true =>
          rw [hce] at nn
          obtain ⟨ρ2, S2, e2, hI⟩ := ticks T hk hl
          refine ⟨ρ2, S2, rfl, ?_, hI⟩
          rw [sIf_f (bAnd_f (eT_of ((bin_of (d := .p (.list ((calI E f).map PyData.int))) rfl rfl).trans nn)))]
          exact e2
        | false =>
          rw [hce] at nn
          have t1 := eT_of ((bin_of (ρ := [some (.o b), some (.p (.tuple [.int k, .tuple (E.map edgeD)])), some (.p (.int f)), some (.p (.int room)), some (.p (.int wide)), some (.p (.tuple ps)), some (.p (.int (room - 1 - cR ps))), some (.p (.list ((calI E f).map PyData.int))), some (.p p), x9, x10, x11]) (X := eVar 7) (Y := eLst aNil) (d := .p (.list ((calI E f).map PyData.int))) rfl rfl).trans nn)
          have t2 := eT_of ((bin_of (F := fGt) (ρ := [some (.o b), some (.p (.tuple [.int k, .tuple (E.map edgeD)])), some (.p (.int f)), some (.p (.int room)), some (.p (.int wide)), some (.p (.tuple ps)), some (.p (.int (room - 1 - cR ps))), some (.p (.list ((calI E f).map PyData.int))), some (.p p), x9, x10, x11]) (S := T) (X := eVar 6) (Y := eC (.int 0)) (d := .p (.int (room - 1 - cR ps))) rfl rfl).trans rfl)
          by_cases hleft : 0 < room - 1 - cR ps
          · rw [decide_eq_true hleft] at t2
            obtain ⟨g3, T1, e3, q0, q1, k3, l3⟩ := take_kp hk.box 3 (by omega) (by omega)
            have t3 := eT_of ((bin_of (F := fGt) (ρ := [some (.o b), some (.p (.tuple [.int k, .tuple (E.map edgeD)])), some (.p (.int f)), some (.p (.int room)), some (.p (.int wide)), some (.p (.tuple ps)), some (.p (.int (room - 1 - cR ps))), some (.p (.list ((calI E f).map PyData.int))), some (.p p), x9, x10, x11]) (S := T) (X := eCB F__law_take (aCons (eVar 0) (aCons (eC (.int 3)) aNil))) (Y := eC (.int 0)) ((cb2 (d := .o b) rfl rfl).trans e3) rfl).trans rfl)
            by_cases hg3 : 0 < g3
            · rw [decide_eq_true hg3] at t3
              have hne : (calI E f).map PyData.int ≠ [] := by
                intro h
                have : calI E f = [] := by simpa using h
                rw [this] at hce; cases hce
              have hlc : ((calI E f).map PyData.int).length < 10 ^ 9 := by
                rw [List.length_map]
                have := List.length_filterMap_le (fun e : Int × Int => if e.1 = f then some e.2 else none) E
                have := hC.few
                unfold calI; omega
              obtain ⟨d, T2, e4, hd, k4, l4⟩ := pick_kp k3.box _ hne hlc
              obtain ⟨g', hg', rfl⟩ := List.mem_map.mp hd
              have hfg := calI_mem hg'
              have hbd := hC.eok f g' hfg
              obtain ⟨g5, T3, e5, q2, q3, k5, l5⟩ := take_kp k4.box (room - 1 - cR ps) hleft (by omega)
              obtain ⟨qs, T4, e6, hD6, k6, l6⟩ := drawn_ok hC hw1 hw2 n g' (1 + g5) T3 (by omega) hbd.2.2 (by omega) (by omega) (by omega) k5.box
              have hDm := hD6.mono (room' := room - 1 - cR ps) (by omega)
              have hnd : ndL qs < 2000 := by
                have h1 := hD6.nd
                have h2 := hD6.p
                have h3 := hD6.len
                have h4 := hD6.r
                omega
              have hlq := len_ndL qs
              have ri := runs_in_ok hC.eok 20 g' qs hD6.g (by omega) hbd.2.2 (by omega) (by omega) (fun g'' qs'' hm => by
                have hh : ∀ (l : List PyData), .tuple [.int g'', .tuple qs''] ∈ l → ndL qs'' ≤ ndL l := by
                  intro l
                  induction l with
                  | nil => intro h; cases h
                  | cons x l ih =>
                    intro h
                    rcases List.mem_cons.mp h with rfl | h
                    · simp [LK.ndL, LK.nd]; omega
                    · have := ih h; simp [LK.ndL]; omega
                have h1 := hh qs hm
                have h2 := len_ndL qs''
                omega) (by omega) T4
              have ec : (room - 1 - cR ps - (1 + cR qs) : Int) = room - 1 - cR (ps ++ [runD g' qs]) := by
                unfold runD
                rw [cR_append, cR_run, cR_nil]; omega
              refine ⟨_, T4, rfl, ?_, ps ++ [runD g' qs], m + 1, some (.p p), some (.p (runD g' qs)), x10, x11, rfl, hD.run hfg hDm (by omega), by omega, ((((hk.trans k3).trans k4).trans k5).trans k6), by omega⟩
              rw [sIf_t ((bAnd_t t1).trans ((bAnd_t t2).trans t3))]
              have s1 : eCB (F__law_drawn_run n) (aCons (eVar 0) (aCons (eVar 1) (aCons (eCB F__law_pick (aCons (eVar 0) (aCons (eVar 7) aNil))) (aCons (eBin fAdd (eC (.int 1)) (eCB F__law_take (aCons (eVar 0) (aCons (eVar 6) aNil)))) (aCons (eVar 4) aNil))))) [some (.o b), some (.p (.tuple [.int k, .tuple (E.map edgeD)])), some (.p (.int f)), some (.p (.int room)), some (.p (.int wide)), some (.p (.tuple ps)), some (.p (.int (room - 1 - cR ps))), some (.p (.list ((calI E f).map PyData.int))), some (.p p), x9, x10, x11] T1 = .ok (.p (runD g' qs)) T4 := by
                have a1 : eCB F__law_pick (aCons (eVar 0) (aCons (eVar 7) aNil)) [some (.o b), some (.p (.tuple [.int k, .tuple (E.map edgeD)])), some (.p (.int f)), some (.p (.int room)), some (.p (.int wide)), some (.p (.tuple ps)), some (.p (.int (room - 1 - cR ps))), some (.p (.list ((calI E f).map PyData.int))), some (.p p), x9, x10, x11] T1 = .ok (.p (.int g')) T2 := (cb2 (d := .o b) rfl rfl).trans e4
                have a2 : eBin fAdd (eC (.int 1)) (eCB F__law_take (aCons (eVar 0) (aCons (eVar 6) aNil))) [some (.o b), some (.p (.tuple [.int k, .tuple (E.map edgeD)])), some (.p (.int f)), some (.p (.int room)), some (.p (.int wide)), some (.p (.tuple ps)), some (.p (.int (room - 1 - cR ps))), some (.p (.list ((calI E f).map PyData.int))), some (.p p), x9, x10, x11] T2 = .ok (.p (.int (1 + g5))) T3 := (bin_of (d := .p (.int 1)) rfl ((cb2 (d := .o b) rfl rfl).trans e5)).trans rfl
                exact (cb5 rfl rfl a1 a2 rfl).trans e6
              rw [stSet s1]
              have s2 : eBin fSub (eVar 6) (eCB (F__law_runs_in 20) (aCons (eVar 9) aNil)) [some (.o b), some (.p (.tuple [.int k, .tuple (E.map edgeD)])), some (.p (.int f)), some (.p (.int room)), some (.p (.int wide)), some (.p (.tuple ps)), some (.p (.int (room - 1 - cR ps))), some (.p (.list ((calI E f).map PyData.int))), some (.p p), some (.p (runD g' qs)), x10, x11] T4 = .ok (.p (.int (room - 1 - cR (ps ++ [runD g' qs])))) T4 := by
                rw [← ec]
                exact (bin_of (d := .p (.int (room - 1 - cR ps))) rfl ((cb1 (d := .p (runD g' qs)) rfl).trans ri)).trans rfl
              have e7 : ∀ r9, sSeq (sSet 6 (eBin fSub (eVar 6) (eCB (F__law_runs_in 20) (aCons (eVar 9) aNil)))) (sSet 5 (eBin fAdd (eVar 5) (eTup (aCons (eVar 9) aNil)))) [some (.o b), some (.p (.tuple [.int k, .tuple (E.map edgeD)])), some (.p (.int f)), some (.p (.int room)), some (.p (.int wide)), some (.p (.tuple ps)), some (.p (.int (room - 1 - cR ps))), some (.p (.list ((calI E f).map PyData.int))), some (.p p), some (.p (runD g' qs)), x10, x11] T4 = r9 → _ = r9 := fun r9 h => h
              refine e7 _ ?_
              rw [stSet s2]
              refine sSet_of (d := .p (.tuple (ps ++ [runD g' qs]))) ?_
              refine (bin_of (d := .p (.tuple ps)) (S1 := T4) rfl (tup1 (a := runD g' qs) rfl)).trans ?_
              show (if _ then _ else _) = _
              rw [if_pos (by simp [sizeLine_eq]; omega)]
            · rw [decide_eq_false hg3] at t3
              obtain ⟨ρ2, S2, e2, hI⟩ := ticks T1 (hk.trans k3) (by omega)
              refine ⟨ρ2, S2, rfl, ?_, hI⟩
              rw [sIf_f ((bAnd_t t1).trans ((bAnd_t t2).trans t3))]
              exact e2
          · rw [decide_eq_false hleft] at t2
            obtain ⟨ρ2, S2, e2, hI⟩ := ticks T hk hl
            refine ⟨ρ2, S2, rfl, ?_, hI⟩
            rw [sIf_f ((bAnd_t t1).trans (bAnd_f t2))]
            exact e2)
    have hm4 : m ≤ 4 := by simpa using hm
    refine ⟨ps, S', ?_, ⟨hD.g, Nat.le_trans hD.len hm4, hD.r, hD.p, hD.t, hD.nd⟩, hk, hl⟩
    refine finR_of (F := F__law_drawn_run (n + 1)) rfl rfl ?_
    unfold g__law_drawn_run
    refine (stSet (d := .p (.tuple [])) (S1 := S) rfl).trans ?_
    refine (stSet (d := .p (.int (room - 1))) (S1 := S) ((bin_of (d := .p (.int room)) rfl rfl).trans rfl)).trans ?_
    refine (stSet (d := .p (.list ((calI E f).map PyData.int))) (S1 := S) (cal_ok hC.few S)).trans ?_
    refine (stp ef).trans ?_
    exact sRet_of (tup2 (a := .int f) rfl rfl)
end LK
set_option Elab.async false
set_option linter.all false
set_option maxRecDepth 100000
set_option maxHeartbeats 400000
namespace LK
open PySem PySem.Spec L2 DL
/-! values changed at one place -/
theorem strOk_iff {x : Str} : PyData.strOk x = true ↔ ∀ c ∈ x.cps.toList, c < 0x110000 := by
  unfold PyData.strOk
  rw [← Array.all_toList, List.all_eq_true]
  constructor
  · intro h c hc; have := h c hc; simpa using this
  · intro h c hc; have := h c hc; simpa using this
theorem strOk_app {x y : Str} (hx : PyData.strOk x = true) (hy : PyData.strOk y = true) : PyData.strOk (x ++ y) = true := by
  rw [strOk_iff] at *
  intro c hc
  have e : (x ++ y).cps = x.cps ++ y.cps := rfl
  rw [e, Array.toList_append] at hc
  rcases List.mem_append.mp hc with h | h
  · exact hx c h
  · exact hy c h
theorem strOk_str (s : String) : PyData.strOk (Str.ofString s) = true := by
  rw [strOk_iff, Str.ofString_eq_toList]
  intro c hc
  simp only [List.mem_map] at hc
  obtain ⟨ch, _, rfl⟩ := hc
  have := ch.valid
  have h : ch.toNat.isValidChar := ch.valid
  unfold Nat.isValidChar at h
  omega
theorem strOk_cut {x : Str} (lo hi : Option Int) (hx : PyData.strOk x = true) : PyData.strOk (cutS x lo hi) = true := by
  rw [strOk_iff] at *
  intro c hc
  apply hx
  unfold cutS at hc
  first
    | exact List.mem_of_mem_drop (List.mem_of_mem_take (by simpa using hc))
    | (simp at hc; exact List.mem_of_mem_drop (List.mem_of_mem_take hc))
mutual
/-- small data -/
def gd : PyData → Bool
  | .int i => decide (i.natAbs < 2 ^ 60)
  | .str x => PyData.strOk x && decide (x.length ≤ 1000)
  | .tuple ds => gdL ds
  | .list ds => gdL ds
  | .none => true
  | .bool _ => true
  | .dict _ => false
def gdL : List PyData → Bool
  | [] => true
  | d :: ds => gd d && gdL ds
end
theorem gdL_mem {ds : List PyData} (h : gdL ds = true) : ∀ d ∈ ds, gd d = true := by
  induction ds with
  | nil => intro d hd; cases hd
  | cons e es ih =>
    simp only [gdL, Bool.and_eq_true] at h
    intro d hd
    rcases List.mem_cons.mp hd with rfl | hd
    · exact h.1
    · exact ih h.2 d hd
def inN : PyData → Nat
  | .tuple es => (es.filter isIn).length
  | _ => 0
structure SpR (v r : PyData) : Prop where
  lay : lay r
  dep : PyData.depth r ≤ PyData.depth v + 1
  nd : nd r ≤ 2 * nd v + 20
  ins : inN r ≤ inN v + 1
theorem lay_tupI {ds : List PyData} (h : ∀ d ∈ ds, lay d) : lay (.tuple ds) := by
  show PyData.canLay0 (.tuple ds) = true
  rw [PyData.canLay0]
  induction ds with
  | nil => rfl
  | cons d ds ih =>
    rw [PyData.canLayAll0, ih (fun x hx => h x (by simp [hx]))]
    have := h d (by simp)
    unfold LK.lay at this
    rw [this]; rfl
theorem lay_lstI {ds : List PyData} (h : ∀ d ∈ ds, lay d) : lay (.list ds) := by
  have := lay_tupI h
  unfold LK.lay at *
  rw [PyData.canLay0] at *
  exact this
theorem depthAll_le {ds : List PyData} {m : Nat} (h : ∀ d ∈ ds, PyData.depth d ≤ m) : PyData.depthAll ds ≤ m := by
  induction ds with
  | nil => simp [PyData.depthAll]
  | cons d ds ih =>
    have h1 := h d (by simp)
    have h2 := ih (fun x hx => h x (by simp [hx]))
    rw [PyData.depthAll]; omega
theorem dep_tup {ds : List PyData} : PyData.depth (.tuple ds) = PyData.depthAll ds + 1 := by rw [PyData.depth]
theorem dep_lst {ds : List PyData} : PyData.depth (.list ds) = PyData.depthAll ds + 1 := by rw [PyData.depth]
/-- a tuple made of the members of another, and of one more -/
theorem SpR.tup {es ys : List PyData} (hl : ∀ d ∈ ys, LK.lay d) (hd : ∀ d ∈ ys, PyData.depth d ≤ PyData.depthAll es + 1) (hn : ndL ys ≤ 2 * ndL es + 20) (hi : (ys.filter isIn).length ≤ (es.filter isIn).length + 1) : SpR (.tuple es) (.tuple ys) := by
  refine ⟨lay_tupI hl, ?_, ?_, hi⟩
  · rw [dep_tup, dep_tup]
    have := depthAll_le hd
    omega
  · simp [LK.nd]; omega
theorem ndL_mem {ds : List PyData} {d : PyData} (h : d ∈ ds) : nd d ≤ ndL ds := by
  induction ds with
  | nil => cases h
  | cons e es ih =>
    rcases List.mem_cons.mp h with rfl | h
    · simp [ndL]
    · have := ih h; simp [ndL]; omega
/-- for a way that keeps members: sums over what stands ahead and behind -/
theorem cntI_append (a b : List PyData) : ((a ++ b).filter isIn).length = (a.filter isIn).length + (b.filter isIn).length := by simp
theorem cntI_cons (d : PyData) (b : List PyData) : ((d :: b).filter isIn).length ≤ (b.filter isIn).length + 1 := by
  by_cases h : isIn d = true
  · rw [List.filter_cons_of_pos h]; simp
  · rw [List.filter_cons_of_neg h]; omega
theorem cut_to {α : Type} (xs : List α) (k : Nat) : cutL xs none (some (k : Int)) = xs.take k := by
  have e : HT.sIx xs.length xs.length (some (k : Int)) = min k xs.length := HT.sIx_nat _ _ _
  have e2 : HT.sIx xs.length 0 none = 0 := rfl
  unfold cutL
  rw [e, e2, List.drop_zero, Nat.sub_zero]
  rcases Nat.le_total k xs.length with h | h
  · rw [Nat.min_eq_left h]
  · rw [Nat.min_eq_right h, List.take_of_length_le (Nat.le_refl _), List.take_of_length_le h]
theorem cut_from {α : Type} (xs : List α) (k : Nat) : cutL xs (some (k : Int)) none = xs.drop k := by
  have e : HT.sIx xs.length 0 (some (k : Int)) = min k xs.length := HT.sIx_nat _ _ _
  have e2 : HT.sIx xs.length xs.length none = xs.length := rfl
  unfold cutL
  rw [e, e2]
  rcases Nat.le_total k xs.length with h | h
  · rw [Nat.min_eq_left h]
    apply List.take_of_length_le; simp
  · rw [Nat.min_eq_right h]
    simp [List.drop_eq_nil_of_le h]
theorem cut_one {α : Type} (xs : List α) (k : Nat) : cutL xs (some (k : Int)) (some ((k : Int) + 1)) = (xs.drop k).take 1 := by
  have e : HT.sIx xs.length 0 (some (k : Int)) = min k xs.length := HT.sIx_nat _ _ _
  have e2 : HT.sIx xs.length xs.length (some ((k : Int) + 1)) = min (k + 1) xs.length := HT.sIx_nat _ _ (k + 1)
  unfold cutL
  rw [e, e2]
  rcases Nat.lt_or_ge k xs.length with h | h
  · rw [Nat.min_eq_left (by omega), Nat.min_eq_left (by omega)]
    congr 1; omega
  · rw [Nat.min_eq_right h, Nat.min_eq_right (by omega)]
    simp [List.drop_eq_nil_of_le h]
theorem cut_but {α : Type} (xs : List α) : cutL xs none (some (-1)) = xs.take (xs.length - 1) := by
  have e : HT.sIx xs.length xs.length (some (-1)) = xs.length - 1 := by
    simp only [HT.sIx]
    rw [if_pos (by omega)]
    omega
  have e2 : HT.sIx xs.length 0 none = 0 := rfl
  unfold cutL
  rw [e, e2]; simp
theorem split3 (es : List PyData) (a : Nat) (h : a < es.length) : es = es.take a ++ es[a] :: es.drop (a + 1) := by
  rw [← List.drop_eq_getElem_cons h, List.take_append_drop]
end LK
set_option Elab.async false
set_option linter.all false
set_option maxRecDepth 100000
set_option maxHeartbeats 1000000
namespace LK
open PySem PySem.Spec L2 DL
theorem sl_of {X : Fe} {fo go : Fo} {ρ : Sl} {S : Store} {d : D} {l h : Option Int} (hX : X ρ S = .ok d S) (hl : fo ρ S = .ok l S) (hh : go ρ S = .ok h S) : eSl X fo go ρ S = fSl l h d S := by
  unfold eSl M.bind; simp only [hX, hl, hh]
theorem oS_of {X : Fe} {ρ : Sl} {S : Store} {i : Int} (h : X ρ S = .ok (.p (.int i)) S) : oSome X ρ S = .ok (some i) S := by
  unfold oSome M.bind; rw [h]; rfl
theorem addT {xs ys : List PyData} (S : Store) (h : xs.length + ys.length ≤ 16777216) : fAdd (.p (.tuple xs)) (.p (.tuple ys)) S = .ok (.p (.tuple (xs ++ ys))) S := by
  show (if _ then _ else _) = _
  rw [if_pos (by rw [sizeLine_eq]; exact h)]
theorem addS {x y : Str} (S : Store) (h : x.length + y.length ≤ 16777216) : fAdd (.p (.str x)) (.p (.str y)) S = .ok (.p (.str (x ++ y))) S := by
  show (if _ then _ else _) = _
  rw [if_pos (by rw [sizeLine_eq]; exact h)]
section
variable {b : Nat} {es : List PyData} {deep : Int} {a : Nat} {h : Int} {S : Store}
abbrev rhoO (b : Nat) (es : List PyData) (deep : Int) (a : Nat) (x4 : Option D) : Sl := [some (.o b), some (.p (.tuple es)), some (.p (.int deep)), some (.p (.int a)), x4]
abbrev rhoT (b : Nat) (es : List PyData) (deep : Int) (a : Nat) (h : Int) : Sl := [some (.o b), some (.p (.tuple es)), some (.p (.int deep)), some (.p (.int a)), some (.p (.int h))]
theorem how_ne {j : Int} (hj : h ≠ j) : eT (eBin (fEq false) (eVar 4) (eC (.int j))) (rhoT b es deep a h) S = .ok false S := by
  have := eqInt S h j
  rw [decide_eq_false hj] at this
  exact eT_of ((bin_of (d := .p (.int h)) rfl rfl).trans this)
theorem how_eq {j : Int} (hj : h = j) : eT (eBin (fEq false) (eVar 4) (eC (.int j))) (rhoT b es deep a h) S = .ok true S := by
  have := eqInt S h j
  rw [decide_eq_true hj] at this
  exact eT_of ((bin_of (d := .p (.int h)) rfl rfl).trans this)
theorem up_a {x4 : Option D} : eSl (eVar 1) oNone (oSome (eVar 3)) (rhoO b es deep a x4) S = .ok (.p (.tuple (es.take a))) S := by
  rw [sl_of (d := .p (.tuple es)) (l := none) (h := some (a : Int)) rfl rfl (oS_of rfl)]
  show M.pure _ S = _
  rw [cut_to]; rfl
theorem from_a : eSl (eVar 1) (oSome (eVar 3)) oNone (rhoT b es deep a h) S = .ok (.p (.tuple (es.drop a))) S := by
  rw [sl_of (d := .p (.tuple es)) (l := some (a : Int)) (h := none) rfl (oS_of rfl) rfl]
  show M.pure _ S = _
  rw [cut_from]; rfl
theorem from_a1 {x4 : Option D} : eSl (eVar 1) (oSome (eBin fAdd (eVar 3) (eC (.int 1)))) oNone (rhoO b es deep a x4) S = .ok (.p (.tuple (es.drop (a + 1)))) S := by
  rw [sl_of (d := .p (.tuple es)) (l := some ((a : Int) + 1)) (h := none) rfl (oS_of ((bin_of (d := .p (.int a)) rfl rfl).trans rfl)) rfl]
  show M.pure _ S = _
  have := cut_from es (a + 1)
  push_cast at this
  rw [this]; rfl
theorem at_a : eSl (eVar 1) (oSome (eVar 3)) (oSome (eBin fAdd (eVar 3) (eC (.int 1)))) (rhoT b es deep a h) S = .ok (.p (.tuple ((es.drop a).take 1))) S := by
  rw [sl_of (d := .p (.tuple es)) (l := some (a : Int)) (h := some ((a : Int) + 1)) rfl (oS_of rfl) (oS_of ((bin_of (d := .p (.int a)) rfl rfl).trans rfl))]
  show M.pure _ S = _
  rw [cut_one]; rfl
theorem but_last : eSl (eVar 1) oNone (oSome (eUn fNeg (eC (.int 1)))) (rhoT b es deep a h) S = .ok (.p (.tuple (es.take (es.length - 1)))) S := by
  rw [sl_of (d := .p (.tuple es)) (l := none) (h := some (-1)) rfl rfl (oS_of (neg1 _ _))]
  show M.pure _ S = _
  rw [cut_but]; rfl
theorem one_first : eSl (eVar 1) oNone (oSome (eC (.int 1))) (rhoT b es deep a h) S = .ok (.p (.tuple (es.take 1))) S := by
  rw [sl_of (d := .p (.tuple es)) (l := none) (h := some 1) rfl rfl (oS_of rfl)]
  show M.pure _ S = _
  rw [cut_first]; rfl
end
theorem ndL_td (es : List PyData) (a : Nat) : ndL (es.take a) + ndL (es.drop a) = ndL es := by
  rw [← ndL_append, List.take_append_drop]
theorem cnt_td (es : List PyData) (a : Nat) : ((es.take a).filter isIn).length + ((es.drop a).filter isIn).length = (es.filter isIn).length := by
  rw [← cntI_append, List.take_append_drop]
/-- a tuple is changed, not within -/
theorem spoilt_how {b : Nat} {es : List PyData} {deep : Int} {a : Nat} {h : Int} {S : Store} (hl : ∀ d ∈ es, lay d) (hz : ndL es ≤ 1000000) (h0 : 0 ≤ h) (h7 : h < 8) :
    ∃ r, sSeq (sIf (eT (eBin (fEq false) (eVar 4) (eC (.int 0)))) (sRet (eCB (on1 fList) (aCons (eVar 1) aNil))) sNil) (sSeq (sIf (eT (eBin (fEq false) (eVar 4) (eC (.int 1)))) (sRet (eBin fAdd (eSl (eVar 1) oNone (oSome (eVar 3))) (eSl (eVar 1) (oSome (eBin fAdd (eVar 3) (eC (.int 1)))) oNone))) sNil) (sSeq (sIf (eT (eBin (fEq false) (eVar 4) (eC (.int 2)))) (sRet (eBin fAdd (eBin fAdd (eSl (eVar 1) oNone (oSome (eVar 3))) (eSl (eVar 1) (oSome (eVar 3)) (oSome (eBin fAdd (eVar 3) (eC (.int 1)))))) (eSl (eVar 1) (oSome (eVar 3)) oNone))) sNil) (sSeq (sIf (eT (eBin (fEq false) (eVar 4) (eC (.int 3)))) (sRet (eBin fAdd (eSl (eVar 1) (oSome (eVar 3)) oNone) (eSl (eVar 1) oNone (oSome (eVar 3))))) sNil) (sSeq (sIf (eT (eBin (fEq false) (eVar 4) (eC (.int 4)))) (sRet (eBin fAdd (eVar 1) (eTup (aCons (eTup aNil) aNil)))) sNil) (sSeq (sIf (eT (eBin (fEq false) (eVar 4) (eC (.int 5)))) (sRet (eBin fAdd (eBin fAdd (eSl (eVar 1) oNone (oSome (eVar 3))) (eTup (aCons (eC (.int 0)) aNil))) (eSl (eVar 1) (oSome (eVar 3)) oNone))) sNil) (sSeq (sIf (eT (eBin (fEq false) (eVar 4) (eC (.int 6)))) (sRet (eBin fAdd (eSl (eVar 1) oNone (oSome (eUn fNeg (eC (.int 1))))) (eSl (eVar 1) oNone (oSome (eC (.int 1)))))) sNil) (sRet (eC .none))))))))
      (rhoT b es deep a h) S = .rt (.p r) S ∧ SpR (.tuple es) r := by
  have hlen : es.length ≤ 1000000 := Nat.le_trans (len_ndL es) hz
  have ltk : ∀ k, (es.take k).length ≤ es.length := fun k => by rw [List.length_take]; omega
  have ldr : ∀ k, (es.drop k).length ≤ es.length := fun k => by rw [List.length_drop]; omega
  have lt1 : ∀ l : List PyData, (l.take 1).length ≤ 1 := fun l => by rw [List.length_take]; omega
  have mt : ∀ k d, d ∈ es.take k → d ∈ es := fun k d hd => List.mem_of_mem_take hd
  have md : ∀ k d, d ∈ es.drop k → d ∈ es := fun k d hd => List.mem_of_mem_drop hd
  have dm : ∀ d, d ∈ es → PyData.depth d ≤ PyData.depthAll es + 1 := fun d hd => by have := depthAll_mem hd; omega
  have s1 := ndL_td es a
  have c1 := cnt_td es a
  have fin : ∀ ys : List PyData, (∀ d ∈ ys, d ∈ es ∨ d = .tuple [] ∨ d = .int 0) → ndL ys ≤ 2 * ndL es + 20 → (ys.filter isIn).length ≤ (es.filter isIn).length + 1 → SpR (.tuple es) (.tuple ys) := fun ys hm hn hi => by
    refine SpR.tup (fun d hd => ?_) (fun d hd => ?_) hn hi
    · rcases hm d hd with h | rfl | rfl
      · exact hl d h
      · rfl
      · rfl
    · rcases hm d hd with h | rfl | rfl
      · exact dm d h
      · simp [PyData.depth, PyData.depthAll]
      · simp [PyData.depth]
  have t1n : ∀ l : List PyData, ndL (l.take 1) ≤ ndL l := fun l => by have := ndL_td l 1; omega
  have t1c : ∀ l : List PyData, ((l.take 1).filter isIn).length ≤ 1 := fun l => Nat.le_trans (List.length_filter_le _ _) (lt1 l)
  have cases8 : h = 0 ∨ h = 1 ∨ h = 2 ∨ h = 3 ∨ h = 4 ∨ h = 5 ∨ h = 6 ∨ h = 7 := by omega
  rcases cases8 with e | e | e | e | e | e | e | e
  · refine ⟨.list es, ?_, ⟨lay_lstI hl, by rw [dep_lst, dep_tup]; omega, by simp [LK.nd]; omega, by simp [inN]⟩⟩
    rw [stpr ((sIf_t (how_eq e)).trans (sRet_of ((cb1 (d := .p (.tuple es)) rfl).trans rfl)))]
  · refine ⟨.tuple (es.take a ++ es.drop (a + 1)), ?_, fin _ (fun d hd => ?_) ?_ ?_⟩
    · rw [stIf_f (how_ne (by omega)), stpr ((sIf_t (how_eq e)).trans (sRet_of ((bin_of up_a from_a1).trans (addT _ (by have := ltk a; have := ldr (a + 1); omega)))))]
    · rcases List.mem_append.mp hd with h | h
      · exact .inl (mt _ _ h)
      · exact .inl (md _ _ h)
    · have := ndL_td (es.drop a) 1
      rw [List.drop_drop] at this
      rw [ndL_append]; omega
    · have := cnt_td (es.drop a) 1
      rw [List.drop_drop] at this
      rw [cntI_append]; omega
  · refine ⟨.tuple (es.take a ++ (es.drop a).take 1 ++ es.drop a), ?_, fin _ (fun d hd => ?_) ?_ ?_⟩
    · rw [stIf_f (how_ne (by omega)), stIf_f (how_ne (by omega)), stpr ((sIf_t (how_eq e)).trans (sRet_of ((bin_of ((bin_of up_a at_a).trans (addT _ (by have := ltk a; have := lt1 (es.drop a); omega))) from_a).trans (addT _ (by rw [List.length_append]; have := ltk a; have := lt1 (es.drop a); have := ldr a; omega)))))]
    · rcases List.mem_append.mp hd with h | h
      · rcases List.mem_append.mp h with h | h
        · exact .inl (mt _ _ h)
        · exact .inl (md _ _ (List.mem_of_mem_take h))
      · exact .inl (md _ _ h)
    · have := t1n (es.drop a)
      rw [ndL_append, ndL_append]; omega
    · have := t1c (es.drop a)
      rw [cntI_append, cntI_append]; omega
  · refine ⟨.tuple (es.drop a ++ es.take a), ?_, fin _ (fun d hd => ?_) ?_ ?_⟩
    · rw [stIf_f (how_ne (by omega)), stIf_f (how_ne (by omega)), stIf_f (how_ne (by omega)), stpr ((sIf_t (how_eq e)).trans (sRet_of ((bin_of from_a up_a).trans (addT _ (by have := ltk a; have := ldr a; omega)))))]
    · rcases List.mem_append.mp hd with h | h
      · exact .inl (md _ _ h)
      · exact .inl (mt _ _ h)
    · rw [ndL_append]; omega
    · rw [cntI_append]; omega
  · refine ⟨.tuple (es ++ [.tuple []]), ?_, fin _ (fun d hd => ?_) ?_ ?_⟩
    · rw [stIf_f (how_ne (by omega)), stIf_f (how_ne (by omega)), stIf_f (how_ne (by omega)), stIf_f (how_ne (by omega)), stpr ((sIf_t (how_eq e)).trans (sRet_of ((bin_of (d := .p (.tuple es)) (S1 := S) rfl (tup1 (a := .tuple []) (S1 := S) (by simp [sSeq, thenS, sIf, sSet, sRet, sExpr, eT, asB, eIf, eAnd, eOr, eNot, eChain, onB, eBin, eUn, eVar, eC, eCB, on1, on2, aCons, aNil, eTup, eLst, eCell, kTup, kLst, kCell, asPs, bAnd, bOr, bNot, M.bind, M.pure, bindS, slots, finR, sizeLine_eq]))).trans (addT _ (by simp; omega)))))]
    · rcases List.mem_append.mp hd with h | h
      · exact .inl h
      · exact .inr (.inl (by simpa using h))
    · rw [ndL_append]; simp [ndL, nd]; omega
    · rw [cntI_append]; have := cntI_cons (.tuple []) []; simp at this ⊢; omega
  · refine ⟨.tuple (es.take a ++ [.int 0] ++ es.drop a), ?_, fin _ (fun d hd => ?_) ?_ ?_⟩
    · rw [stIf_f (how_ne (by omega)), stIf_f (how_ne (by omega)), stIf_f (how_ne (by omega)), stIf_f (how_ne (by omega)), stIf_f (how_ne (by omega)), stpr ((sIf_t (how_eq e)).trans (sRet_of ((bin_of ((bin_of up_a (tup1 (a := .int 0) (S1 := S) rfl)).trans (addT _ (by have := ltk a; simp; omega))) from_a).trans (addT _ (by rw [List.length_append]; have := ltk a; have := ldr a; simp; omega)))))]
    · rcases List.mem_append.mp hd with h | h
      · rcases List.mem_append.mp h with h | h
        · exact .inl (mt _ _ h)
        · exact .inr (.inr (by simpa using h))
      · exact .inl (md _ _ h)
    · rw [ndL_append, ndL_append]; simp [ndL, nd]; omega
    · rw [cntI_append, cntI_append]; have := cntI_cons (.int 0) []; simp at this ⊢; omega
  · refine ⟨.tuple (es.take (es.length - 1) ++ es.take 1), ?_, fin _ (fun d hd => ?_) ?_ ?_⟩
    · rw [stIf_f (how_ne (by omega)), stIf_f (how_ne (by omega)), stIf_f (how_ne (by omega)), stIf_f (how_ne (by omega)), stIf_f (how_ne (by omega)), stIf_f (how_ne (by omega)), stpr ((sIf_t (how_eq e)).trans (sRet_of ((bin_of but_last one_first).trans (addT _ (by have := ltk (es.length - 1); have := lt1 es; omega)))))]
    · rcases List.mem_append.mp hd with h | h
      · exact .inl (mt _ _ h)
      · exact .inl (mt _ _ h)
    · have := ndL_td es (es.length - 1)
      have := t1n es
      rw [ndL_append]; omega
    · have := cnt_td es (es.length - 1)
      have := t1c es
      rw [cntI_append]; omega
  · refine ⟨.none, ?_, ⟨rfl, by rw [dep_tup]; simp [PyData.depth], by simp [LK.nd], by simp [inN]⟩⟩
    rw [stIf_f (how_ne (by omega)), stIf_f (how_ne (by omega)), stIf_f (how_ne (by omega)), stIf_f (how_ne (by omega)), stIf_f (how_ne (by omega)), stIf_f (how_ne (by omega)), stIf_f (how_ne (by omega))]
    exact sRet_of rfl
end LK
set_option Elab.async false
set_option linter.all false
set_option maxRecDepth 100000
set_option maxHeartbeats 1000000
namespace LK
open PySem PySem.Spec L2 DL
theorem neTup0 (S : Store) (ds : List PyData) (h : shp (.tuple ds)) : fEq true (.p (.tuple ds)) (.p (.tuple [])) S = .ok (.p (.bool (!ds.isEmpty))) S := by
  have h2 : SeqAt.shaped (.tuple []) = true := rfl
  have e : PyData.eqv (.tuple ds) (.tuple []) = ds.isEmpty := by cases ds <;> simp [PyData.eqv, PyData.eqvAll]
  have h : SeqAt.shaped (.tuple ds) = true := h
  simp [fEq, toPy, h, h2, e]
theorem fix_tup {ds : List PyData} {k : Nat} (h : k < ds.length) (S : Store) : fIx (.p (.tuple ds)) (.p (.int k)) S = .ok (.p ds[k]) S := by
  show ofO S ((atI ds k).map D.p) = _
  unfold atI
  rw [ixN_nat h]
  simp [h, ofO]
theorem len_b : (Str.ofString "b").length = 1 := by decide +kernel
theorem len_a : (Str.ofString "a").length = 1 := by decide +kernel
theorem pick_sp {S : Store} {b : Nat} {v : PyData} {X : Fe} {ρ : Sl} {ds : List PyData} (hb : Bx b S) (h0 : eVar 0 ρ S = .ok (.o b) S) (hX : X ρ S = .ok (.p (.list ds)) S) (hn : ds ≠ []) (hl : ds.length < 10 ^ 9) (hd : ∀ d ∈ ds, SpR v d) :
    ∃ r S', sRet (eCB F__law_pick (aCons (eVar 0) (aCons X aNil))) ρ S = .rt (.p r) S' ∧ SpR v r ∧ Kp b S S' ∧ S'.length = S.length := by
  obtain ⟨d, S', e, h1, h2, h3⟩ := pick_kp hb ds hn hl
  exact ⟨d, S', sRet_of ((cb2 h0 hX).trans e), hd d h1, h2, h3⟩
theorem spoilt_ok {b : Nat} : ∀ (n : Nat) (deep : Int) (v : PyData) (S : Store), 0 ≤ deep → deep < n → gd v = true → shp v → nd v ≤ 1000000 → Bx b S →
    ∃ r S', F__law_spoilt n [.o b, .p v, .p (.int deep)] S = .ok (.p r) S' ∧ SpR v r ∧ Kp b S S' ∧ S'.length = S.length
  | 0, deep, v, S, h0, h1, _, _, _, _ => absurd h1 (by omega)
  | n + 1, deep, v, S, h0, h1, hg, hs, hz, hb => by
    have hn := lay_noDict (shp_lay hs)
    have it := isi_tupD S v hn
    suffices hh : ∃ r S', g__law_spoilt (F__law_spoilt n) [some (.o b), some (.p v), some (.p (.int deep)), none, none] S = .rt (.p r) S' ∧ SpR v r ∧ Kp b S S' ∧ S'.length = S.length by
      obtain ⟨r, S', e, h2, h3, h4⟩ := hh
      exact ⟨r, S', finR_of (F := F__law_spoilt (n + 1)) rfl rfl e, h2, h3, h4⟩
    unfold g__law_spoilt
    by_cases ht : ∃ es, v = .tuple es
    · obtain ⟨es, rfl⟩ := ht
      have it : fIsi "tuple" (.p (.tuple es)) S = .ok (.p (.bool true)) S := it
      have hl : ∀ d ∈ es, lay d := lay_tup (shp_lay hs)
      have hze : ndL es ≤ 1000000 := by simp [nd] at hz; omega
      have hlen : es.length ≤ 1000000 := Nat.le_trans (len_ndL es) hze
      obtain ⟨got, S1, e1, g0, g1, k1, l1⟩ := take_kp hb ((es.length : Int) + 1) (by omega) (by omega)
      obtain ⟨a, rfl⟩ : ∃ a : Nat, got = a := ⟨got.toNat, by omega⟩
      have q1 : sSet 3 (eCB F__law_take (aCons (eVar 0) (aCons (eBin fAdd (eCB (on1 fLen) (aCons (eVar 1) aNil)) (eC (.int 1))) aNil))) [some (.o b), some (.p (.tuple es)), some (.p (.int deep)), none, none] S = .nx (rhoO b es deep a none) S1 :=
        sSet_of ((cb2 (d := .o b) (e := .p (.int ((es.length : Int) + 1))) rfl ((bin_of ((cb1 (d := .p (.tuple es)) rfl).trans rfl) rfl).trans rfl)).trans e1)
      -- the part behind
      have tail : ∀ (S2 : Store), Kp b S S2 → S2.length = S.length → ∃ r S', sSeq (sSet 4 (eCB F__law_take (aCons (eVar 0) (aCons (eC (.int 8)) aNil)))) (sSeq (sIf (eT (eBin (fEq false) (eVar 4) (eC (.int 0)))) (sRet (eCB (on1 fList) (aCons (eVar 1) aNil))) sNil) (sSeq (sIf (eT (eBin (fEq false) (eVar 4) (eC (.int 1)))) (sRet (eBin fAdd (eSl (eVar 1) oNone (oSome (eVar 3))) (eSl (eVar 1) (oSome (eBin fAdd (eVar 3) (eC (.int 1)))) oNone))) sNil) (sSeq (sIf (eT (eBin (fEq false) (eVar 4) (eC (.int 2)))) (sRet (eBin fAdd (eBin fAdd (eSl (eVar 1) oNone (oSome (eVar 3))) (eSl (eVar 1) (oSome (eVar 3)) (oSome (eBin fAdd (eVar 3) (eC (.int 1)))))) (eSl (eVar 1) (oSome (eVar 3)) oNone))) sNil) (sSeq (sIf (eT (eBin (fEq false) (eVar 4) (eC (.int 3)))) (sRet (eBin fAdd (eSl (eVar 1) (oSome (eVar 3)) oNone) (eSl (eVar 1) oNone (oSome (eVar 3))))) sNil) (sSeq (sIf (eT (eBin (fEq false) (eVar 4) (eC (.int 4)))) (sRet (eBin fAdd (eVar 1) (eTup (aCons (eTup aNil) aNil)))) sNil) (sSeq (sIf (eT (eBin (fEq false) (eVar 4) (eC (.int 5)))) (sRet (eBin fAdd (eBin fAdd (eSl (eVar 1) oNone (oSome (eVar 3))) (eTup (aCons (eC (.int 0)) aNil))) (eSl (eVar 1) (oSome (eVar 3)) oNone))) sNil) (sSeq (sIf (eT (eBin (fEq false) (eVar 4) (eC (.int 6)))) (sRet (eBin fAdd (eSl (eVar 1) oNone (oSome (eUn fNeg (eC (.int 1))))) (eSl (eVar 1) oNone (oSome (eC (.int 1)))))) sNil) (sRet (eC .none)))))))))
          (rhoO b es deep a none) S2 = .rt (.p r) S' ∧ SpR (.tuple es) r ∧ Kp b S S' ∧ S'.length = S.length := by
        intro S2 hk hls
        obtain ⟨h, S3, e3, q0, q8, k3, l3⟩ := take_kp hk.box 8 (by omega) (by omega)
        obtain ⟨r, er, hr⟩ := spoilt_how (b := b) (deep := deep) (a := a) (S := S3) hl hze q0 q8
        refine ⟨r, S3, ?_, hr, hk.trans k3, by omega⟩
        exact (stSet ((cb2 (d := .o b) rfl rfl).trans e3)).trans er
      have ne := neTup0 S1 es hs
      have outer : ∀ {r : D} {S' : Store} {u w : Fs}, u [some (.o b), some (.p (.tuple es)), some (.p (.int deep)), none, none] S = .rt r S' → sSeq (sIf (eT (eUn (fIsi "tuple") (eVar 1))) u sNil) w [some (.o b), some (.p (.tuple es)), some (.p (.int deep)), none, none] S = .rt r S' := fun h => stpr ((sIf_t (eT_of ((un_of (d := .p (.tuple es)) rfl).trans it))).trans h)
      cases he : es.isEmpty with
      | true =>
        rw [he] at ne
        obtain ⟨r, S', e, h2, h3, h4⟩ := tail S1 k1 l1
        refine ⟨r, S', outer ?_, h2, h3, h4⟩
        exact (stp q1).trans ((stIf_f (bAnd_f (eT_of ((bin_of (d := .p (.tuple es)) rfl rfl).trans ne)))).trans e)
      | false =>
        rw [he] at ne
        have t1 : eT (eBin (fEq true) (eVar 1) (eTup aNil)) (rhoO b es deep a none) S1 = .ok true S1 := eT_of ((bin_of (d := .p (.tuple es)) rfl rfl).trans ne)
        have t2 : eT (eBin fGt (eVar 2) (eC (.int 0))) (rhoO b es deep a none) S1 = .ok (decide (0 < deep)) S1 := eT_of ((bin_of (d := .p (.int deep)) rfl rfl).trans rfl)
        by_cases hd : 0 < deep
        · rw [decide_eq_true hd] at t2
          obtain ⟨g3, S2, e3, q0, q5, k3, l3⟩ := take_kp k1.box 5 (by omega) (by omega)
          have t3 : eT (eBin fGt (eCB F__law_take (aCons (eVar 0) (aCons (eC (.int 5)) aNil))) (eC (.int 0))) (rhoO b es deep a none) S1 = .ok (decide (0 < g3)) S2 := eT_of ((bin_of ((cb2 (d := .o b) rfl rfl).trans e3) rfl).trans rfl)
          by_cases hg3 : 0 < g3
          · rw [decide_eq_true hg3] at t3
            have hp : 0 < es.length := by
              cases es with
              | nil => cases he
              | cons _ _ => simp
            obtain ⟨a2, ha2, hal⟩ : ∃ a2 : Nat, ((a : Int) % (es.length : Int)) = a2 ∧ a2 < es.length := ⟨a % es.length, by omega, Nat.mod_lt _ hp⟩
            have hmem : es[a2] ∈ es := List.getElem_mem hal
            have hge : gd es[a2] = true := gdL_mem (by simpa [gd] using hg) _ hmem
            obtain ⟨r, S4, e4, h2, h3, h4⟩ := spoilt_ok n (deep - 1) es[a2] S2 (by omega) (by omega) hge (shp_tup hs _ hmem) (by have := ndL_mem hmem; omega) k3.box
            have sp := split3 es a2 hal
            have n1 : ndL (es.take a2) + (nd es[a2] + ndL (es.drop (a2 + 1))) = ndL es := by
              have : ndL es = ndL (es.take a2 ++ es[a2] :: es.drop (a2 + 1)) := by rw [← sp]
              rw [this, ndL_append]; simp [ndL]
            have c1 : ((es.take a2).filter isIn).length + ((es.drop (a2 + 1)).filter isIn).length ≤ (es.filter isIn).length := by
              have : (es.filter isIn).length = ((es.take a2 ++ es[a2] :: es.drop (a2 + 1)).filter isIn).length := by rw [← sp]
              rw [this, cntI_append]
              by_cases hh : isIn es[a2] = true
              · rw [List.filter_cons_of_pos hh]; simp
              · rw [List.filter_cons_of_neg hh]; omega
            refine ⟨.tuple (es.take a2 ++ [r] ++ es.drop (a2 + 1)), S4, outer ?_, SpR.tup (fun d hd => ?_) (fun d hd => ?_) ?_ ?_, (k1.trans k3).trans h3, by omega⟩
            · refine (stp q1).trans ?_
              refine stpr ((sIf_t ((bAnd_t t1).trans ((bAnd_t t2).trans t3))).trans ?_)
              have m1 : eBin fMod (eCB (on1 fInt) (aCons (eVar 3) aNil)) (eCB (on1 fLen) (aCons (eVar 1) aNil)) (rhoO b es deep a none) S2 = .ok (.p (.int a2)) S2 := by
                refine (bin_of (d := .p (.int a)) (e := .p (.int es.length)) ((cb1 (d := .p (.int a)) rfl).trans rfl) ((cb1 (d := .p (.tuple es)) rfl).trans rfl)).trans ?_
                show (if _ then _ else _) = _
                rw [if_pos (by omega)]
                show R.ok (D.p (.int ((a : Int) % es.length))) S2 = _
                rw [ha2]
              refine (stSet m1).trans ?_
              have f4 : eCB (F__law_spoilt n) (aCons (eVar 0) (aCons (eBin fIx (eVar 1) (eVar 3)) (aCons (eBin fSub (eVar 2) (eC (.int 1))) aNil))) (rhoO b es deep a2 none) S2 = .ok (.p r) S4 :=
                (cb3 (d := .o b) (e := .p es[a2]) (f := .p (.int (deep - 1))) rfl ((bin_of (d := .p (.tuple es)) rfl rfl).trans (fix_tup hal S2)) ((bin_of (d := .p (.int deep)) rfl rfl).trans rfl)).trans e4
              exact sRet_of ((bin_of ((bin_of (up_a (x4 := none)) (tup1 f4)).trans (addT _ (by rw [List.length_take]; simp; omega))) (from_a1 (x4 := none))).trans (addT _ (by rw [List.length_append, List.length_take, List.length_drop]; simp; omega)))
            · rcases List.mem_append.mp hd with h | h
              · rcases List.mem_append.mp h with h | h
                · exact hl _ (List.mem_of_mem_take h)
                · have : d = r := by simpa using h
                  rw [this]; exact h2.lay
              · exact hl _ (List.mem_of_mem_drop h)
            · rcases List.mem_append.mp hd with h | h
              · rcases List.mem_append.mp h with h | h
                · have := depthAll_mem (List.mem_of_mem_take h); omega
                · have : d = r := by simpa using h
                  rw [this]
                  have h5 := h2.dep
                  have h6 := depthAll_mem hmem
                  omega
              · have := depthAll_mem (List.mem_of_mem_drop h); omega
            · have := h2.nd
              rw [ndL_append, ndL_append]; simp [ndL]; omega
            · have := cntI_cons r []
              rw [cntI_append, cntI_append]; simp at this ⊢; omega
          · rw [decide_eq_false hg3] at t3
            obtain ⟨r, S', e, h2, h3, h4⟩ := tail S2 (k1.trans k3) (by omega)
            refine ⟨r, S', outer ?_, h2, h3, h4⟩
            exact (stp q1).trans ((stIf_f ((bAnd_t t1).trans ((bAnd_t t2).trans t3))).trans e)
        · rw [decide_eq_false hd] at t2
          obtain ⟨r, S', e, h2, h3, h4⟩ := tail S1 k1 l1
          refine ⟨r, S', outer ?_, h2, h3, h4⟩
          exact (stp q1).trans ((stIf_f ((bAnd_t t1).trans (bAnd_f t2))).trans e)
    · have hv : isTupD' v = false := by cases v <;> first | rfl | exact absurd ⟨_, rfl⟩ ht
      rw [hv] at it
      have is := isi_str S v hn
      have iw := law_whole_ok v hn S
      rw [stIf_f (eT_of ((un_of (d := .p v) rfl).trans it))]
      have small : ∀ d : PyData, lay d → PyData.depth d ≤ 1 → nd d ≤ 20 → inN d ≤ 1 → SpR v d := fun d a1 a2 a3 a4 => ⟨a1, by omega, by omega, by omega⟩
      cases v with
      | tuple es => exact absurd ⟨_, rfl⟩ ht
      | dict _ => cases hn
      | str x =>
        have hx : PyData.strOk x = true ∧ x.length ≤ 1000 := by simpa [gd] using hg
        have is : fIsi "str" (.p (.str x)) S = .ok (.p (.bool true)) S := is
        have lst : eLst (aCons (eBin fAdd (eVar 1) (eC (.str "b"))) (aCons (eC (.str "")) (aCons (eSl (eVar 1) (oSome (eC (.int 1))) oNone) (aCons (eBin fAdd (eC (.str "a")) (eVar 1)) (aCons (eC (.int 0)) aNil))))) [some (.o b), some (.p (.str x)), some (.p (.int deep)), none, none] S = .ok (.p (.list [.str (x ++ "b"), .str "", .str (cutS x (some 1) none), .str ("a" ++ x), .int 0])) S := by
          have a1 : fAdd (.p (.str x)) (.p (.str "b")) S = .ok (.p (.str (x ++ "b"))) S := addS S (by rw [len_b]; omega)
          have a2 : fAdd (.p (.str "a")) (.p (.str x)) S = .ok (.p (.str ("a" ++ x))) S := addS S (by rw [len_a]; omega)
          have a3 : fSl (some 1) none (.p (.str x)) S = .ok (.p (.str (cutS x (some 1) none))) S := by
            show (if _ then _ else _) = _
            rw [if_pos (by rw [sizeLine_eq]; omega)]
          simp [eLst, eBin, eSl, oSome, oNone, asI, aCons, aNil, eVar, eC, M.bind, M.pure, kLst, asPs, sizeLine_eq, a1, a2, a3]
        obtain ⟨r, S', e, h2, h3, h4⟩ := pick_sp (v := .str x) (ρ := [some (.o b), some (.p (.str x)), some (.p (.int deep)), none, none]) hb rfl lst (by simp) (by simp) (fun d hd => by
          simp only [List.mem_cons, List.not_mem_nil, or_false] at hd
          rcases hd with rfl | rfl | rfl | rfl | rfl
          · exact small _ (by show PyData.canLay0 _ = true; rw [PyData.canLay0]; exact strOk_app hx.1 (strOk_str "b")) (by simp [PyData.depth]) (by simp [nd]) (by simp [inN])
          · exact small _ (by show PyData.canLay0 _ = true; rw [PyData.canLay0]; exact strOk_str "") (by simp [PyData.depth]) (by simp [nd]) (by simp [inN])
          · exact small _ (by show PyData.canLay0 _ = true; rw [PyData.canLay0]; exact strOk_cut _ _ hx.1) (by simp [PyData.depth]) (by simp [nd]) (by simp [inN])
          · exact small _ (by show PyData.canLay0 _ = true; rw [PyData.canLay0]; exact strOk_app (strOk_str "a") hx.1) (by simp [PyData.depth]) (by simp [nd]) (by simp [inN])
          · exact small _ rfl (by simp [PyData.depth]) (by simp [nd]) (by simp [inN]))
        exact ⟨r, S', stpr ((sIf_t (eT_of ((un_of (d := .p (.str x)) rfl).trans is))).trans e), h2, h3, h4⟩
      | int i =>
        have hi : i.natAbs < 2 ^ 60 := by simpa [gd] using hg
        have is : fIsi "str" (.p (.int i)) S = .ok (.p (.bool false)) S := is
        have iw : F__law_whole [.p (.int i)] S = .ok (.p (.bool true)) S := iw
        have lst : eLst (aCons (eBin fAdd (eVar 1) (eC (.int 1))) (aCons (eBin fSub (eVar 1) (eC (.int 1))) (aCons (eBin fGt (eVar 1) (eC (.int 0))) (aCons (eBin fSub (eUn fNeg (eC (.int 1))) (eVar 1)) (aCons (eTup (aCons (eVar 1) aNil)) (aCons (eC .none) (aCons (eCB (on1 fStr) (aCons (eVar 1) aNil)) (aCons (eBin fAdd (eVar 1) (eC (.int 16))) aNil)))))))) [some (.o b), some (.p (.int i)), some (.p (.int deep)), none, none] S = .ok (.p (.list [.int (i + 1), .int (i - 1), .bool (decide (0 < i)), .int (-1 - i), .tuple [.int i], .none, .str (toString i), .int (i + 16)])) S := by
          have a1 : fStr (.p (.int i)) S = .ok (.p (.str (toString i))) S := by
            show (if _ then _ else _) = _
            have : i.natAbs.log2 < 1920 := by
              by_cases h0 : i.natAbs = 0
              · rw [h0]; decide
              · have := (Nat.log2_lt h0 (k := 60)).mpr hi; omega
            rw [if_pos this]
          simp [eLst, eBin, eUn, eTup, eCB, on1, fAdd, fSub, fGt, fI0, fNeg, aCons, aNil, eVar, eC, M.bind, M.pure, kLst, kTup, asPs, sizeLine_eq, a1]
        obtain ⟨r, S', e, h2, h3, h4⟩ := pick_sp (v := .int i) (ρ := [some (.o b), some (.p (.int i)), some (.p (.int deep)), none, none]) hb rfl lst (by simp) (by simp) (fun d hd => by
          simp only [List.mem_cons, List.not_mem_nil, or_false] at hd
          rcases hd with rfl | rfl | rfl | rfl | rfl | rfl | rfl | rfl
          · exact small _ rfl (by simp [PyData.depth]) (by simp [nd]) (by simp [inN])
          · exact small _ rfl (by simp [PyData.depth]) (by simp [nd]) (by simp [inN])
          · exact small _ rfl (by simp [PyData.depth]) (by simp [nd]) (by simp [inN])
          · exact small _ rfl (by simp [PyData.depth]) (by simp [nd]) (by simp [inN])
          · exact small _ rfl (by simp [PyData.depth, PyData.depthAll]) (by simp [nd, ndL]) (by simp [inN, isIn])
          · exact small _ rfl (by simp [PyData.depth]) (by simp [nd]) (by simp [inN])
          · exact small _ (by show PyData.canLay0 _ = true; rw [PyData.canLay0]; exact strOk_str _) (by simp [PyData.depth]) (by simp [nd]) (by simp [inN])
          · exact small _ rfl (by simp [PyData.depth]) (by simp [nd]) (by simp [inN]))
        refine ⟨r, S', ?_, h2, h3, h4⟩
        rw [stIf_f (eT_of ((un_of (d := .p (.int i)) rfl).trans is))]
        exact stpr ((sIf_t (eT_of ((cb1 (d := .p (.int i)) rfl).trans iw))).trans e)
      | _ =>
        have lst : ∀ x, eLst (aCons (eC (.int 0)) (aCons (eTup aNil) (aCons (eC (.str "none")) aNil))) [some (.o b), x, some (.p (.int deep)), none, none] S = .ok (.p (.list [.int 0, .tuple [], .str "none"])) S := fun x => by
          simp [eLst, eTup, aCons, aNil, eC, M.bind, M.pure, kLst, kTup, asPs, sizeLine_eq]
        obtain ⟨r, S', e, h2, h3, h4⟩ := pick_sp (ρ := [some (.o b), some (.p _), some (.p (.int deep)), none, none]) hb rfl (lst _) (by simp) (by simp) (fun d hd => by
          simp only [List.mem_cons, List.not_mem_nil, or_false] at hd
          rcases hd with rfl | rfl | rfl
          · exact small _ rfl (by simp [PyData.depth]) (by simp [nd]) (by simp [inN])
          · exact small _ rfl (by simp [PyData.depth, PyData.depthAll]) (by simp [nd, ndL]) (by simp [inN])
          · exact small _ (by show PyData.canLay0 _ = true; rw [PyData.canLay0]; exact strOk_str _) (by simp [PyData.depth]) (by simp [nd]) (by simp [inN]))
        refine ⟨r, S', ?_, h2, h3, h4⟩
        rw [stIf_f (eT_of ((un_of (d := .p _) rfl).trans is)), stIf_f (eT_of ((cb1 (d := .p _) rfl).trans iw))]
        exact e
end LK
set_option Elab.async false
set_option linter.all false
set_option maxRecDepth 100000
set_option maxHeartbeats 1000000
namespace LK
open PySem PySem.Spec L2 DL
/-! traces, shapes -/
theorem trPs_run {n : Nat} {g : PyData} {qs ps : List PyData} {a b : List PyData} (h1 : trF n (.tuple [g, .tuple qs]) = some a) (h2 : trPs n ps = some b) : trPs n (.tuple [g, .tuple qs] :: ps) = some (a ++ b) := by
  unfold trPs
  dsimp only
  rw [h1, h2]
  rfl
theorem sp_tr : ∀ (ps : List PyData) (n : Nat), sp ps = true → PyData.depthAll ps ≤ n → trPs n ps = some (evP ps)
  | [], n, _, _ => by rw [evP_nil]; unfold trPs; rfl
  | p :: ps, n, h, hd => by
    rw [PyData.depthAll] at hd
    cases sp_pk h with
    | int i =>
      rw [sp_int] at h
      have ih := sp_tr ps n h (by omega)
      rw [evP_int]
      unfold trPs
      rw [ih]
      rfl
    | run g qs =>
      rw [sp_run, Bool.and_eq_true] at h
      have ih := sp_tr ps n h.2 (by omega)
      have hdp : PyData.depth (.tuple [.int g, .tuple qs]) = PyData.depthAll qs + 2 := by simp [PyData.depth, PyData.depthAll]
      rw [hdp] at hd
      cases n with
      | zero => omega
      | succ m =>
        have ih2 := sp_tr qs m h.1 (by omega)
        have e1 : trF (m + 1) (.tuple [.int g, .tuple qs]) = some (trE g qs) := by
          unfold trF
          rw [ih2]
          rfl
        rw [trPs_run e1 ih, evP_run]
        simp [trE]
termination_by ps => sizeOf ps
theorem sp_trF {n : Nat} {f : Int} {ps : List PyData} (h : sp ps = true) (hd : PyData.depthAll ps ≤ n) : trF (n + 1) (runD f ps) = some (trE f ps) := by
  unfold runD trF
  rw [sp_tr ps n h hd]
  rfl
def shF : Nat → PyData → Bool
  | 0, _ => false
  | n + 1, .tuple [_, .tuple qs] => qs.all fun p => match p with
    | .tuple ds => shF n (.tuple ds)
    | _ => true
  | _ + 1, _ => false
def shP (n : Nat) : PyData → Bool
  | .tuple ds => shF n (.tuple ds)
  | _ => true
theorem shF_eq {n : Nat} {h : PyData} {qs : List PyData} : shF (n + 1) (.tuple [h, .tuple qs]) = qs.all (shP n) := by
  rw [shF]
  congr 1
theorem shF_no {n : Nat} {v : PyData} (h : ¬ ∃ a qs, v = .tuple [a, .tuple qs]) : shF (n + 1) v = false := by
  unfold shF
  split
  · rename_i e; cases e
  · rename_i e; cases e; exact absurd ⟨_, _, rfl⟩ h
  · rfl
theorem eqNilL (l : List PyData) (S : Store) (hs : SeqAt.shaped (.list l) = true) : fEq false (.p (.list l)) (.p (.list [])) S = .ok (.p (.bool l.isEmpty)) S := by
  have h2 : SeqAt.shaped (.list []) = true := rfl
  have e : PyData.eqv (.list l) (.list []) = l.isEmpty := by cases l <;> simp [PyData.eqv, PyData.eqvAll]
  simp [fEq, toPy, hs, h2, e]
theorem shaped_ok : ∀ (n : Nat) (v : PyData), shp v → PyData.depth v < n → nd v ≤ 1000000 → ∀ S, F__law_is_shaped n [.p v] S = .ok (.p (.bool (shF n v))) S
  | 0, v, _, h, _, _ => absurd h (by omega)
  | n + 1, v, hs, hd, hz, S => by
    have hn := lay_noDict (shp_lay hs)
    have it := isi_tupD S v hn
    refine finR_of (F := F__law_is_shaped (n + 1)) rfl rfl ?_
    unfold g__law_is_shaped
    have no : ∀ {x : Fb}, x [some (.p v), none] S = .ok true S → shF (n + 1) v = false → sSeq (sIf x (sRet (eC (.bool false))) sNil) (sRet (eBin (fEq false) (eLc (srcSeq (eBin fIx (eVar 0) (eC (.int 1)))) [1] (tName 1) (bAnd (eT (eUn (fIsi "tuple") (eVar 1))) (bNot (eT (eCB (F__law_is_shaped n) (aCons (eVar 1) aNil))))) (eVar 1)) (eLst aNil))) [some (.p v), none] S = .rt (.p (.bool (shF (n + 1) v))) S := fun hx hf => by
      rw [hf]
      exact stpr ((sIf_t hx).trans (sRet_of rfl))
    by_cases ht : ∃ ds, v = .tuple ds
    · obtain ⟨ds, rfl⟩ := ht
      have it : fIsi "tuple" (.p (.tuple ds)) S = .ok (.p (.bool true)) S := it
      have b1 : bNot (eT (eUn (fIsi "tuple") (eVar 0))) [some (.p (.tuple ds)), none] S = .ok false S := bNot_of (t := true) (eT_of ((un_of (d := .p (.tuple ds)) rfl).trans it))
      have b2 : eT (eBin (fEq true) (eCB (on1 fLen) (aCons (eVar 0) aNil)) (eC (.int 2))) [some (.p (.tuple ds)), none] S = .ok (!decide ((ds.length : Int) = 2)) S := eT_of ((bin_of (d := .p (.int ds.length)) ((cb1 (d := .p (.tuple ds)) rfl).trans rfl) rfl).trans (neInt S ds.length 2))
      by_cases hl : ds.length = 2
      · match ds, hl with
        | [a, b], _ =>
          have b2 : eT (eBin (fEq true) (eCB (on1 fLen) (aCons (eVar 0) aNil)) (eC (.int 2))) [some (.p (.tuple [a, b])), none] S = .ok false S := b2
          have hb := shp_tup hs b (by simp)
          have i1 := isi_tupD S b (lay_noDict (shp_lay hb))
          have b3 : bNot (eT (eUn (fIsi "tuple") (eBin fIx (eVar 0) (eC (.int 1))))) [some (.p (.tuple [a, b])), none] S = .ok (!isTupD' b) S := bNot_of (eT_of ((un_of (d := .p b) ((bin_of (d := .p (.tuple [a, b])) rfl rfl).trans rfl)).trans i1))
          by_cases hbt : ∃ qs, b = .tuple qs
          · obtain ⟨qs, rfl⟩ := hbt
            have b3 : bNot (eT (eUn (fIsi "tuple") (eBin fIx (eVar 0) (eC (.int 1))))) [some (.p (.tuple [a, .tuple qs])), none] S = .ok false S := b3
            have hq := shp_tup hb
            have hdq : ∀ p ∈ qs, PyData.depth p < n := fun p hp => by
              have h1 := depthAll_mem hp
              rw [dep_tup, PyData.depthAll, PyData.depthAll, dep_tup] at hd
              omega
            have hnq : ndL qs ≤ 1000000 := by simp [nd, ndL] at hz; omega
            have hsrc : srcSeq (eBin fIx (eVar 0) (eC (.int 1))) [some (.p (.tuple [a, .tuple qs])), none] S = .ok (.seq (.p (.tuple qs))) S := srcSeq_tup ((bin_of (d := .p (.tuple [a, .tuple qs])) rfl rfl).trans rfl)
            obtain ⟨l, S', e, ⟨⟨done, hd1, hd2⟩, hmem⟩, rfl⟩ := comp_gen (vs := [1]) (t := tName 1) (tb := bAnd (eT (eUn (fIsi "tuple") (eVar 1))) (bNot (eT (eCB (F__law_is_shaped n) (aCons (eVar 1) aNil))))) (el := eVar 1) hsrc qs (seq_tup_count _ _) (seq_tup_nxt _) (by have := len_ndL qs; omega)
              (fun rest acc T => ((∃ done, done ++ rest = qs ∧ acc.isEmpty = done.all (shP n)) ∧ ∀ d ∈ acc, d ∈ qs) ∧ T = S) ⟨⟨⟨[], rfl, rfl⟩, fun d hd => by cases hd⟩, rfl⟩
              (fun d rest acc T hdm ⟨⟨⟨done, h1, h2⟩, h3⟩, hT⟩ => by
                subst hT
                have hds := hq d hdm
                have i2 := isi_tupD T d (lay_noDict (shp_lay hds))
                have t1 : eT (eUn (fIsi "tuple") (eVar 1)) [some (.p (.tuple [a, .tuple qs])), some (.p d)] T = .ok (isTupD' d) T := eT_of ((un_of (d := .p d) rfl).trans i2)
                cases hdt : isTupD' d with
                | false =>
                  rw [hdt] at t1
                  refine ⟨[some (.p (.tuple [a, .tuple qs])), some (.p d)], false, T, rfl, bAnd_f t1, fun _ => ⟨⟨⟨done ++ [d], by simpa using h1, ?_⟩, h3⟩, rfl⟩, fun h => by cases h⟩
                  have : shP n d = true := by cases d <;> first | rfl | cases hdt
                  rw [List.all_append, h2]; simp [this]
                | true =>
                  rw [hdt] at t1
                  have ih := shaped_ok n d hds (hdq d hdm) (by have := ndL_mem hdm; omega) T
                  have t2 : bNot (eT (eCB (F__law_is_shaped n) (aCons (eVar 1) aNil))) [some (.p (.tuple [a, .tuple qs])), some (.p d)] T = .ok (!shF n d) T := bNot_of (eT_of ((cb1 (d := .p d) rfl).trans ih))
                  have es : shP n d = shF n d := by cases d <;> first | rfl | cases hdt
                  refine ⟨[some (.p (.tuple [a, .tuple qs])), some (.p d)], !shF n d, T, rfl, (bAnd_t t1).trans t2, fun hf => ⟨⟨⟨done ++ [d], by simpa using h1, ?_⟩, h3⟩, rfl⟩, fun ht => ⟨d, T, rfl, ⟨⟨done ++ [d], by simpa using h1, ?_⟩, fun x hx => ?_⟩, rfl⟩⟩
                  · have : shF n d = true := by simpa using hf
                    rw [List.all_append, h2]; simp [es, this]
                  · have : shF n d = false := by simpa using ht
                    rw [List.all_append]; simp [es, this]
                  · rcases List.mem_append.mp hx with hx | hx
                    · exact h3 x hx
                    · have : x = d := by simpa using hx
                      rw [this]; exact hdm)
            rw [List.append_nil] at hd1
            subst hd1
            have hsl : SeqAt.shaped (.list l) = true := by
              have h1 := shp_sub hb hmem
              have h1 : SeqAt.shaped (.tuple l) = true := h1
              unfold SeqAt.shaped at h1 ⊢
              rw [PyData.canLay0, dep_tup] at h1
              rw [PyData.canLay0, dep_lst]
              exact h1
            rw [shF_eq, ← hd2]
            refine (stIf_f ((bOr_f b1).trans ((bOr_f b2).trans b3))).trans ?_
            exact sRet_of ((bin_of e rfl).trans (eqNilL l _ hsl))
          · have hbf : isTupD' b = false := by cases b <;> first | rfl | exact absurd ⟨_, rfl⟩ hbt
            rw [hbf] at b3
            refine no ((bOr_f b1).trans ((bOr_f b2).trans b3)) (shF_no ?_)
            rintro ⟨a', qs', e⟩
            simp at e
            exact hbt ⟨_, e.2⟩
      · have hne : ¬ ((ds.length : Int) = 2) := by omega
        rw [decide_eq_false hne] at b2
        refine no ((bOr_f b1).trans (bOr_t b2)) (shF_no ?_)
        rintro ⟨a', qs', e⟩
        cases e
        exact hl rfl
    · have hf : isTupD' v = false := by cases v <;> first | rfl | exact absurd ⟨_, rfl⟩ ht
      rw [hf] at it
      refine no (bOr_t (bNot_of (t := false) (eT_of ((un_of (d := .p v) rfl).trans it)))) (shF_no ?_)
      rintro ⟨a', qs', e⟩
      exact ht ⟨_, e⟩
/-! what is compared -/
theorem ne_same (S : Store) (d : PyData) (h : shp d) : fEq true (.p d) (.p d) S = .ok (.p (.bool false)) S := by
  have h1 : SeqAt.shaped d = true := h
  have e := SeqAt.eqv_refl d (shp_lay h)
  simp [fEq, toPy, h1, e]
theorem shp_pair {s : String} {d : PyData} (h : lay d) (hd : PyData.depth d ≤ 60) : shp (.tuple [.str s, d]) := by
  have c1 : PyData.canLay0 (.tuple [.str s, d]) = true := by
    rw [PyData.canLay0, PyData.canLayAll0, PyData.canLayAll0, PyData.canLayAll0, PyData.canLay0, strOk_str]
    unfold lay at h
    rw [h]; rfl
  have c2 : PyData.depth (.tuple [.str s, d]) ≤ 64 := by
    simp [PyData.depth, PyData.depthAll]; omega
  show (PyData.canLay0 _ && decide (PyData.depth _ ≤ 64)) = true
  rw [c1, decide_eq_true c2]; rfl
end LK
set_option Elab.async false
set_option linter.all false
set_option maxRecDepth 100000
set_option maxHeartbeats 2000000
namespace LK
open PySem PySem.Spec L2 DL
/-! the values at the bounds -/
def rp (n : Nat) (d : PyData) : List PyData := (List.replicate n [d]).flatten
def rnV (f : Int) (ps : List PyData) : PyData := .tuple [.int f, .tuple ps]
def vA : List PyData := [.tuple [], .tuple [.int 0], .tuple [.int 0, .tuple []], .tuple [.int 0, .tuple [.int 1]], .tuple [.int 0, .tuple [.int 0]], .tuple [.int 0, .tuple [.int (-1)]], .tuple [.int 0, .tuple [.bool true]], .tuple [.int 0, .tuple [.none]], .list [.int 0, .tuple []], .tuple [.int 0, .list [.int 1]], .tuple [.int 1, .tuple []], .none, .int 0]
def vB (k : Int) : List PyData := [.tuple [.int 0, .tuple [.tuple [.int 0, .tuple []]]], .tuple [.int 0, .tuple [.tuple [.int k, .tuple []]]], .tuple [.bool true, .tuple []], .tuple [.int 0, .tuple [.tuple []]], .tuple [.int 0, .tuple [.str "1"]], .tuple [.int 0, .tuple (rp 400 (.int 1))], .tuple [.int 0, .tuple (rp 401 (.int 1))]]
def vC : List PyData := [.tuple [.int 0, .tuple [.int 999999]], .tuple [.int 0, .tuple [.int 1000000]], .tuple [.int 0, .tuple [.int 999998, .int 1]], .tuple [.int 0, .tuple [.int 999999, .int 1]], .tuple [.int 0, .tuple [.int 500000, .int 500000]]]
def vD : List PyData := [rnV 0 (rp 199 (rnV 1 [])), rnV 0 (rp 200 (rnV 1 [])), rnV 0 (rp 199 (rnV 1 [.int 5000]) ++ [.int 4999]), rnV 0 (rp 199 (rnV 1 [.int 5000]) ++ [.int 5000])]
def vE : List PyData := [rnV 0 [rnV 1 [.int 500000], rnV 1 [.int 499999]], rnV 0 [rnV 1 [.int 500000], rnV 1 [.int 500000]]]
def vF : List PyData := [rnV 0 [rnV 1 (rp 198 (rnV 2 []))], rnV 0 [rnV 1 (rp 199 (rnV 2 []))], rnV 0 [rnV 1 [rnV 2 [.int 900000], .int 99999]], rnV 0 [rnV 1 [rnV 2 [.int 900000], .int 100000]]]
theorem rep_ok (n : Nat) (d : PyData) (h : 2 ≤ n) (h2 : n ≤ 1000) (S : Store) : fRepT (.p (.tuple [d])) (.p (.int n)) S = .ok (.p (.tuple (rp n d))) S := by
  have c : (([d] : List PyData) ≠ [] ∧ 2 ≤ (n : Int) ∧ (n : Int) ≤ 1000 ∧ ([d] : List PyData).length ≤ 1000) := ⟨by simp, by omega, by omega, by simp⟩
  unfold fRepT
  dsimp only
  rw [if_pos c]
  rfl
theorem inE_ok (S : Store) (E : Es) (f g : Int) : fIn false (.p (.tuple [.int f, .int g])) (.p (.tuple (E.map edgeD))) S = .ok (.p (.bool (decide ((f, g) ∈ E)))) S := by
  have h1 : SeqAt.shaped (.tuple [.int f, .int g]) = true := rfl
  have h2 := shaped_edges E
  have h3 := edge_in E f g
  simp [fIn, toPy, seqPy, h1, h2, h3]
theorem catL {xs ys : List PyData} (S : Store) (h : xs.length + ys.length ≤ 1000) : fAdd (.p (.list xs)) (.p (.list ys)) S = .ok (.p (.list (xs ++ ys))) S := by
  show (if _ then _ else _) = _
  rw [if_pos (by rw [sizeLine_eq]; omega)]
theorem al_nil {ρ : Sl} {S : Store} : aNil ρ S = .ok [] S := rfl
theorem al_cons {X : Fe} {fs : Fl} {ρ : Sl} {S : Store} {d : D} {ds : List D} (h : X ρ S = .ok d S) (g : fs ρ S = .ok ds S) : aCons X fs ρ S = .ok (d :: ds) S := by
  simp [aCons, M.bind, M.pure, h, g]
theorem lst_of {fs : Fl} {ρ : Sl} {S : Store} {l : List PyData} (h : fs ρ S = .ok (l.map D.p) S) (hl : l.length ≤ 1000) : eLst fs ρ S = .ok (.p (.list l)) S := by
  simp only [eLst, M.bind, h, kLst, asPs_map]
  rw [if_pos (by rw [sizeLine_eq]; omega)]
theorem tup_of {fs : Fl} {ρ : Sl} {S : Store} {l : List PyData} (h : fs ρ S = .ok (l.map D.p) S) (hl : l.length ≤ 1000) : eTup fs ρ S = .ok (.p (.tuple l)) S := by
  simp only [eTup, M.bind, h, kTup, asPs_map]
  rw [if_pos (by rw [sizeLine_eq]; omega)]
def vals (k : Int) (E : Es) : List PyData := vA ++ vB k ++ vC ++ (if (0, 1) ∈ E then vD ++ vE else []) ++ (if (0, 1) ∈ E ∧ (1, 2) ∈ E then vF else [])
theorem run_values_ok (k : Int) (E : Es) (S : Store) : F__law_run_values [.p (.tuple [.int k, .tuple (E.map edgeD)])] S = .ok (.p (.list (vals k E))) S := by
  generalize hcs : PyData.tuple [.int k, .tuple (E.map edgeD)] = cs
  have i0 : fIx (.p cs) (.p (.int 0)) S = .ok (.p (.int k)) S := by rw [← hcs]; rfl
  have i1 : fIx (.p cs) (.p (.int 1)) S = .ok (.p (.tuple (E.map edgeD))) S := by rw [← hcs]; rfl
  have r400 := rep_ok 400 (.int 1) (by omega) (by omega) S
  have r401 := rep_ok 401 (.int 1) (by omega) (by omega) S
  have r199 := rep_ok 199 (rnV 1 []) (by omega) (by omega) S
  have r200 := rep_ok 200 (rnV 1 []) (by omega) (by omega) S
  have r199b := rep_ok 199 (rnV 1 [.int 5000]) (by omega) (by omega) S
  have r198c := rep_ok 198 (rnV 2 []) (by omega) (by omega) S
  have r199c := rep_ok 199 (rnV 2 []) (by omega) (by omega) S
  have n1 := inE_ok S E 0 1
  have n2 := inE_ok S E 1 2
  have lrp : ∀ n d, (rp n d).length = n := fun n d => by simp [rp]
  refine finR_of (F := F__law_run_values) rfl rfl ?_
  unfold g__law_run_values
  have s1 : ∀ {X : Fe} {l : List PyData} {v : Fs} {r}, X [some (.p cs), r] S = .ok (.p (.list l)) S → sSeq (sSet 1 X) v [some (.p cs), r] S = v [some (.p cs), some (.p (.list l))] S := fun h => stSet h
  refine (s1 (l := vA) (by simp [sSeq, thenS, sIf, sSet, sRet, sExpr, eT, asB, eIf, eAnd, eOr, eNot, eChain, onB, eBin, eUn, eVar, eC, eCB, on1, on2, aCons, aNil, eTup, eLst, eCell, kTup, kLst, kCell, asPs, bAnd, bOr, bNot, M.bind, M.pure, bindS, slots, finR, sizeLine_eq, eLst, fNeg, vA])).trans ?_
  have ap : ∀ {X : Fe} {l l2 : List PyData}, X [some (.p cs), some (.p (.list l))] S = .ok (.p (.list l2)) S → l.length + l2.length ≤ 1000 → eBin fAdd (eVar 1) X [some (.p cs), some (.p (.list l))] S = .ok (.p (.list (l ++ l2))) S := fun h hl => (bin_of (d := .p (.list _)) rfl h).trans (catL S hl)
  have z0 : ∀ l : List PyData, eBin fIx (eVar 0) (eC (.int 0)) [some (.p cs), some (.p (.list l))] S = .ok (.p (.int k)) S := fun l => (bin_of (d := .p cs) rfl rfl).trans i0
  have z1 : ∀ {l : List PyData} {n : Nat} {d : PyData} {X : Fe}, X [some (.p cs), some (.p (.list l))] S = .ok (.p d) S → 2 ≤ n → n ≤ 1000 → eBin fRepT (eTup (aCons X aNil)) (eC (.int n)) [some (.p cs), some (.p (.list l))] S = .ok (.p (.tuple (rp n d))) S := fun h h2 h3 => (bin_of (d := .p (.tuple [_])) (tup1 h) rfl).trans (rep_ok _ _ h2 h3 S)
  have ad : ∀ {l xs ys : List PyData} {X Y : Fe}, X [some (.p cs), some (.p (.list l))] S = .ok (.p (.tuple xs)) S → Y [some (.p cs), some (.p (.list l))] S = .ok (.p (.tuple ys)) S → xs.length + ys.length ≤ 1000 → eBin fAdd X Y [some (.p cs), some (.p (.list l))] S = .ok (.p (.tuple (xs ++ ys))) S := fun h g hl => (bin_of h g).trans (addT S (by omega))
  have q1 : ∀ l : List PyData, eT (eBin (fIn false) (eTup (aCons (eC (.int 0)) (aCons (eC (.int 1)) aNil))) (eBin fIx (eVar 0) (eC (.int 1)))) [some (.p cs), some (.p (.list l))] S = .ok (decide ((0, 1) ∈ E)) S := fun l => eT_of ((bin_of (tup2 (a := .int 0) (b := .int 1) rfl rfl) ((bin_of (d := .p cs) rfl rfl).trans i1)).trans n1)
  have q2 : ∀ l : List PyData, eT (eBin (fIn false) (eTup (aCons (eC (.int 1)) (aCons (eC (.int 2)) aNil))) (eBin fIx (eVar 0) (eC (.int 1)))) [some (.p cs), some (.p (.list l))] S = .ok (decide ((1, 2) ∈ E)) S := fun l => eT_of ((bin_of (tup2 (a := .int 1) (b := .int 2) rfl rfl) ((bin_of (d := .p cs) rfl rfl).trans i1)).trans n2)
  refine (s1 (l := vA ++ vB k) (ap (l2 := vB k) ?_ (by simp [vA, vB]))).trans ?_
  · refine lst_of (l := vB k) ?_ (by simp [vB])
    unfold vB
    repeat' first
      | exact al_nil
      | exact z0 _
      | exact z1 (n := 400) (d := .int 1) rfl (by omega) (by omega)
      | exact z1 (n := 401) (d := .int 1) rfl (by omega) (by omega)
      | refine al_cons ?_ ?_
      | refine tup_of ?_ (by simp)
      | exact rfl
  refine (s1 (l := vA ++ vB k ++ vC) (ap (l2 := vC) ?_ (by simp [vA, vB, vC]))).trans ?_
  · refine lst_of (l := vC) ?_ (by simp [vC])
    unfold vC
    repeat' first
      | exact al_nil
      | refine al_cons ?_ ?_
      | refine tup_of ?_ (by simp)
      | exact rfl
  have lA : (vA ++ vB k ++ vC).length ≤ 25 := by simp [vA, vB, vC]
  have fin : ∀ (l1 : List PyData), l1.length ≤ 31 → sSeq (sIf (bAnd (eT (eBin (fIn false) (eTup (aCons (eC (.int 0)) (aCons (eC (.int 1)) aNil))) (eBin fIx (eVar 0) (eC (.int 1))))) (eT (eBin (fIn false) (eTup (aCons (eC (.int 1)) (aCons (eC (.int 2)) aNil))) (eBin fIx (eVar 0) (eC (.int 1)))))) (sSet 1 (eBin fAdd (eVar 1) (eLst (aCons (eTup (aCons (eC (.int 0)) (aCons (eTup (aCons (eTup (aCons (eC (.int 1)) (aCons (eBin fRepT (eTup (aCons (eTup (aCons (eC (.int 2)) (aCons (eTup aNil) aNil))) aNil)) (eC (.int 198))) aNil))) aNil)) aNil))) (aCons (eTup (aCons (eC (.int 0)) (aCons (eTup (aCons (eTup (aCons (eC (.int 1)) (aCons (eBin fRepT (eTup (aCons (eTup (aCons (eC (.int 2)) (aCons (eTup aNil) aNil))) aNil)) (eC (.int 199))) aNil))) aNil)) aNil))) (aCons (eTup (aCons (eC (.int 0)) (aCons (eTup (aCons (eTup (aCons (eC (.int 1)) (aCons (eTup (aCons (eTup (aCons (eC (.int 2)) (aCons (eTup (aCons (eC (.int 900000)) aNil)) aNil))) (aCons (eC (.int 99999)) aNil))) aNil))) aNil)) aNil))) (aCons (eTup (aCons (eC (.int 0)) (aCons (eTup (aCons (eTup (aCons (eC (.int 1)) (aCons (eTup (aCons (eTup (aCons (eC (.int 2)) (aCons (eTup (aCons (eC (.int 900000)) aNil)) aNil))) (aCons (eC (.int 100000)) aNil))) aNil))) aNil)) aNil))) aNil))))))) sNil) (sRet (eVar 1)) [some (.p cs), some (.p (.list l1))] S = .rt (.p (.list (l1 ++ if (0, 1) ∈ E ∧ (1, 2) ∈ E then vF else []))) S := by
    intro l1 hl
    have t1 := q1 l1
    have t2 := q2 l1
    by_cases h1 : (0, 1) ∈ E
    · rw [decide_eq_true h1] at t1
      by_cases h2 : (1, 2) ∈ E
      · rw [decide_eq_true h2] at t2
        rw [if_pos ⟨h1, h2⟩]
        refine (stp (ρ' := [some (.p cs), some (.p (.list (l1 ++ vF)))]) (S' := S) ((sIf_t ((bAnd_t t1).trans t2)).trans (sSet_of (d := .p (.list (l1 ++ vF))) (ap (l2 := vF) ?_ (by simp [vF]; omega))))).trans (sRet_of rfl)
        refine lst_of (l := vF) ?_ (by simp [vF])
        unfold vF rnV
        repeat' first
          | exact al_nil
          | exact z1 (n := 198) (d := .tuple [.int 2, .tuple []]) (tup_of (l := [.int 2, .tuple []]) (al_cons rfl (al_cons (tup_of (l := []) al_nil (by simp)) al_nil)) (by simp)) (by omega) (by omega)
          | exact z1 (n := 199) (d := .tuple [.int 2, .tuple []]) (tup_of (l := [.int 2, .tuple []]) (al_cons rfl (al_cons (tup_of (l := []) al_nil (by simp)) al_nil)) (by simp)) (by omega) (by omega)
          | refine al_cons ?_ ?_
          | refine tup_of ?_ (by simp)
          | exact rfl
      · rw [decide_eq_false h2] at t2
        rw [if_neg (fun h => h2 h.2), List.append_nil]
        exact (stIf_f ((bAnd_t t1).trans t2)).trans (sRet_of rfl)
    · rw [decide_eq_false h1] at t1
      rw [if_neg (fun h => h1 h.1), List.append_nil]
      exact (stIf_f (bAnd_f t1)).trans (sRet_of rfl)
  have t1 := q1 (vA ++ vB k ++ vC)
  unfold vals
  by_cases h1 : (0, 1) ∈ E
  · rw [decide_eq_true h1] at t1
    rw [if_pos h1]
    have e1 : sIf (eT (eBin (fIn false) (eTup (aCons (eC (.int 0)) (aCons (eC (.int 1)) aNil))) (eBin fIx (eVar 0) (eC (.int 1))))) (sSeq (sSet 1 (eBin fAdd (eVar 1) (eLst (aCons (eTup (aCons (eC (.int 0)) (aCons (eBin fRepT (eTup (aCons (eTup (aCons (eC (.int 1)) (aCons (eTup aNil) aNil))) aNil)) (eC (.int 199))) aNil))) (aCons (eTup (aCons (eC (.int 0)) (aCons (eBin fRepT (eTup (aCons (eTup (aCons (eC (.int 1)) (aCons (eTup aNil) aNil))) aNil)) (eC (.int 200))) aNil))) (aCons (eTup (aCons (eC (.int 0)) (aCons (eBin fAdd (eBin fRepT (eTup (aCons (eTup (aCons (eC (.int 1)) (aCons (eTup (aCons (eC (.int 5000)) aNil)) aNil))) aNil)) (eC (.int 199))) (eTup (aCons (eC (.int 4999)) aNil))) aNil))) (aCons (eTup (aCons (eC (.int 0)) (aCons (eBin fAdd (eBin fRepT (eTup (aCons (eTup (aCons (eC (.int 1)) (aCons (eTup (aCons (eC (.int 5000)) aNil)) aNil))) aNil)) (eC (.int 199))) (eTup (aCons (eC (.int 5000)) aNil))) aNil))) aNil))))))) (sSet 1 (eBin fAdd (eVar 1) (eLst (aCons (eTup (aCons (eC (.int 0)) (aCons (eTup (aCons (eTup (aCons (eC (.int 1)) (aCons (eTup (aCons (eC (.int 500000)) aNil)) aNil))) (aCons (eTup (aCons (eC (.int 1)) (aCons (eTup (aCons (eC (.int 499999)) aNil)) aNil))) aNil))) aNil))) (aCons (eTup (aCons (eC (.int 0)) (aCons (eTup (aCons (eTup (aCons (eC (.int 1)) (aCons (eTup (aCons (eC (.int 500000)) aNil)) aNil))) (aCons (eTup (aCons (eC (.int 1)) (aCons (eTup (aCons (eC (.int 500000)) aNil)) aNil))) aNil))) aNil))) aNil)))))) sNil [some (.p cs), some (.p (.list (vA ++ vB k ++ vC)))] S = .nx [some (.p cs), some (.p (.list (vA ++ vB k ++ vC ++ (vD ++ vE))))] S := by
      refine (sIf_t t1).trans ?_
      have e2 : (vA ++ vB k ++ vC ++ (vD ++ vE)) = (vA ++ vB k ++ vC ++ vD) ++ vE := by simp
      rw [e2]
      refine (s1 (l := vA ++ vB k ++ vC ++ vD) (ap (l2 := vD) ?_ (by simp [vD] at lA ⊢; omega))).trans ?_
      · refine lst_of (l := vD) ?_ (by simp [vD])
        unfold vD rnV
        repeat' first
          | exact al_nil
          | exact z1 (n := 199) (d := .tuple [.int 1, .tuple []]) (tup_of (l := [.int 1, .tuple []]) (al_cons rfl (al_cons (tup_of (l := []) al_nil (by simp)) al_nil)) (by simp)) (by omega) (by omega)
          | exact z1 (n := 200) (d := .tuple [.int 1, .tuple []]) (tup_of (l := [.int 1, .tuple []]) (al_cons rfl (al_cons (tup_of (l := []) al_nil (by simp)) al_nil)) (by simp)) (by omega) (by omega)
          | exact ad (ys := [.int 4999]) (z1 (n := 199) (d := .tuple [.int 1, .tuple [.int 5000]]) (tup_of (l := [.int 1, .tuple [.int 5000]]) (al_cons rfl (al_cons (tup_of (l := [.int 5000]) (al_cons rfl al_nil) (by simp)) al_nil)) (by simp)) (by omega) (by omega)) (tup1 rfl) (by rw [lrp]; simp)
          | exact ad (ys := [.int 5000]) (z1 (n := 199) (d := .tuple [.int 1, .tuple [.int 5000]]) (tup_of (l := [.int 1, .tuple [.int 5000]]) (al_cons rfl (al_cons (tup_of (l := [.int 5000]) (al_cons rfl al_nil) (by simp)) al_nil)) (by simp)) (by omega) (by omega)) (tup1 rfl) (by rw [lrp]; simp)
          | refine al_cons ?_ ?_
          | refine tup_of ?_ (by simp)
          | exact rfl
      · refine sSet_of (d := .p (.list (vA ++ vB k ++ vC ++ vD ++ vE))) (ap (l2 := vE) ?_ (by simp [vD, vE] at lA ⊢; omega))
        refine lst_of (l := vE) ?_ (by simp [vE])
        unfold vE rnV
        repeat' first
          | exact al_nil
          | refine al_cons ?_ ?_
          | refine tup_of ?_ (by simp)
          | exact rfl
    refine (stp e1).trans (fin _ (by simp [vD, vE] at lA ⊢; omega))
  · rw [decide_eq_false h1] at t1
    rw [if_neg h1, List.append_nil]
    exact (stIf_f t1).trans (fin _ (by omega))
end LK
set_option Elab.async false
set_option linter.all false
set_option maxRecDepth 100000
set_option maxHeartbeats 1000000
namespace LK
open PySem PySem.Spec L2 DL
/-! what is asked of the values -/
def spN : Nat → List PyData → Bool
  | 0, _ => false
  | _ + 1, [] => true
  | n + 1, .int _ :: ps => spN n ps
  | n + 1, .tuple [.int _, .tuple qs] :: ps => spN n qs && spN n ps
  | _ + 1, _ :: _ => false
theorem spN_sp : ∀ (n : Nat) (ps : List PyData), spN n ps = true → sp ps = true
  | 0, _, h => by unfold spN at h; cases h
  | n + 1, ps, h => by
    unfold spN at h
    split at h
    · rename_i e; cases e
    · exact sp_nil
    · rename_i e; cases e; rw [sp_int]; exact spN_sp n _ h
    · rename_i e; cases e
      simp only [Bool.and_eq_true] at h
      rw [sp_run, spN_sp n _ h.1, spN_sp n _ h.2]; rfl
    · cases h
def evLike : PyData → Bool
  | .int i => decide (1 ≤ i) && decide (i ≤ 999999)
  | .tuple [.str x, .int g] => ((x == "in") || (x == "out"))
  | _ => false
theorem evLike_B {k : Int} {d : PyData} (h : isEvB k d = true) : evLike d = true := by
  unfold isEvB at h
  split at h
  · simpa [evLike, inRange] using h
  · simp only [Bool.and_eq_true] at h
    exact h.1.1
  · cases h
structure VOk (v : PyData) : Prop where
  lay : lay v
  dep : PyData.depth v ≤ 8
  nd : nd v ≤ 10000
  sh : shF 20 v = true → (∃ f ps, v = runD f ps ∧ sp ps = true) ∨ ∃ l, trF 20 v = some l ∧ PyData.canLayAll0 l = true ∧ PyData.depthAll l ≤ 20 ∧ ndL l ≤ 10000 ∧ l.all evLike = false
def chk (v : PyData) : Bool := PyData.canLay0 v && decide (PyData.depth v ≤ 8) && decide (nd v ≤ 10000) && (match v with
  | .tuple [.int _, .tuple ps] => spN 600 ps || !shF 20 v
  | _ => !shF 20 v)
theorem chk_ok {v : PyData} (h : chk v = true) : VOk v := by
  unfold chk at h
  simp only [Bool.and_eq_true, decide_eq_true_eq] at h
  obtain ⟨⟨⟨h1, h2⟩, h3⟩, h4⟩ := h
  refine ⟨h1, h2, h3, fun hs => ?_⟩
  split at h4
  · rename_i f ps
    rw [hs] at h4
    simp at h4
    exact .inl ⟨_, _, rfl, spN_sp _ _ h4⟩
  · rw [hs] at h4; cases h4
theorem vals_ok {k : Int} {E : Es} (hk : 1 ≤ k ∧ k ≤ 5) : ∀ v ∈ vals k E, VOk v := by
  have sp4 : ∀ p : PyData, (match p with | .int _ => false | .tuple _ => false | .dict _ => false | .list _ => false | _ => true) = true → PyData.canLay0 p = true → VOk (.tuple [.int 0, .tuple [p]]) := fun p hp hl => by
    refine ⟨?_, ?_, ?_, fun _ => .inr ⟨[.tuple [.str "in", .int 0], p, .tuple [.str "out", .int 0]], ?_, ?_, ?_, ?_, ?_⟩⟩
    · show PyData.canLay0 _ = true
      simp [PyData.canLay0, PyData.canLayAll0, hl]
    · cases p <;> first | (cases hp; done) | simp [PyData.depth, PyData.depthAll]
    · cases p <;> first | (cases hp; done) | simp [nd, ndL]
    · cases p <;> first | (cases hp; done) | simp [trF, trPs]
    · simp [PyData.canLayAll0, PyData.canLay0, hl, strOk_str]
    · cases p <;> first | (cases hp; done) | simp [PyData.depth, PyData.depthAll]
    · cases p <;> first | (cases hp; done) | simp [nd, ndL]
    · cases p <;> first | (cases hp; done) | simp [evLike]
  have spT : VOk (.tuple [.bool true, .tuple []]) := by
    refine ⟨by show PyData.canLay0 _ = true; decide +kernel, by decide +kernel, by decide +kernel, fun _ => .inr ⟨[.tuple [.str "in", .bool true], .tuple [.str "out", .bool true]], ?_, by decide +kernel, by decide +kernel, by decide +kernel, by decide +kernel⟩⟩
    simp [trF, trPs]
  intro v hv
  unfold vals at hv
  rcases List.mem_append.mp hv with hv | hv
  · rcases List.mem_append.mp hv with hv | hv
    · rcases List.mem_append.mp hv with hv | hv
      · rcases List.mem_append.mp hv with hv | hv
        · simp only [vA, List.mem_cons, List.not_mem_nil, or_false] at hv
          rcases hv with rfl | rfl | rfl | rfl | rfl | rfl | rfl | rfl | rfl | rfl | rfl | rfl | rfl
          · exact chk_ok (by decide +kernel)
          · exact chk_ok (by decide +kernel)
          · exact chk_ok (by decide +kernel)
          · exact chk_ok (by decide +kernel)
          · exact chk_ok (by decide +kernel)
          · exact chk_ok (by decide +kernel)
          · exact sp4 _ rfl rfl
          · exact sp4 _ rfl rfl
          · exact chk_ok (by decide +kernel)
          · exact chk_ok (by decide +kernel)
          · exact chk_ok (by decide +kernel)
          · exact chk_ok (by decide +kernel)
          · exact chk_ok (by decide +kernel)
        · simp only [vB, List.mem_cons, List.not_mem_nil, or_false] at hv
          rcases hv with rfl | rfl | rfl | rfl | rfl | rfl | rfl
          · exact chk_ok (by decide +kernel)
          · have : k = 1 ∨ k = 2 ∨ k = 3 ∨ k = 4 ∨ k = 5 := by omega
            rcases this with rfl | rfl | rfl | rfl | rfl <;> exact chk_ok (by decide +kernel)
          · exact spT
          · exact chk_ok (by decide +kernel)
          · exact sp4 _ rfl (by decide +kernel)
          · exact chk_ok (by decide +kernel)
          · exact chk_ok (by decide +kernel)
      · have : vC.all chk = true := by decide +kernel
        exact chk_ok (List.all_eq_true.mp this v hv)
    · by_cases h : (0, 1) ∈ E
      · rw [if_pos h] at hv
        have : (vD ++ vE).all chk = true := by decide +kernel
        exact chk_ok (List.all_eq_true.mp this v hv)
      · rw [if_neg h] at hv; cases hv
  · by_cases h : (0, 1) ∈ E ∧ (1, 2) ∈ E
    · rw [if_pos h] at hv
      have : vF.all chk = true := by decide +kernel
      exact chk_ok (List.all_eq_true.mp this v hv)
    · rw [if_neg h] at hv; cases hv
/-! drawn runs are runs, and small -/
theorem gp_depth {E : Es} (hE : EOk E) : ∀ (f : Int) (ps : List PyData), gp E f ps = true → 0 ≤ f → f ≤ 4 → (PyData.depthAll ps : Int) ≤ 2 * (4 - f)
  | f, [], _, _, h4 => by simp [PyData.depthAll]; omega
  | f, p :: ps, h, h0, h4 => by
    rw [PyData.depthAll]
    cases sp_pk (gp_sp _ _ h) with
    | int i =>
      rw [gp_int] at h
      simp only [Bool.and_eq_true] at h
      have := gp_depth hE f ps h.2 h0 h4
      have : PyData.depth (.int i) = 0 := by simp [PyData.depth]
      omega
    | run g qs =>
      rw [gp_run] at h
      simp only [Bool.and_eq_true, decide_eq_true_eq] at h
      have h1 := gp_depth hE f ps h.2 h0 h4
      have hb := hE f g h.1.1
      have h2 := gp_depth hE g qs h.1.2 (by omega) hb.2.2
      have hdp : PyData.depth (.tuple [.int g, .tuple qs]) = PyData.depthAll qs + 2 := by simp [PyData.depth, PyData.depthAll]
      omega
termination_by _ ps => sizeOf ps
theorem gd_ev {E : Es} (hE : EOk E) : ∀ (f : Int) (ps : List PyData), gp E f ps = true → ∀ e ∈ evP ps, gd e = true ∧ PyData.depth e ≤ 1 ∧ lay e ∧ nd e ≤ 3
  | f, [], _, e, he => by rw [evP_nil] at he; cases he
  | f, p :: ps, h, e, he => by
    have io : ∀ (w : String) (g : Int), PyData.strOk (Str.ofString w) = true → (Str.ofString w).length ≤ 1000 → 0 ≤ g → g ≤ 4 → gd (.tuple [.str w, .int g]) = true ∧ PyData.depth (.tuple [.str w, .int g]) ≤ 1 ∧ lay (.tuple [.str w, .int g]) ∧ nd (.tuple [.str w, .int g]) ≤ 3 := fun w g h1 h2 h3 h4 => by
      refine ⟨?_, by simp [PyData.depth, PyData.depthAll], ?_, by simp [nd, ndL]⟩
      · simp [gd, gdL, h1, h2]; omega
      · show PyData.canLay0 _ = true
        simp [PyData.canLay0, PyData.canLayAll0, h1]
    cases sp_pk (gp_sp _ _ h) with
    | int i =>
      rw [gp_int] at h
      simp only [Bool.and_eq_true, decide_eq_true_eq] at h
      rw [evP_int] at he
      rcases List.mem_cons.mp he with rfl | he
      · refine ⟨by simp [gd]; omega, by simp [PyData.depth], rfl, by simp [nd]⟩
      · exact gd_ev hE f ps h.2 e he
    | run g qs =>
      rw [gp_run] at h
      simp only [Bool.and_eq_true, decide_eq_true_eq] at h
      have hb := hE f g h.1.1
      rw [evP_run] at he
      rcases List.mem_cons.mp he with rfl | he
      · exact io "in" g (strOk_str _) (by decide +kernel) (by omega) hb.2.2
      · rcases List.mem_append.mp he with he | he
        · exact gd_ev hE g qs h.1.2 e he
        · rcases List.mem_cons.mp he with rfl | he
          · exact io "out" g (strOk_str _) (by decide +kernel) (by omega) hb.2.2
          · exact gd_ev hE f ps h.2 e he
termination_by _ ps => sizeOf ps
theorem gd_tr {E : Es} (hE : EOk E) {ps : List PyData} (h : gp E 0 ps = true) : ∀ e ∈ trE 0 ps, gd e = true ∧ PyData.depth e ≤ 1 ∧ lay e ∧ nd e ≤ 3 := by
  have io : ∀ (w : String), PyData.strOk (Str.ofString w) = true → (Str.ofString w).length ≤ 1000 → gd (.tuple [.str w, .int 0]) = true ∧ PyData.depth (.tuple [.str w, .int 0]) ≤ 1 ∧ lay (.tuple [.str w, .int 0]) ∧ nd (.tuple [.str w, .int 0]) ≤ 3 := fun w h1 h2 => by
    refine ⟨?_, by simp [PyData.depth, PyData.depthAll], ?_, by simp [nd, ndL]⟩
    · simp [gd, gdL, h1, h2]
    · show PyData.canLay0 _ = true
      simp [PyData.canLay0, PyData.canLayAll0, h1]
  intro e he
  rcases List.mem_cons.mp he with rfl | he
  · exact io "in" (strOk_str _) (by decide +kernel)
  · rcases List.mem_append.mp he with he | he
    · exact gd_ev hE 0 ps h e he
    · rcases List.mem_cons.mp he with rfl | he
      · exact io "out" (strOk_str _) (by decide +kernel)
      · cases he
theorem drawn_good {E : Es} {wide : Int} {ps : List PyData} (hw1 : 1 ≤ wide) (hw : wide ≤ 90) (h : DR E 0 12 wide ps 4) : goodRun E (runD 0 ps) = true ∧ (trE 0 ps).length ≤ 100 := by
  have h1 := h.r
  have h2 := h.p
  have h3 := h.len
  have h4 := h.t
  have h5 : wide * (cI ps : Int) ≤ 90 * (cI ps : Int) := Int.mul_le_mul_of_nonneg_right hw (by omega)
  refine ⟨?_, ?_⟩
  · simp only [goodRun, runD, h.g, few_trE]
    simp; omega
  · rw [trE_len, len_evP _ (gp_sp _ _ h.g)]; omega
end LK
set_option Elab.async false
set_option linter.all false
set_option maxRecDepth 100000
set_option maxHeartbeats 1000000
namespace LK
open PySem PySem.Spec L2 DL
/-! the law asks -/
/-- the calls of a law's store -/
def HasC (q : Nat) (k : Int) (E : Es) (T : Store) : Prop := T[q]? = some (callsC k E)
theorem HasC.app {q : Nat} {k : Int} {E : Es} {T U : Store} (h : HasC q k E T) : HasC q k E (T ++ U) := get_app h
theorem told0_law {q : Nat} {k : Int} {E : Es} {T : Store} (hq : HasC q k E T) (hC : COk k E) (v : PyData) (hl : lay v) :
    ∃ U, F__law_told [.p (.int 0), .o q, .p v] T = .ok (.p (if goodRun E v = true then .tuple [.str "told", .tuple (trV v)] else .tuple [.str "run", v])) (T ++ U) := by
  obtain ⟨U, h⟩ := events_ok hq hC.eok v hl
  refine ⟨U, ?_⟩
  cases hg : goodRun E v with
  | true =>
    rw [hg] at h
    exact told0_ok (trace_of_some h)
  | false =>
    rw [hg] at h
    exact told0_exc (trace_of_none h)
theorem told1_law {q : Nat} {k : Int} {E : Es} {T : Store} (hq : HasC q k E T) (hC : COk k E) (v : PyData) (hs : shp v) (hz : nd v < 16777000) :
    ∃ U, F__law_told [.p (.int 1), .o q, .p v] T = .ok (.p (match readV E v with | some r => .tuple [.str "told", r] | none => .tuple [.str "trace", v])) (T ++ U) := by
  obtain ⟨U, h⟩ := run_of_ok hq v hs hz
  refine ⟨U, ?_⟩
  by_cases ht : ∃ evs, v = .tuple evs
  · obtain ⟨evs, rfl⟩ := ht
    dsimp only at h
    rw [progR_eq hC.ein] at h
    have er : readV E (.tuple evs) = readR E evs := rfl
    rw [er]
    cases hr : readR E evs with
    | some r => rw [hr] at h; exact told1_ok h
    | none => rw [hr] at h; exact told1_exc h
  · cases v <;> first | exact absurd ⟨_, rfl⟩ ht | exact told1_exc h
/-- values that are read as events -/
structure WOk (v : PyData) : Prop where
  lay : lay v
  dep : PyData.depth v ≤ 56
  nd : nd v ≤ 1000000
  ins : inN v ≤ 28
theorem shp_of {v : PyData} (h : lay v) (hd : PyData.depth v ≤ 64) : shp v := by
  have h : PyData.canLay0 v = true := h
  show (PyData.canLay0 v && decide (PyData.depth v ≤ 64)) = true
  rw [h, decide_eq_true hd]; rfl
theorem inN_tr {f : Int} {ps : List PyData} : inN (.tuple (trE f ps)) = cR ps + 1 := by
  show ((trE f ps).filter isIn).length = _
  simp [trE, cR, isIn_inE, isIn_outE]
theorem WOk.read {v : PyData} (h : WOk v) {f : Int} {ps : List PyData} (hs : sp ps = true) (e : v = .tuple (trE f ps)) : LK.lay (runD f ps) ∧ PyData.depth (runD f ps) ≤ 56 := by
  have h1 := h.ins
  rw [e, inN_tr] at h1
  obtain ⟨h2, h3⟩ := lay_sp ps hs
  refine ⟨?_, ?_⟩
  · show PyData.canLay0 _ = true
    simp [runD, PyData.canLay0, PyData.canLayAll0, h2]
  · simp only [runD, PyData.depth, PyData.depthAll]
    omega
theorem readV_inv {E : Es} {v r : PyData} (h : readV E v = some r) : ∃ ps, r = runD 0 ps ∧ gp E 0 ps = true ∧ few (trE 0 ps) = true ∧ v = .tuple (trE 0 ps) := by
  unfold readV at h
  split at h
  · obtain ⟨ps, h1, h2, h3, h4⟩ := readR_iff.mp h
    exact ⟨ps, h1, h2, h3, by rw [h4]⟩
  · cases h
/-- one value of the second loop -/
theorem loop2_step {q : Nat} {k : Int} {E : Es} {T : Store} (hq : HasC q k E T) (hC : COk k E) {v : PyData} (hv : WOk v) {x0 x2 x4 x5 x6 x7 x8 x9 x10 x12 x13 : Option D} :
    ∃ x6' U, (sSeq (sSet 6 (eCB F__law_read (aCons (eVar 1) (aCons (eVar 11) aNil)))) (sIf (eT (eBin (fEq true) (eCB F__law_told (aCons (eC (.int 1)) (aCons (eVar 3) (aCons (eVar 11) aNil)))) (eIf (eT (eBin (fIs false) (eVar 6) (eC .none))) (eTup (aCons (eC (.str "trace")) (aCons (eVar 11) aNil))) (eTup (aCons (eC (.str "told")) (aCons (eVar 6) aNil)))))) (sRet (eC (.bool false))) sNil))
      [x0, some (.p (.tuple [.int k, .tuple (E.map edgeD)])), x2, some (.o q), x4, x5, x6, x7, x8, x9, x10, some (.p v), x12, x13] T =
      .nx [x0, some (.p (.tuple [.int k, .tuple (E.map edgeD)])), x2, some (.o q), x4, x5, x6', x7, x8, x9, x10, some (.p v), x12, x13] (T ++ U) := by
  have hs := shp_of hv.lay (by have := hv.dep; omega)
  have hn := hv.nd
  obtain ⟨U1, h1⟩ := read_ok (E := E) (k := k) T v hs (by omega) (fun f ps hsp e => by
    obtain ⟨a, b⟩ := hv.read hsp e
    exact shp_of a (by omega))
  obtain ⟨U2, h2⟩ := told1_law (hq.app (U := U1)) hC v hs (by omega)
  refine ⟨some (.p (dnD (readV E v))), U1 ++ U2, ?_⟩
  refine (stSet ((cb2 (d := .p (.tuple [.int k, .tuple (E.map edgeD)])) rfl rfl).trans h1)).trans ?_
  rw [← List.append_assoc]
  have cmp : ∀ (d : PyData), shp d → F__law_told [.p (.int 1), .o q, .p v] (T ++ U1) = .ok (.p d) (T ++ U1 ++ U2) →
      eIf (eT (eBin (fIs false) (eVar 6) (eC .none))) (eTup (aCons (eC (.str "trace")) (aCons (eVar 11) aNil))) (eTup (aCons (eC (.str "told")) (aCons (eVar 6) aNil))) [x0, some (.p (.tuple [.int k, .tuple (E.map edgeD)])), x2, some (.o q), x4, x5, some (.p (dnD (readV E v))), x7, x8, x9, x10, some (.p v), x12, x13] (T ++ U1 ++ U2) = .ok (.p d) (T ++ U1 ++ U2) →
      sIf (eT (eBin (fEq true) (eCB F__law_told (aCons (eC (.int 1)) (aCons (eVar 3) (aCons (eVar 11) aNil)))) (eIf (eT (eBin (fIs false) (eVar 6) (eC .none))) (eTup (aCons (eC (.str "trace")) (aCons (eVar 11) aNil))) (eTup (aCons (eC (.str "told")) (aCons (eVar 6) aNil)))))) (sRet (eC (.bool false))) sNil
        [x0, some (.p (.tuple [.int k, .tuple (E.map edgeD)])), x2, some (.o q), x4, x5, some (.p (dnD (readV E v))), x7, x8, x9, x10, some (.p v), x12, x13] (T ++ U1) = .nx [x0, some (.p (.tuple [.int k, .tuple (E.map edgeD)])), x2, some (.o q), x4, x5, some (.p (dnD (readV E v))), x7, x8, x9, x10, some (.p v), x12, x13] (T ++ U1 ++ U2) := fun d hd ht hi =>
    (sIf_f (eT_of ((bin_of ((cb3 (d := .p (.int 1)) rfl rfl rfl).trans ht) hi).trans (ne_same _ d hd)))).trans rfl
  cases hr : readV E v with
  | none =>
    rw [hr] at h2 cmp
    refine cmp _ (shp_pair hv.lay (by have := hv.dep; omega)) h2 ?_
    refine (eIf_t (eT_of ((bin_of (d := .p .none) rfl rfl).trans rfl))).trans ?_
    exact tup2 (a := .str "trace") rfl rfl
  | some r =>
    rw [hr] at h2 cmp
    obtain ⟨ps, rfl, hg, _, ev⟩ := readV_inv hr
    obtain ⟨a, b⟩ := hv.read (gp_sp _ _ hg) ev
    refine cmp _ (shp_pair a (by omega)) h2 ?_
    refine (eIf_f (eT_of ((bin_of (d := .p (runD 0 ps)) rfl rfl).trans rfl))).trans ?_
    exact tup2 (a := .str "told") rfl rfl
end LK
set_option Elab.async false
set_option linter.all false
set_option maxRecDepth 100000
set_option maxHeartbeats 1000000
namespace LK
open PySem PySem.Spec L2 DL
theorem sp_ev : ∀ (ps : List PyData), sp ps = true → (∀ e ∈ evP ps, lay e ∧ PyData.depth e ≤ 1 ∧ nd e ≤ 3) ∧ (evP ps).length ≤ ndL ps
  | [], _ => by rw [evP_nil]; exact ⟨(fun e he => by cases he), by simp⟩
  | p :: ps, h => by
    have io : ∀ (w : String) (g : Int), lay (.tuple [.str w, .int g]) ∧ PyData.depth (.tuple [.str w, .int g]) ≤ 1 ∧ nd (.tuple [.str w, .int g]) ≤ 3 := fun w g => by
      refine ⟨?_, by simp [PyData.depth, PyData.depthAll], by simp [nd, ndL]⟩
      show PyData.canLay0 _ = true
      simp [PyData.canLay0, PyData.canLayAll0, strOk_str]
    cases sp_pk h with
    | int i =>
      rw [sp_int] at h
      obtain ⟨h1, h2⟩ := sp_ev ps h
      rw [evP_int]
      refine ⟨fun e he => ?_, by simp [ndL, nd]; omega⟩
      rcases List.mem_cons.mp he with rfl | he
      · exact ⟨rfl, by simp [PyData.depth], by simp [nd]⟩
      · exact h1 e he
    | run g qs =>
      rw [sp_run, Bool.and_eq_true] at h
      obtain ⟨h1, h2⟩ := sp_ev ps h.2
      obtain ⟨h3, h4⟩ := sp_ev qs h.1
      rw [evP_run]
      refine ⟨fun e he => ?_, by simp [ndL, nd]; omega⟩
      rcases List.mem_cons.mp he with rfl | he
      · exact io "in" g
      · rcases List.mem_append.mp he with he | he
        · exact h3 e he
        · rcases List.mem_cons.mp he with rfl | he
          · exact io "out" g
          · exact h1 e he
termination_by ps => sizeOf ps
theorem ndL_le3 {ds : List PyData} (h : ∀ d ∈ ds, nd d ≤ 3) : ndL ds ≤ 3 * ds.length := by
  induction ds with
  | nil => simp [ndL]
  | cons d ds ih =>
    have h1 := h d (by simp)
    have h2 := ih (fun x hx => h x (by simp [hx]))
    simp [ndL]; omega
theorem sp_trE_ok {f : Int} {ps : List PyData} (hs : sp ps = true) : (∀ e ∈ trE f ps, lay e ∧ PyData.depth e ≤ 1 ∧ nd e ≤ 3) ∧ (trE f ps).length ≤ ndL ps + 2 := by
  have io : ∀ (w : String) (g : Int), lay (.tuple [.str w, .int g]) ∧ PyData.depth (.tuple [.str w, .int g]) ≤ 1 ∧ nd (.tuple [.str w, .int g]) ≤ 3 := fun w g => by
    refine ⟨?_, by simp [PyData.depth, PyData.depthAll], by simp [nd, ndL]⟩
    show PyData.canLay0 _ = true
    simp [PyData.canLay0, PyData.canLayAll0, strOk_str]
  obtain ⟨h1, h2⟩ := sp_ev ps hs
  refine ⟨fun e he => ?_, by rw [trE_len]; omega⟩
  rcases List.mem_cons.mp he with rfl | he
  · exact io "in" f
  · rcases List.mem_append.mp he with he | he
    · exact h1 e he
    · rcases List.mem_cons.mp he with rfl | he
      · exact io "out" f
      · cases he
theorem tup_ok {ds : List PyData} (h : ∀ e ∈ ds, lay e ∧ PyData.depth e ≤ 1 ∧ nd e ≤ 3) : lay (.tuple ds) ∧ PyData.depth (.tuple ds) ≤ 2 ∧ nd (.tuple ds) ≤ 3 * ds.length + 1 := by
  refine ⟨lay_tupI fun d hd => (h d hd).1, ?_, ?_⟩
  · rw [dep_tup]
    have := depthAll_le (fun d hd => (h d hd).2.1)
    omega
  · have := ndL_le3 (fun d hd => (h d hd).2.2)
    simp [nd]; omega
theorem len2 {ds : List PyData} (h : ds.length = 2) : ∃ a b, ds = [a, b] :=
  match ds, h with
  | [a, b], _ => ⟨a, b, rfl⟩
abbrev lpAsk : Fs := sSeq (sSet 12 (eCB F__law_is_run (aCons (eVar 1) (aCons (eVar 11) aNil)))) (sSeq (sIf (eT (eBin (fEq true) (eCB F__law_told (aCons (eC (.int 0)) (aCons (eVar 3) (aCons (eVar 11) aNil)))) (eIf (eT (eVar 12)) (eTup (aCons (eC (.str "told")) (aCons (eCB (F__law_trace 20) (aCons (eVar 11) aNil)) aNil))) (eTup (aCons (eC (.str "run")) (aCons (eVar 11) aNil)))))) (sRet (eC (.bool false))) sNil) (sIf (bAnd (eT (eUn (fIsi "tuple") (eVar 11))) (bAnd (eT (eBin (fEq false) (eCB (on1 fLen) (aCons (eVar 11) aNil)) (eC (.int 2)))) (eT (eUn (fIsi "tuple") (eBin fIx (eVar 11) (eC (.int 1))))))) (sSeq (sSet 13 (eIf (bOr (eT (eVar 12)) (eT (eCB (F__law_is_shaped 20) (aCons (eVar 11) aNil)))) (eCB (F__law_trace 20) (aCons (eVar 11) aNil)) (eTup aNil))) (sIf (eT (eBin (fEq true) (eCB F__law_told (aCons (eC (.int 1)) (aCons (eVar 3) (aCons (eVar 13) aNil)))) (eIf (eT (eVar 12)) (eTup (aCons (eC (.str "told")) (aCons (eVar 11) aNil))) (eTup (aCons (eC (.str "trace")) (aCons (eVar 13) aNil)))))) (sRet (eC (.bool false))) sNil)) sNil))
section
variable {q : Nat} {k : Int} {E : Es} {T : Store} {v : PyData} {x0 x2 x4 x5 x6 x7 x8 x9 x10 x12 x13 : Option D}
abbrev rhoA (k : Int) (E : Es) (q : Nat) (v : PyData) (x0 x2 x4 x5 x6 x7 x8 x9 x10 x12 x13 : Option D) : Sl := [x0, some (.p (.tuple [.int k, .tuple (E.map edgeD)])), x2, some (.o q), x4, x5, x6, x7, x8, x9, x10, some (.p v), x12, x13]
/-- what is told of events, in the last loop -/
theorem ask_events {g : Bool} {l : List PyData} (hq : HasC q k E T) (hC : COk k E) (hl : lay (.tuple l)) (hd : PyData.depth (.tuple l) ≤ 30) (hz : nd (.tuple l) ≤ 1000000) (hv : lay v) (hvd : PyData.depth v ≤ 30)
    (hr : readV E (.tuple l) = if g = true then some v else none) :
    ∃ U, sIf (eT (eBin (fEq true) (eCB F__law_told (aCons (eC (.int 1)) (aCons (eVar 3) (aCons (eVar 13) aNil)))) (eIf (eT (eVar 12)) (eTup (aCons (eC (.str "told")) (aCons (eVar 11) aNil))) (eTup (aCons (eC (.str "trace")) (aCons (eVar 13) aNil)))))) (sRet (eC (.bool false))) sNil (rhoA k E q v x0 x2 x4 x5 x6 x7 x8 x9 x10 (some (.p (.bool g))) (some (.p (.tuple l)))) T =
      .nx (rhoA k E q v x0 x2 x4 x5 x6 x7 x8 x9 x10 (some (.p (.bool g))) (some (.p (.tuple l)))) (T ++ U) := by
  obtain ⟨U, h⟩ := told1_law hq hC (.tuple l) (shp_of hl (by omega)) (by omega)
  refine ⟨U, ?_⟩
  rw [hr] at h
  cases g with
  | true =>
    exact (sIf_f (eT_of ((bin_of ((cb3 (d := .p (.int 1)) (e := .o q) (f := .p (.tuple l)) rfl rfl rfl).trans h) ((eIf_t (eT_of (X := eVar 12) rfl)).trans (tup2 (a := .str "told") (b := v) rfl rfl))).trans (ne_same _ _ (shp_pair hv (by omega)))))).trans rfl
  | false =>
    exact (sIf_f (eT_of ((bin_of ((cb3 (d := .p (.int 1)) (e := .o q) (f := .p (.tuple l)) rfl rfl rfl).trans h) ((eIf_f (eT_of (X := eVar 12) rfl)).trans (tup2 (a := .str "trace") (b := .tuple l) rfl rfl))).trans (ne_same _ _ (shp_pair hl (by omega)))))).trans rfl
theorem ask_ok (hq : HasC q k E T) (hC : COk k E) (hv : VOk v) :
    ∃ x12' x13' U, lpAsk (rhoA k E q v x0 x2 x4 x5 x6 x7 x8 x9 x10 x12 x13) T = .nx (rhoA k E q v x0 x2 x4 x5 x6 x7 x8 x9 x10 x12' x13') (T ++ U) := by
  have hd := hv.dep
  have hn := hv.nd
  have hs := shp_of hv.lay (by omega)
  obtain ⟨U1, h1⟩ := is_run_ok (E := E) (k := k) T v hs (by omega)
  obtain ⟨U2, h2⟩ := told0_law (hq.app (U := U1)) hC v hv.lay
  have s1 : ∀ w : Fs, sSeq (sSet 12 (eCB F__law_is_run (aCons (eVar 1) (aCons (eVar 11) aNil)))) w (rhoA k E q v x0 x2 x4 x5 x6 x7 x8 x9 x10 x12 x13) T = w (rhoA k E q v x0 x2 x4 x5 x6 x7 x8 x9 x10 (some (.p (.bool (goodRun E v)))) x13) (T ++ U1) := fun w => stSet ((cb2 (d := .p (.tuple [.int k, .tuple (E.map edgeD)])) (e := .p v) rfl rfl).trans h1)
  -- the first test, once both sides are known to be one
  have t1 : ∀ (d : PyData), shp d → F__law_told [.p (.int 0), .o q, .p v] (T ++ U1) = .ok (.p d) (T ++ U1 ++ U2) →
      eIf (eT (eVar 12)) (eTup (aCons (eC (.str "told")) (aCons (eCB (F__law_trace 20) (aCons (eVar 11) aNil)) aNil))) (eTup (aCons (eC (.str "run")) (aCons (eVar 11) aNil))) (rhoA k E q v x0 x2 x4 x5 x6 x7 x8 x9 x10 (some (.p (.bool (goodRun E v)))) x13) (T ++ U1 ++ U2) = .ok (.p d) (T ++ U1 ++ U2) →
      ∀ w : Fs, sSeq (sIf (eT (eBin (fEq true) (eCB F__law_told (aCons (eC (.int 0)) (aCons (eVar 3) (aCons (eVar 11) aNil)))) (eIf (eT (eVar 12)) (eTup (aCons (eC (.str "told")) (aCons (eCB (F__law_trace 20) (aCons (eVar 11) aNil)) aNil))) (eTup (aCons (eC (.str "run")) (aCons (eVar 11) aNil)))))) (sRet (eC (.bool false))) sNil) w (rhoA k E q v x0 x2 x4 x5 x6 x7 x8 x9 x10 (some (.p (.bool (goodRun E v)))) x13) (T ++ U1) = w (rhoA k E q v x0 x2 x4 x5 x6 x7 x8 x9 x10 (some (.p (.bool (goodRun E v)))) x13) (T ++ U1 ++ U2) :=
    fun d hsd ht hi w => stIf_f (eT_of ((bin_of ((cb3 (d := .p (.int 0)) (e := .o q) (f := .p v) rfl rfl rfl).trans ht) hi).trans (ne_same _ d hsd)))
  have q2 : HasC q k E (T ++ U1 ++ U2) := (hq.app).app
  have it := fun S => isi_tupD S v (lay_noDict hv.lay)
  have tI : ∀ {x12 x13 : Option D} (S : Store), eT (eUn (fIsi "tuple") (eVar 11)) (rhoA k E q v x0 x2 x4 x5 x6 x7 x8 x9 x10 x12 x13) S = .ok (isTupD' v) S := fun S => eT_of ((un_of (d := .p v) rfl).trans (it S))
  cases hg : goodRun E v with
  | true =>
    rw [hg] at s1 h2 t1
    have hv0 : ∃ ps, v = runD 0 ps ∧ gp E 0 ps = true ∧ few (trE 0 ps) = true := by
      unfold goodRun at hg
      split at hg
      · simp only [Bool.and_eq_true, decide_eq_true_eq] at hg
        obtain ⟨⟨rfl, h4⟩, h5⟩ := hg
        exact ⟨_, rfl, h4, h5⟩
      · cases hg
    obtain ⟨ps, rfl, hgp, hfew⟩ := hv0
    have hsp := gp_sp _ _ hgp
    have hdp : PyData.depthAll ps ≤ 19 := by
      simp only [runD, PyData.depth, PyData.depthAll] at hd; omega
    have tr := sp_trF (n := 19) (f := 0) hsp hdp
    have hlen := few_len hsp hfew
    have trO := fun S => trace_ok 20 (runD 0 ps) (trE 0 ps) tr (by omega) S
    obtain ⟨e1, e2⟩ := sp_trE_ok (f := 0) hsp
    obtain ⟨e3, e4, e5⟩ := tup_ok e1
    have s2 := t1 _ (shp_pair e3 (by omega)) h2 ((eIf_t (eT_of (X := eVar 12) rfl)).trans (tup2 (a := .str "told") rfl ((cb1 (d := .p (runD 0 ps)) rfl).trans (trO _))))
    obtain ⟨U3, h3⟩ := ask_events (g := true) (x0 := x0) (x2 := x2) (x4 := x4) (x5 := x5) (x6 := x6) (x7 := x7) (x8 := x8) (x9 := x9) (x10 := x10) q2 hC e3 (by omega) (by omega) hv.lay (by omega) (by
      rw [if_pos rfl]
      show readR E (trE 0 ps) = _
      rw [read_tr hsp, hg, if_pos rfl])
    refine ⟨some (.p (.bool true)), some (.p (.tuple (trE 0 ps))), U1 ++ U2 ++ U3, ((s1 _).trans (s2 _)).trans ?_⟩
    have eT' : T ++ (U1 ++ U2 ++ U3) = T ++ U1 ++ U2 ++ U3 := by simp
    rw [eT']
    refine (sIf_t ((bAnd_t (tI _)).trans ((bAnd_t (eT_of ((bin_of (d := .p (.int 2)) ((cb1 (d := .p (runD 0 ps)) rfl).trans rfl) rfl).trans (eqInt _ 2 2)))).trans (eT_of ((un_of (d := .p (.tuple ps)) ((bin_of (d := .p (runD 0 ps)) rfl rfl).trans rfl)).trans (isi_tup _ ps)))))).trans ?_
    refine (stSet ((eIf_t (bOr_t (eT_of (X := eVar 12) rfl))).trans ((cb1 (d := .p (runD 0 ps)) rfl).trans (trO _)))).trans ?_
    exact h3
  | false =>
    rw [hg] at s1 h2 t1
    have s2 := t1 _ (shp_pair hv.lay (by omega)) h2 ((eIf_f (eT_of (X := eVar 12) rfl)).trans (tup2 (a := .str "run") (b := v) rfl rfl))
    by_cases hp : ∃ h qs, v = .tuple [h, .tuple qs]
    · obtain ⟨h, qs, rfl⟩ := hp
      have shO := fun S => shaped_ok 20 _ hs (by omega) (by omega) S
      have done : ∀ (l : List PyData), lay (.tuple l) → PyData.depth (.tuple l) ≤ 30 → nd (.tuple l) ≤ 1000000 → readV E (.tuple l) = none →
          (eIf (bOr (eT (eVar 12)) (eT (eCB (F__law_is_shaped 20) (aCons (eVar 11) aNil)))) (eCB (F__law_trace 20) (aCons (eVar 11) aNil)) (eTup aNil) (rhoA k E q (.tuple [h, .tuple qs]) x0 x2 x4 x5 x6 x7 x8 x9 x10 (some (.p (.bool false))) x13) (T ++ U1 ++ U2) = .ok (.p (.tuple l)) (T ++ U1 ++ U2)) →
          ∃ x12' x13' U, lpAsk (rhoA k E q (.tuple [h, .tuple qs]) x0 x2 x4 x5 x6 x7 x8 x9 x10 x12 x13) T = .nx (rhoA k E q (.tuple [h, .tuple qs]) x0 x2 x4 x5 x6 x7 x8 x9 x10 x12' x13') (T ++ U) := by
        intro l hl1 hl2 hl3 hl4 hev
        obtain ⟨U3, h3⟩ := ask_events (g := false) (v := .tuple [h, .tuple qs]) (x0 := x0) (x2 := x2) (x4 := x4) (x5 := x5) (x6 := x6) (x7 := x7) (x8 := x8) (x9 := x9) (x10 := x10) q2 hC hl1 hl2 hl3 hv.lay (by omega) (by rw [hl4]; rfl)
        refine ⟨some (.p (.bool false)), some (.p (.tuple l)), U1 ++ U2 ++ U3, ((s1 _).trans (s2 _)).trans ?_⟩
        have eT' : T ++ (U1 ++ U2 ++ U3) = T ++ U1 ++ U2 ++ U3 := by simp
        rw [eT']
        refine (sIf_t ((bAnd_t (tI _)).trans ((bAnd_t (eT_of ((bin_of (d := .p (.int 2)) ((cb1 (d := .p (.tuple [h, .tuple qs])) rfl).trans rfl) rfl).trans (eqInt _ 2 2)))).trans (eT_of ((un_of (d := .p (.tuple qs)) ((bin_of (d := .p (.tuple [h, .tuple qs])) rfl rfl).trans rfl)).trans (isi_tup _ qs)))))).trans ?_
        exact (stSet hev).trans h3
      have b0 : ∀ S, bOr (eT (eVar 12)) (eT (eCB (F__law_is_shaped 20) (aCons (eVar 11) aNil))) (rhoA k E q (.tuple [h, .tuple qs]) x0 x2 x4 x5 x6 x7 x8 x9 x10 (some (.p (.bool false))) x13) S = .ok (shF 20 (.tuple [h, .tuple qs])) S := fun S => (bOr_f (eT_of (X := eVar 12) rfl)).trans (eT_of ((cb1 (d := .p (.tuple [h, .tuple qs])) rfl).trans (shO S)))
      cases hsh : shF 20 (.tuple [h, .tuple qs]) with
      | false =>
        rw [hsh] at b0
        exact done [] rfl (by simp [PyData.depth, PyData.depthAll]) (by simp [nd, ndL]) rfl ((eIf_f (b0 _)).trans (tup_of (l := []) al_nil (by simp)))
      | true =>
        rw [hsh] at b0
        rcases hv.sh hsh with ⟨f, ps, ev, hsp⟩ | ⟨l, hl1, hl2, hl3, hl4, hl5⟩
        · obtain ⟨e1, e2⟩ := sp_trE_ok (f := f) hsp
          obtain ⟨e3, e4, e5⟩ := tup_ok e1
          have hdp : PyData.depthAll ps ≤ 19 := by
            rw [ev] at hd
            simp only [runD, PyData.depth, PyData.depthAll] at hd; omega
          have hnp : ndL ps ≤ 10000 := by
            rw [ev] at hn
            simp [runD, nd, ndL] at hn; omega
          have tr := sp_trF (n := 19) (f := f) hsp hdp
          rw [← ev] at tr
          refine done (trE f ps) e3 (by omega) (by omega) ?_ ((eIf_t (b0 _)).trans ((cb1 (d := .p (.tuple [h, .tuple qs])) rfl).trans (trace_ok 20 _ _ tr (by omega) _)))
          show readR E (trE f ps) = none
          rw [read_tr hsp, ← ev, hg]; rfl
        · have hll : l.length ≤ 10000 := Nat.le_trans (len_ndL l) hl4
          have tO := trace_ok 20 (.tuple [h, .tuple qs]) l hl1 (by omega) (T ++ U1 ++ U2)
          have a1 : lay (.tuple l) := by
            have e : PyData.canLay0 (.tuple l) = PyData.canLayAll0 l := by rw [PyData.canLay0]
            exact e.trans hl2
          have a2 : PyData.depth (.tuple l) ≤ 30 := by rw [dep_tup]; omega
          have a3 : nd (.tuple l) ≤ 1000000 := by simp [nd]; omega
          refine done l a1 a2 a3 ?_ ((eIf_t (b0 _)).trans ((cb1 (d := .p (.tuple [h, .tuple qs])) rfl).trans tO))
          cases hr : readV E (.tuple l) with
          | none => rfl
          | some r =>
            exfalso
            obtain ⟨ps, rfl, h6, h7, h8⟩ := readV_inv hr
            injection h8 with h8
            have h9 := evB_tr hC.ein h6
            rw [← h8] at h9
            have : l.all evLike = true := by
              rw [List.all_eq_true] at h9 ⊢
              exact fun e he => evLike_B (h9 e he)
            rw [this] at hl5; cases hl5
    · refine ⟨some (.p (.bool false)), x13, U1 ++ U2, ((s1 _).trans (s2 _)).trans ?_⟩
      rw [← List.append_assoc]
      by_cases ht : ∃ ds, v = .tuple ds
      · obtain ⟨ds, rfl⟩ := ht
        have e1 := eqInt (T ++ U1 ++ U2) ds.length 2
        have tL : eT (eBin (fEq false) (eCB (on1 fLen) (aCons (eVar 11) aNil)) (eC (.int 2))) (rhoA k E q (.tuple ds) x0 x2 x4 x5 x6 x7 x8 x9 x10 (some (.p (.bool false))) x13) (T ++ U1 ++ U2) = .ok (decide ((ds.length : Int) = 2)) (T ++ U1 ++ U2) := eT_of ((bin_of (d := .p (.int ds.length)) ((cb1 (d := .p (.tuple ds)) rfl).trans rfl) rfl).trans e1)
        by_cases hl : ds.length = 2
        · have heq : ((ds.length : Int) = 2) := by omega
          rw [decide_eq_true heq] at tL
          obtain ⟨a, b, rfl⟩ := len2 hl
          · have hb := shp_tup hs b (by simp)
            have i1 := isi_tupD (T ++ U1 ++ U2) b (lay_noDict (shp_lay hb))
            have hbf : isTupD' b = false := by cases b <;> first | rfl | exact absurd ⟨_, _, rfl⟩ hp
            rw [hbf] at i1
            exact (sIf_f ((bAnd_t (tI _)).trans ((bAnd_t tL).trans (eT_of ((un_of (d := .p b) ((bin_of (d := .p (.tuple [a, b])) rfl rfl).trans rfl)).trans i1))))).trans rfl
        · have hne : ¬ ((ds.length : Int) = 2) := by omega
          rw [decide_eq_false hne] at tL
          exact (sIf_f ((bAnd_t (tI _)).trans (bAnd_f tL))).trans rfl
      · have hf : isTupD' v = false := by cases v <;> first | rfl | exact absurd ⟨_, rfl⟩ ht
        have tI := tI (x12 := some (.p (.bool false))) (x13 := x13) (T ++ U1 ++ U2)
        rw [hf] at tI
        exact (sIf_f (bAnd_f tI)).trans rfl
end
end LK
set_option Elab.async false
set_option linter.all false
set_option maxRecDepth 100000
set_option maxHeartbeats 1000000
namespace LK
open PySem PySem.Spec L2 DL
section
variable {X Y : Fe} {ρ : Sl} {S : Store} {es : List PyData} {a : Nat}
theorem gUp (hX : X ρ S = .ok (.p (.tuple es)) S) (hY : Y ρ S = .ok (.p (.int a)) S) : eSl X oNone (oSome Y) ρ S = .ok (.p (.tuple (es.take a))) S := by
  rw [sl_of hX (l := none) (h := some (a : Int)) rfl (oS_of hY)]
  show M.pure _ S = _
  rw [cut_to]; rfl
theorem gFrom (hX : X ρ S = .ok (.p (.tuple es)) S) (hY : Y ρ S = .ok (.p (.int a)) S) : eSl X (oSome Y) oNone ρ S = .ok (.p (.tuple (es.drop a))) S := by
  rw [sl_of hX (l := some (a : Int)) (h := none) (oS_of hY) rfl]
  show M.pure _ S = _
  rw [cut_from]; rfl
theorem gFrom1 (hX : X ρ S = .ok (.p (.tuple es)) S) (hY : Y ρ S = .ok (.p (.int a)) S) : eSl X (oSome (eBin fAdd Y (eC (.int 1)))) oNone ρ S = .ok (.p (.tuple (es.drop (a + 1)))) S := by
  rw [sl_of hX (l := some ((a : Int) + 1)) (h := none) (oS_of ((bin_of hY rfl).trans rfl)) rfl]
  show M.pure _ S = _
  have := cut_from es (a + 1)
  push_cast at this
  rw [this]; rfl
theorem gAt (hX : X ρ S = .ok (.p (.tuple es)) S) (hY : Y ρ S = .ok (.p (.int a)) S) : eSl X (oSome Y) (oSome (eBin fAdd Y (eC (.int 1)))) ρ S = .ok (.p (.tuple ((es.drop a).take 1))) S := by
  rw [sl_of hX (l := some (a : Int)) (h := some ((a : Int) + 1)) (oS_of hY) (oS_of ((bin_of hY rfl).trans rfl))]
  show M.pure _ S = _
  rw [cut_one]; rfl
theorem gBut (hX : X ρ S = .ok (.p (.tuple es)) S) : eSl X oNone (oSome (eUn fNeg (eC (.int 1)))) ρ S = .ok (.p (.tuple (es.take (es.length - 1)))) S := by
  rw [sl_of hX (l := none) (h := some (-1)) rfl (oS_of (neg1 _ _))]
  show M.pure _ S = _
  rw [cut_but]; rfl
end
theorem al_consS {X : Fe} {fs : Fl} {ρ : Sl} {S S1 S2 : Store} {d : D} {ds : List D} (h : X ρ S = .ok d S1) (g : fs ρ S1 = .ok ds S2) : aCons X fs ρ S = .ok (d :: ds) S2 := by
  simp [aCons, M.bind, M.pure, h, g]
theorem lst_ofS {fs : Fl} {ρ : Sl} {S S2 : Store} {l : List PyData} (h : fs ρ S = .ok (l.map D.p) S2) (hl : l.length ≤ 1000) : eLst fs ρ S = .ok (.p (.list l)) S2 := by
  simp only [eLst, M.bind, h, kLst, asPs_map]
  rw [if_pos (by rw [sizeLine_eq]; omega)]
theorem wok_tup {ys : List PyData} (h : ∀ d ∈ ys, lay d ∧ PyData.depth d ≤ 1 ∧ nd d ≤ 3) (hl : ys.length ≤ 300) (hi : (ys.filter isIn).length ≤ 28) : WOk (.tuple ys) := by
  obtain ⟨h1, h2, h3⟩ := tup_ok h
  exact ⟨h1, by omega, by omega, hi⟩
theorem cnt_set (es : List PyData) (i : Nat) (x : PyData) : ((es.set i x).filter isIn).length ≤ (es.filter isIn).length + 1 := by
  induction es generalizing i with
  | nil => simp
  | cons e es ih =>
    cases i with
    | zero =>
      rw [List.set_cons_zero]
      have h1 := cntI_cons x es
      have h2 : (es.filter isIn).length ≤ ((e :: es).filter isIn).length := by
        by_cases h : isIn e = true
        · rw [List.filter_cons_of_pos h]; simp
        · rw [List.filter_cons_of_neg h]; omega
      omega
    | succ i =>
      rw [List.set_cons_succ]
      have := ih i
      by_cases h : isIn e = true
      · rw [List.filter_cons_of_pos h, List.filter_cons_of_pos h]; simp; omega
      · rw [List.filter_cons_of_neg h, List.filter_cons_of_neg h]; omega
/-- the changed traces of the first loop -/
def six (es : List PyData) (a s : Nat) (x y : PyData) : List PyData := [.tuple (es.take a ++ es.drop (a + 1)), .tuple (es.take a ++ (es.drop a).take 1 ++ es.drop a), .tuple ((es.set a x).set s y), .tuple (es.take (es.length - 1)), .tuple (es ++ es), .tuple es.reverse]
theorem six_ok {es : List PyData} {a s : Nat} {x y : PyData} (h : ∀ d ∈ es, lay d ∧ PyData.depth d ≤ 1 ∧ nd d ≤ 3) (hx : x ∈ es) (hy : y ∈ es) (hl : es.length ≤ 100) (hi : (es.filter isIn).length ≤ 12) : ∀ v ∈ six es a s x y, WOk v := by
  have mt : ∀ k d, d ∈ es.take k → d ∈ es := fun k d hd => List.mem_of_mem_take hd
  have md : ∀ k d, d ∈ es.drop k → d ∈ es := fun k d hd => List.mem_of_mem_drop hd
  have ct : ∀ k, ((es.take k).filter isIn).length ≤ 12 := fun k => by have := cnt_td es k; omega
  have cd : ∀ k, ((es.drop k).filter isIn).length ≤ 12 := fun k => by have := cnt_td es k; omega
  have lt : ∀ k, (es.take k).length ≤ 100 := fun k => by rw [List.length_take]; omega
  have ld : ∀ k, (es.drop k).length ≤ 100 := fun k => by rw [List.length_drop]; omega
  intro v hv
  simp only [six, List.mem_cons, List.not_mem_nil, or_false] at hv
  rcases hv with rfl | rfl | rfl | rfl | rfl | rfl
  · refine wok_tup (fun d hd => ?_) ?_ ?_
    · rcases List.mem_append.mp hd with h' | h'
      · exact h d (mt _ _ h')
      · exact h d (md _ _ h')
    · rw [List.length_append]; have := lt a; have := ld (a + 1); omega
    · rw [cntI_append]; have := ct a; have := cd (a + 1); omega
  · refine wok_tup (fun d hd => ?_) ?_ ?_
    · rcases List.mem_append.mp hd with h' | h'
      · rcases List.mem_append.mp h' with h' | h'
        · exact h d (mt _ _ h')
        · exact h d (md _ _ (List.mem_of_mem_take h'))
      · exact h d (md _ _ h')
    · rw [List.length_append, List.length_append]; have := lt a; have := ld a
      have : ((es.drop a).take 1).length ≤ 1 := by rw [List.length_take]; omega
      omega
    · have h1 : (((es.drop a).take 1).filter isIn).length ≤ 1 := Nat.le_trans (List.length_filter_le _ _) (by rw [List.length_take]; omega)
      have := cnt_td es a
      rw [cntI_append, cntI_append]; omega
  · refine wok_tup (fun d hd => ?_) ?_ ?_
    · rcases List.mem_or_eq_of_mem_set hd with h' | rfl
      · rcases List.mem_or_eq_of_mem_set h' with h' | rfl
        · exact h d h'
        · exact h _ hx
      · exact h _ hy
    · simp; omega
    · have h1 := cnt_set (es.set a x) s y
      have h2 := cnt_set es a x
      omega
  · refine wok_tup (fun d hd => h d (mt _ _ hd)) ?_ ?_
    · have := lt (es.length - 1); omega
    · have := ct (es.length - 1); omega
  · refine wok_tup (fun d hd => ?_) ?_ ?_
    · rcases List.mem_append.mp hd with h' | h' <;> exact h d h'
    · rw [List.length_append]; omega
    · rw [cntI_append]; omega
  · refine wok_tup (fun d hd => h d (by simpa using hd)) ?_ ?_
    · simp; omega
    · rw [List.filter_reverse, List.length_reverse]; omega
abbrev lpDraw : Fs := sSeq (sSet 6 (eCB (F__law_drawn_run 20) (aCons (eVar 2) (aCons (eVar 1) (aCons (eC (.int 0)) (aCons (eC (.int 12)) (aCons (eCB F__law_pick (aCons (eVar 2) (aCons (eLst (aCons (eC (.int 3)) (aCons (eC (.int 90)) aNil))) aNil))) aNil))))))) (sSeq (sSet 7 (eCB (F__law_trace 20) (aCons (eVar 6) aNil))) (sSeq (sIf (bOr (eT (eBin (fEq true) (eCB F__law_told (aCons (eC (.int 0)) (aCons (eVar 3) (aCons (eVar 6) aNil)))) (eTup (aCons (eC (.str "told")) (aCons (eVar 7) aNil))))) (eT (eBin (fEq true) (eCB F__law_told (aCons (eC (.int 1)) (aCons (eVar 3) (aCons (eVar 7) aNil)))) (eTup (aCons (eC (.str "told")) (aCons (eVar 6) aNil)))))) (sRet (eC (.bool false))) sNil) (sSeq (sPar 8 9 (eCB F__law_take (aCons (eVar 2) (aCons (eCB (on1 fLen) (aCons (eVar 7) aNil)) aNil))) (eCB F__law_take (aCons (eVar 2) (aCons (eCB (on1 fLen) (aCons (eVar 7) aNil)) aNil)))) (sSeq (sSet 10 (eCB (on1 fListC) (aCons (eVar 7) aNil))) (sSeq (sSwap (eTup (aCons (eBin fIx (eVar 7) (eVar 9)) (aCons (eBin fIx (eVar 7) (eVar 8)) aNil))) (eVar 10) (eVar 8) (eVar 10) (eVar 9)) (sSeq (sSet 4 (eBin fAdd (eVar 4) (eLst (aCons (eBin fAdd (eSl (eVar 7) oNone (oSome (eVar 8))) (eSl (eVar 7) (oSome (eBin fAdd (eVar 8) (eC (.int 1)))) oNone)) (aCons (eBin fAdd (eBin fAdd (eSl (eVar 7) oNone (oSome (eVar 8))) (eSl (eVar 7) (oSome (eVar 8)) (oSome (eBin fAdd (eVar 8) (eC (.int 1)))))) (eSl (eVar 7) (oSome (eVar 8)) oNone)) (aCons (eCB (on1 fTuple) (aCons (eVar 10) aNil)) (aCons (eSl (eVar 7) oNone (oSome (eUn fNeg (eC (.int 1))))) (aCons (eBin fAdd (eVar 7) (eVar 7)) (aCons (eUn fRev (eVar 7)) aNil))))))))) (sSet 4 (eBin fAdd (eVar 4) (eLst (aCons (eCB (F__law_spoilt 20) (aCons (eVar 2) (aCons (eVar 7) (aCons (eC (.int 2)) aNil)))) (aCons (eBin fAdd (eBin fAdd (eSl (eVar 7) oNone (oSome (eVar 8))) (eTup (aCons (eC (.int 1)) aNil))) (eSl (eVar 7) (oSome (eVar 8)) oNone)) aNil)))))))))))
abbrev rhoD (k : Int) (E : Es) (b q : Nat) (vs : List PyData) (x0 x5 x6 x7 x8 x9 x10 x11 x12 x13 : Option D) : Sl := [x0, some (.p (.tuple [.int k, .tuple (E.map edgeD)])), some (.o b), some (.o q), some (.p (.list vs)), x5, x6, x7, x8, x9, x10, x11, x12, x13]
theorem sPar_of {X Y : Fe} {ρ : Sl} {S S1 S2 : Store} {d e : D} {i j : Nat} (h : X ρ S = .ok d S1) (g : Y ρ S1 = .ok e S2) : sPar i j X Y ρ S = .nx ((ρ.set i (some d)).set j (some e)) S2 := by
  unfold sPar bindS
  rw [h]
  dsimp only
  rw [g]
theorem swap_ok {T : Store} {es : List PyData} {a s : Nat} {u v : PyData} {fv fo fi fo2 fi2 : Fe} {ρ : Sl} (hv : fv ρ (T ++ [.lst (es.map D.p)]) = .ok (.p (.tuple [u, v])) (T ++ [.lst (es.map D.p)])) (ha : a < es.length) (hs : s < es.length)
    (ho : ∀ S, fo ρ S = .ok (.o T.length) S) (hi : ∀ S, fi ρ S = .ok (.p (.int a)) S) (ho2 : ∀ S, fo2 ρ S = .ok (.o T.length) S) (hi2 : ∀ S, fi2 ρ S = .ok (.p (.int s)) S) :
    sSwap fv fo fi fo2 fi2 ρ (T ++ [.lst (es.map D.p)]) = .nx ρ (T ++ [.lst (((es.set a u).set s v).map D.p)]) := by
  have st : ∀ (xs : List PyData) (i : Nat) (w : PyData), i < xs.length → setAt (.o T.length) (.p (.int i)) (.p w) (T ++ [.lst (xs.map D.p)]) = some (T ++ [.lst ((xs.set i w).map D.p)]) := fun xs i w h => by
    have e : (T ++ [Cell.lst (xs.map D.p)])[T.length]? = some (.lst (xs.map D.p)) := by simp
    show (lstAt _ _).bind _ = _
    rw [lstAt_of e]
    simp only [Option.bind_some]
    rw [List.length_map, ixN_nat h]
    simp [List.map_set]
  unfold sSwap bindS
  rw [hv]
  dsimp only
  rw [ho]
  dsimp only
  rw [hi]
  dsimp only
  rw [st es a u ha]
  dsimp only
  rw [ho2]
  dsimp only
  rw [hi2]
  dsimp only
  rw [st (es.set a u) s v (by simpa using hs)]
  rfl
theorem draw_ok {b q : Nat} {k : Int} {E : Es} {T : Store} {vs : List PyData} {x0 x5 x6 x7 x8 x9 x10 x11 x12 x13 : Option D} (hq : HasC q k E T) (hqb : q ≠ b) (hC : COk k E) (hb : Bx b T) (hl : vs.length ≤ 200) (hv : ∀ v ∈ vs, WOk v) :
    ∃ vs' y6 y7 y8 y9 y10 T', lpDraw (rhoD k E b q vs x0 x5 x6 x7 x8 x9 x10 x11 x12 x13) T = .nx (rhoD k E b q vs' x0 x5 y6 y7 y8 y9 y10 x11 x12 x13) T' ∧ vs'.length = vs.length + 8 ∧ (∀ v ∈ vs', WOk v) ∧ Kp b T T' := by
  obtain ⟨w, T1, e1, hw, k1, l1⟩ := pick_kp hb [.int 3, .int 90] (by simp) (by simp)
  have hw' : ∃ w' : Int, w = .int w' ∧ 1 ≤ w' ∧ w' ≤ 90 := by
    simp only [List.mem_cons, List.not_mem_nil, or_false] at hw
    rcases hw with rfl | rfl
    · exact ⟨3, rfl, by omega, by omega⟩
    · exact ⟨90, rfl, by omega, by omega⟩
  obtain ⟨w', rfl, hw1, hw2⟩ := hw'
  obtain ⟨ps, T2, e2, hD, k2, l2⟩ := drawn_ok hC (b := b) hw1 hw2 20 0 12 T1 (by omega) (by omega) (by omega) (by omega) (by omega) k1.box
  obtain ⟨hgood, hlen⟩ := drawn_good hw1 hw2 hD
  have hsp := gp_sp _ _ hD.g
  have hdep := gp_depth hC.eok 0 ps hD.g (by omega) (by omega)
  have tr := trace_ok 20 (runD 0 ps) (trE 0 ps) (sp_trF (n := 19) hsp (by omega)) (by omega) T2
  have hev := gd_tr hC.eok hD.g
  have hcnt : ((trE 0 ps).filter isIn).length ≤ 12 := by
    have : inN (.tuple (trE 0 ps)) = cR ps + 1 := inN_tr
    have h2 : ((trE 0 ps).filter isIn).length = cR ps + 1 := this
    have := hD.r
    omega
  have hlay : lay (runD 0 ps) ∧ PyData.depth (runD 0 ps) ≤ 10 := by
    obtain ⟨h1, _⟩ := lay_sp ps hsp
    refine ⟨?_, ?_⟩
    · show PyData.canLay0 _ = true
      simp [runD, PyData.canLay0, PyData.canLayAll0, h1]
    · simp only [runD, PyData.depth, PyData.depthAll]; omega
  have hes := fun d hd => (⟨(hev d hd).2.2.1, (hev d hd).2.1, (hev d hd).2.2.2⟩ : lay d ∧ PyData.depth d ≤ 1 ∧ nd d ≤ 3)
  obtain ⟨t1, t2, t3⟩ := tup_ok hes
  have hq2 : HasC q k E T2 := (k1.trans k2).get hq hqb
  obtain ⟨U1, h1⟩ := told0_law hq2 hC (runD 0 ps) hlay.1
  rw [if_pos hgood] at h1
  obtain ⟨U2, h2⟩ := told1_law (hq2.app (U := U1)) hC (.tuple (trE 0 ps)) (shp_of t1 (by omega)) (by omega)
  have hrd : readV E (.tuple (trE 0 ps)) = some (runD 0 ps) := by
    show readR E (trE 0 ps) = _
    rw [read_tr hsp, if_pos hgood]
  rw [hrd] at h2
  generalize hes' : trE 0 ps = es at *
  have hpos : 0 < es.length := by rw [← hes', trE_len]; omega
  have k3 : Kp b T (T2 ++ U1 ++ U2) := ((k1.trans k2).trans (Kp.ext k2.box U1)).trans (Kp.ext (Kp.ext k2.box U1).box U2)
  obtain ⟨ga, T4, e4, q0, q1, k4, l4⟩ := take_kp k3.box es.length (by omega) (by omega)
  obtain ⟨a, rfl⟩ : ∃ a : Nat, ga = a := ⟨ga.toNat, by omega⟩
  obtain ⟨gs, T5, e5, q2, q3, k5, l5⟩ := take_kp k4.box es.length (by omega) (by omega)
  obtain ⟨s, rfl⟩ : ∃ s : Nat, gs = s := ⟨gs.toNat, by omega⟩
  have ha : a < es.length := by omega
  have hs : s < es.length := by omega
  have k5' : Kp b T T5 := (k3.trans k4).trans k5
  have k6 := Kp.ext k5.box [Cell.lst (((es.set a es[s]).set s es[a]).map D.p)]
  have k6' := k5'.trans k6
  have hgd : gd (.tuple es) = true := by
    rw [gd]
    have : ∀ l : List PyData, (∀ d ∈ l, gd d = true) → gdL l = true := by
      intro l
      induction l with
      | nil => intro _; rfl
      | cons x l ih => intro h; rw [gdL, h x (by simp), ih (fun y hy => h y (by simp [hy]))]; rfl
    exact this es fun d hd => (hev d hd).1
  obtain ⟨r, T8, e8, hr, k8, l8⟩ := spoilt_ok (b := b) 20 2 (.tuple es) (T5 ++ [Cell.lst (((es.set a es[s]).set s es[a]).map D.p)]) (by omega) (by omega) hgd (shp_of t1 (by omega)) (by omega) k6.box
  have wr : WOk r := ⟨hr.lay, by have := hr.dep; omega, by have := hr.nd; omega, by
    have h := hr.ins
    have : inN (.tuple es) = (es.filter isIn).length := rfl
    omega⟩
  have w1 : WOk (.tuple (es.take a ++ [.int 1] ++ es.drop a)) := by
    refine wok_tup (fun d hd => ?_) ?_ ?_
    · rcases List.mem_append.mp hd with h | h
      · rcases List.mem_append.mp h with h | h
        · exact hes d (List.mem_of_mem_take h)
        · have : d = .int 1 := by simpa using h
          rw [this]; exact ⟨rfl, by simp [PyData.depth], by simp [nd]⟩
      · exact hes d (List.mem_of_mem_drop h)
    · rw [List.length_append, List.length_append, List.length_take, List.length_drop]; simp; omega
    · have := cnt_td es a
      have := cntI_cons (.int 1) []
      rw [cntI_append, cntI_append]; simp at this ⊢; omega
  refine ⟨vs ++ six es a s es[s] es[a] ++ [r, .tuple (es.take a ++ [.int 1] ++ es.drop a)], some (.p (runD 0 ps)), some (.p (.tuple es)), some (.p (.int a)), some (.p (.int s)), some (.o T5.length), T8, ?_, by simp [six], fun v hvv => ?_, k6'.trans k8⟩
  · refine (stSet ((cb5 (d1 := .o b) (d2 := .p (.tuple [.int k, .tuple (E.map edgeD)])) (d3 := .p (.int 0)) (d4 := .p (.int 12)) rfl rfl rfl rfl ((cb2 (d := .o b) rfl (lst_of (l := [.int 3, .int 90]) (al_cons rfl (al_cons rfl al_nil)) (by simp))).trans e1)).trans e2)).trans ?_
    refine (stSet ((cb1 (d := .p (runD 0 ps)) rfl).trans tr)).trans ?_
    refine (stIf_f ((bOr_f (eT_of ((bin_of ((cb3 (d := .p (.int 0)) (e := .o q) (f := .p (runD 0 ps)) rfl rfl rfl).trans h1) (tup2 (a := .str "told") (b := .tuple es) rfl (by rw [← hes']; rfl))).trans ?_))).trans (eT_of ((bin_of ((cb3 (d := .p (.int 1)) (e := .o q) (f := .p (.tuple es)) rfl rfl rfl).trans h2) (tup2 (a := .str "told") (b := runD 0 ps) rfl rfl)).trans (ne_same _ _ (shp_pair hlay.1 (by omega))))))).trans ?_
    · have e : trV (runD 0 ps) = es := hes'
      rw [e]
      exact ne_same _ _ (shp_pair t1 (by omega))
    refine (stp (ρ' := rhoD k E b q vs x0 x5 (some (.p (runD 0 ps))) (some (.p (.tuple es))) (some (.p (.int a))) (some (.p (.int s))) x10 x11 x12 x13) (S' := T5) (sPar_of ((cb2 (d := .o b) (e := .p (.int es.length)) rfl ((cb1 (d := .p (.tuple es)) rfl).trans rfl)).trans e4) ((cb2 (d := .o b) (e := .p (.int es.length)) rfl ((cb1 (d := .p (.tuple es)) rfl).trans rfl)).trans e5))).trans ?_
    refine (stSet (d := .o T5.length) (S1 := T5 ++ [.lst (es.map D.p)]) ((cb1 (d := .p (.tuple es)) rfl).trans rfl)).trans ?_
    refine (stp (swap_ok (u := es[s]) (v := es[a]) (tup2 ((bin_of (d := .p (.tuple es)) rfl rfl).trans (fix_tup hs _)) ((bin_of (d := .p (.tuple es)) rfl rfl).trans (fix_tup ha _))) ha hs (fun _ => rfl) (fun _ => rfl) (fun _ => rfl) (fun _ => rfl))).trans ?_
    have le : es.length ≤ 100 := hlen
    have six1 : eBin fAdd (eVar 4) (eLst (aCons (eBin fAdd (eSl (eVar 7) oNone (oSome (eVar 8))) (eSl (eVar 7) (oSome (eBin fAdd (eVar 8) (eC (.int 1)))) oNone)) (aCons (eBin fAdd (eBin fAdd (eSl (eVar 7) oNone (oSome (eVar 8))) (eSl (eVar 7) (oSome (eVar 8)) (oSome (eBin fAdd (eVar 8) (eC (.int 1)))))) (eSl (eVar 7) (oSome (eVar 8)) oNone)) (aCons (eCB (on1 fTuple) (aCons (eVar 10) aNil)) (aCons (eSl (eVar 7) oNone (oSome (eUn fNeg (eC (.int 1))))) (aCons (eBin fAdd (eVar 7) (eVar 7)) (aCons (eUn fRev (eVar 7)) aNil)))))))
        (rhoD k E b q vs x0 x5 (some (.p (runD 0 ps))) (some (.p (.tuple es))) (some (.p (.int a))) (some (.p (.int s))) (some (.o T5.length)) x11 x12 x13) (T5 ++ [Cell.lst (((es.set a es[s]).set s es[a]).map D.p)]) = .ok (.p (.list (vs ++ six es a s es[s] es[a]))) (T5 ++ [Cell.lst (((es.set a es[s]).set s es[a]).map D.p)]) := by
      refine (bin_of (d := .p (.list vs)) rfl (lst_of (l := six es a s es[s] es[a]) ?_ (by simp [six]))).trans (catL _ (by simp [six]; omega))
      have lt : ∀ k, (es.take k).length ≤ 100 := fun k => by rw [List.length_take]; omega
      have ld : ∀ k, (es.drop k).length ≤ 100 := fun k => by rw [List.length_drop]; omega
      have l1 : ((es.drop a).take 1).length ≤ 100 := by rw [List.length_take]; omega
      have tu : fTuple (.o T5.length) (T5 ++ [Cell.lst (((es.set a es[s]).set s es[a]).map D.p)]) = .ok (.p (.tuple ((es.set a es[s]).set s es[a]))) (T5 ++ [Cell.lst (((es.set a es[s]).set s es[a]).map D.p)]) := by
        have e : items (T5 ++ [Cell.lst (((es.set a es[s]).set s es[a]).map D.p)]) (.o T5.length) = some (((es.set a es[s]).set s es[a]).map D.p) := by
          show (T5 ++ [Cell.lst (((es.set a es[s]).set s es[a]).map D.p)])[T5.length]?.bind Cell.seq? = _
          simp [Cell.seq?]
        show ofO _ ((items _ _).bind _) = _
        rw [e]
        simp only [Option.bind_some, asPs_map]
        rfl
      unfold six
      refine al_cons ((bin_of (gUp rfl rfl) (gFrom1 rfl rfl)).trans (addT _ (by have := lt a; have := ld (a + 1); omega))) ?_
      refine al_cons ((bin_of ((bin_of (gUp rfl rfl) (gAt rfl rfl)).trans (addT _ (by have := lt a; omega))) (gFrom rfl rfl)).trans (addT _ (by rw [List.length_append]; have := lt a; have := ld a; omega))) ?_
      refine al_cons ((cb1 (d := .o T5.length) rfl).trans tu) ?_
      refine al_cons (gBut rfl) ?_
      refine al_cons ((bin_of (d := .p (.tuple es)) (e := .p (.tuple es)) rfl rfl).trans (addT _ (by omega))) ?_
      exact al_cons ((un_of (d := .p (.tuple es)) rfl).trans rfl) al_nil
    refine (stSet six1).trans ?_
    refine sSet_of (d := .p (.list (vs ++ six es a s es[s] es[a] ++ [r, .tuple (es.take a ++ [.int 1] ++ es.drop a)]))) ?_
    refine (bin_of (d := .p (.list (vs ++ six es a s es[s] es[a]))) (S1 := T5 ++ [Cell.lst (((es.set a es[s]).set s es[a]).map D.p)]) rfl (lst_ofS (l := [r, .tuple (es.take a ++ [.int 1] ++ es.drop a)]) ?_ (by simp))).trans (catL _ (by simp [six]; omega))
    refine al_consS ((cb3 (d := .o b) (e := .p (.tuple es)) (f := .p (.int 2)) rfl rfl rfl).trans e8) (al_consS ?_ al_nil)
    exact (bin_of ((bin_of (gUp rfl rfl) (tup1 (a := .int 1) rfl)).trans (addT _ (by rw [List.length_take]; simp; omega))) (gFrom rfl rfl)).trans (addT _ (by rw [List.length_append, List.length_take, List.length_drop]; simp; omega))
  · rcases List.mem_append.mp hvv with h | h
    · rcases List.mem_append.mp h with h | h
      · exact hv v h
      · exact six_ok hes (List.getElem_mem hs) (List.getElem_mem ha) hlen hcnt v h
    · simp only [List.mem_cons, List.not_mem_nil, or_false] at h
      rcases h with rfl | rfl
      · exact wr
      · exact w1
end LK
set_option Elab.async false
set_option linter.all false
set_option maxRecDepth 100000
set_option maxHeartbeats 1000000
namespace LK
open PySem PySem.Spec L2 DL
def iE (g : Int) : PyData := .tuple [.str "in", .int g]
def oE (g : Int) : PyData := .tuple [.str "out", .int g]
def L1 : List PyData := [.tuple [], .none, .int 0, .tuple [iE 0], .tuple [iE 0, oE 0], .tuple [iE 0, .int 0, oE 0], .tuple [iE 0, .int 1, oE 0]]
def L2 : List PyData := [.tuple [iE 0, oE 1], .tuple [oE 0, iE 0], .tuple [.int 1], .tuple [iE 1, oE 1]]
def L3 : List PyData := [.tuple [.tuple [.str "in", .bool true], .tuple [.str "out", .bool true]], .tuple [iE 0, oE 0, .int 1], .tuple [iE 0, oE 0, iE 0, oE 0], .list [iE 0, oE 0]]
def L4 : List PyData := [.tuple [.list [.str "in", .int 0], oE 0], .tuple [iE 0, iE 0, oE 0, oE 0], .tuple [.tuple [.str "in", .int 0, .int 0], oE 0]]
def wchk (v : PyData) : Bool := PyData.canLay0 v && decide (PyData.depth v ≤ 56) && decide (nd v ≤ 1000000) && decide (inN v ≤ 28)
theorem wchk_ok {v : PyData} (h : wchk v = true) : WOk v := by
  unfold wchk at h
  simp only [Bool.and_eq_true, decide_eq_true_eq] at h
  exact ⟨h.1.1.1, h.1.1.2, h.1.2, h.2⟩
theorem L_ok : ∀ v ∈ LK.L1 ++ LK.L2 ++ L3 ++ L4, WOk v := by
  have : (LK.L1 ++ LK.L2 ++ L3 ++ L4).all wchk = true := by decide +kernel
  exact fun v hv => wchk_ok (List.all_eq_true.mp this v hv)
theorem rep2 (x y : PyData) (S : Store) : fRepT (.p (.tuple [x, y])) (.p (.int 2)) S = .ok (.p (.tuple [x, y, x, y])) S := by
  have c : (([x, y] : List PyData) ≠ [] ∧ 2 ≤ (2 : Int) ∧ (2 : Int) ≤ 1000 ∧ ([x, y] : List PyData).length ≤ 1000) := ⟨by simp, by omega, by omega, by simp⟩
  unfold fRepT
  dsimp only
  rw [if_pos c]
  rfl
theorem law_true (ns : List Int) : ∃ S, F_law [.s ns] [] = .ok (.p (.bool true)) S := by
  obtain ⟨k, E, S1, e1, hC, U1, hU1⟩ := calls_ok ns []
  obtain ⟨c, e2, hb⟩ := box_kp ns 4 S1
  have e3 := made_ok hC (S1 ++ [c])
  have k3 := Kp.ext hb [callsC k E]
  have hqb : (S1 ++ [c]).length ≠ S1.length := by simp
  have hq : HasC (S1 ++ [c]).length k E (S1 ++ [c] ++ [callsC k E]) := by
    show (S1 ++ [c] ++ [callsC k E])[(S1 ++ [c]).length]? = _
    simp
  generalize hQ : (S1 ++ [c]).length = q at *
  generalize hB : S1.length = b at *
  generalize hS3 : S1 ++ [c] ++ [callsC k E] = S3 at *
  suffices hh : ∃ S, g_law [some (.s ns), none, none, none, none, none, none, none, none, none, none, none, none, none] [] = .rt (.p (.bool true)) S by
    obtain ⟨S, hh⟩ := hh
    exact ⟨S, finR_of (F := F_law) rfl rfl hh⟩
  unfold g_law
  have ap : ∀ {X : Fe} {l l2 : List PyData}, X [some (.s ns), some (.p (.tuple [.int k, .tuple (E.map edgeD)])), some (.o b), some (.o q), some (.p (.list l)), none, none, none, none, none, none, none, none, none] S3 = .ok (.p (.list l2)) S3 → l.length + l2.length ≤ 1000 → ∀ w : Fs, sSeq (sSet 4 (eBin fAdd (eVar 4) X)) w [some (.s ns), some (.p (.tuple [.int k, .tuple (E.map edgeD)])), some (.o b), some (.o q), some (.p (.list l)), none, none, none, none, none, none, none, none, none] S3 = w [some (.s ns), some (.p (.tuple [.int k, .tuple (E.map edgeD)])), some (.o b), some (.o q), some (.p (.list (l ++ l2))), none, none, none, none, none, none, none, none, none] S3 :=
    fun h hl w => stSet ((bin_of (d := .p (.list _)) rfl h).trans (catL S3 hl))
  obtain ⟨ρ1, T1, f1, vs, y5, y6, y7, y8, y9, y10, rfl, hlv, hwv, hkp⟩ := for_inv (src := srcRng1 (eC (.int 4))) (t := tName 5) (u := lpDraw) (ρ := rhoD k E b q (LK.L1 ++ LK.L2 ++ L3 ++ L4) (some (.s ns)) none none none none none none none none none) (S := S3) (rngL 0 4)
    (fun rest ρ T => ∃ vs y5 y6 y7 y8 y9 y10, ρ = rhoD k E b q vs (some (.s ns)) y5 y6 y7 y8 y9 y10 none none none ∧ vs.length + 8 * rest.length ≤ 60 ∧ (∀ v ∈ vs, WOk v) ∧ Kp b S3 T)
    (rng1_of (n := 4) rfl (by omega)) (by rw [rngL_len]; rfl) (rng_nxt 0 4) ⟨_, none, none, none, none, none, none, rfl, by simp [LK.L1, LK.L2, L3, L4, rngL_len], L_ok, Kp.refl k3.box⟩
    (fun p rest ρ T hp ⟨vs, y5, y6, y7, y8, y9, y10, hρ, hl, hw, hk⟩ => by
      subst hρ
      have hl : vs.length + 8 * (rest.length + 1) ≤ 60 := hl
      obtain ⟨vs', z6, z7, z8, z9, z10, T', e, hl', hw', hk'⟩ := draw_ok (x0 := some (.s ns)) (x5 := some (.p p)) (x6 := y6) (x7 := y7) (x8 := y8) (x9 := y9) (x10 := y10) (x11 := none) (x12 := none) (x13 := none) (hk.get hq hqb) hqb hC hk.box (by omega) hw
      exact ⟨_, _, T', rfl, e, vs', some (.p p), z6, z7, z8, z9, z10, rfl, by omega, hw', hk.trans hk'⟩)
  have hq1 : HasC q k E T1 := hkp.get hq hqb
  have hlv : vs.length ≤ 60 := by simpa using hlv
  obtain ⟨ρ2, T2, f2, z6, z11, rfl, hq2, _⟩ := for_inv (src := srcSeq (eVar 4)) (t := tName 11) (u := sSeq (sSet 6 (eCB F__law_read (aCons (eVar 1) (aCons (eVar 11) aNil)))) (sIf (eT (eBin (fEq true) (eCB F__law_told (aCons (eC (.int 1)) (aCons (eVar 3) (aCons (eVar 11) aNil)))) (eIf (eT (eBin (fIs false) (eVar 6) (eC .none))) (eTup (aCons (eC (.str "trace")) (aCons (eVar 11) aNil))) (eTup (aCons (eC (.str "told")) (aCons (eVar 6) aNil)))))) (sRet (eC (.bool false))) sNil))
    (ρ := rhoD k E b q vs (some (.s ns)) y5 y6 y7 y8 y9 y10 none none none) (S := T1) vs
    (fun rest ρ T => ∃ z6 z11, ρ = rhoD k E b q vs (some (.s ns)) y5 z6 y7 y8 y9 y10 z11 none none ∧ HasC q k E T ∧ ∀ v ∈ rest, WOk v)
    (srcSeq_lst rfl) (seq_lst_count _ _) (seq_lst_nxt _) ⟨y6, none, rfl, hq1, hwv⟩
    (fun v rest ρ T hv ⟨z6, z11, hρ, hqT, hw⟩ => by
      subst hρ
      obtain ⟨x6', U, e⟩ := loop2_step (x0 := some (.s ns)) (x2 := some (.o b)) (x4 := some (.p (.list vs))) (x5 := y5) (x6 := z6) (x7 := y7) (x8 := y8) (x9 := y9) (x10 := y10) (x12 := none) (x13 := none) hqT hC (hw v (by simp))
      exact ⟨_, _, _, rfl, e, x6', some (.p v), rfl, hqT.app, fun w hw' => hw w (by simp [hw'])⟩)
  have rv := run_values_ok k E T2
  obtain ⟨ρ3, T3, f3, a11, a12, a13, rfl, hq3, _⟩ := for_inv (src := srcSeq (eCB F__law_run_values (aCons (eVar 1) aNil))) (t := tName 11) (u := lpAsk)
    (ρ := rhoD k E b q vs (some (.s ns)) y5 z6 y7 y8 y9 y10 z11 none none) (S := T2) (vals k E)
    (fun rest ρ T => ∃ a11 a12 a13, ρ = rhoD k E b q vs (some (.s ns)) y5 z6 y7 y8 y9 y10 a11 a12 a13 ∧ HasC q k E T ∧ ∀ v ∈ rest, VOk v)
    (srcSeq_lst ((cb1 (d := .p (.tuple [.int k, .tuple (E.map edgeD)])) rfl).trans rv)) (seq_lst_count _ _) (seq_lst_nxt _) ⟨z11, none, none, rfl, hq2, vals_ok ⟨hC.k1, hC.k5⟩⟩
    (fun v rest ρ T hv ⟨a11, a12, a13, hρ, hqT, hw⟩ => by
      subst hρ
      obtain ⟨x12', x13', U, e⟩ := ask_ok (x0 := some (.s ns)) (x2 := some (.o b)) (x4 := some (.p (.list vs))) (x5 := y5) (x6 := z6) (x7 := y7) (x8 := y8) (x9 := y9) (x10 := y10) (x12 := a12) (x13 := a13) hqT hC (hw v (by simp))
      exact ⟨_, _, _, rfl, e, some (.p v), x12', x13', rfl, hqT.app, fun w hw' => hw w (by simp [hw'])⟩)
  refine ⟨T3, ?_⟩
  refine (stSet ((cb1 (d := .s ns) rfl).trans e1)).trans ?_
  refine (stSet ((cb2 (d := .s ns) rfl rfl).trans e2)).trans ?_
  refine (stSet (d := .o q) (S1 := S3) ((cb1 (d := .p (.tuple [.int k, .tuple (E.map edgeD)])) rfl).trans e3)).trans ?_
  refine (stSet (d := .p (.list LK.L1)) (S1 := S3) ?_).trans ?_
  · refine lst_of (l := LK.L1) ?_ (by simp [LK.L1])
    unfold LK.L1 iE oE
    repeat' first
      | exact al_nil
      | refine al_cons ?_ ?_
      | refine tup_of ?_ (by simp)
      | exact rfl
  refine (ap (l := LK.L1) (l2 := LK.L2) ?_ (by simp [LK.L1, LK.L2]) _).trans ?_
  · refine lst_of (l := LK.L2) ?_ (by simp [LK.L2])
    unfold LK.L2 iE oE
    repeat' first
      | exact al_nil
      | refine al_cons ?_ ?_
      | refine tup_of ?_ (by simp)
      | exact rfl
  refine (ap (l := LK.L1 ++ LK.L2) (l2 := L3) ?_ (by simp [LK.L1, LK.L2, L3]) _).trans ?_
  · refine lst_of (l := L3) ?_ (by simp [L3])
    unfold L3 iE oE
    repeat' first
      | exact al_nil
      | refine al_cons ?_ ?_
      | refine tup_of ?_ (by simp)
      | refine lst_of ?_ (by simp)
      | refine (bin_of (d := .p (.tuple [.tuple [.str "in", .int 0], .tuple [.str "out", .int 0]])) (tup_of ?_ (by simp)) rfl).trans (rep2 _ _ _)
      | exact rfl
  refine (ap (l := LK.L1 ++ LK.L2 ++ L3) (l2 := L4) ?_ (by simp [LK.L1, LK.L2, L3, L4]) _).trans ?_
  · refine lst_of (l := L4) ?_ (by simp [L4])
    unfold L4 iE oE
    repeat' first
      | exact al_nil
      | refine al_cons ?_ ?_
      | refine tup_of ?_ (by simp)
      | refine lst_of ?_ (by simp)
      | exact rfl
  refine (stp f1).trans ?_
  refine (stp f2).trans ?_
  refine (stp f3).trans ?_
  exact sRet_of rfl
end LK
set_option Elab.async false
set_option linter.all false
set_option maxRecDepth 100000
namespace LK
open PySem PySem.Spec L2 DL PySem.HandSPX
theorem law_trueB (ns : List Int) (h : ns.length ≤ 63) (hb : ∀ z ∈ ns, Builtin.Int.intBits z ≤ 1048576) : ∃ S, F_law [.s ns] [] = .ok (.p (.bool true)) S := law_true ns
abbrev sx_InvalidEdges : Stmt := inClass (top 3) 0
theorem tx_InvalidEdges : ErrText sx_InvalidEdges "value" := ⟨_, _, _, _, _, _, _, _, _, _, _, _, _, _, rfl, rfl, rfl, rfl⟩
abbrev sx_InvalidNumber : Stmt := inClass (top 2) 0
theorem tx_InvalidNumber : ErrText sx_InvalidNumber "value" := ⟨_, _, _, _, _, _, _, _, _, _, _, _, _, _, rfl, rfl, rfl, rfl⟩
abbrev sx_InvalidRun : Stmt := inClass (top 4) 0
theorem tx_InvalidRun : ErrText sx_InvalidRun "value" := ⟨_, _, _, _, _, _, _, _, _, _, _, _, _, _, rfl, rfl, rfl, rfl⟩
abbrev sx_InvalidTrace : Stmt := inClass (top 5) 0
theorem tx_InvalidTrace : ErrText sx_InvalidTrace "value" := ⟨_, _, _, _, _, _, _, _, _, _, _, _, _, _, rfl, rfl, rfl, rfl⟩
set_option maxHeartbeats 4000000 in
theorem all_mk {l : PySem.W.OpenLaw} {w : World} {K : PySem.W.Frag} {h : Heap} {mg : Str → Option Value} {fa : Addr} (X : K.In h) (G : h.Ns mainGlobals mg) (hfa : mg "law" = some (.ref fa))
    {f0 : Addr} {od0 an0 : Option Addr} {sl0 : Array (Option Value)} {oc0 kV0 dc0 pm0 cd0 ct0 : Value}
    {f1 : Addr} {od1 an1 : Option Addr} {sl1 : Array (Option Value)} {oc1 kV1 dc1 pm1 cd1 ct1 : Value}
    {f2 : Addr} {od2 an2 : Option Addr} {sl2 : Array (Option Value)} {oc2 kV2 dc2 pm2 cd2 ct2 : Value}
    {f3 : Addr} {od3 an3 : Option Addr} {sl3 : Array (Option Value)} {oc3 kV3 dc3 pm3 cd3 ct3 : Value}
    {f4 : Addr} {od4 an4 : Option Addr} {sl4 : Array (Option Value)} {oc4 kV4 dc4 pm4 cd4 ct4 : Value}
    {f5 : Addr} {od5 an5 : Option Addr} {sl5 : Array (Option Value)} {oc5 kV5 dc5 pm5 cd5 ct5 : Value}
    {f6 : Addr} {od6 an6 : Option Addr} {sl6 : Array (Option Value)} {oc6 kV6 dc6 pm6 cd6 ct6 : Value}
    {f7 : Addr} {od7 an7 : Option Addr} {sl7 : Array (Option Value)} {oc7 kV7 dc7 pm7 cd7 ct7 : Value}
    {f8 : Addr} {od8 an8 : Option Addr} {sl8 : Array (Option Value)} {oc8 kV8 dc8 pm8 cd8 ct8 : Value}
    {f9 : Addr} {od9 an9 : Option Addr} {sl9 : Array (Option Value)} {oc9 kV9 dc9 pm9 cd9 ct9 : Value}
    {f10 : Addr} {od10 an10 : Option Addr} {sl10 : Array (Option Value)} {oc10 kV10 dc10 pm10 cd10 ct10 : Value}
    {f11 : Addr} {od11 an11 : Option Addr} {sl11 : Array (Option Value)} {oc11 kV11 dc11 pm11 cd11 ct11 : Value}
    {f12 : Addr} {od12 an12 : Option Addr} {sl12 : Array (Option Value)} {oc12 kV12 dc12 pm12 cd12 ct12 : Value}
    {f13 : Addr} {od13 an13 : Option Addr} {sl13 : Array (Option Value)} {oc13 kV13 dc13 pm13 cd13 ct13 : Value}
    {f14 : Addr} {od14 an14 : Option Addr} {sl14 : Array (Option Value)} {oc14 kV14 dc14 pm14 cd14 ct14 : Value}
    {f15 : Addr} {od15 an15 : Option Addr} {sl15 : Array (Option Value)} {oc15 kV15 dc15 pm15 cd15 ct15 : Value}
    {f16 : Addr} {od16 an16 : Option Addr} {sl16 : Array (Option Value)} {oc16 kV16 dc16 pm16 cd16 ct16 : Value}
    {f17 : Addr} {od17 an17 : Option Addr} {sl17 : Array (Option Value)} {oc17 kV17 dc17 pm17 cd17 ct17 : Value}
    {f18 : Addr} {od18 an18 : Option Addr} {sl18 : Array (Option Value)} {oc18 kV18 dc18 pm18 cd18 ct18 : Value}
    {f19 : Addr} {od19 an19 : Option Addr} {sl19 : Array (Option Value)} {oc19 kV19 dc19 pm19 cd19 ct19 : Value}
    {f20 : Addr} {od20 an20 : Option Addr} {sl20 : Array (Option Value)} {oc20 kV20 dc20 pm20 cd20 ct20 : Value}
    {f21 : Addr} {od21 an21 : Option Addr} {sl21 : Array (Option Value)} {oc21 kV21 dc21 pm21 cd21 ct21 : Value}
    {f22 : Addr} {od22 an22 : Option Addr} {sl22 : Array (Option Value)} {oc22 kV22 dc22 pm22 cd22 ct22 : Value}
    {f23 : Addr} {od23 an23 : Option Addr} {sl23 : Array (Option Value)} {oc23 kV23 dc23 pm23 cd23 ct23 : Value}
    {f24 : Addr} {od24 an24 : Option Addr} {sl24 : Array (Option Value)} {oc24 kV24 dc24 pm24 cd24 ct24 : Value}
    {f25 : Addr} {od25 an25 : Option Addr} {sl25 : Array (Option Value)} {oc25 kV25 dc25 pm25 cd25 ct25 : Value}
    {f26 : Addr} {od26 an26 : Option Addr} {sl26 : Array (Option Value)} {oc26 kV26 dc26 pm26 cd26 ct26 : Value}
    {f27 : Addr} {od27 an27 : Option Addr} {sl27 : Array (Option Value)} {oc27 kV27 dc27 pm27 cd27 ct27 : Value}
    {f28 : Addr} {od28 an28 : Option Addr} {sl28 : Array (Option Value)} {oc28 kV28 dc28 pm28 cd28 ct28 : Value}
    {f29 : Addr} {od29 an29 : Option Addr} {sl29 : Array (Option Value)} {oc29 kV29 dc29 pm29 cd29 ct29 : Value}
    {f30 : Addr} {od30 an30 : Option Addr} {sl30 : Array (Option Value)} {oc30 kV30 dc30 pm30 cd30 ct30 : Value}
    {f31 : Addr} {od31 an31 : Option Addr} {sl31 : Array (Option Value)} {oc31 kV31 dc31 pm31 cd31 ct31 : Value}
    {f32 : Addr} {od32 an32 : Option Addr} {sl32 : Array (Option Value)} {oc32 kV32 dc32 pm32 cd32 ct32 : Value}
    {f33 : Addr} {od33 an33 : Option Addr} {sl33 : Array (Option Value)} {oc33 kV33 dc33 pm33 cd33 ct33 : Value}
    {f34 : Addr} {od34 an34 : Option Addr} {sl34 : Array (Option Value)} {oc34 kV34 dc34 pm34 cd34 ct34 : Value}
    {t_MOST_EVENTS : Tok}
    {t_MOST_FUNCTIONS : Tok}
    {t_MOST_PARTS : Tok}
    {t_MOST_RUNS : Tok}
    {t_MOST_TICKS : Tok}
    {C_Calls : Addr}
    {C_InvalidEdges : Addr}
    {C_InvalidNumber : Addr}
    {C_InvalidRun : Addr}
    {C_InvalidTrace : Addr}
    {C_TickError : Addr}
    {nm_InvalidEdges q_InvalidEdges : Str} {N_InvalidEdges : Addr} {bs_InvalidEdges bm_InvalidEdges : List Value} {sn_InvalidEdges : List Str} {sbc_InvalidEdges : List Value} {ab_InvalidEdges : Bool} {col_InvalidEdges : Option Bool} {dd_InvalidEdges : Option Addr} {m0_InvalidEdges m1_InvalidEdges m2_InvalidEdges m3_InvalidEdges m5_InvalidEdges : Option Value}
    {e_InvalidEdges cda_InvalidEdges cc_InvalidEdges : Addr} {eoc_InvalidEdges edc_InvalidEdges epm_InvalidEdges ect_InvalidEdges ccl_InvalidEdges ecl_InvalidEdges : Value} {eod_InvalidEdges ean_InvalidEdges cdd_InvalidEdges cld_InvalidEdges : Option Addr} {esl_InvalidEdges ccs_InvalidEdges csl_InvalidEdges : Array (Option Value)} {vs_InvalidEdges : Array Value} {fi_InvalidEdges : Str} {tf_InvalidEdges : Tok}
    {nm_InvalidNumber q_InvalidNumber : Str} {N_InvalidNumber : Addr} {bs_InvalidNumber bm_InvalidNumber : List Value} {sn_InvalidNumber : List Str} {sbc_InvalidNumber : List Value} {ab_InvalidNumber : Bool} {col_InvalidNumber : Option Bool} {dd_InvalidNumber : Option Addr} {m0_InvalidNumber m1_InvalidNumber m2_InvalidNumber m3_InvalidNumber m5_InvalidNumber : Option Value}
    {e_InvalidNumber cda_InvalidNumber cc_InvalidNumber : Addr} {eoc_InvalidNumber edc_InvalidNumber epm_InvalidNumber ect_InvalidNumber ccl_InvalidNumber ecl_InvalidNumber : Value} {eod_InvalidNumber ean_InvalidNumber cdd_InvalidNumber cld_InvalidNumber : Option Addr} {esl_InvalidNumber ccs_InvalidNumber csl_InvalidNumber : Array (Option Value)} {vs_InvalidNumber : Array Value} {fi_InvalidNumber : Str} {tf_InvalidNumber : Tok}
    {nm_InvalidRun q_InvalidRun : Str} {N_InvalidRun : Addr} {bs_InvalidRun bm_InvalidRun : List Value} {sn_InvalidRun : List Str} {sbc_InvalidRun : List Value} {ab_InvalidRun : Bool} {col_InvalidRun : Option Bool} {dd_InvalidRun : Option Addr} {m0_InvalidRun m1_InvalidRun m2_InvalidRun m3_InvalidRun m5_InvalidRun : Option Value}
    {e_InvalidRun cda_InvalidRun cc_InvalidRun : Addr} {eoc_InvalidRun edc_InvalidRun epm_InvalidRun ect_InvalidRun ccl_InvalidRun ecl_InvalidRun : Value} {eod_InvalidRun ean_InvalidRun cdd_InvalidRun cld_InvalidRun : Option Addr} {esl_InvalidRun ccs_InvalidRun csl_InvalidRun : Array (Option Value)} {vs_InvalidRun : Array Value} {fi_InvalidRun : Str} {tf_InvalidRun : Tok}
    {nm_InvalidTrace q_InvalidTrace : Str} {N_InvalidTrace : Addr} {bs_InvalidTrace bm_InvalidTrace : List Value} {sn_InvalidTrace : List Str} {sbc_InvalidTrace : List Value} {ab_InvalidTrace : Bool} {col_InvalidTrace : Option Bool} {dd_InvalidTrace : Option Addr} {m0_InvalidTrace m1_InvalidTrace m2_InvalidTrace m3_InvalidTrace m5_InvalidTrace : Option Value}
    {e_InvalidTrace cda_InvalidTrace cc_InvalidTrace : Addr} {eoc_InvalidTrace edc_InvalidTrace epm_InvalidTrace ect_InvalidTrace ccl_InvalidTrace ecl_InvalidTrace : Value} {eod_InvalidTrace ean_InvalidTrace cdd_InvalidTrace cld_InvalidTrace : Option Addr} {esl_InvalidTrace ccs_InvalidTrace csl_InvalidTrace : Array (Option Value)} {vs_InvalidTrace : Array Value} {fi_InvalidTrace : Str} {tf_InvalidTrace : Tok}
    (a0 : PySem.W.nsIn K mainGlobals "_law_box" = some (some (.ref f0)))
    (l0 : K.lookup f0 = some ⟨oc0, od0, .func (PySem.W.fnOf "_law_box" "_law_box" (defArgs s__law_box) (defBody s__law_box) (defScope s__law_box) .none kV0 dc0 pm0 an0 cd0 ct0), sl0⟩)
    (c0 : PySem.W.codeIn K cd0 "_law_box" = true)
    (k0 : PySem.W.keepIn K (.ref f0) = true)
    (a1 : PySem.W.nsIn K mainGlobals "_law_take" = some (some (.ref f1)))
    (l1 : K.lookup f1 = some ⟨oc1, od1, .func (PySem.W.fnOf "_law_take" "_law_take" (defArgs s__law_take) (defBody s__law_take) (defScope s__law_take) .none kV1 dc1 pm1 an1 cd1 ct1), sl1⟩)
    (c1 : PySem.W.codeIn K cd1 "_law_take" = true)
    (k1 : PySem.W.keepIn K (.ref f1) = true)
    (a2 : PySem.W.nsIn K mainGlobals "_law_pick" = some (some (.ref f2)))
    (l2 : K.lookup f2 = some ⟨oc2, od2, .func (PySem.W.fnOf "_law_pick" "_law_pick" (defArgs s__law_pick) (defBody s__law_pick) (defScope s__law_pick) .none kV2 dc2 pm2 an2 cd2 ct2), sl2⟩)
    (c2 : PySem.W.codeIn K cd2 "_law_pick" = true)
    (k2 : PySem.W.keepIn K (.ref f2) = true)
    (a3 : PySem.W.nsIn K mainGlobals "_law_all_edges" = some (some (.ref f3)))
    (l3 : K.lookup f3 = some ⟨oc3, od3, .func (PySem.W.fnOf "_law_all_edges" "_law_all_edges" (defArgs s__law_all_edges) (defBody s__law_all_edges) (defScope s__law_all_edges) .none kV3 dc3 pm3 an3 cd3 ct3), sl3⟩)
    (c3 : PySem.W.codeIn K cd3 "_law_all_edges" = true)
    (k3 : PySem.W.keepIn K (.ref f3) = true)
    (a4 : PySem.W.nsIn K mainGlobals "_law_calls" = some (some (.ref f4)))
    (l4 : K.lookup f4 = some ⟨oc4, od4, .func (PySem.W.fnOf "_law_calls" "_law_calls" (defArgs s__law_calls) (defBody s__law_calls) (defScope s__law_calls) .none kV4 dc4 pm4 an4 cd4 ct4), sl4⟩)
    (c4 : PySem.W.codeIn K cd4 "_law_calls" = true)
    (k4 : PySem.W.keepIn K (.ref f4) = true)
    (a5 : PySem.W.nsIn K mainGlobals "is_integer" = some (some (.ref f5)))
    (l5 : K.lookup f5 = some ⟨oc5, od5, .func (PySem.W.fnOf "is_integer" "is_integer" (defArgs s_is_integer) (defBody s_is_integer) (defScope s_is_integer) .none kV5 dc5 pm5 an5 cd5 ct5), sl5⟩)
    (c5 : PySem.W.codeIn K cd5 "is_integer" = true)
    (k5 : PySem.W.keepIn K (.ref f5) = true)
    (a6 : PySem.W.nsIn K mainGlobals "is_integer_in" = some (some (.ref f6)))
    (l6 : K.lookup f6 = some ⟨oc6, od6, .func (PySem.W.fnOf "is_integer_in" "is_integer_in" (defArgs s_is_integer_in) (defBody s_is_integer_in) (defScope s_is_integer_in) .none kV6 dc6 pm6 an6 cd6 ct6), sl6⟩)
    (c6 : PySem.W.codeIn K cd6 "is_integer_in" = true)
    (k6 : PySem.W.keepIn K (.ref f6) = true)
    (a7 : PySem.W.nsIn K mainGlobals "is_ascending" = some (some (.ref f7)))
    (l7 : K.lookup f7 = some ⟨oc7, od7, .func (PySem.W.fnOf "is_ascending" "is_ascending" (defArgs s_is_ascending) (defBody s_is_ascending) (defScope s_is_ascending) .none kV7 dc7 pm7 an7 cd7 ct7), sl7⟩)
    (c7 : PySem.W.codeIn K cd7 "is_ascending" = true)
    (k7 : PySem.W.keepIn K (.ref f7) = true)
    (a8 : PySem.W.nsIn K mainGlobals "is_pair" = some (some (.ref f8)))
    (l8 : K.lookup f8 = some ⟨oc8, od8, .func (PySem.W.fnOf "is_pair" "is_pair" (defArgs s_is_pair) (defBody s_is_pair) (defScope s_is_pair) .none kV8 dc8 pm8 an8 cd8 ct8), sl8⟩)
    (c8 : PySem.W.codeIn K cd8 "is_pair" = true)
    (k8 : PySem.W.keepIn K (.ref f8) = true)
    (a9 : PySem.W.nsIn K mainGlobals "is_upward_pair" = some (some (.ref f9)))
    (l9 : K.lookup f9 = some ⟨oc9, od9, .func (PySem.W.fnOf "is_upward_pair" "is_upward_pair" (defArgs s_is_upward_pair) (defBody s_is_upward_pair) (defScope s_is_upward_pair) .none kV9 dc9 pm9 an9 cd9 ct9), sl9⟩)
    (c9 : PySem.W.codeIn K cd9 "is_upward_pair" = true)
    (k9 : PySem.W.keepIn K (.ref f9) = true)
    (a10 : PySem.W.nsIn K mainGlobals "are_upward_pairs" = some (some (.ref f10)))
    (l10 : K.lookup f10 = some ⟨oc10, od10, .func (PySem.W.fnOf "are_upward_pairs" "are_upward_pairs" (defArgs s_are_upward_pairs) (defBody s_are_upward_pairs) (defScope s_are_upward_pairs) .none kV10 dc10 pm10 an10 cd10 ct10), sl10⟩)
    (c10 : PySem.W.codeIn K cd10 "are_upward_pairs" = true)
    (k10 : PySem.W.keepIn K (.ref f10) = true)
    (a11 : PySem.W.findIn K (.ref C_Calls) "__init__" = some (some (.ref f11)))
    (i11 : PySem.W.isFn K (.ref f11) = true)
    (l11 : K.lookup f11 = some ⟨oc11, od11, .func (PySem.W.fnOf "__init__" "Calls.__init__" (defArgs s_m_Callsdd_initdd) (defBody s_m_Callsdd_initdd) (defScope s_m_Callsdd_initdd) .none kV11 dc11 pm11 an11 cd11 ct11), sl11⟩)
    (c11 : PySem.W.codeIn K cd11 "Calls.__init__" = true)
    (k11 : PySem.W.keepIn K (.ref f11) = true)
    (a12 : PySem.W.nsIn K mainGlobals "_law_made" = some (some (.ref f12)))
    (l12 : K.lookup f12 = some ⟨oc12, od12, .func (PySem.W.fnOf "_law_made" "_law_made" (defArgs s__law_made) (defBody s__law_made) (defScope s__law_made) .none kV12 dc12 pm12 an12 cd12 ct12), sl12⟩)
    (c12 : PySem.W.codeIn K cd12 "_law_made" = true)
    (k12 : PySem.W.keepIn K (.ref f12) = true)
    (a13 : PySem.W.nsIn K mainGlobals "_law_run_values" = some (some (.ref f13)))
    (l13 : K.lookup f13 = some ⟨oc13, od13, .func (PySem.W.fnOf "_law_run_values" "_law_run_values" (defArgs s__law_run_values) (defBody s__law_run_values) (defScope s__law_run_values) .none kV13 dc13 pm13 an13 cd13 ct13), sl13⟩)
    (c13 : PySem.W.codeIn K cd13 "_law_run_values" = true)
    (k13 : PySem.W.keepIn K (.ref f13) = true)
    (a14 : PySem.W.nsIn K mainGlobals "_law_runs_in" = some (some (.ref f14)))
    (l14 : K.lookup f14 = some ⟨oc14, od14, .func (PySem.W.fnOf "_law_runs_in" "_law_runs_in" (defArgs s__law_runs_in) (defBody s__law_runs_in) (defScope s__law_runs_in) .none kV14 dc14 pm14 an14 cd14 ct14), sl14⟩)
    (c14 : PySem.W.codeIn K cd14 "_law_runs_in" = true)
    (k14 : PySem.W.keepIn K (.ref f14) = true)
    (a15 : PySem.W.nsIn K mainGlobals "_law_drawn_run" = some (some (.ref f15)))
    (l15 : K.lookup f15 = some ⟨oc15, od15, .func (PySem.W.fnOf "_law_drawn_run" "_law_drawn_run" (defArgs s__law_drawn_run) (defBody s__law_drawn_run) (defScope s__law_drawn_run) .none kV15 dc15 pm15 an15 cd15 ct15), sl15⟩)
    (c15 : PySem.W.codeIn K cd15 "_law_drawn_run" = true)
    (k15 : PySem.W.keepIn K (.ref f15) = true)
    (a16 : PySem.W.nsIn K mainGlobals "_law_trace" = some (some (.ref f16)))
    (l16 : K.lookup f16 = some ⟨oc16, od16, .func (PySem.W.fnOf "_law_trace" "_law_trace" (defArgs s__law_trace) (defBody s__law_trace) (defScope s__law_trace) .none kV16 dc16 pm16 an16 cd16 ct16), sl16⟩)
    (c16 : PySem.W.codeIn K cd16 "_law_trace" = true)
    (k16 : PySem.W.keepIn K (.ref f16) = true)
    (a17 : PySem.W.nsIn K mainGlobals "_law_whole" = some (some (.ref f17)))
    (l17 : K.lookup f17 = some ⟨oc17, od17, .func (PySem.W.fnOf "_law_whole" "_law_whole" (defArgs s__law_whole) (defBody s__law_whole) (defScope s__law_whole) .none kV17 dc17 pm17 an17 cd17 ct17), sl17⟩)
    (c17 : PySem.W.codeIn K cd17 "_law_whole" = true)
    (k17 : PySem.W.keepIn K (.ref f17) = true)
    (a18 : PySem.W.nsIn K mainGlobals "_law_is_run" = some (some (.ref f18)))
    (l18 : K.lookup f18 = some ⟨oc18, od18, .func (PySem.W.fnOf "_law_is_run" "_law_is_run" (defArgs s__law_is_run) (defBody s__law_is_run) (defScope s__law_is_run) .none kV18 dc18 pm18 an18 cd18 ct18), sl18⟩)
    (c18 : PySem.W.codeIn K cd18 "_law_is_run" = true)
    (k18 : PySem.W.keepIn K (.ref f18) = true)
    (a19 : PySem.W.nsIn K mainGlobals "_law_read" = some (some (.ref f19)))
    (l19 : K.lookup f19 = some ⟨oc19, od19, .func (PySem.W.fnOf "_law_read" "_law_read" (defArgs s__law_read) (defBody s__law_read) (defScope s__law_read) .none kV19 dc19 pm19 an19 cd19 ct19), sl19⟩)
    (c19 : PySem.W.codeIn K cd19 "_law_read" = true)
    (k19 : PySem.W.keepIn K (.ref f19) = true)
    (a20 : PySem.W.nsIn K mainGlobals "_looks_like_run" = some (some (.ref f20)))
    (l20 : K.lookup f20 = some ⟨oc20, od20, .func (PySem.W.fnOf "_looks_like_run" "_looks_like_run" (defArgs s__looks_like_run) (defBody s__looks_like_run) (defScope s__looks_like_run) .none kV20 dc20 pm20 an20 cd20 ct20), sl20⟩)
    (c20 : PySem.W.codeIn K cd20 "_looks_like_run" = true)
    (k20 : PySem.W.keepIn K (.ref f20) = true)
    (a21 : PySem.W.nsIn K mainGlobals "_is_ticks" = some (some (.ref f21)))
    (l21 : K.lookup f21 = some ⟨oc21, od21, .func (PySem.W.fnOf "_is_ticks" "_is_ticks" (defArgs s__is_ticks) (defBody s__is_ticks) (defScope s__is_ticks) .none kV21 dc21 pm21 an21 cd21 ct21), sl21⟩)
    (c21 : PySem.W.codeIn K cd21 "_is_ticks" = true)
    (k21 : PySem.W.keepIn K (.ref f21) = true)
    (a22 : PySem.W.nsIn K mainGlobals "_add_events" = some (some (.ref f22)))
    (l22 : K.lookup f22 = some ⟨oc22, od22, .func (PySem.W.fnOf "_add_events" "_add_events" (defArgs s__add_events) (defBody s__add_events) (defScope s__add_events) .none kV22 dc22 pm22 an22 cd22 ct22), sl22⟩)
    (c22 : PySem.W.codeIn K cd22 "_add_events" = true)
    (k22 : PySem.W.keepIn K (.ref f22) = true)
    (a23 : PySem.W.nsIn K mainGlobals "_are_few" = some (some (.ref f23)))
    (l23 : K.lookup f23 = some ⟨oc23, od23, .func (PySem.W.fnOf "_are_few" "_are_few" (defArgs s__are_few) (defBody s__are_few) (defScope s__are_few) .none kV23 dc23 pm23 an23 cd23 ct23), sl23⟩)
    (c23 : PySem.W.codeIn K cd23 "_are_few" = true)
    (k23 : PySem.W.keepIn K (.ref f23) = true)
    (a24 : PySem.W.nsIn K mainGlobals "events_of" = some (some (.ref f24)))
    (l24 : K.lookup f24 = some ⟨oc24, od24, .func (PySem.W.fnOf "events_of" "events_of" (defArgs s_events_of) (defBody s_events_of) (defScope s_events_of) .none kV24 dc24 pm24 an24 cd24 ct24), sl24⟩)
    (c24 : PySem.W.codeIn K cd24 "events_of" = true)
    (k24 : PySem.W.keepIn K (.ref f24) = true)
    (a25 : PySem.W.nsIn K mainGlobals "trace_of" = some (some (.ref f25)))
    (l25 : K.lookup f25 = some ⟨oc25, od25, .func (PySem.W.fnOf "trace_of" "trace_of" (defArgs s_trace_of) (defBody s_trace_of) (defScope s_trace_of) .none kV25 dc25 pm25 an25 cd25 ct25), sl25⟩)
    (c25 : PySem.W.codeIn K cd25 "trace_of" = true)
    (k25 : PySem.W.keepIn K (.ref f25) = true)
    (a26 : PySem.W.nsIn K mainGlobals "_joined" = some (some (.ref f26)))
    (l26 : K.lookup f26 = some ⟨oc26, od26, .func (PySem.W.fnOf "_joined" "_joined" (defArgs s__joined) (defBody s__joined) (defScope s__joined) .none kV26 dc26 pm26 an26 cd26 ct26), sl26⟩)
    (c26 : PySem.W.codeIn K cd26 "_joined" = true)
    (k26 : PySem.W.keepIn K (.ref f26) = true)
    (a27 : PySem.W.nsIn K mainGlobals "is_function" = some (some (.ref f27)))
    (l27 : K.lookup f27 = some ⟨oc27, od27, .func (PySem.W.fnOf "is_function" "is_function" (defArgs s_is_function) (defBody s_is_function) (defScope s_is_function) .none kV27 dc27 pm27 an27 cd27 ct27), sl27⟩)
    (c27 : PySem.W.codeIn K cd27 "is_function" = true)
    (k27 : PySem.W.keepIn K (.ref f27) = true)
    (a28 : PySem.W.nsIn K mainGlobals "_is_event" = some (some (.ref f28)))
    (l28 : K.lookup f28 = some ⟨oc28, od28, .func (PySem.W.fnOf "_is_event" "_is_event" (defArgs s__is_event) (defBody s__is_event) (defScope s__is_event) .none kV28 dc28 pm28 an28 cd28 ct28), sl28⟩)
    (c28 : PySem.W.codeIn K cd28 "_is_event" = true)
    (k28 : PySem.W.keepIn K (.ref f28) = true)
    (a29 : PySem.W.nsIn K mainGlobals "_are_events" = some (some (.ref f29)))
    (l29 : K.lookup f29 = some ⟨oc29, od29, .func (PySem.W.fnOf "_are_events" "_are_events" (defArgs s__are_events) (defBody s__are_events) (defScope s__are_events) .none kV29 dc29 pm29 an29 cd29 ct29), sl29⟩)
    (c29 : PySem.W.codeIn K cd29 "_are_events" = true)
    (k29 : PySem.W.keepIn K (.ref f29) = true)
    (a30 : PySem.W.nsIn K mainGlobals "run_of" = some (some (.ref f30)))
    (l30 : K.lookup f30 = some ⟨oc30, od30, .func (PySem.W.fnOf "run_of" "run_of" (defArgs s_run_of) (defBody s_run_of) (defScope s_run_of) .none kV30 dc30 pm30 an30 cd30 ct30), sl30⟩)
    (c30 : PySem.W.codeIn K cd30 "run_of" = true)
    (k30 : PySem.W.keepIn K (.ref f30) = true)
    (a31 : PySem.W.nsIn K mainGlobals "_law_told" = some (some (.ref f31)))
    (l31 : K.lookup f31 = some ⟨oc31, od31, .func (PySem.W.fnOf "_law_told" "_law_told" (defArgs s__law_told) (defBody s__law_told) (defScope s__law_told) .none kV31 dc31 pm31 an31 cd31 ct31), sl31⟩)
    (c31 : PySem.W.codeIn K cd31 "_law_told" = true)
    (k31 : PySem.W.keepIn K (.ref f31) = true)
    (a32 : PySem.W.nsIn K mainGlobals "_law_spoilt" = some (some (.ref f32)))
    (l32 : K.lookup f32 = some ⟨oc32, od32, .func (PySem.W.fnOf "_law_spoilt" "_law_spoilt" (defArgs s__law_spoilt) (defBody s__law_spoilt) (defScope s__law_spoilt) .none kV32 dc32 pm32 an32 cd32 ct32), sl32⟩)
    (c32 : PySem.W.codeIn K cd32 "_law_spoilt" = true)
    (k32 : PySem.W.keepIn K (.ref f32) = true)
    (a33 : PySem.W.nsIn K mainGlobals "_law_is_shaped" = some (some (.ref f33)))
    (l33 : K.lookup f33 = some ⟨oc33, od33, .func (PySem.W.fnOf "_law_is_shaped" "_law_is_shaped" (defArgs s__law_is_shaped) (defBody s__law_is_shaped) (defScope s__law_is_shaped) .none kV33 dc33 pm33 an33 cd33 ct33), sl33⟩)
    (c33 : PySem.W.codeIn K cd33 "_law_is_shaped" = true)
    (k33 : PySem.W.keepIn K (.ref f33) = true)
    (a34 : PySem.W.nsIn K mainGlobals "law" = some (some (.ref f34)))
    (l34 : K.lookup f34 = some ⟨oc34, od34, .func (PySem.W.fnOf "law" "law" (defArgs s_law) (defBody s_law) (defScope s_law) .none kV34 dc34 pm34 an34 cd34 ct34), sl34⟩)
    (c34 : PySem.W.codeIn K cd34 "law" = true)
    (k34 : PySem.W.keepIn K (.ref f34) = true)
    (b_abs : PySem.W.nsIn K mainGlobals "abs" = some none)
    (b_all : PySem.W.nsIn K mainGlobals "all" = some none)
    (b_bool : PySem.W.nsIn K mainGlobals "bool" = some none)
    (b_int : PySem.W.nsIn K mainGlobals "int" = some none)
    (b_isinstance : PySem.W.nsIn K mainGlobals "isinstance" = some none)
    (b_len : PySem.W.nsIn K mainGlobals "len" = some none)
    (b_list : PySem.W.nsIn K mainGlobals "list" = some none)
    (b_range : PySem.W.nsIn K mainGlobals "range" = some none)
    (b_str : PySem.W.nsIn K mainGlobals "str" = some none)
    (b_sum : PySem.W.nsIn K mainGlobals "sum" = some none)
    (b_tuple : PySem.W.nsIn K mainGlobals "tuple" = some none)
    (b_zip : PySem.W.nsIn K mainGlobals "zip" = some none)
    (g_MOST_EVENTS : PySem.W.nsIn K mainGlobals "MOST_EVENTS" = some (some (.int 601 t_MOST_EVENTS)))
    (g_MOST_FUNCTIONS : PySem.W.nsIn K mainGlobals "MOST_FUNCTIONS" = some (some (.int 5 t_MOST_FUNCTIONS)))
    (g_MOST_PARTS : PySem.W.nsIn K mainGlobals "MOST_PARTS" = some (some (.int 400 t_MOST_PARTS)))
    (g_MOST_RUNS : PySem.W.nsIn K mainGlobals "MOST_RUNS" = some (some (.int 200 t_MOST_RUNS)))
    (g_MOST_TICKS : PySem.W.nsIn K mainGlobals "MOST_TICKS" = some (some (.int 999999 t_MOST_TICKS)))
    (a_Calls : PySem.W.nsIn K mainGlobals "Calls" = some (some (.ref C_Calls)))
    (pg_Calls : PySem.W.plainGet K C_Calls Str.empty = true)
    (hd_Calls : PySem.W.hasDictIn K C_Calls = true)
    (po_Calls : PySem.W.plainOver K C_Calls = true)
    (sa_Calls : PySem.W.findIn K (.ref C_Calls) "__setattr__" = some (some (.builtin "object.__setattr__")))
    (mk_Calls : PySem.W.makesIn K C_Calls = true)
    (kp_Calls : PySem.W.keepIn K (.ref C_Calls) = true)
    (ca_Calls : PySem.W.findIn K (.ref C_Calls) "__class__" = some (some (.builtin "object.__class__")))
    (hn_Calls : PySem.W.specialIn K (.builtin "object.__class__") "__get__" = some (some (.builtin "getset_descriptor.__get__")))
    (tk_Calls : PySem.W.takesIn K (.builtin "object.__class__") = some true)
    (mr_Calls : PySem.W.mroIn K C_Calls (.type "object") = some true)
    (ic_Calls : PySem.W.isClsIn K C_Calls = true)
    (tc_Calls : PySem.W.typeIn K (.ref C_Calls) = some (.type "type"))
    (kit_non_Calls : PySem.W.subIn K (.type "NoneType") (.ref C_Calls) = some false)
    (kit_bl_Calls : PySem.W.subIn K (.type "bool") (.ref C_Calls) = some false)
    (kit_int_Calls : PySem.W.subIn K (.type "int") (.ref C_Calls) = some false)
    (kit_str_Calls : PySem.W.subIn K (.type "str") (.ref C_Calls) = some false)
    (kit_lst_Calls : PySem.W.subIn K (.type "list") (.ref C_Calls) = some false)
    (kit_tup_Calls : PySem.W.subIn K (.type "tuple") (.ref C_Calls) = some false)
    (n_Calls_edges : PySem.W.findIn K (.ref C_Calls) "edges" = some none)
    (n_Calls_functions : PySem.W.findIn K (.ref C_Calls) "functions" = some none)
    (a_InvalidEdges : PySem.W.nsIn K mainGlobals "InvalidEdges" = some (some (.ref C_InvalidEdges)))
    (a_InvalidNumber : PySem.W.nsIn K mainGlobals "InvalidNumber" = some (some (.ref C_InvalidNumber)))
    (a_InvalidRun : PySem.W.nsIn K mainGlobals "InvalidRun" = some (some (.ref C_InvalidRun)))
    (a_InvalidTrace : PySem.W.nsIn K mainGlobals "InvalidTrace" = some (some (.ref C_InvalidTrace)))
    (a_TickError : PySem.W.nsIn K mainGlobals "TickError" = some (some (.ref C_TickError)))
    (nsup : PySem.W.nsIn K mainGlobals "super" = some none)
    (x_InvalidEdges : K.lookup C_InvalidEdges = some (excClassObj nm_InvalidEdges q_InvalidEdges C_InvalidEdges N_InvalidEdges bs_InvalidEdges bm_InvalidEdges true sn_InvalidEdges sbc_InvalidEdges ab_InvalidEdges col_InvalidEdges dd_InvalidEdges m0_InvalidEdges m1_InvalidEdges m2_InvalidEdges m3_InvalidEdges m5_InvalidEdges "ValueError.__new__"))
    (rv_InvalidEdges : refsVE bm_InvalidEdges = true)
    (esa_InvalidEdges : PySem.W.findIn K (.ref C_InvalidEdges) "__setattr__" = some (some (.builtin "object.__setattr__")))
    (ega_InvalidEdges : PySem.W.findIn K (.ref C_InvalidEdges) "__getattribute__" = some (some (.builtin "BaseException.__getattribute__")))
    (egg_InvalidEdges : PySem.W.findIn K (.ref C_InvalidEdges) "__getattr__" = some none)
    (eno_InvalidEdges : PySem.W.findIn K (.ref C_InvalidEdges) "value" = some none)
    (ei_InvalidEdges : PySem.W.findIn K (.ref C_InvalidEdges) "__init__" = some (some (.ref e_InvalidEdges)))
    (et_InvalidEdges : PySem.W.typeIn K (.ref e_InvalidEdges) = some (.type "function"))
    (ekC_InvalidEdges : PySem.W.keepIn K (.ref C_InvalidEdges) = true)
    (ehd_InvalidEdges : PySem.W.hasDictIn K C_InvalidEdges = true)
    (esup_InvalidEdges : PySem.W.ks_superIn K C_InvalidEdges C_InvalidEdges "__init__" = some (some (.builtin "ValueError.__init__")))
    (esv_InvalidEdges : PySem.W.subIn K (.ref C_InvalidEdges) (.type "ValueError") = some true)
    (emr_InvalidEdges : PySem.W.mroIn K C_InvalidEdges (.ref C_InvalidEdges) = some true)
    (el_InvalidEdges : K.lookup e_InvalidEdges = some ⟨eoc_InvalidEdges, eod_InvalidEdges, .func (PySem.W.ksFn "__init__" "InvalidEdges.__init__" (defArgs sx_InvalidEdges) (defBody sx_InvalidEdges) (defScope sx_InvalidEdges) .none .none edc_InvalidEdges epm_InvalidEdges ean_InvalidEdges (.ref cda_InvalidEdges) ect_InvalidEdges cc_InvalidEdges), esl_InvalidEdges⟩)
    (eco_InvalidEdges : PySem.W.codeIn K (.ref cda_InvalidEdges) "InvalidEdges.__init__" = true)
    (ecd_InvalidEdges : K.lookup cda_InvalidEdges = some ⟨ccl_InvalidEdges, cdd_InvalidEdges, .fields vs_InvalidEdges, ccs_InvalidEdges⟩)
    (ev2_InvalidEdges : vs_InvalidEdges[2]? = some (.str fi_InvalidEdges tf_InvalidEdges))
    (efi_InvalidEdges : ((l.prog.main.file : Str) == fi_InvalidEdges) = true)
    (ecc_InvalidEdges : K.lookup cc_InvalidEdges = some ⟨ecl_InvalidEdges, cld_InvalidEdges, .cell (some (.ref C_InvalidEdges)), csl_InvalidEdges⟩)
    (x_InvalidNumber : K.lookup C_InvalidNumber = some (excClassObj nm_InvalidNumber q_InvalidNumber C_InvalidNumber N_InvalidNumber bs_InvalidNumber bm_InvalidNumber true sn_InvalidNumber sbc_InvalidNumber ab_InvalidNumber col_InvalidNumber dd_InvalidNumber m0_InvalidNumber m1_InvalidNumber m2_InvalidNumber m3_InvalidNumber m5_InvalidNumber "ValueError.__new__"))
    (rv_InvalidNumber : refsVE bm_InvalidNumber = true)
    (esa_InvalidNumber : PySem.W.findIn K (.ref C_InvalidNumber) "__setattr__" = some (some (.builtin "object.__setattr__")))
    (ega_InvalidNumber : PySem.W.findIn K (.ref C_InvalidNumber) "__getattribute__" = some (some (.builtin "BaseException.__getattribute__")))
    (egg_InvalidNumber : PySem.W.findIn K (.ref C_InvalidNumber) "__getattr__" = some none)
    (eno_InvalidNumber : PySem.W.findIn K (.ref C_InvalidNumber) "value" = some none)
    (ei_InvalidNumber : PySem.W.findIn K (.ref C_InvalidNumber) "__init__" = some (some (.ref e_InvalidNumber)))
    (et_InvalidNumber : PySem.W.typeIn K (.ref e_InvalidNumber) = some (.type "function"))
    (ekC_InvalidNumber : PySem.W.keepIn K (.ref C_InvalidNumber) = true)
    (ehd_InvalidNumber : PySem.W.hasDictIn K C_InvalidNumber = true)
    (esup_InvalidNumber : PySem.W.ks_superIn K C_InvalidNumber C_InvalidNumber "__init__" = some (some (.builtin "ValueError.__init__")))
    (esv_InvalidNumber : PySem.W.subIn K (.ref C_InvalidNumber) (.type "ValueError") = some true)
    (emr_InvalidNumber : PySem.W.mroIn K C_InvalidNumber (.ref C_InvalidNumber) = some true)
    (el_InvalidNumber : K.lookup e_InvalidNumber = some ⟨eoc_InvalidNumber, eod_InvalidNumber, .func (PySem.W.ksFn "__init__" "InvalidNumber.__init__" (defArgs sx_InvalidNumber) (defBody sx_InvalidNumber) (defScope sx_InvalidNumber) .none .none edc_InvalidNumber epm_InvalidNumber ean_InvalidNumber (.ref cda_InvalidNumber) ect_InvalidNumber cc_InvalidNumber), esl_InvalidNumber⟩)
    (eco_InvalidNumber : PySem.W.codeIn K (.ref cda_InvalidNumber) "InvalidNumber.__init__" = true)
    (ecd_InvalidNumber : K.lookup cda_InvalidNumber = some ⟨ccl_InvalidNumber, cdd_InvalidNumber, .fields vs_InvalidNumber, ccs_InvalidNumber⟩)
    (ev2_InvalidNumber : vs_InvalidNumber[2]? = some (.str fi_InvalidNumber tf_InvalidNumber))
    (efi_InvalidNumber : ((l.prog.main.file : Str) == fi_InvalidNumber) = true)
    (ecc_InvalidNumber : K.lookup cc_InvalidNumber = some ⟨ecl_InvalidNumber, cld_InvalidNumber, .cell (some (.ref C_InvalidNumber)), csl_InvalidNumber⟩)
    (x_InvalidRun : K.lookup C_InvalidRun = some (excClassObj nm_InvalidRun q_InvalidRun C_InvalidRun N_InvalidRun bs_InvalidRun bm_InvalidRun true sn_InvalidRun sbc_InvalidRun ab_InvalidRun col_InvalidRun dd_InvalidRun m0_InvalidRun m1_InvalidRun m2_InvalidRun m3_InvalidRun m5_InvalidRun "ValueError.__new__"))
    (rv_InvalidRun : refsVE bm_InvalidRun = true)
    (esa_InvalidRun : PySem.W.findIn K (.ref C_InvalidRun) "__setattr__" = some (some (.builtin "object.__setattr__")))
    (ega_InvalidRun : PySem.W.findIn K (.ref C_InvalidRun) "__getattribute__" = some (some (.builtin "BaseException.__getattribute__")))
    (egg_InvalidRun : PySem.W.findIn K (.ref C_InvalidRun) "__getattr__" = some none)
    (eno_InvalidRun : PySem.W.findIn K (.ref C_InvalidRun) "value" = some none)
    (ei_InvalidRun : PySem.W.findIn K (.ref C_InvalidRun) "__init__" = some (some (.ref e_InvalidRun)))
    (et_InvalidRun : PySem.W.typeIn K (.ref e_InvalidRun) = some (.type "function"))
    (ekC_InvalidRun : PySem.W.keepIn K (.ref C_InvalidRun) = true)
    (ehd_InvalidRun : PySem.W.hasDictIn K C_InvalidRun = true)
    (esup_InvalidRun : PySem.W.ks_superIn K C_InvalidRun C_InvalidRun "__init__" = some (some (.builtin "ValueError.__init__")))
    (esv_InvalidRun : PySem.W.subIn K (.ref C_InvalidRun) (.type "ValueError") = some true)
    (emr_InvalidRun : PySem.W.mroIn K C_InvalidRun (.ref C_InvalidRun) = some true)
    (el_InvalidRun : K.lookup e_InvalidRun = some ⟨eoc_InvalidRun, eod_InvalidRun, .func (PySem.W.ksFn "__init__" "InvalidRun.__init__" (defArgs sx_InvalidRun) (defBody sx_InvalidRun) (defScope sx_InvalidRun) .none .none edc_InvalidRun epm_InvalidRun ean_InvalidRun (.ref cda_InvalidRun) ect_InvalidRun cc_InvalidRun), esl_InvalidRun⟩)
    (eco_InvalidRun : PySem.W.codeIn K (.ref cda_InvalidRun) "InvalidRun.__init__" = true)
    (ecd_InvalidRun : K.lookup cda_InvalidRun = some ⟨ccl_InvalidRun, cdd_InvalidRun, .fields vs_InvalidRun, ccs_InvalidRun⟩)
    (ev2_InvalidRun : vs_InvalidRun[2]? = some (.str fi_InvalidRun tf_InvalidRun))
    (efi_InvalidRun : ((l.prog.main.file : Str) == fi_InvalidRun) = true)
    (ecc_InvalidRun : K.lookup cc_InvalidRun = some ⟨ecl_InvalidRun, cld_InvalidRun, .cell (some (.ref C_InvalidRun)), csl_InvalidRun⟩)
    (x_InvalidTrace : K.lookup C_InvalidTrace = some (excClassObj nm_InvalidTrace q_InvalidTrace C_InvalidTrace N_InvalidTrace bs_InvalidTrace bm_InvalidTrace true sn_InvalidTrace sbc_InvalidTrace ab_InvalidTrace col_InvalidTrace dd_InvalidTrace m0_InvalidTrace m1_InvalidTrace m2_InvalidTrace m3_InvalidTrace m5_InvalidTrace "ValueError.__new__"))
    (rv_InvalidTrace : refsVE bm_InvalidTrace = true)
    (esa_InvalidTrace : PySem.W.findIn K (.ref C_InvalidTrace) "__setattr__" = some (some (.builtin "object.__setattr__")))
    (ega_InvalidTrace : PySem.W.findIn K (.ref C_InvalidTrace) "__getattribute__" = some (some (.builtin "BaseException.__getattribute__")))
    (egg_InvalidTrace : PySem.W.findIn K (.ref C_InvalidTrace) "__getattr__" = some none)
    (eno_InvalidTrace : PySem.W.findIn K (.ref C_InvalidTrace) "value" = some none)
    (ei_InvalidTrace : PySem.W.findIn K (.ref C_InvalidTrace) "__init__" = some (some (.ref e_InvalidTrace)))
    (et_InvalidTrace : PySem.W.typeIn K (.ref e_InvalidTrace) = some (.type "function"))
    (ekC_InvalidTrace : PySem.W.keepIn K (.ref C_InvalidTrace) = true)
    (ehd_InvalidTrace : PySem.W.hasDictIn K C_InvalidTrace = true)
    (esup_InvalidTrace : PySem.W.ks_superIn K C_InvalidTrace C_InvalidTrace "__init__" = some (some (.builtin "ValueError.__init__")))
    (esv_InvalidTrace : PySem.W.subIn K (.ref C_InvalidTrace) (.type "ValueError") = some true)
    (emr_InvalidTrace : PySem.W.mroIn K C_InvalidTrace (.ref C_InvalidTrace) = some true)
    (el_InvalidTrace : K.lookup e_InvalidTrace = some ⟨eoc_InvalidTrace, eod_InvalidTrace, .func (PySem.W.ksFn "__init__" "InvalidTrace.__init__" (defArgs sx_InvalidTrace) (defBody sx_InvalidTrace) (defScope sx_InvalidTrace) .none .none edc_InvalidTrace epm_InvalidTrace ean_InvalidTrace (.ref cda_InvalidTrace) ect_InvalidTrace cc_InvalidTrace), esl_InvalidTrace⟩)
    (eco_InvalidTrace : PySem.W.codeIn K (.ref cda_InvalidTrace) "InvalidTrace.__init__" = true)
    (ecd_InvalidTrace : K.lookup cda_InvalidTrace = some ⟨ccl_InvalidTrace, cdd_InvalidTrace, .fields vs_InvalidTrace, ccs_InvalidTrace⟩)
    (ev2_InvalidTrace : vs_InvalidTrace[2]? = some (.str fi_InvalidTrace tf_InvalidTrace))
    (efi_InvalidTrace : ((l.prog.main.file : Str) == fi_InvalidTrace) = true)
    (ecc_InvalidTrace : K.lookup cc_InvalidTrace = some ⟨ecl_InvalidTrace, cld_InvalidTrace, .cell (some (.ref C_InvalidTrace)), csl_InvalidTrace⟩)
    (top_ : (l.prog.main.scope.names.lookup ("super" : Str)).isSome = false)
    (opq : PySem.W.nsIn K cStatics "thirdparty.any" = some none)
    (eB_InvalidEdges : PySem.W.subIn K (.ref C_InvalidEdges) (.type "BaseException") = some true)
    (eT_InvalidEdges : PySem.W.typeIn K (.ref C_InvalidEdges) = some (.type "type"))
    (eI_InvalidEdges : PySem.W.isClsIn K C_InvalidEdges = true)
    (s_InvalidEdges_InvalidEdges : PySem.W.subIn K (.ref C_InvalidEdges) (.ref C_InvalidEdges) = some true)
    (eB_InvalidNumber : PySem.W.subIn K (.ref C_InvalidNumber) (.type "BaseException") = some true)
    (eT_InvalidNumber : PySem.W.typeIn K (.ref C_InvalidNumber) = some (.type "type"))
    (eI_InvalidNumber : PySem.W.isClsIn K C_InvalidNumber = true)
    (s_InvalidNumber_InvalidNumber : PySem.W.subIn K (.ref C_InvalidNumber) (.ref C_InvalidNumber) = some true)
    (eB_InvalidRun : PySem.W.subIn K (.ref C_InvalidRun) (.type "BaseException") = some true)
    (eT_InvalidRun : PySem.W.typeIn K (.ref C_InvalidRun) = some (.type "type"))
    (eI_InvalidRun : PySem.W.isClsIn K C_InvalidRun = true)
    (s_InvalidEdges_InvalidRun : PySem.W.subIn K (.ref C_InvalidEdges) (.ref C_InvalidRun) = some false)
    (s_InvalidNumber_InvalidRun : PySem.W.subIn K (.ref C_InvalidNumber) (.ref C_InvalidRun) = some false)
    (s_InvalidRun_InvalidRun : PySem.W.subIn K (.ref C_InvalidRun) (.ref C_InvalidRun) = some true)
    (s_InvalidTrace_InvalidRun : PySem.W.subIn K (.ref C_InvalidTrace) (.ref C_InvalidRun) = some false)
    (s_TickError_InvalidRun : PySem.W.subIn K (.ref C_TickError) (.ref C_InvalidRun) = some false)
    (eB_InvalidTrace : PySem.W.subIn K (.ref C_InvalidTrace) (.type "BaseException") = some true)
    (eT_InvalidTrace : PySem.W.typeIn K (.ref C_InvalidTrace) = some (.type "type"))
    (eI_InvalidTrace : PySem.W.isClsIn K C_InvalidTrace = true)
    (s_InvalidEdges_InvalidTrace : PySem.W.subIn K (.ref C_InvalidEdges) (.ref C_InvalidTrace) = some false)
    (s_InvalidNumber_InvalidTrace : PySem.W.subIn K (.ref C_InvalidNumber) (.ref C_InvalidTrace) = some false)
    (s_InvalidRun_InvalidTrace : PySem.W.subIn K (.ref C_InvalidRun) (.ref C_InvalidTrace) = some false)
    (s_InvalidTrace_InvalidTrace : PySem.W.subIn K (.ref C_InvalidTrace) (.ref C_InvalidTrace) = some true)
    (s_TickError_InvalidTrace : PySem.W.subIn K (.ref C_TickError) (.ref C_InvalidTrace) = some false) :
    ∃ fd : FuncData, (∀ (s : Shared) (v : Value), BindsTo s fd ⟨[v], []⟩ [("script", v)]) ∧ ∀ base : Heap, K.In base → base.Ns mainGlobals mg → FnOk l.prog w K mg base (L2.CX l.prog w) 43 fa fd ["script"] (spD ⟨mg, K⟩ F_law) := by
  have e := hfa.symm.trans (PySem.W.mg_of X G a34)
  cases e
  have x_InvalidEdges' : ErrTxt l.prog K mg "InvalidEdges" "value" := by
    obtain ⟨m, p1, p2, q1, q2, q3, q4, q5, q6, r1, r2, r3, r4, j, t1, t2, t3, t4⟩ := tx_InvalidEdges
    rw [t1, t2, t3] at el_InvalidEdges
    exact ⟨⟨C_InvalidEdges, e_InvalidEdges, PySem.W.mg_of X G a_InvalidEdges, { cls := ⟨_, _, _, _, _, _, _, _, _, _, _, _, _, _, _, x_InvalidEdges, rv_InvalidEdges⟩, sa := esa_InvalidEdges, ga := ega_InvalidEdges, gg := egg_InvalidEdges, noN := eno_InvalidEdges, iC := ei_InvalidEdges, tC := et_InvalidEdges, kC := ekC_InvalidEdges, exC := eB_InvalidEdges, tyC := eT_InvalidEdges, hdC := ehd_InvalidEdges, te := exm_two eB_InvalidEdges eI_InvalidEdges eT_InvalidEdges s_InvalidEdges_InvalidEdges, sup := esup_InvalidEdges, sv := esv_InvalidEdges, op := opq, sub := emr_InvalidEdges, nsup := PySem.W.mg_none_of X G nsup, top := top_, fn := ⟨_, _, _, _, _, _, _, _, _, _, _, _, _, _, _, _, _, _, _, _, _, _, _, _, _, _, _, _, _, _, _, _, _, el_InvalidEdges, eco_InvalidEdges, ecd_InvalidEdges, ev2_InvalidEdges, efi_InvalidEdges, t4, ecc_InvalidEdges⟩ }⟩, plain_value, by decide +kernel⟩
  have x_InvalidNumber' : ErrTxt l.prog K mg "InvalidNumber" "value" := by
    obtain ⟨m, p1, p2, q1, q2, q3, q4, q5, q6, r1, r2, r3, r4, j, t1, t2, t3, t4⟩ := tx_InvalidNumber
    rw [t1, t2, t3] at el_InvalidNumber
    exact ⟨⟨C_InvalidNumber, e_InvalidNumber, PySem.W.mg_of X G a_InvalidNumber, { cls := ⟨_, _, _, _, _, _, _, _, _, _, _, _, _, _, _, x_InvalidNumber, rv_InvalidNumber⟩, sa := esa_InvalidNumber, ga := ega_InvalidNumber, gg := egg_InvalidNumber, noN := eno_InvalidNumber, iC := ei_InvalidNumber, tC := et_InvalidNumber, kC := ekC_InvalidNumber, exC := eB_InvalidNumber, tyC := eT_InvalidNumber, hdC := ehd_InvalidNumber, te := exm_two eB_InvalidNumber eI_InvalidNumber eT_InvalidNumber s_InvalidNumber_InvalidNumber, sup := esup_InvalidNumber, sv := esv_InvalidNumber, op := opq, sub := emr_InvalidNumber, nsup := PySem.W.mg_none_of X G nsup, top := top_, fn := ⟨_, _, _, _, _, _, _, _, _, _, _, _, _, _, _, _, _, _, _, _, _, _, _, _, _, _, _, _, _, _, _, _, _, el_InvalidNumber, eco_InvalidNumber, ecd_InvalidNumber, ev2_InvalidNumber, efi_InvalidNumber, t4, ecc_InvalidNumber⟩ }⟩, plain_value, by decide +kernel⟩
  have x_InvalidRun' : ErrTxt l.prog K mg "InvalidRun" "value" := by
    obtain ⟨m, p1, p2, q1, q2, q3, q4, q5, q6, r1, r2, r3, r4, j, t1, t2, t3, t4⟩ := tx_InvalidRun
    rw [t1, t2, t3] at el_InvalidRun
    exact ⟨⟨C_InvalidRun, e_InvalidRun, PySem.W.mg_of X G a_InvalidRun, { cls := ⟨_, _, _, _, _, _, _, _, _, _, _, _, _, _, _, x_InvalidRun, rv_InvalidRun⟩, sa := esa_InvalidRun, ga := ega_InvalidRun, gg := egg_InvalidRun, noN := eno_InvalidRun, iC := ei_InvalidRun, tC := et_InvalidRun, kC := ekC_InvalidRun, exC := eB_InvalidRun, tyC := eT_InvalidRun, hdC := ehd_InvalidRun, te := exm_two eB_InvalidRun eI_InvalidRun eT_InvalidRun s_InvalidRun_InvalidRun, sup := esup_InvalidRun, sv := esv_InvalidRun, op := opq, sub := emr_InvalidRun, nsup := PySem.W.mg_none_of X G nsup, top := top_, fn := ⟨_, _, _, _, _, _, _, _, _, _, _, _, _, _, _, _, _, _, _, _, _, _, _, _, _, _, _, _, _, _, _, _, _, el_InvalidRun, eco_InvalidRun, ecd_InvalidRun, ev2_InvalidRun, efi_InvalidRun, t4, ecc_InvalidRun⟩ }⟩, plain_value, by decide +kernel⟩
  have x_InvalidTrace' : ErrTxt l.prog K mg "InvalidTrace" "value" := by
    obtain ⟨m, p1, p2, q1, q2, q3, q4, q5, q6, r1, r2, r3, r4, j, t1, t2, t3, t4⟩ := tx_InvalidTrace
    rw [t1, t2, t3] at el_InvalidTrace
    exact ⟨⟨C_InvalidTrace, e_InvalidTrace, PySem.W.mg_of X G a_InvalidTrace, { cls := ⟨_, _, _, _, _, _, _, _, _, _, _, _, _, _, _, x_InvalidTrace, rv_InvalidTrace⟩, sa := esa_InvalidTrace, ga := ega_InvalidTrace, gg := egg_InvalidTrace, noN := eno_InvalidTrace, iC := ei_InvalidTrace, tC := et_InvalidTrace, kC := ekC_InvalidTrace, exC := eB_InvalidTrace, tyC := eT_InvalidTrace, hdC := ehd_InvalidTrace, te := exm_two eB_InvalidTrace eI_InvalidTrace eT_InvalidTrace s_InvalidTrace_InvalidTrace, sup := esup_InvalidTrace, sv := esv_InvalidTrace, op := opq, sub := emr_InvalidTrace, nsup := PySem.W.mg_none_of X G nsup, top := top_, fn := ⟨_, _, _, _, _, _, _, _, _, _, _, _, _, _, _, _, _, _, _, _, _, _, _, _, _, _, _, _, _, _, _, _, _, el_InvalidTrace, eco_InvalidTrace, ecd_InvalidTrace, ev2_InvalidTrace, efi_InvalidTrace, t4, ecc_InvalidTrace⟩ }⟩, plain_value, by decide +kernel⟩
  have h_InvalidRun' : HdTxt K mg ENs "InvalidRun" := ⟨⟨C_InvalidRun, PySem.W.mg_of X G a_InvalidRun, fun y hy Cy hm => by
    have hy : y ∈ ENs := by simpa using hy
    simp only [ENs, List.mem_cons, List.not_mem_nil, or_false] at hy
    rcases hy with rfl | rfl | rfl | rfl | rfl
    · have e := hm.symm.trans (PySem.W.mg_of X G a_InvalidEdges)
      cases e
      exact exm_two eB_InvalidRun eI_InvalidRun eT_InvalidRun s_InvalidEdges_InvalidRun
    · have e := hm.symm.trans (PySem.W.mg_of X G a_InvalidNumber)
      cases e
      exact exm_two eB_InvalidRun eI_InvalidRun eT_InvalidRun s_InvalidNumber_InvalidRun
    · have e := hm.symm.trans (PySem.W.mg_of X G a_InvalidRun)
      cases e
      exact exm_two eB_InvalidRun eI_InvalidRun eT_InvalidRun s_InvalidRun_InvalidRun
    · have e := hm.symm.trans (PySem.W.mg_of X G a_InvalidTrace)
      cases e
      exact exm_two eB_InvalidRun eI_InvalidRun eT_InvalidRun s_InvalidTrace_InvalidRun
    · have e := hm.symm.trans (PySem.W.mg_of X G a_TickError)
      cases e
      exact exm_two eB_InvalidRun eI_InvalidRun eT_InvalidRun s_TickError_InvalidRun⟩⟩
  have h_InvalidTrace' : HdTxt K mg ENs "InvalidTrace" := ⟨⟨C_InvalidTrace, PySem.W.mg_of X G a_InvalidTrace, fun y hy Cy hm => by
    have hy : y ∈ ENs := by simpa using hy
    simp only [ENs, List.mem_cons, List.not_mem_nil, or_false] at hy
    rcases hy with rfl | rfl | rfl | rfl | rfl
    · have e := hm.symm.trans (PySem.W.mg_of X G a_InvalidEdges)
      cases e
      exact exm_two eB_InvalidTrace eI_InvalidTrace eT_InvalidTrace s_InvalidEdges_InvalidTrace
    · have e := hm.symm.trans (PySem.W.mg_of X G a_InvalidNumber)
      cases e
      exact exm_two eB_InvalidTrace eI_InvalidTrace eT_InvalidTrace s_InvalidNumber_InvalidTrace
    · have e := hm.symm.trans (PySem.W.mg_of X G a_InvalidRun)
      cases e
      exact exm_two eB_InvalidTrace eI_InvalidTrace eT_InvalidTrace s_InvalidRun_InvalidTrace
    · have e := hm.symm.trans (PySem.W.mg_of X G a_InvalidTrace)
      cases e
      exact exm_two eB_InvalidTrace eI_InvalidTrace eT_InvalidTrace s_InvalidTrace_InvalidTrace
    · have e := hm.symm.trans (PySem.W.mg_of X G a_TickError)
      cases e
      exact exm_two eB_InvalidTrace eI_InvalidTrace eT_InvalidTrace s_TickError_InvalidTrace⟩⟩
  have cl_Calls : Cls K C_Calls := ⟨pg_Calls, hd_Calls, po_Calls, sa_Calls⟩
  have T : Txt l.prog K mg C_Calls := { b_abs := PySem.W.mg_none_of X G b_abs, b_all := PySem.W.mg_none_of X G b_all, b_bool := PySem.W.mg_none_of X G b_bool, b_int := PySem.W.mg_none_of X G b_int, b_isinstance := PySem.W.mg_none_of X G b_isinstance, b_len := PySem.W.mg_none_of X G b_len, b_list := PySem.W.mg_none_of X G b_list, b_range := PySem.W.mg_none_of X G b_range, b_str := PySem.W.mg_none_of X G b_str, b_sum := PySem.W.mg_none_of X G b_sum, b_tuple := PySem.W.mg_none_of X G b_tuple, b_zip := PySem.W.mg_none_of X G b_zip, c_MOST_EVENTS := ⟨_, PySem.W.mg_of X G g_MOST_EVENTS⟩, c_MOST_FUNCTIONS := ⟨_, PySem.W.mg_of X G g_MOST_FUNCTIONS⟩, c_MOST_PARTS := ⟨_, PySem.W.mg_of X G g_MOST_PARTS⟩, c_MOST_RUNS := ⟨_, PySem.W.mg_of X G g_MOST_RUNS⟩, c_MOST_TICKS := ⟨_, PySem.W.mg_of X G g_MOST_TICKS⟩, g_Calls := PySem.W.mg_of X G a_Calls, cl_Calls := cl_Calls, mk_Calls := ⟨mk_Calls, kp_Calls⟩, is_Calls := ⟨cl_Calls, ca_Calls, hn_Calls, tk_Calls, mr_Calls, kit_self, kit_own ic_Calls tc_Calls kit_non_Calls, kit_own ic_Calls tc_Calls kit_bl_Calls, kit_own ic_Calls tc_Calls kit_int_Calls, kit_own ic_Calls tc_Calls kit_str_Calls, kit_own ic_Calls tc_Calls kit_lst_Calls, kit_own ic_Calls tc_Calls kit_tup_Calls⟩, n_Calls_edges := n_Calls_edges, n_Calls_functions := n_Calls_functions, x_InvalidEdges := x_InvalidEdges', x_InvalidNumber := x_InvalidNumber', x_InvalidRun := x_InvalidRun', x_InvalidTrace := x_InvalidTrace', h_InvalidRun := h_InvalidRun', h_InvalidTrace := h_InvalidTrace' }
  have F0 := fun_mk (st := s__law_box) l0 c0 k0
  have b0 := F0.binds (ps := ["script", "k"]) fun _ _ _ _ _ _ us hl => match us, hl with | [_, _], _ => rfl
  have F1 := fun_mk (st := s__law_take) l1 c1 k1
  have b1 := F1.binds (ps := ["box", "many"]) fun _ _ _ _ _ _ us hl => match us, hl with | [_, _], _ => rfl
  have F2 := fun_mk (st := s__law_pick) l2 c2 k2
  have b2 := F2.binds (ps := ["box", "some"]) fun _ _ _ _ _ _ us hl => match us, hl with | [_, _], _ => rfl
  have F3 := fun_mk (st := s__law_all_edges) l3 c3 k3
  have b3 := F3.binds (ps := ["n"]) fun _ _ _ _ _ _ us hl => match us, hl with | [_], _ => rfl
  have F4 := fun_mk (st := s__law_calls) l4 c4 k4
  have b4 := F4.binds (ps := ["script"]) fun _ _ _ _ _ _ us hl => match us, hl with | [_], _ => rfl
  have F5 := fun_mk (st := s_is_integer) l5 c5 k5
  have b5 := F5.binds (ps := ["value"]) fun _ _ _ _ _ _ us hl => match us, hl with | [_], _ => rfl
  have F6 := fun_mk (st := s_is_integer_in) l6 c6 k6
  have b6 := F6.binds (ps := ["value", "low", "high"]) fun _ _ _ _ _ _ us hl => match us, hl with | [_, _, _], _ => rfl
  have F7 := fun_mk (st := s_is_ascending) l7 c7 k7
  have b7 := F7.binds (ps := ["members"]) fun _ _ _ _ _ _ us hl => match us, hl with | [_], _ => rfl
  have F8 := fun_mk (st := s_is_pair) l8 c8 k8
  have b8 := F8.binds (ps := ["value"]) fun _ _ _ _ _ _ us hl => match us, hl with | [_], _ => rfl
  have F9 := fun_mk (st := s_is_upward_pair) l9 c9 k9
  have b9 := F9.binds (ps := ["many", "value"]) fun _ _ _ _ _ _ us hl => match us, hl with | [_, _], _ => rfl
  have F10 := fun_mk (st := s_are_upward_pairs) l10 c10 k10
  have b10 := F10.binds (ps := ["many", "value"]) fun _ _ _ _ _ _ us hl => match us, hl with | [_, _], _ => rfl
  have F11 := fun_mk (st := s_m_Callsdd_initdd) l11 c11 k11
  have b11 := F11.binds (ps := ["self", "functions", "edges"]) fun _ _ _ _ _ _ us hl => match us, hl with | [_, _, _], _ => rfl
  have F12 := fun_mk (st := s__law_made) l12 c12 k12
  have b12 := F12.binds (ps := ["calls"]) fun _ _ _ _ _ _ us hl => match us, hl with | [_], _ => rfl
  have F13 := fun_mk (st := s__law_run_values) l13 c13 k13
  have b13 := F13.binds (ps := ["calls"]) fun _ _ _ _ _ _ us hl => match us, hl with | [_], _ => rfl
  have F14 := fun_mk (st := s__law_runs_in) l14 c14 k14
  have b14 := F14.binds (ps := ["run"]) fun _ _ _ _ _ _ us hl => match us, hl with | [_], _ => rfl
  have F15 := fun_mk (st := s__law_drawn_run) l15 c15 k15
  have b15 := F15.binds (ps := ["box", "calls", "function", "room", "wide"]) fun _ _ _ _ _ _ us hl => match us, hl with | [_, _, _, _, _], _ => rfl
  have F16 := fun_mk (st := s__law_trace) l16 c16 k16
  have b16 := F16.binds (ps := ["run"]) fun _ _ _ _ _ _ us hl => match us, hl with | [_], _ => rfl
  have F17 := fun_mk (st := s__law_whole) l17 c17 k17
  have b17 := F17.binds (ps := ["value"]) fun _ _ _ _ _ _ us hl => match us, hl with | [_], _ => rfl
  have F18 := fun_mk (st := s__law_is_run) l18 c18 k18
  have b18 := F18.binds (ps := ["calls", "value"]) fun _ _ _ _ _ _ us hl => match us, hl with | [_, _], _ => rfl
  have F19 := fun_mk (st := s__law_read) l19 c19 k19
  have b19 := F19.binds (ps := ["calls", "value"]) fun _ _ _ _ _ _ us hl => match us, hl with | [_, _], _ => rfl
  have F20 := fun_mk (st := s__looks_like_run) l20 c20 k20
  have b20 := F20.binds (ps := ["value"]) fun _ _ _ _ _ _ us hl => match us, hl with | [_], _ => rfl
  have F21 := fun_mk (st := s__is_ticks) l21 c21 k21
  have b21 := F21.binds (ps := ["value"]) fun _ _ _ _ _ _ us hl => match us, hl with | [_], _ => rfl
  have F22 := fun_mk (st := s__add_events) l22 c22 k22
  have b22 := F22.binds (ps := ["calls", "run", "events"]) fun _ _ _ _ _ _ us hl => match us, hl with | [_, _, _], _ => rfl
  have F23 := fun_mk (st := s__are_few) l23 c23 k23
  have b23 := F23.binds (ps := ["events"]) fun _ _ _ _ _ _ us hl => match us, hl with | [_], _ => rfl
  have F24 := fun_mk (st := s_events_of) l24 c24 k24
  have b24 := F24.binds (ps := ["calls", "value"]) fun _ _ _ _ _ _ us hl => match us, hl with | [_, _], _ => rfl
  have F25 := fun_mk (st := s_trace_of) l25 c25 k25
  have b25 := F25.binds (ps := ["calls", "run"]) fun _ _ _ _ _ _ us hl => match us, hl with | [_, _], _ => rfl
  have F26 := fun_mk (st := s__joined) l26 c26 k26
  have b26 := F26.binds (ps := ["calls", "events"]) fun _ _ _ _ _ _ us hl => match us, hl with | [_, _], _ => rfl
  have F27 := fun_mk (st := s_is_function) l27 c27 k27
  have b27 := F27.binds (ps := ["functions", "value"]) fun _ _ _ _ _ _ us hl => match us, hl with | [_, _], _ => rfl
  have F28 := fun_mk (st := s__is_event) l28 c28 k28
  have b28 := F28.binds (ps := ["calls", "value"]) fun _ _ _ _ _ _ us hl => match us, hl with | [_, _], _ => rfl
  have F29 := fun_mk (st := s__are_events) l29 c29 k29
  have b29 := F29.binds (ps := ["calls", "value"]) fun _ _ _ _ _ _ us hl => match us, hl with | [_, _], _ => rfl
  have F30 := fun_mk (st := s_run_of) l30 c30 k30
  have b30 := F30.binds (ps := ["calls", "trace"]) fun _ _ _ _ _ _ us hl => match us, hl with | [_, _], _ => rfl
  have F31 := fun_mk (st := s__law_told) l31 c31 k31
  have b31 := F31.binds (ps := ["kind", "made", "value"]) fun _ _ _ _ _ _ us hl => match us, hl with | [_, _, _], _ => rfl
  have F32 := fun_mk (st := s__law_spoilt) l32 c32 k32
  have b32 := F32.binds (ps := ["box", "value", "deep"]) fun _ _ _ _ _ _ us hl => match us, hl with | [_, _, _], _ => rfl
  have F33 := fun_mk (st := s__law_is_shaped) l33 c33 k33
  have b33 := F33.binds (ps := ["value"]) fun _ _ _ _ _ _ us hl => match us, hl with | [_], _ => rfl
  have F34 := fun_mk (st := s_law) l34 c34 k34
  refine ⟨PySem.W.fnOf "law" "law" (defArgs s_law) (defBody s_law) (defScope s_law) .none kV34 dc34 pm34 an34 cd34 ct34, fun s v => .of_eq rfl, fun base _ _ => ?_⟩
  have D0 := d__law_box (w := w) (base := base) T ⟨⟨_, _, PySem.W.mg_of X G a0, F0, b0⟩⟩
  have D1 := d__law_take (w := w) (base := base) T ⟨⟨_, _, PySem.W.mg_of X G a1, F1, b1⟩⟩
  have D2 := d__law_pick (w := w) (base := base) T ⟨⟨_, _, PySem.W.mg_of X G a2, F2, b2⟩⟩ D1
  have D3 := d__law_all_edges (w := w) (base := base) T ⟨⟨_, _, PySem.W.mg_of X G a3, F3, b3⟩⟩
  have D4 := d__law_calls (w := w) (base := base) T ⟨⟨_, _, PySem.W.mg_of X G a4, F4, b4⟩⟩ D1 D3 D2 D0
  have D5 := d_is_integer (w := w) (base := base) T ⟨⟨_, _, PySem.W.mg_of X G a5, F5, b5⟩⟩
  have D6 := d_is_integer_in (w := w) (base := base) T ⟨⟨_, _, PySem.W.mg_of X G a6, F6, b6⟩⟩ D5
  have D7 := d_is_ascending (w := w) (base := base) T ⟨⟨_, _, PySem.W.mg_of X G a7, F7, b7⟩⟩
  have D8 := d_is_pair (w := w) (base := base) T ⟨⟨_, _, PySem.W.mg_of X G a8, F8, b8⟩⟩
  have D9 := d_is_upward_pair (w := w) (base := base) T ⟨⟨_, _, PySem.W.mg_of X G a9, F9, b9⟩⟩ D6 D8
  have D10 := d_are_upward_pairs (w := w) (base := base) T ⟨⟨_, _, PySem.W.mg_of X G a10, F10, b10⟩⟩ D7 D9
  have D11 := d_m_Callsdd_initdd (w := w) (base := base) T ⟨⟨_, _, a11, i11, F11, b11⟩⟩ D10 D6
  have D12 := d__law_made (w := w) (base := base) T ⟨⟨_, _, PySem.W.mg_of X G a12, F12, b12⟩⟩ D11
  have D13 := d__law_run_values (w := w) (base := base) T ⟨⟨_, _, PySem.W.mg_of X G a13, F13, b13⟩⟩
  have D14 := d__law_runs_in (w := w) (base := base) T ⟨⟨_, _, PySem.W.mg_of X G a14, F14, b14⟩⟩ 20
  have D15 := d__law_drawn_run (w := w) (base := base) T ⟨⟨_, _, PySem.W.mg_of X G a15, F15, b15⟩⟩ D1 D14 D2 20
  have D16 := d__law_trace (w := w) (base := base) T ⟨⟨_, _, PySem.W.mg_of X G a16, F16, b16⟩⟩ 20
  have D17 := d__law_whole (w := w) (base := base) T ⟨⟨_, _, PySem.W.mg_of X G a17, F17, b17⟩⟩
  have D18 := d__law_is_run (w := w) (base := base) T ⟨⟨_, _, PySem.W.mg_of X G a18, F18, b18⟩⟩ D17
  have D19 := d__law_read (w := w) (base := base) T ⟨⟨_, _, PySem.W.mg_of X G a19, F19, b19⟩⟩ D18 D17
  have D20 := d__looks_like_run (w := w) (base := base) T ⟨⟨_, _, PySem.W.mg_of X G a20, F20, b20⟩⟩ D5 D8
  have D21 := d__is_ticks (w := w) (base := base) T ⟨⟨_, _, PySem.W.mg_of X G a21, F21, b21⟩⟩ D6
  have D22 := d__add_events (w := w) (base := base) T ⟨⟨_, _, PySem.W.mg_of X G a22, F22, b22⟩⟩ D21 D20 20
  have D23 := d__are_few (w := w) (base := base) T ⟨⟨_, _, PySem.W.mg_of X G a23, F23, b23⟩⟩ D5
  have D24 := d_events_of (w := w) (base := base) T ⟨⟨_, _, PySem.W.mg_of X G a24, F24, b24⟩⟩ D23 D22 D20
  have D25 := d_trace_of (w := w) (base := base) T ⟨⟨_, _, PySem.W.mg_of X G a25, F25, b25⟩⟩ D24
  have D26 := d__joined (w := w) (base := base) T ⟨⟨_, _, PySem.W.mg_of X G a26, F26, b26⟩⟩ D5
  have D27 := d_is_function (w := w) (base := base) T ⟨⟨_, _, PySem.W.mg_of X G a27, F27, b27⟩⟩ D6
  have D28 := d__is_event (w := w) (base := base) T ⟨⟨_, _, PySem.W.mg_of X G a28, F28, b28⟩⟩ D27 D8 D21
  have D29 := d__are_events (w := w) (base := base) T ⟨⟨_, _, PySem.W.mg_of X G a29, F29, b29⟩⟩ D23 D28
  have D30 := d_run_of (w := w) (base := base) T ⟨⟨_, _, PySem.W.mg_of X G a30, F30, b30⟩⟩ D26 D29
  have D31 := d__law_told (w := w) (base := base) T ⟨⟨_, _, PySem.W.mg_of X G a31, F31, b31⟩⟩ D25 D30
  have D32 := d__law_spoilt (w := w) (base := base) T ⟨⟨_, _, PySem.W.mg_of X G a32, F32, b32⟩⟩ D2 D17 D1 20
  have D33 := d__law_is_shaped (w := w) (base := base) T ⟨⟨_, _, PySem.W.mg_of X G a33, F33, b33⟩⟩ 20
  exact fn_law T F34 D13 D31 D33 D16 D18 D19 D32 D1 D15 D2 D12 D0 D4
theorem only_rep {mg : Str → Option Value} {K : PySem.W.Frag} {H : Hp} : Rep ⟨mg, K⟩ ⟨K, fun _ => none, H, []⟩ H [] :=
  ⟨rfl, fun _ _ e => (by cases e), Same.refl _, fun _ _ e => (by cases e), rfl, List.nodup_nil, fun _ _ _ e => (by simp at e)⟩
/-- a law over a script: how it is asked -/
def spS (K : PySem.W.Frag) : Sp := fun vs H Q E => ∃ (a : Addr) (ns : List Int), vs = [.ref a] ∧ SqL K H a (ns.map V.int) ∧ ns.length ≤ 63 ∧ (∀ z ∈ ns, Builtin.Int.intBits z ≤ 1048576) ∧ ∀ H', Q (.bl true) H'
theorem spS_imp {mg : Str → Option Value} {K : PySem.W.Frag} {F : List D → M D} (hF : ∀ ns : List Int, ns.length ≤ 63 → (∀ z ∈ ns, Builtin.Int.intBits z ≤ 1048576) → ∃ S, F [.s ns] [] = .ok (.p (.bool true)) S) (vs : List V) (H : Hp) (Q : VK) (E : XK) (h : spS K vs H Q E) : spD ⟨mg, K⟩ F vs H Q E := by
  obtain ⟨a, ns, rfl, hs, hl, hb, q⟩ := h
  obtain ⟨S, e⟩ := hF ns hl hb
  refine ⟨_, [.s ns], [], only_rep, .cons ⟨a, rfl, hs⟩ .nil, ?_⟩
  rw [e]
  intro w' H' g R v hv
  cases hv
  exact q H'
theorem walk {l : PySem.W.OpenLaw} {q : Program} {loose : List Str} {XP : (Str → Option Value) → Heap → Prop} {YP : World → Heap → Prop} {d : DefRec} {K : Params → PySem.W.Frag} (hn : l.most = some 63) (hdf : d.params.defaults = [])
    (hY : ∀ (w : World) (h : Heap), YP w h → (K w.params).In h)
    (F : ∀ (w : World) (mg : Str → Option Value) (fa : Addr) (h : Heap), (K w.params).In h → h.Ns mainGlobals mg → mg d.name = some (.ref fa) →
      ∃ fd : FuncData, (∀ (s : Shared) (u : Value), BindsTo s fd ⟨[u], []⟩ [("script", u)]) ∧ ∀ base : Heap, (K w.params).In base → base.Ns mainGlobals mg → FnOk l.prog w (K w.params) mg base (L2.CX l.prog w) 43 fa fd ["script"] (spD ⟨mg, K w.params⟩ F_law)) :
    PySem.W.WalkO q loose XP YP l.row.toRowW d [] (fun f vs => PySem.call f vs) :=
  L2.walk_ofB (n := 63) (k := 43) (x := "script") (CX := fun w => L2.CX l.prog w) (sp := fun w => spS (K w.params)) hn (by decide) hdf ⟨by decide, by decide, by decide⟩ hY (fun w mg fa h KX G hm => let ⟨fd, b, f⟩ := F w mg fa h KX G hm; ⟨fd, b, fun base X Y => (f base X Y).imp (spS_imp law_trueB)⟩)
    (fun w H a ns hl hb _ hS => ⟨a, ns, rfl, hS, hl, hb, fun _ => rfl⟩) fun _ _ _ _ _ ⟨_, _, _, _, _, _, _, _, _, _, _, _, z⟩ => z

end LK
open PySem PySem.W PyProof.Rows in
set_option maxRecDepth 100000 in
set_option maxHeartbeats 0 in
theorem PySem.Challenge.cw_sureticks_k10_whole_traces_holds : PySem.Challenge.rw_sureticks_k10_whole_traces.Holds := by
  w_on; o_law; k_head; (case hw => w_witness2)
  k_fill
  refine LK.walk (l := PySem.Challenge.rw_sureticks_k10_whole_traces) rfl rfl (fun w h Y => PySem.W.kIn_of Y) ?F
  case F =>
    intro w mg fa h KX G hmg
    refine' LK.all_mk (l := PySem.Challenge.rw_sureticks_k10_whole_traces) KX G hmg ?a0 ?l0 ?c0 ?k0 ?a1 ?l1 ?c1 ?k1 ?a2 ?l2 ?c2 ?k2 ?a3 ?l3 ?c3 ?k3 ?a4 ?l4 ?c4 ?k4 ?a5 ?l5 ?c5 ?k5 ?a6 ?l6 ?c6 ?k6 ?a7 ?l7 ?c7 ?k7 ?a8 ?l8 ?c8 ?k8 ?a9 ?l9 ?c9 ?k9 ?a10 ?l10 ?c10 ?k10 ?a11 ?i11 ?l11 ?c11 ?k11 ?a12 ?l12 ?c12 ?k12 ?a13 ?l13 ?c13 ?k13 ?a14 ?l14 ?c14 ?k14 ?a15 ?l15 ?c15 ?k15 ?a16 ?l16 ?c16 ?k16 ?a17 ?l17 ?c17 ?k17 ?a18 ?l18 ?c18 ?k18 ?a19 ?l19 ?c19 ?k19 ?a20 ?l20 ?c20 ?k20 ?a21 ?l21 ?c21 ?k21 ?a22 ?l22 ?c22 ?k22 ?a23 ?l23 ?c23 ?k23 ?a24 ?l24 ?c24 ?k24 ?a25 ?l25 ?c25 ?k25 ?a26 ?l26 ?c26 ?k26 ?a27 ?l27 ?c27 ?k27 ?a28 ?l28 ?c28 ?k28 ?a29 ?l29 ?c29 ?k29 ?a30 ?l30 ?c30 ?k30 ?a31 ?l31 ?c31 ?k31 ?a32 ?l32 ?c32 ?k32 ?a33 ?l33 ?c33 ?k33 ?a34 ?l34 ?c34 ?k34 ?b_abs ?b_all ?b_bool ?b_int ?b_isinstance ?b_len ?b_list ?b_range ?b_str ?b_sum ?b_tuple ?b_zip ?g_MOST_EVENTS ?g_MOST_FUNCTIONS ?g_MOST_PARTS ?g_MOST_RUNS ?g_MOST_TICKS ?a_Calls ?pg_Calls ?hd_Calls ?po_Calls ?sa_Calls ?mk_Calls ?kp_Calls ?ca_Calls ?hn_Calls ?tk_Calls ?mr_Calls ?ic_Calls ?tc_Calls ?kit_non_Calls ?kit_bl_Calls ?kit_int_Calls ?kit_str_Calls ?kit_lst_Calls ?kit_tup_Calls ?n_Calls_edges ?n_Calls_functions ?a_InvalidEdges ?a_InvalidNumber ?a_InvalidRun ?a_InvalidTrace ?a_TickError ?nsup ?x_InvalidEdges ?rv_InvalidEdges ?esa_InvalidEdges ?ega_InvalidEdges ?egg_InvalidEdges ?eno_InvalidEdges ?ei_InvalidEdges ?et_InvalidEdges ?ekC_InvalidEdges ?ehd_InvalidEdges ?esup_InvalidEdges ?esv_InvalidEdges ?emr_InvalidEdges ?el_InvalidEdges ?eco_InvalidEdges ?ecd_InvalidEdges ?ev2_InvalidEdges ?efi_InvalidEdges ?ecc_InvalidEdges ?x_InvalidNumber ?rv_InvalidNumber ?esa_InvalidNumber ?ega_InvalidNumber ?egg_InvalidNumber ?eno_InvalidNumber ?ei_InvalidNumber ?et_InvalidNumber ?ekC_InvalidNumber ?ehd_InvalidNumber ?esup_InvalidNumber ?esv_InvalidNumber ?emr_InvalidNumber ?el_InvalidNumber ?eco_InvalidNumber ?ecd_InvalidNumber ?ev2_InvalidNumber ?efi_InvalidNumber ?ecc_InvalidNumber ?x_InvalidRun ?rv_InvalidRun ?esa_InvalidRun ?ega_InvalidRun ?egg_InvalidRun ?eno_InvalidRun ?ei_InvalidRun ?et_InvalidRun ?ekC_InvalidRun ?ehd_InvalidRun ?esup_InvalidRun ?esv_InvalidRun ?emr_InvalidRun ?el_InvalidRun ?eco_InvalidRun ?ecd_InvalidRun ?ev2_InvalidRun ?efi_InvalidRun ?ecc_InvalidRun ?x_InvalidTrace ?rv_InvalidTrace ?esa_InvalidTrace ?ega_InvalidTrace ?egg_InvalidTrace ?eno_InvalidTrace ?ei_InvalidTrace ?et_InvalidTrace ?ekC_InvalidTrace ?ehd_InvalidTrace ?esup_InvalidTrace ?esv_InvalidTrace ?emr_InvalidTrace ?el_InvalidTrace ?eco_InvalidTrace ?ecd_InvalidTrace ?ev2_InvalidTrace ?efi_InvalidTrace ?ecc_InvalidTrace ?top_ ?opq ?eB_InvalidEdges ?eT_InvalidEdges ?eI_InvalidEdges ?s_InvalidEdges_InvalidEdges ?eB_InvalidNumber ?eT_InvalidNumber ?eI_InvalidNumber ?s_InvalidNumber_InvalidNumber ?eB_InvalidRun ?eT_InvalidRun ?eI_InvalidRun ?s_InvalidEdges_InvalidRun ?s_InvalidNumber_InvalidRun ?s_InvalidRun_InvalidRun ?s_InvalidTrace_InvalidRun ?s_TickError_InvalidRun ?eB_InvalidTrace ?eT_InvalidTrace ?eI_InvalidTrace ?s_InvalidEdges_InvalidTrace ?s_InvalidNumber_InvalidTrace ?s_InvalidRun_InvalidTrace ?s_InvalidTrace_InvalidTrace ?s_TickError_InvalidTrace
    (case a_Calls => k_is)
    (case a_InvalidEdges => k_is)
    (case a_InvalidNumber => k_is)
    (case a_InvalidRun => k_is)
    (case a_InvalidTrace => k_is)
    (case a_TickError => k_is)
    (case a0 => k_is)
    (case l0 => k_is)
    (case c0 => k_is)
    (case k0 => k_is)
    (case a1 => k_is)
    (case l1 => k_is)
    (case c1 => k_is)
    (case k1 => k_is)
    (case a2 => k_is)
    (case l2 => k_is)
    (case c2 => k_is)
    (case k2 => k_is)
    (case a3 => k_is)
    (case l3 => k_is)
    (case c3 => k_is)
    (case k3 => k_is)
    (case a4 => k_is)
    (case l4 => k_is)
    (case c4 => k_is)
    (case k4 => k_is)
    (case a5 => k_is)
    (case l5 => k_is)
    (case c5 => k_is)
    (case k5 => k_is)
    (case a6 => k_is)
    (case l6 => k_is)
    (case c6 => k_is)
    (case k6 => k_is)
    (case a7 => k_is)
    (case l7 => k_is)
    (case c7 => k_is)
    (case k7 => k_is)
    (case a8 => k_is)
    (case l8 => k_is)
    (case c8 => k_is)
    (case k8 => k_is)
    (case a9 => k_is)
    (case l9 => k_is)
    (case c9 => k_is)
    (case k9 => k_is)
    (case a10 => k_is)
    (case l10 => k_is)
    (case c10 => k_is)
    (case k10 => k_is)
    (case a11 => k_is)
    (case i11 => k_is)
    (case l11 => k_is)
    (case c11 => k_is)
    (case k11 => k_is)
    (case a12 => k_is)
    (case l12 => k_is)
    (case c12 => k_is)
    (case k12 => k_is)
    (case a13 => k_is)
    (case l13 => k_is)
    (case c13 => k_is)
    (case k13 => k_is)
    (case a14 => k_is)
    (case l14 => k_is)
    (case c14 => k_is)
    (case k14 => k_is)
    (case a15 => k_is)
    (case l15 => k_is)
    (case c15 => k_is)
    (case k15 => k_is)
    (case a16 => k_is)
    (case l16 => k_is)
    (case c16 => k_is)
    (case k16 => k_is)
    (case a17 => k_is)
    (case l17 => k_is)
    (case c17 => k_is)
    (case k17 => k_is)
    (case a18 => k_is)
    (case l18 => k_is)
    (case c18 => k_is)
    (case k18 => k_is)
    (case a19 => k_is)
    (case l19 => k_is)
    (case c19 => k_is)
    (case k19 => k_is)
    (case a20 => k_is)
    (case l20 => k_is)
    (case c20 => k_is)
    (case k20 => k_is)
    (case a21 => k_is)
    (case l21 => k_is)
    (case c21 => k_is)
    (case k21 => k_is)
    (case a22 => k_is)
    (case l22 => k_is)
    (case c22 => k_is)
    (case k22 => k_is)
    (case a23 => k_is)
    (case l23 => k_is)
    (case c23 => k_is)
    (case k23 => k_is)
    (case a24 => k_is)
    (case l24 => k_is)
    (case c24 => k_is)
    (case k24 => k_is)
    (case a25 => k_is)
    (case l25 => k_is)
    (case c25 => k_is)
    (case k25 => k_is)
    (case a26 => k_is)
    (case l26 => k_is)
    (case c26 => k_is)
    (case k26 => k_is)
    (case a27 => k_is)
    (case l27 => k_is)
    (case c27 => k_is)
    (case k27 => k_is)
    (case a28 => k_is)
    (case l28 => k_is)
    (case c28 => k_is)
    (case k28 => k_is)
    (case a29 => k_is)
    (case l29 => k_is)
    (case c29 => k_is)
    (case k29 => k_is)
    (case a30 => k_is)
    (case l30 => k_is)
    (case c30 => k_is)
    (case k30 => k_is)
    (case a31 => k_is)
    (case l31 => k_is)
    (case c31 => k_is)
    (case k31 => k_is)
    (case a32 => k_is)
    (case l32 => k_is)
    (case c32 => k_is)
    (case k32 => k_is)
    (case a33 => k_is)
    (case l33 => k_is)
    (case c33 => k_is)
    (case k33 => k_is)
    (case a34 => k_is)
    (case l34 => k_is)
    (case c34 => k_is)
    (case k34 => k_is)
    (case b_abs => k_is)
    (case b_all => k_is)
    (case b_bool => k_is)
    (case b_int => k_is)
    (case b_isinstance => k_is)
    (case b_len => k_is)
    (case b_list => k_is)
    (case b_range => k_is)
    (case b_str => k_is)
    (case b_sum => k_is)
    (case b_tuple => k_is)
    (case b_zip => k_is)
    (case g_MOST_EVENTS => k_is)
    (case g_MOST_FUNCTIONS => k_is)
    (case g_MOST_PARTS => k_is)
    (case g_MOST_RUNS => k_is)
    (case g_MOST_TICKS => k_is)
    (case pg_Calls => k_is)
    (case hd_Calls => k_is)
    (case po_Calls => k_is)
    (case sa_Calls => k_is)
    (case mk_Calls => k_is)
    (case kp_Calls => k_is)
    (case ca_Calls => k_is)
    (case hn_Calls => k_is)
    (case tk_Calls => k_is)
    (case mr_Calls => k_is)
    (case ic_Calls => k_is)
    (case tc_Calls => k_is)
    (case kit_non_Calls => first | k_is | rfl | kernel_rfl | decide +kernel)
    (case kit_bl_Calls => first | k_is | rfl | kernel_rfl | decide +kernel)
    (case kit_int_Calls => first | k_is | rfl | kernel_rfl | decide +kernel)
    (case kit_str_Calls => first | k_is | rfl | kernel_rfl | decide +kernel)
    (case kit_lst_Calls => first | k_is | rfl | kernel_rfl | decide +kernel)
    (case kit_tup_Calls => first | k_is | rfl | kernel_rfl | decide +kernel)
    (case n_Calls_edges => k_is)
    (case n_Calls_functions => k_is)
    (case nsup => k_is)
    (case x_InvalidEdges => k_is)
    (case rv_InvalidEdges => decide +kernel)
    (case esa_InvalidEdges => k_is)
    (case ega_InvalidEdges => k_is)
    (case egg_InvalidEdges => k_is)
    (case eno_InvalidEdges => k_is)
    (case ei_InvalidEdges => k_is)
    (case et_InvalidEdges => k_is)
    (case ekC_InvalidEdges => k_is)
    (case ehd_InvalidEdges => k_is)
    (case esup_InvalidEdges => ks_is)
    (case esv_InvalidEdges => k_is)
    (case emr_InvalidEdges => first | k_is | rfl)
    (case el_InvalidEdges => k_is)
    (case eco_InvalidEdges => k_is)
    (case ecd_InvalidEdges => k_is)
    (case ev2_InvalidEdges => rfl)
    (case efi_InvalidEdges => first | rfl | decide +kernel)
    (case ecc_InvalidEdges => k_is)
    (case x_InvalidNumber => k_is)
    (case rv_InvalidNumber => decide +kernel)
    (case esa_InvalidNumber => k_is)
    (case ega_InvalidNumber => k_is)
    (case egg_InvalidNumber => k_is)
    (case eno_InvalidNumber => k_is)
    (case ei_InvalidNumber => k_is)
    (case et_InvalidNumber => k_is)
    (case ekC_InvalidNumber => k_is)
    (case ehd_InvalidNumber => k_is)
    (case esup_InvalidNumber => ks_is)
    (case esv_InvalidNumber => k_is)
    (case emr_InvalidNumber => first | k_is | rfl)
    (case el_InvalidNumber => k_is)
    (case eco_InvalidNumber => k_is)
    (case ecd_InvalidNumber => k_is)
    (case ev2_InvalidNumber => rfl)
    (case efi_InvalidNumber => first | rfl | decide +kernel)
    (case ecc_InvalidNumber => k_is)
    (case x_InvalidRun => k_is)
    (case rv_InvalidRun => decide +kernel)
    (case esa_InvalidRun => k_is)
    (case ega_InvalidRun => k_is)
    (case egg_InvalidRun => k_is)
    (case eno_InvalidRun => k_is)
    (case ei_InvalidRun => k_is)
    (case et_InvalidRun => k_is)
    (case ekC_InvalidRun => k_is)
    (case ehd_InvalidRun => k_is)
    (case esup_InvalidRun => ks_is)
    (case esv_InvalidRun => k_is)
    (case emr_InvalidRun => first | k_is | rfl)
    (case el_InvalidRun => k_is)
    (case eco_InvalidRun => k_is)
    (case ecd_InvalidRun => k_is)
    (case ev2_InvalidRun => rfl)
    (case efi_InvalidRun => first | rfl | decide +kernel)
    (case ecc_InvalidRun => k_is)
    (case x_InvalidTrace => k_is)
    (case rv_InvalidTrace => decide +kernel)
    (case esa_InvalidTrace => k_is)
    (case ega_InvalidTrace => k_is)
    (case egg_InvalidTrace => k_is)
    (case eno_InvalidTrace => k_is)
    (case ei_InvalidTrace => k_is)
    (case et_InvalidTrace => k_is)
    (case ekC_InvalidTrace => k_is)
    (case ehd_InvalidTrace => k_is)
    (case esup_InvalidTrace => ks_is)
    (case esv_InvalidTrace => k_is)
    (case emr_InvalidTrace => first | k_is | rfl)
    (case el_InvalidTrace => k_is)
    (case eco_InvalidTrace => k_is)
    (case ecd_InvalidTrace => k_is)
    (case ev2_InvalidTrace => rfl)
    (case efi_InvalidTrace => first | rfl | decide +kernel)
    (case ecc_InvalidTrace => k_is)
    (case top_ => decide +kernel)
    (case opq => k_is)
    (case eB_InvalidEdges => k_is)
    (case eT_InvalidEdges => k_is)
    (case eI_InvalidEdges => k_is)
    (case s_InvalidEdges_InvalidEdges => first | rfl | k_is)
    (case eB_InvalidNumber => k_is)
    (case eT_InvalidNumber => k_is)
    (case eI_InvalidNumber => k_is)
    (case s_InvalidNumber_InvalidNumber => first | rfl | k_is)
    (case eB_InvalidRun => k_is)
    (case eT_InvalidRun => k_is)
    (case eI_InvalidRun => k_is)
    (case s_InvalidEdges_InvalidRun => first | rfl | k_is)
    (case s_InvalidNumber_InvalidRun => first | rfl | k_is)
    (case s_InvalidRun_InvalidRun => first | rfl | k_is)
    (case s_InvalidTrace_InvalidRun => first | rfl | k_is)
    (case s_TickError_InvalidRun => first | rfl | k_is)
    (case eB_InvalidTrace => k_is)
    (case eT_InvalidTrace => k_is)
    (case eI_InvalidTrace => k_is)
    (case s_InvalidEdges_InvalidTrace => first | rfl | k_is)
    (case s_InvalidNumber_InvalidTrace => first | rfl | k_is)
    (case s_InvalidRun_InvalidTrace => first | rfl | k_is)
    (case s_InvalidTrace_InvalidTrace => first | rfl | k_is)
    (case s_TickError_InvalidTrace => first | rfl | k_is)
